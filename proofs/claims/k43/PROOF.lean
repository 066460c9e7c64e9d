import PyProof.Rows.All
import Wide.All
import OpenK.AllK
import Wide.FinOn
import Lean
import PyProof.EqAt
import PyProof.EqKinds
import PyProof.TupleCall
import PyProof.NeKinds
import PyProof.DelItemList
import PyProof.StationsW
import PyProof.Rows.Own
import PyProof.RulesDel
import PyProof.RulesAs
import PyProof.ExcBaseAll.ValueError
import KE.KTryMore
import PyProof.ExcArgs
import KE.KIsAll
import PyProof.ListRange
import PyProof.Rows.RuleM_int
import PyProof.Draws
import PyProof.EnumMake
import KE.KDictSum
import KE.KItemsList
import KE.KSortTup
import PyProof.MinMaxWalk
import PyProof.WalkInts
import PyProof.CallTypeRange
import KE.KEqDict
import PyProof.FitsInt
import PyProof.Rows.StrNews
import KE.KIntText
import PyProof.StrWalks
import PyProof.Rows.StrRules
import KE.KUnpackStar
import PyProof.StrLawsTight
import PyProof.StrLawsChain
import PyProof.Rows.StrClose
import PyProof.SetRoads
import PyProof.DictCompW
import PyProof.ReprRoads
import PyProof.ReprLen
import PyProof.AttrMissHeap
import KE.KDictOf
import PyProof.DictWalks
import PyProof.SeqI3
import PySem.Challenge.RW_chipbus_k43_whole_every_address
set_option genSizeOf false
set_option bootstrap.genMatcherCode false
set_option tactic.hygienic false
section
open PySem PySem.W PySem.Spec PyProof.Rows
def Xaa:=@wpAny_bind
def Xab:=@Heap.get?_push_of_some
def Xac:=@wpAny_pure
def Xad:=@List.mem_singleton
def Xae:=@Nat.le_refl
def Xaf:=@List.getElem?_eq_some_iff
def Xag:=@Int.toNat_natCast
def Xah:=@decide_eq_true
def Xai:=@decide_eq_false
def Xaj:=@Heap.get?_push_size
def Xak:=@Nat.lt_of_lt_of_le
def Xal:=@List.length_map
def Xam:=@Nat.le_trans
def Xan:=@List.mem_cons
def Xao:=@Heap.lt_size
def Xap:=@Bool.false_ne_true
def Xaq:=@List.getElem?_map
def Xar:=@List.length_cons
def Xas:=@List.mem_of_getElem?
def Xat:=@List.size_toArray
def Xau:=@List.mem_cons_of_mem
def Xav:=@List.mem_cons_self
def Xaw:=@List.getElem?_eq_getElem
def Xax:=@wpAny_mono
def Xay:=@List.length_append
def Xaz:=@Nat.ne_of_lt
def XaA:=@Nat.testBit_and
def XaB:=@Nat.pow_le_pow_right
def XaC:=@List.mem_append_right
def XaD:=@of_decide_eq_true
def XaE:=@Nat.pow_succ
def XaF:=@List.mem_map
def XaG:=@Nat.mod_two_eq_zero_or_one
def XaH:=@List.take_of_length_le
def XaI:=@List.map_append
def XaJ:=@List.map_cons
def XaK:=@List.mem_append
def XaL:=@List.getElem?_eq_none
def XaM:=@List.length_take
def XaN:=@Heap.size_push
def XaO:=@Array.getElem?_eq_getElem
def XaP:=@Option.map_eq_some_iff
def XaQ:=@Nat.mod_eq_of_lt
def XaR:=@wpAny_newObj_type
def XaS:=@wpAny_field
def XaT:=@Heap.get?_update_self
def XaU:=@Nat.lt_irrefl
def XaV:=@List.length_drop
def XaW:=@wpAny_call_entry
def XaX:=@List.nodup_append
def XaY:=@Heap.get?_update_other
def XaZ:=@Nat.lt_of_le_of_lt
def Xa0:=@List.mem_filter
def Xa1:=@List.append_nil
def Xa2:=@wpAny_truthy_bool
def Xa3:=@wpAny_setField
def Xa4:=@Nat.mul_comm
def Xa5:=@Bool.and_eq_true
def Xa6:=@Nat.testBit_succ
def Xa7:=@wpAny_askSetting
def Xa8:=@List.replicate_succ
def Xa9:=@List.length_range
def Xba:=@wpAny_holding
def Xbb:=@List.findIdx?_eq_some_iff_getElem
def Xbc:=@decide_eq_decide
def Xbd:=@List.map_map
def Xbe:=@wpAny_setState_of
def Xbf:=@Nat.lt_succ_self
def Xbg:=@List.pairwise_cons
def Xbh:=@List.mem_nil_iff
def Xbi:=@Nat.mul_zero
def Xbj:=@wpAny_standAt
def Xbk:=@List.take_succ
def Xbl:=@wpAny_seqItems
def Xbm:=@Nat.mod_lt
def Xbn:=@List.getD_eq_getElem?_getD
def Xbo:=@List.mem_range
def Xbp:=@List.nodup_nil
def Xbq:=@Array.getElem?_toList
def Xbr:=@Int.emod_lt_of_pos
def Xbs:=@Bool.and_eq_true_iff
def Xbt:=@Nat.le_of_lt
def Xbu:=@List.mem_append_left
def Xbv:=@wpAny_passesOwn
def Xbw:=@wpAny_rule
def Xbx:=@List.mem_of_mem_drop
def Xby:=@Nat.and_two_pow_sub_one_eq_mod
def Xbz:=@Nat.testBit_two_pow
def XbA:=@List.all_eq_true
def XbB:=@Bool.and_false
def XbC:=@Nat.ne_of_gt
def XbD:=@List.length_replicate
def XbE:=@List.length_nil
def XbF:=@Nat.not_lt_zero
def XbG:=@List.mem_iff_getElem?
def XbH:=@List.length_filter_le
def XbI:=@Int.emod_nonneg
def XbJ:=@Array.getElem?_eq_some_iff
def XbK:=@List.pairwise_iff_getElem
def XbL:=@List.findIdx?_eq_none_iff
def XbM:=@Nat.add_mul_mod_self_left
def XbN:=@Nat.le_succ
def XbO:=@Nat.add_comm
def XbP:=@wpAny_comprehension_free
def XbQ:=@List.getElem_mem
def XbR:=@Nat.and_le_right
def XbS:=@Int.zero_add
def XbT:=@wpAny_pyIter_tuple
def XbU:=@Int.natCast_nonneg
def XbV:=@Bool.eq_iff_iff
def XbW:=@wpAny_Call_Name_kw
def XbX:=@List.nodup_cons
def XbY:=@List.length_set
def XbZ:=@wpAny_setField_rec
def Xb0:=@Nat.min_eq_left
def Xb1:=@Nat.testBit_xor
def Xb2:=@Nat.two_pow_pos
def Xb3:=@List.pairwise_lt_range
end
set_option Elab.async false
set_option linter.all false
set_option maxRecDepth 100000
set_option maxHeartbeats 4000000
local macro_rules | `(tactic| omega)=>`(tactic| lia)
section
set_option maxRecDepth 1000000
set_option maxHeartbeats 0
namespace Hd
open PySem PySem.W
noncomputable def runQ (p:Program)(w:World)(n₀:Nat)(ann:Option Value)(N:Nat):SharedT→Thread→Option SharedT:=
 @Nat.rec (fun _=>SharedT→Thread→Option SharedT) (fun _ _=>none) (fun _ ih s t=>match through t with
  | true=>some s
  | false=>match Fast.tw6613529449190102663 n₀ ann t with
   | false=>none
   | true=>match Fast.tw10156331382660048174 (Fast.tw11892475500146522536 Fast.tw14364793385576792824) p w s t with
    | some (s',t')=>ih s' t'
    | none=>none) N
theorem zlU {p:Program}{w:World}{n₀:Nat}{ann:Option Value}:∀ {N:Nat} {s s':SharedT} {t:Thread},runQ p w n₀ ann N s t=some s'→topRun treeTable p w n₀ ann N s.abs t=some s'.abs
 | 0,s,s',t,h=>by cases h
 | N+1,s,s',t,h=>by
  have h:(match through t with
  | true=>some s
  | false=>match Fast.tw6613529449190102663 n₀ ann t with
   | false=>none
   | true=>match Fast.tw10156331382660048174 (Fast.tw11892475500146522536 Fast.tw14364793385576792824) p w s t with
    | some (s',t')=>runQ p w n₀ ann N s' t'
    | none=>none)=some s':=h
  rw [← Fast.te6613529449190102663,← Fast.te10156331382660048174,← Fast.te11892475500146522536,← Fast.te14364793385576792824] at h
  unfold topRun
  cases ht:through t with
  | true=>rw [ht] at h;cases h;rfl
  | false =>
   rw [ht] at h
   cases hk:stepOk n₀ ann t with
   | false=>rw [hk] at h;cases h
   | true =>
    rw [hk] at h
    cases hs:stepT (denote treeTable) p w s t with
    | none=>rw [hs] at h;cases h
    | some r=>obtain ⟨s₂,t₂⟩:=r;rw [hs] at h;dsimp only;rw [stepT_spec hs];exact zlU h
noncomputable def treeL:List Obj→Nat→BT→BT:=@List.rec Obj (fun _=>Nat→BT→BT) (fun _ t=>t) (fun o _ ih n t=>ih (n+1) (t.ins n o))
noncomputable def zm6 (P:Params):BT:=treeL (boot_heap P).objs.toList 0 .nil
theorem zlH (P:Params):absHeap (zm6 P) 11 (boot_heap P).life=boot_heap P:=by kernel_rfl
theorem zkx (P:Params):((boot_heap P).isNs mainGlobals && (Array.mk []:Array GenState).size == 0,(boot_heap P).objs.size,(boot_heap P).nsMap mainGlobals "__annotations__")=(true,11,some (.ref 6)):=by kernel_rfl
noncomputable def zfU (P:Params)(os:OsState):SharedT:=⟨zm6 P,11,(boot_heap P).life,Array.mk [],boot_drawn,boot_toks,os⟩
noncomputable def getT (s:SharedT)(a:Addr):Option Obj:=match Nat.blt a s.n with
 | true=>match s.tree.get a with
  | some o=>alive o
  | none=>none
 | false=>none
theorem zmX {s:SharedT}{a:Addr}{o:Obj}(h:getT s a=some o):s.abs.heap.get? a=some o:=by
 unfold getT at h
 cases e:Nat.blt a s.n with
 | false=>rw [e] at h;cases h
 | true =>
  rw [e] at h
  cases g:s.tree.get a with
  | none=>rw [g] at h;cases h
  | some x=>rw [g] at h;exact (abs_get (Nat.le_of_ble_eq_true e) g).trans h
theorem zic {s:SharedT}:∀ {as:List Addr} {L:List (Nat×Obj)},as.map (getT s)=L.map (fun p=>some p.2)→as.map s.abs.heap.get? = L.map (fun p=>some p.2)
 | [],[],_=>rfl
 | [],_ :: _,h=>by cases h
 | _ :: _,[],h=>by cases h
 | a :: as,p :: L,h=>by
  obtain ⟨h1,h2⟩:=List.cons.inj h
  exact List.cons_eq_cons.mpr ⟨zmX h1,zic h2⟩
abbrev zin (p q:Program)(loose:List Str)(Xt:Shared→Bool)(N:Nat)(g0:Bool)(w:World)(os:OsState):Prop:=(runQ p w 11 (some (.ref 6)) N (zfU w.params os) (topStub p)).map (fun s =>
   ((staticsOk (importedModules p.main.body) (boot_heap w.params) s.abs.heap && namesBound p s.abs.heap && gensDone s.abs && laidKept (boot_heap w.params) s.abs.heap),openSeen q loose (importedModules p.main.body) Xt g0 s.abs))=some (true,openGood q loose)
def zmh (p q:Program)(loose:List Str)(Xt:Shared→Bool)(N:Nat)(g0:Bool):Prop:=∀ (w:World) (os:OsState),zin p q loose Xt N g0 w os
def SeenF (row:String)(b:Bool)(p q:Program)(loose:List Str)(Xt:Shared→Bool)(N:Nat)(g0:Bool):Prop:=∀ (w:World) (os:OsState),zin p q loose Xt N g0 (w.withFollow row b) os
theorem zhC {p q:Program}{loose:List Str}{Xt:Shared→Bool}{K:Params→Frag}{as:List Addr}{ex:∀ P,as=(K P).map (·.1)}{N:Nat}{g0:Bool}{w:World}(h:∀ os,zin p q loose Xt N g0 w os)(e:opening p=plainProg p.main.scope.names)(f:∀ s,fenceModules? p s=some s)(hN:Nat.ble 600 N=true)
  (hK:∀ os:OsState,(runQ p w 11 (some (.ref 6)) N (zfU w.params os) (topStub p)).map (fun s=>as.map (getT s))=some ((K w.params).map fun p=>some p.2)) :
  (openEnds treeTable p w N).map (fun s=>(openSeen q loose (importedModules p.main.body) Xt g0 s,(kHook K as ex).obs s))=some (openGood q loose,(kHook K as ex).val w):=by
 have ho:=boot_open e hN f w
 obtain ⟨⟨hh,gs,d,k,os⟩,e1,e2⟩:=XaP.mp ho
 obtain ⟨rfl,rfl,rfl,rfl⟩:hh=boot_heap w.params∧gs=Array.mk []∧d=boot_drawn∧k=boot_toks:=by simpa using e2
 obtain ⟨z1,z2,z3⟩:_∧_∧_:=by simpa only [Prod.mk.injEq] using zkx w.params
 obtain ⟨s,r,l⟩:=XaP.mp (h os)
 obtain ⟨s',r',l'⟩:=XaP.mp (hK os)
 rw [r] at r'
 cases r'
 have l3:=zic l'
 obtain ⟨l1,l2⟩:_∧_:=by simpa only [Prod.mk.injEq] using l
 have r:=zlU r
 have ea:(zfU w.params os).abs=⟨boot_heap w.params,Array.mk [],boot_drawn,boot_toks,os⟩:=by
  show (⟨absHeap (zm6 w.params) 11 (boot_heap w.params).life,Array.mk [],boot_drawn,boot_toks,os⟩:Shared)=_
  rw [zlH]
 rw [ea] at r
 have t:topFrom treeTable p w N ⟨boot_heap w.params,Array.mk [],boot_drawn,boot_toks,os⟩=some s.abs:=by
  unfold topFrom
  dsimp only
  rw [z1,z2,z3,r]
  show (match staticsOk (importedModules p.main.body) (boot_heap w.params) s.abs.heap && namesBound p s.abs.heap && gensDone s.abs && laidKept (boot_heap w.params) s.abs.heap with | true=>_ | false=>_)=_
  rw [l1]
 unfold openEnds
 rw [e1]
 show (topFrom treeTable p w N _).map _=_
 rw [t]
 exact congrArg some (Prod.ext l2 l3)
open PySem.Calls PyProof.Rows in
abbrev G1 (p q:Program)(N:Nat)(w:World)(os:OsState):Prop:=(runQ p w 11 (some (.ref 6)) N (zfU w.params os) (topStub p)).map (fun s =>
   ((staticsOk (importedModules p.main.body) (boot_heap w.params) s.abs.heap && namesBound p s.abs.heap && gensDone s.abs && laidKept (boot_heap w.params) s.abs.heap),seen ((recsOf q).map (·.name)) (ownsOf q) [] { s.abs with gens:=#[] }))=some (true,expectedOf q)
open PySem.Calls PyProof.Rows in
abbrev G2 (p q:Program)(loose:List Str)(Xt:Shared→Bool)(N:Nat)(g0:Bool)(w:World)(os:OsState):Prop:=(runQ p w 11 (some (.ref 6)) N (zfU w.params os) (topStub p)).map (fun s =>
   (s.abs.heap.bltView,s.abs.heap.keysOk (looseW q loose) ((recsOf q).map (·.name)) ((litsOf q).map (·.1)) ((clssOf q (looseW q loose)).map (·.name)) && s.abs.heap.accountedOkI (importedModules p.main.body) && s.abs.heap.isNs mainGlobals && s.abs.heap.isNs builtinsNs && tablesOk q s.abs.heap && Xt s.abs && (if g0 then s.abs.gens.size == 0 else !leftWithCleanup s.abs.gens),tabsOk q s.abs,pinSeenD q (drecsOf q) s.abs))=some (bltViewBooted,true,true,pinGoodD (drecsOf q))
open PySem.Calls PyProof.Rows in
abbrev G3 (p q:Program)(loose:List Str)(N:Nat)(w:World)(os:OsState):Prop:=(runQ p w 11 (some (.ref 6)) N (zfU w.params os) (topStub p)).map (fun s =>
   (plainSeenE q (looseW q loose) s.abs,plainSeenD q loose s.abs,wideSeen q s.abs,clsSeenW q loose s.abs))=some (plainGoodE q (looseW q loose),plainGoodD q loose,wideGood q,clsGoodW q loose)
theorem nine {α A B C D E F G H I J:Type}{o:Option α}{f:α→A}{g:α→B}{f1:α→C}{f2:α→D}{f3:α→E}{f4:α→F}{f5:α→G}{f6:α→H}{f7:α→I}{f8:α→J}{a:A}{b:B}{c:C}{d:D}{e:E}{i:F}{j:G}{k:H}{l:I}{m:J}(h:o.map (fun s=>(f s,g s))=some (a,b))(h':o.map (fun s=>(f1 s,f2 s,f3 s,f4 s))=some (c,d,e,i))(h'':o.map (fun s=>(f5 s,f6 s,f7 s,f8 s))=some (j,k,l,m)) :
  o.map (fun s=>(f s,g s,f1 s,f2 s,f3 s,f4 s,f5 s,f6 s,f7 s,f8 s))=some (a,b,c,d,e,i,j,k,l,m):=by
 cases o with
 | none=>cases h
 | some s=>cases h;cases h';cases h'';rfl
theorem zmA {p q:Program}{loose:List Str}{Xt:Shared→Bool}{N:Nat}{g0:Bool}{w:World}{os:OsState}(h:G1 p q N w os)(h':G2 p q loose Xt N g0 w os)(h'':G3 p q loose N w os):zin p q loose Xt N g0 w os:=nine h h' h''
theorem left_of {p q:Program}{loose:List Str}{Xt:Shared→Bool}{K:Params→Frag}{as:List Addr}{ex:∀ P,as=(K P).map (·.1)}{N:Nat}{g0:Bool}(h:zmh p q loose Xt N g0)(e:opening p=plainProg p.main.scope.names)(f:∀ s,fenceModules? p s=some s)(hN:Nat.ble 600 N=true)
  (hK:∀ (w:World) (os:OsState),(runQ p w 11 (some (.ref 6)) N (zfU w.params os) (topStub p)).map (fun s=>as.map (getT s))=some ((K w.params).map fun p=>some p.2)) :
  LeftO p q loose Xt (kHook K as ex).obs (kHook K as ex).val N g0:=fun w=>zhC (h w) e f hN (hK w)
theorem left_split {p q:Program}{loose:List Str}{Xt:Shared→Bool}{K:Params→Frag}{as:List Addr}{ex:∀ P,as=(K P).map (·.1)}{N:Nat}{g0:Bool}(row:String)(h:SeenF row false p q loose Xt N g0)(h':SeenF row true p q loose Xt N g0)(e:opening p=plainProg p.main.scope.names)(f:∀ s,fenceModules? p s=some s)(hN:Nat.ble 600 N=true)
  (hK:∀ (w:World) (os:OsState),(runQ p (w.withFollow row false) 11 (some (.ref 6)) N (zfU (w.withFollow row false).params os) (topStub p)).map (fun s=>as.map (getT s))=some ((K (w.withFollow row false).params).map fun p=>some p.2))
  (hK':∀ (w:World) (os:OsState),(runQ p (w.withFollow row true) 11 (some (.ref 6)) N (zfU (w.withFollow row true).params os) (topStub p)).map (fun s=>as.map (getT s))=some ((K (w.withFollow row true).params).map fun p=>some p.2)) :
  LeftO p q loose Xt (kHook K as ex).obs (kHook K as ex).val N g0:=fun w=>by
 have z:=World.withFollow_self w row
 cases hb:w.params.followText row <;> rw [hb] at z
 ·have:=zhC (ex:=ex) (h w) e f hN (hK w)
  rw [z] at this;exact this
 ·have:=zhC (ex:=ex) (h' w) e f hN (hK' w)
  rw [z] at this;exact this
end Hd
end
section
set_option maxRecDepth 1000000
set_option maxHeartbeats 0
namespace Hd
open PySem PySem.W
def vw:Program:=PySem.W.view PySem.Challenge.pw_chipbus_k43_whole_every_address [0,2,3,4,5,6,7,8,9,10,12,13,14,15,16,17,19,20,21,23,24,25,26,28,29,30,31,32,33,34,35,37,38,39,40,41,42,43,44,45,47,48,49,50,51,52,53,54,55,56,58,59,60,61,62,63,64,65,66,68,69,70,71,72,73,74,75,76,77,78,79,80,81,82,83,84,85,86,87]
def ls:List Str:=["Store","Latch","Meter","Pipe","Board"]
theorem g1:∀ (w:World) (os:OsState),G1 PySem.Challenge.rw_chipbus_k43_whole_every_address.row.prog vw 13516 w os:=by
 intro w os
 kernel_rfl
theorem g2:∀ (w:World) (os:OsState),G2 PySem.Challenge.rw_chipbus_k43_whole_every_address.row.prog vw ls (fun s=>xlAt vw [] s && recOk (RowW.records (OpenRow.toRowW (OpenLaw.row PySem.Challenge.rw_chipbus_k43_whole_every_address))) s) 13516 true w os:=by
 intro w os
 kernel_rfl
theorem g3:∀ (w:World) (os:OsState),G3 PySem.Challenge.rw_chipbus_k43_whole_every_address.row.prog vw ls 13516 w os:=by
 intro w os
 kernel_rfl
theorem h1:zmh PySem.Challenge.rw_chipbus_k43_whole_every_address.row.prog vw ls (fun s=>xlAt vw [] s && recOk (RowW.records (OpenRow.toRowW (OpenLaw.row PySem.Challenge.rw_chipbus_k43_whole_every_address))) s) 13516 true:=fun w os=>zmA (g1 w os) (g2 w os) (g3 w os)
end Hd
open PySem PySem.W in
local macro_rules | `(tactic| o_head $H)=>`(tactic| (
 refine holds_open (q:=Hd.vw) (loose:=Hd.ls) (Xt:=fun s=>xlAt Hd.vw [] s && recOk (RowW.records (OpenRow.toRowW (OpenLaw.row PySem.Challenge.rw_chipbus_k43_whole_every_address))) s) (XP:=XL Hd.vw []) (Yf:=Hook.obs $H) (Ya:=Hook.val $H) (YP:=Hook.says $H) (N:=13516) ?hl (Hook.of $H) (Hook.keeps $H) (fun s e=>xl_of s (Bool.and_eq_true_iff.mp e).1) XL.keeps (by rfl) (by rfl) (by rfl) (fun s e=>recFacts_of (Bool.and_eq_true_iff.mp e).2) (by rfl) (by first | assumption | decide +kernel) (by decide +kernel) ⟨rfl,rfl,rfl,rfl,rfl,by decide +kernel⟩ ?hw ?hc
 (case hl=>refine Hd.left_of Hd.h1 (by kernel_rfl) (fun s=>by kernel_rfl) rfl ?h2;(case h2=>(intro w os;kernel_rfl)))))
open_top Hd.top for PySem.Challenge.rw_chipbus_k43_whole_every_address
end
section
namespace L2
open PySem PySem.Spec PyProof.Rows
abbrev Key:=Sum Int Str
def zhD:Key→Value→Bool
 | .inl k,v=>Value.isInt k v
 | .inr x,v=>Value.isStrOf x v
def keyH (w:World):Key→Int
 | .inl k=>hashInt k
 | .inr x=>hashStr w x
theorem zaN:∀ {k:Key} {v:Value},zhD k v=true→(∃ i t,k=Sum.inl i∧v=Value.int i t)∨(∃ x t,k=Sum.inr x∧v=Value.str x t)
 | .inl i,v,h=>by
  obtain ⟨t,e⟩:=Value.isInt_shape (k:=i) (v:=v) h
  exact .inl ⟨i,t,rfl,e⟩
 | .inr x,v,h=>by
  obtain ⟨t,e⟩:=Value.isStrOf_shape (x:=x) (v:=v) h
  exact .inr ⟨x,t,rfl,e⟩
theorem zjZ (i:Int)(t:Tok):zhD (.inl i) (.int i t)=true:=by simp [zhD,Value.isInt]
theorem zjY (x:Str)(t:Tok):zhD (.inr x) (.str x t)=true:=by simp [zhD,Value.isStrOf]
theorem key_ll (a b:Int):decide ((Sum.inl a:Key)=Sum.inl b)=(a == b):=by
 by_cases e:a=b
 ·subst e;simp
 ·have h:¬ (Sum.inl a:Key)=Sum.inl b:=fun q=>e (Sum.inl.inj q)
  rw [Xai h]
  exact (beq_eq_false_iff_ne.mpr e).symm
theorem key_rr (a b:Str):decide ((Sum.inr a:Key)=Sum.inr b)=decide (a=b):=by
 by_cases e:a=b
 ·subst e;simp
 ·have h:¬ (Sum.inr a:Key)=Sum.inr b:=fun q=>e (Sum.inr.inj q)
  rw [Xai h,Xai e]
theorem key_lr (a:Int)(b:Str):decide ((Sum.inl a:Key)=Sum.inr b)=false:=Xai (fun q=>nomatch q)
theorem key_rl (a:Str)(b:Int):decide ((Sum.inr a:Key)=Sum.inl b)=false:=Xai (fun q=>nomatch q)
def zaI (prog:Program)(w:World):PySem.KeyKind prog w Key where
 is:=zhD
 hash:=keyH w
 inj:=fun v a b ha hb=>by
  rcases zaN ha with ⟨i,t,rfl,rfl⟩ | ⟨x,t,rfl,rfl⟩
  ·rcases zaN hb with ⟨j,u,rfl,e⟩ | ⟨y,u,rfl,e⟩
   ·injection e with e1 _;rw [e1]
   ·exact nomatch e
  ·rcases zaN hb with ⟨j,u,rfl,e⟩ | ⟨y,u,rfl,e⟩
   ·exact nomatch e
   ·injection e with e1 _;rw [e1]
 byValue:=fun k v h=>by
  rcases zaN h with ⟨i,t,rfl,rfl⟩ | ⟨x,t,rfl,rfl⟩ <;> rfl
 pyHash:=fun hv h=>by
  rcases zaN hv with ⟨i,t,rfl,rfl⟩ | ⟨x,t,rfl,rfl⟩
  ·exact wpAny_pyHash_int h
  ·exact wpAny_pyHash_str h
 eqBool:=fun hu hv h=>by
  rcases zaN hu with ⟨i,t,rfl,rfl⟩ | ⟨x,t,rfl,rfl⟩
  ·rcases zaN hv with ⟨j,u,rfl,rfl⟩ | ⟨y,u,rfl,rfl⟩
   ·rw [key_ll] at h;exact wpAny_eqBool_int h
   ·rw [key_lr] at h;exact SeqAt.EqAt.int_str i t y u _ _ _ _ h
  ·rcases zaN hv with ⟨j,u,rfl,rfl⟩ | ⟨y,u,rfl,rfl⟩
   ·rw [key_rl] at h;exact SeqAt.EqAt.str_int x t j u _ _ _ _ h
   ·rw [key_rr] at h;exact wpAny_eqBool_str h
 «strs»:=fun k x t v h=>by
  rcases zaN h with ⟨i,u,rfl,e⟩ | ⟨y,u,rfl,e⟩
  ·exact nomatch e
  ·injection e with e1 _
   subst e1
   cases v <;> rfl
theorem zhA (prog:Program)(w:World)(i:Int)(t:Tok):(zaI prog w).is (.inl i) (.int i t)=true:=zjZ i t
theorem zhz (prog:Program)(w:World)(x:Str)(t:Tok):(zaI prog w).is (.inr x) (.str x t)=true:=zjY x t
inductive V where
 | non | bl (b:Bool) | int (i:Int) | str (x:Str) | byt (b:Array UInt8) | flt (b:UInt64) | ref (a:Addr) | ty (n:String)
 deriving DecidableEq
def RelV:V→Value→Prop
 | .non,u=>u=Value.none
 | .bl b,u=>u=Value.bool b
 | .int i,u=>∃ t,u=Value.int i t
 | .str x,u=>∃ t,u=Value.str x t
 | .byt b,u=>∃ t,u=Value.bytes b t
 | .flt b,u=>∃ t,u=Value.float b t
 | .ref a,u=>u=Value.ref a
 | .ty n,u=>u=Value.type n
abbrev Vals:List V→List Value→Prop:=Paired RelV
theorem Vals.length {xs:List V}{us:List Value}(r:Vals xs us):xs.length=us.length:=Paired.length r
theorem Vals.get:∀ {xs:List V} {us:List Value} {i:Nat} {x:V},Vals xs us→xs[i]? = some x→∃ u,us[i]? = some u∧RelV x u
 | _,_,_,_,.nil,e=>by simp at e
 | _,_,0,_,.cons r _,e=>by simp at e;subst e;exact ⟨_,rfl,r⟩
 | _,_,i+1,x,.cons _ t,e=>by
  obtain ⟨u,h1,h2⟩:=Vals.get (i:=i) (x:=x) t (by simpa using e)
  exact ⟨u,by simpa using h1,h2⟩
theorem Vals.set {x:V}{u:Value}(r:RelV x u):∀ {xs:List V} {us:List Value} (i:Nat),Vals xs us→Vals (xs.set i x) (us.set i u)
 | _,_,_,.nil=>.nil
 | _,_,0,.cons _ t=>.cons r t
 | _,_,i+1,.cons q t=>.cons q (Vals.set r i t)
theorem Vals.append:∀ {xs ys:List V} {us ws:List Value},Vals xs us→Vals ys ws→Vals (xs ++ ys) (us ++ ws)
 | _,_,_,_,.nil,s=>s
 | _,_,_,_,.cons r t,s=>.cons r (Vals.append t s)
theorem Vals.take:∀ {xs:List V} {us:List Value} (n:Nat),Vals xs us→Vals (xs.take n) (us.take n)
 | _,_,0,_=>.nil
 | _,_,_+1,.nil=>.nil
 | _,_,n+1,.cons r t=>.cons r (Vals.take n t)
theorem Vals.drop:∀ {xs:List V} {us:List Value} (n:Nat),Vals xs us→Vals (xs.drop n) (us.drop n)
 | _,_,0,r=>r
 | _,_,_+1,.nil=>.nil
 | _,_,n+1,.cons _ t=>Vals.drop n t
def RelO:Option V→Option Value→Prop
 | some v,some u=>RelV v u
 | none,none=>True
 | _,_=>False
def KV {κ:Type}:List (κ×V)→List (κ×Value)→Prop:=Paired fun (p:κ×V) (q:κ×Value)=>p.1=q.1∧RelV p.2 q.2
def kV:Key→V
 | .inl i=>.int i
 | .inr x=>.str x
inductive HO where
 
 | lst (xs:List V)
 
 | tup (xs:List V)
 
 | dK (kvs:List (Key×V)) | dT (kvs:List (List Key×V))
 
 | set (S:Int→Bool) (n:Nat)
 
 | ins (C dx:Addr) (fs:List (Str×V))
 
 | own (x:Addr)
 
 | xd (fs:List (Str×V))
 
 | met (f x:Addr)
 
 | rng (lo hi:Int)
 
 | frz (o:Obj) (u:HO)
 
 | tbl (ps:Array Value)
 
 | ext (φ:Heap→Prop)
abbrev Hp:=Addr→Option HO
def upd (H:Hp)(a:Addr)(o:HO):Hp:=fun b=>if b=a then some o else H b
theorem zad {H:Hp}{a:Addr}{o:HO}:upd H a o a=some o:=by unfold upd;rw [if_pos rfl]
theorem zai {H:Hp}{a b:Addr}{o:HO}(h:b≠a):upd H a o b=H b:=by unfold upd;rw [if_neg h]
theorem zmo {H:Hp}{a:Addr}{o u:HO}:upd (upd H a o) a u=upd H a u:=by
 funext b;unfold upd;split <;> rfl
theorem ne_of {H:Hp}{a b:Addr}{o u:HO}(h:H a=some o)(h':H b=some u)(d:o≠u):a≠b:=by
 intro e;subst e;rw [h] at h';exact d (Option.some.inj h')
theorem zak {H:Hp}{a b:Addr}{o:HO}(h:H a=some o)(h':H b=none):a≠b:=by
 intro e;subst e;rw [h] at h';cases h'
section
variable (P:Program)(w:World)
def ObjOk (H:Hp)(h:Heap)(a:Addr):HO→Prop
 | .lst xs=>xs.length≤sizeLine∧∃ (its:List Value) (n:Nat),Vals xs its∧h.get? a=some { cls:=.type "list",data:=.seq its.toArray n }
 | .tup xs=>(xs.length≤sizeLine∧∃ o,h.get? a=some o∧o.dict=none)∧∃ its:List Value,Vals xs its∧IsTup h a its.toArray
 | .dK kvs=>kvs.length≤sizeLine∧(a == sysModules)=false∧∃ vs,KV kvs vs∧h.DictOf (zaI P w) a vs
 | .dT kvs=>kvs.length≤sizeLine∧(a == sysModules)=false∧∃ xs:List (List Key×Addr×Value),
   Paired (fun (p:List Key×V) (q:List Key×Addr×Value)=>p.1=q.1∧H q.2.1=some (.tup (p.1.map kV))∧RelV p.2 q.2.2) kvs xs ∧
   ∃ o es ep,h.get? a=some o∧o.ExactDict∧o.data = .dict es ep∧es.toList=xs.map (entryOfKey (tupleKind (zaI P w)))∧(xs.map (·.1)).Nodup
 | .set S n=>h.SetOf (intKind P w) a S n
 | .ins C dx fs=>H dx=some (.own a)∧fs.length≤1000∧dx≠a∧h.get? a=some (W.instObj C dx) ∧
   ∃ mA,h.Ns1 dx mA∧(∀ f,RelO (fs.lookup f) (mA f))∧PySem.Within mA (fs.map (·.1))
 | .own _=>∃ o,h.get? a=some o
 | .xd fs=>∃ mA,h.Ns1 a mA∧∀ f,RelO (fs.lookup f) (mA f)
 | .rng lo hi=>∃ t u v,h.get? a=some { cls:=.type "range",data:=.fields #[.int lo t,.int hi u,.int 1 v] }
 | .frz o u=>h.get? a=some o∧ObjOk H h a u
 | .tbl ps=>h.get? a=some { cls:=.none,data:=.fields ps }
 | .met f x=>h.get? a=some (W.methodObj (.ref f) (.ref x))
 | .ext φ=>φ h∧(∃ o,h.get? a=some o)∧∀ h1 h2:Heap,φ h1→(∀ o,h1.get? a=some o→h2.get? a=some o)→φ h2
def HOk (H:Hp)(h:Heap):Prop:=∀ a o,H a=some o→ObjOk P w H h a o
end
section
variable {P:Program}{w:World}{H H':Hp}{h h':Heap}{a:Addr}{o:HO}
theorem ObjOk.lt (x:ObjOk P w H h a o):a<h.objs.size:=by
 cases o with
 | lst xs=>obtain ⟨_,_,_,_,e⟩:=x;exact Xao e
 | tup xs=>obtain ⟨_,_,_,p⟩:=x;exact p.lt
 | dK kvs=>obtain ⟨_,_,_,_,o,_,_,e,_⟩:=x;exact Xao e
 | dT kvs=>obtain ⟨_,_,_,_,o,_,_,e,_⟩:=x;exact Xao e
 | set S n=>obtain ⟨o,_,_,_,e,_⟩:=x;exact Xao e
 | ins C dx fs=>obtain ⟨_,_,_,e,_⟩:=x;exact Xao e
 | own y=>obtain ⟨_,e⟩:=x;exact Xao e
 | xd fs=>obtain ⟨_,⟨_,_,_,e,_⟩,_⟩:=x;exact Xao e
 | rng lo hi=>obtain ⟨_,_,_,e⟩:=x;exact Xao e
 | frz ob u=>obtain ⟨e,_⟩:=x;exact Xao e
 | tbl ps=>exact Xao (show h.get? a=some _ from x)
 | met f y=>exact Xao (show h.get? a=some _ from x)
 | ext φ=>obtain ⟨_,⟨_,e⟩,_⟩:=x;exact Xao e
theorem Paired.mapP {α β:Type}{F G:α→β→Prop}:∀ {l₁:List α} {l₂:List β},Paired F l₁ l₂→(∀ a b,F a b→G a b)→Paired G l₁ l₂
 | _,_,.nil,_=>.nil
 | _,_,.cons r t,f=>.cons (f _ _ r) (Paired.mapP t f)
theorem ObjOk.stay (x:ObjOk P w H h a o)(k:∀ b u,(b=a∨H b=some (.own a))→h.get? b=some u→h'.get? b=some u)
  (ho:∀ b,H b=some (.own a)→H' b=some (.own a)) (ht:∀ b xs,H b=some (.tup xs)→H' b=some (.tup xs)):ObjOk P w H' h' a o:=by
 induction o with
 | lst xs=>obtain ⟨z,its,n,r,e⟩:=x;exact ⟨z,its,n,r,k _ _ (.inl rfl) e⟩
 | tup xs=>obtain ⟨⟨z,o,eo,dn⟩,its,r,ob,e,c⟩:=x;exact ⟨⟨z,o,k _ _ (.inl rfl) eo,dn⟩,its,r,ob,k _ _ (.inl rfl) e,c⟩
 | dK kvs=>obtain ⟨z,y,vs,r,ob,es,ep,e,c⟩:=x;exact ⟨z,y,vs,r,ob,es,ep,k _ _ (.inl rfl) e,c⟩
 | dT kvs =>
  obtain ⟨z,y,xs,r,ob,es,ep,e,c⟩:=x
  exact ⟨z,y,xs,Paired.mapP r fun p q z=>⟨z.1,ht _ _ z.2.1,z.2.2⟩,ob,es,ep,k _ _ (.inl rfl) e,c⟩
 | set S n=>obtain ⟨ob,es,ep,t,e,c⟩:=x;exact ⟨ob,es,ep,t,k _ _ (.inl rfl) e,c⟩
 | ins C dx fs =>
  obtain ⟨d,z,ne,e,mA,⟨od,es,ep,e2,c⟩,r⟩:=x
  exact ⟨ho _ d,z,ne,k _ _ (.inl rfl) e,mA,⟨od,es,ep,k _ _ (.inr d) e2,c⟩,r⟩
 | own y=>obtain ⟨ob,e⟩:=x;exact ⟨ob,k _ _ (.inl rfl) e⟩
 | xd fs=>obtain ⟨mA,⟨od,es,ep,e,c⟩,r⟩:=x;exact ⟨mA,⟨od,es,ep,k _ _ (.inl rfl) e,c⟩,r⟩
 | rng lo hi=>obtain ⟨t,u,v,e⟩:=x;exact ⟨t,u,v,k _ _ (.inl rfl) e⟩
 | frz ob u ih=>obtain ⟨e,q⟩:=x;exact ⟨k _ _ (.inl rfl) e,ih q⟩
 | tbl ps =>
  have e:h.get? a=some { cls:=.none,data:=.fields ps }:=x
  show h'.get? a=some { cls:=.none,data:=.fields ps }
  exact k a _ (.inl rfl) e
 | met f y =>
  have e:h.get? a=some (W.methodObj (.ref f) (.ref y)):=x
  show h'.get? a=some (W.methodObj (.ref f) (.ref y))
  exact k a _ (.inl rfl) e
 | ext φ=>obtain ⟨p,⟨o,e⟩,st⟩:=x;exact ⟨st _ _ p fun o q=>k _ _ (.inl rfl) q,⟨o,k _ _ (.inl rfl) e⟩,st⟩
theorem HOk.lt (x:HOk P w H h)(e:H a=some o):a<h.objs.size:=(x a o e).lt
theorem HOk.fresh (x:HOk P w H h)(e:h.objs.size≤a):H a=none:=by
 cases q:H a with
 | none=>rfl
 | some u=>exact absurd (Xak (x.lt q) e) (XaU _)
theorem HOk.kept (x:HOk P w H h)(k:∀ b u,h.get? b=some u→h'.get? b=some u):HOk P w H h':=fun a o e =>
 (x a o e).stay (fun b u _ q=>k b u q) (fun _ q=>q) fun _ _ q=>q
theorem HOk.laid (x:HOk P w H h)(k:∀ b u,h.get? b=some u→h'.get? b=some u)(hp:h.objs.size≤a)(new:ObjOk P w (upd H a o) h' a o):HOk P w (upd H a o) h':=fun b u e=>by
 have hn:=x.fresh hp
 by_cases hb:b=a
 ·subst hb;rw [zad] at e;cases e;exact new
 ·rw [zai hb] at e
  exact (x b u e).stay (fun c v _ q=>k c v q) (fun c q=>by rw [zai (zak q hn)];exact q) fun c xs q=>by rw [zai (zak q hn)];exact q
end
def Rd (H:Hp)(a:Addr)(u:HO):Prop:=H a=some u∨∃ o,H a=some (.frz o u)
theorem Rd.ok {P:Program}{w:World}{H:Hp}{h:Heap}{a:Addr}{u:HO}(r:Rd H a u)(x:HOk P w H h):ObjOk P w H h a u:=by
 rcases r with r | ⟨o,r⟩
 ·exact x a u r
 ·obtain ⟨_,q⟩:=x a _ r
  exact q
def Mut:Option HO→Prop
 | some (.lst _)=>True
 | some (.dK _)=>True
 | some (.dT _)=>True
 | some (.set _ _)=>True
 | some (.ins _ _ _)=>True
 | some (.ext _)=>True
 | _=>False
section
variable {P:Program}{w:World}{H:Hp}{h h':Heap}{x e:Addr}{o':HO}
theorem HOk.write (ok:HOk P w H h)(mu:Mut (H x))(he:e=x∨H e=some (.own x))(k:∀ b u,b≠e→h.get? b=some u→h'.get? b=some u)(heo:∃ u,h'.get? e=some u)
  (new:ObjOk P w (upd H x o') h' x o'):HOk P w (upd H x o') h':=fun b u q=>by
 have nown:∀ c y,H c=some (.own y)→c≠x:=fun c y r z=>by subst z;rw [r] at mu;exact mu
 have ntup:∀ c xs,H c=some (.tup xs)→c≠x:=fun c xs r z=>by subst z;rw [r] at mu;exact mu
 by_cases hb:b=x
 ·subst hb;rw [zad] at q;cases q;exact new
 ·rw [zai hb] at q
  by_cases hbe:b=e
  ·have q':H b=some (.own x):=by
    rcases he with z | z
    ·exact absurd (hbe.trans z) hb
    ·rw [hbe];exact z
   rw [q] at q';cases q'
   obtain ⟨v,hv⟩:=heo
   exact ⟨v,by rw [hbe];exact hv⟩
  ·refine (ok b u q).stay (fun c v hc r=>k c v ?_ r) (fun c r=>by rw [zai (nown c b r)];exact r) fun c xs r=>by rw [zai (ntup c xs r)];exact r
   rcases hc with rfl | hc
   ·exact hbe
   ·rintro rfl
    rcases he with z | z
    ·exact nown c b hc z
    ·rw [hc] at z;cases z;exact hb rfl
end
structure Un (fs ex:List Addr)(H H':Hp)(h h':Heap):Prop where
 keep:∀ b o,h.get? b=some o→H b=none→b ∉ fs→b ∉ ex→h'.get? b=some o
 slot:∀ b o,h.get? b=some o→H b=none→b∈fs→b ∉ ex→∃ sl,h'.get? b=some { o with slots:=sl }
 free:∀ b o,h.get? b=some o→H b=none→b ∉ ex→H' b=none
 there:∀ b o,h.get? b=some o→b ∉ ex→∃ o',h'.get? b=some o'
 tups:∀ b xs,H b=some (.tup xs)→H' b=some (.tup xs)
 frzs:∀ b o u,H b=some (.frz o u)→H' b=some (.frz o u)
 tbls:∀ b ps,H b=some (.tbl ps)→∃ more,H' b=some (.tbl (ps ++ more))
section
variable {fs fs' ex ex':List Addr}{H H1 H2:Hp}{h h1 h2 h':Heap}{a x e:Addr}{o:HO}
theorem Un.any (u:Un fs ex H H1 h h1){b:Addr}{ob:Obj}(q:h.get? b=some ob)(n:H b=none)(hx:b ∉ ex):∃ sl,h1.get? b=some { ob with slots:=sl }:=by
 by_cases hb:b∈fs
 ·exact u.slot b ob q n hb hx
 ·exact ⟨ob.slots,u.keep b ob q n hb hx⟩
theorem Un.kept (k:∀ b u,h.get? b=some u→h'.get? b=some u):Un fs ex H H h h':=
 ⟨fun b ob q _ _ _=>k b ob q,fun b ob q _ _ _=>⟨ob.slots,k b ob q⟩,fun _ _ _ n _=>n,fun b ob q _=>⟨ob,k b ob q⟩,fun _ _ q=>q,fun _ _ _ q=>q,fun _ ps q=>⟨#[],by rw [q];simp⟩⟩
theorem Un.refl:Un fs ex H H h h:=Un.kept fun _ _ q=>q
theorem Un.laid (k:∀ b u,h.get? b=some u→h'.get? b=some u)(hp:h.objs.size≤a)(hn:H a=none):Un fs ex H (upd H a o) h h' where
 keep:=fun b u q _ _ _=>k b u q
 slot:=fun b u q _ _ _=>⟨u.slots,k b u q⟩
 free:=fun b u q n _=>by rw [zai (Xaz (Xak (Xao q) hp))];exact n
 there:=fun b u q _=>⟨u,k b u q⟩
 tups:=fun b xs q=>by rw [zai (zak q hn)];exact q
 frzs:=fun b u xs q=>by rw [zai (zak q hn)];exact q
 tbls:=fun b ps q=>⟨#[],by rw [zai (zak q hn),q];simp⟩
theorem Un.write (mu:Mut (H x))(he:e=x∨H e=some (.own x))(k:∀ b u,b≠e→h.get? b=some u→h'.get? b=some u)(heo:∃ u,h'.get? e=some u):Un fs ex H (upd H x o) h h':=by
 have hx:∀ b,H b=none→b≠x:=fun b n z=>by subst z;rw [n] at mu;exact mu
 have hb:∀ b,H b=none→b≠e:=fun b n z=>by
  subst z
  rcases he with r | r
  ·exact hx b n r
  ·rw [n] at r;cases r
 have hm:∀ b u,H b=some u→¬ Mut (some u)→b≠x:=fun b u q nm z=>by subst z;rw [q] at mu;exact nm mu
 refine ⟨fun b u q n _ _=>k b u (hb b n) q,fun b u q n _ _=>⟨u.slots,k b u (hb b n) q⟩,fun b u q n _=>by rw [zai (hx b n)];exact n,fun b u q _=>?_,
  fun b xs q=>by rw [zai (hm b _ q fun z=>z)];exact q,fun b u xs q=>by rw [zai (hm b _ q fun z=>z)];exact q,fun b ps q=>⟨#[],by rw [zai (hm b _ q fun z=>z),q];simp⟩⟩
 by_cases hbe:b=e
 ·subst hbe;exact heo
 ·exact ⟨u,k b u hbe q⟩
end
def trk (h:Heap)(H:Hp):List Addr:=(List.range h.objs.size).filter fun a=>(H a).isSome
def hidT (h:Heap)(H:Hp):Heap:=W.hideAll h (trk h H)
theorem zj5 (h:Heap)(H:Hp):(hidT h H).objs.size=h.objs.size:=W.hideAll_size _ _
theorem zlv {h:Heap}{H:Hp}{b:Addr}{o:Obj}(e:h.get? b=some o)(n:H b=none):(hidT h H).get? b=some o:=
 W.hideAll_get _ e fun hm=>by
  have q:(H b).isSome=true:=(Xa0.mp hm).2
  rw [n] at q;simp at q
theorem zmN {h:Heap}{H:Hp}{b:Addr}{o:Obj}(e:(hidT h H).get? b=some o):h.get? b=some o∧H b=none:=by
 have e':h.get? b=some o:=W.of_hideAll (trk h H) e
 refine ⟨e',?_⟩
 cases q:H b with
 | none=>rfl
 | some x =>
  have hm:b∈trk h H:=Xa0.mpr ⟨Xbo.mpr (Xao e'),by simp [q]⟩
  have z:(hidT h H).get? b=none:=W.hideAll_none (trk h H) hm
  rw [z] at e;cases e
structure Mod (K:W.Frag)(mg:Str→Option Value)(base:Heap):Prop where
 kin:K.In base
 glob:base.Ns mainGlobals mg
 blt:∃ mb,base.Ns builtinsNs mb∧∀ x:Str,x ≠ "__name__" → mb x=bootBuiltins x
 nolimit:base.NoLimit
structure Cx where
 prog:Program
 w:World
 K:W.Frag
 mg:Str→Option Value
 base:Heap
 A:Around
 N:List Str
 s₀:Shared
 H₀:Hp
 env:Env
 outer:List Env
 stack:List Env
 ex:List Addr
 fn:Str→Bool
 calm:Bool
 pn:List (Addr×Obj)
 xe:Value→Shared→Prop
def frs (l:List Env):List Addr:=l.filterMap (·.frame)
abbrev Cx.fs (X:Cx):List Addr:=frs X.outer
def Vis (sc:Scope)(x:Str):Prop:=sc.names.lookup x=some .local∨sc.names.lookup x=some .cell∨sc.names.lookup x=some .free
def Loc (sc:Scope)(x:Str):Prop:=sc.names.lookup x=some .local∨sc.names.lookup x=some .cell
def Look (env:Env)(h:Heap)(m:Str→Option Value)(x:Str)(u:Value):Prop:=
 (env.kindOf x=some .local∧m x=some u)∨((env.kindOf x=some .cell∨env.kindOf x=some .free)∧∃ c,env.cells.lookup x=some c∧h.IsCell c (some u))
structure Cx.Ok (X:Cx):Prop where
 mod:Mod X.K X.mg X.base
 kind:X.env.scope.kind = .function
 glob:X.env.globals=mainGlobals
 blt:X.env.builtins=builtinsNs
 above:X.s₀.heap.objs.size≤X.env.locals
 inj:∀ x y c,X.env.cells.lookup x=some c→X.env.cells.lookup y=some c→x=y
 has:∀ x,(X.env.kindOf x=some .cell∨X.env.kindOf x=some .free)→∃ c,X.env.cells.lookup x=some c
 cab:∀ x c,X.fn x=true→X.env.cells.lookup x=some c→X.s₀.heap.objs.size≤c
 hd:X.calm=true→X.A.handled=none
 frames:X.A.frames=some X.stack
 stk:X.stack=X.outer∨(X.stack=X.env :: X.outer∧X.env.frame=some X.env.locals)
 exf:∀ b∈X.ex,b≠X.env.locals∧∀ x c,X.env.cells.lookup x=some c→c≠b
 bs:∀ b o,X.base.get? b=some o→X.s₀.heap.get? b=some o∧X.H₀ b=none
 bsz:X.base.objs.size≤X.s₀.heap.objs.size
 noex:∀ b o,X.base.get? b=some o→b ∉ X.ex
 exfs:∀ b∈X.ex,b ∉ X.fs
 funs:X.s₀.heap.FunFrames X.base X.outer
 frf:∀ b∈X.fs,X.H₀ b=none
structure Inv (X:Cx)(pins:List (Addr×Obj))(σ:List (Option V))(H:Hp)(s:Shared):Prop where
 ok:X.Ok
 os:s.os=X.s₀.os
 bare:AllBare s.gens
 base:Un X.fs X.ex X.H₀ H X.s₀.heap s.heap
 loc:∃ m,s.heap.Ns X.env.locals m∧∀ (i:Nat) (x:Str) (v:V),X.N[i]? = some x→σ[i]? = some (some v)→Vis X.env.scope x→∃ u,RelV v u∧Look X.env s.heap m x u
 cell:∀ x c,X.env.cells.lookup x=some c→∃ v,s.heap.IsCell c v
 free:H X.env.locals=none
 freeC:∀ x c,X.env.cells.lookup x=some c→H c=none
 pin:∀ p∈X.pn ++ pins,s.heap.get? p.1=some p.2∧H p.1=none∧p.1≠X.env.locals∧p.1 ∉ X.fs∧∀ v,p.2.data≠.cell v
 hok:HOk X.prog X.w H s.heap
 len:σ.length=X.N.length
section
variable {X:Cx}{pins:List (Addr×Obj)}{σ:List (Option V)}{H H':Hp}{s:Shared}{h':Heap}
theorem Cx.Ok.nofr (ok:X.Ok){b:Addr}{o:Obj}(e:X.base.get? b=some o):b ∉ X.fs:=fun hb=>by
 have:=(ok.funs.mem hb).1
 rw [e] at this;cases this
theorem Inv.bs (I:Inv X pins σ H s):∀ b o,X.base.get? b=some o→s.heap.get? b=some o∧H b=none:=fun b o e =>
 ⟨I.base.keep b o (I.ok.bs b o e).1 (I.ok.bs b o e).2 (I.ok.nofr e) (I.ok.noex b o e),I.base.free b o (I.ok.bs b o e).1 (I.ok.bs b o e).2 (I.ok.noex b o e)⟩
theorem Inv.bk (I:Inv X pins σ H s):∀ b o,X.base.get? b=some o→s.heap.get? b=some o:=fun b o e=>(I.bs b o e).1
theorem Inv.mod (I:Inv X pins σ H s):Mod X.K X.mg X.base:=I.ok.mod
theorem Inv.kIn (I:Inv X pins σ H s):X.K.In s.heap:=I.ok.mod.kin.keeps I.bk
theorem Inv.lt (I:Inv X pins σ H s):X.env.locals<s.heap.objs.size:=let ⟨_,hn,_⟩:=I.loc;hn.lt
theorem Inv.sz (I:Inv X pins σ H s):X.s₀.heap.objs.size≤s.heap.objs.size:=Xam I.ok.above (Xbt I.lt)
theorem Inv.nofs (I:Inv X pins σ H s){a:Addr}(h:s.heap.objs.size≤a):a ∉ X.fs:=fun hb=>by
 obtain ⟨_,o,ho,_⟩:=I.ok.funs.mem hb
 exact absurd (Xak (Xao ho) (Xam I.sz h)) (XaU _)
theorem Inv.cne (I:Inv X pins σ H s):∀ x c,X.env.cells.lookup x=some c→c≠X.env.locals:=fun x c e z=>by
 obtain ⟨v,o,ho,hd⟩:=I.cell x c e
 obtain ⟨m,⟨o',es,ep,ho',hd',_⟩,_⟩:=I.loc
 rw [z,ho'] at ho;cases ho;rw [hd'] at hd;cases hd
theorem Inv.funs (I:Inv X pins σ H s):s.heap.FunFrames X.base X.outer:=by
 have all:∀ (l:List Env),(∀ b∈frs l,b∈X.fs)→X.s₀.heap.FunFrames X.base l→s.heap.FunFrames X.base l:=by
  intro l
  induction l with
  | nil=>intro _ _;trivial
  | cons env r ih =>
   intro hs hl
   obtain ⟨hk,⟨L,o,hf,hn,ho,hd⟩,hr⟩:=hl
   have hL:L∈X.fs:=hs L (by unfold frs;rw [List.filterMap_cons,hf];exact Xav)
   obtain ⟨sl,e⟩:=I.base.slot L o ho (I.ok.frf L hL) hL fun z=>I.ok.exfs L z hL
   exact ⟨hk,⟨L,_,hf,hn,e,hd⟩,ih (fun b hb=>hs b (by unfold frs;rw [List.filterMap_cons,hf];exact Xau _ hb)) hr⟩
 exact all X.outer (fun _ hb=>hb) I.ok.funs
theorem Inv.stack (I:Inv X pins σ H s):s.heap.FunFrames X.base X.stack:=by
 rcases I.ok.stk with e | ⟨e,hf⟩
 ·rw [e];exact I.funs
 ·rw [e]
  obtain ⟨m,hn,_⟩:=I.loc
  refine .cons (by rw [I.ok.kind];decide) hf hn ?_ I.funs
  exact Heap.get?_none_of_le (Xam I.ok.bsz I.ok.above)
theorem Inv.stkSub (I:Inv X pins σ H s):∀ b∈frs X.stack,b∈X.env.locals :: X.fs:=fun b hb=>by
 rcases I.ok.stk with e | ⟨e,hf⟩
 ·rw [e] at hb;exact Xau _ hb
 ·rw [e] at hb
  unfold frs at hb
  rw [List.filterMap_cons,hf] at hb
  exact hb
theorem Inv.stkFree (I:Inv X pins σ H s):∀ b∈frs X.stack,H b=none:=fun b hb=>by
 rcases Xan.mp (I.stkSub b hb) with e | hb
 ·rw [e];exact I.free
 ·obtain ⟨_,o,ho,_⟩:=I.ok.funs.mem hb
  exact I.base.free b o ho (I.ok.frf b hb) fun z=>I.ok.exfs b z hb
theorem Inv.step {g':Array GenState}{t':Nat}{d':Drawn}{ch:List Addr}(I:Inv X pins σ H s)
  (hch:∀ b∈ch,(b∈X.ex∨X.s₀.heap.objs.size≤b)∧b≠X.env.locals∧(∀ x c,X.env.cells.lookup x=some c→c≠b)∧∀ p∈X.pn ++ pins,p.1≠b)
  (keep:∀ b o,b≠X.env.locals→b ∉ X.fs→b ∉ ch→s.heap.get? b=some o→H b=none→h'.get? b=some o)
  (slot:∀ b o,b≠X.env.locals→b∈X.fs→b ∉ ch→s.heap.get? b=some o→H b=none→∃ sl,h'.get? b=some { o with slots:=sl }) (free:∀ b o,b ∉ ch→s.heap.get? b=some o→H b=none→H' b=none)
  (there:∀ b o,b ∉ ch→s.heap.get? b=some o→∃ o',h'.get? b=some o')
  (tups:∀ b xs,H b=some (.tup xs)→H' b=some (.tup xs)) (frzs:∀ b o u,H b=some (.frz o u)→H' b=some (.frz o u)) (tbls:∀ b ps,H b=some (.tbl ps)→∃ more,H' b=some (.tbl (ps ++ more)))
  (ns:∀ m,s.heap.Ns X.env.locals m→h'.Ns X.env.locals m) (hok:HOk X.prog X.w H' h') (hg:AllBare g') :
  Inv X pins σ H' { s with heap:=h',gens:=g',drawn:=d',toks:=t' }:=by
 have neL:∀ b o,X.s₀.heap.get? b=some o→b≠X.env.locals:=fun b o e=>Xaz (Xak (Xao e) I.ok.above)
 have neC:∀ b o,X.s₀.heap.get? b=some o→b ∉ X.ex→b ∉ ch:=fun b o e hx hb=>by
  rcases (hch b hb).1 with z | z
  ·exact hx z
  ·exact absurd (Xak (Xao e) z) (XaU _)
 have cellK:∀ x c,X.env.cells.lookup x=some c→∀ v,s.heap.IsCell c v→h'.IsCell c v:=fun x c e v ⟨o,ho,hd⟩=>by
  have nch:c ∉ ch:=fun z=>(hch c z).2.2.1 x c e rfl
  by_cases hc:c∈X.fs
  ·obtain ⟨sl,q⟩:=slot c o (I.cne x c e) hc nch ho (I.freeC x c e)
   exact ⟨_,q,hd⟩
  ·exact ⟨o,keep c o (I.cne x c e) hc nch ho (I.freeC x c e),hd⟩
 refine ⟨I.ok,I.os,hg,⟨fun b o e n hb hx=>?_,fun b o e n hb hx=>?_,fun b o e n hx=>?_,fun b o e hx=>?_,fun b xs e=>tups b xs (I.base.tups b xs e),fun b o xs e=>frzs b o xs (I.base.frzs b o xs e),fun b ps e=>?_⟩,?_,fun x c e=>?_,?_,fun x c e=>?_,fun p hp=>?_,hok,I.len⟩
 ·exact keep b o (neL b o e) hb (neC b o e hx) (I.base.keep b o e n hb hx) (I.base.free b o e n hx)
 ·obtain ⟨sl,e1⟩:=I.base.slot b o e n hb hx
  obtain ⟨sl',e2⟩:=slot b _ (neL b o e) hb (neC b o e hx) e1 (I.base.free b o e n hx)
  exact ⟨sl',e2⟩
 ·obtain ⟨o',e1⟩:=I.base.there b o e hx
  exact free b o' (neC b o e hx) e1 (I.base.free b o e n hx)
 ·obtain ⟨o',e1⟩:=I.base.there b o e hx
  exact there b o' (neC b o e hx) e1
 ·obtain ⟨m1,e1⟩:=I.base.tbls b ps e
  obtain ⟨m2,e2⟩:=tbls b _ e1
  exact ⟨m1 ++ m2,by rw [e2,Array.append_assoc]⟩
 ·obtain ⟨m,hn,hl⟩:=I.loc
  refine ⟨m,ns m hn,fun i x v e1 e2 e3=>?_⟩
  obtain ⟨u,r,l⟩:=hl i x v e1 e2 e3
  refine ⟨u,r,?_⟩
  rcases l with l | ⟨k,c,e,z⟩
  ·exact .inl l
  ·exact .inr ⟨k,c,e,cellK x c e _ z⟩
 ·obtain ⟨v,z⟩:=I.cell x c e
  exact ⟨v,cellK x c e v z⟩
 ·obtain ⟨m,⟨o,_,_,ho,_⟩,_⟩:=I.loc
  exact free _ o (fun z=>(hch _ z).2.1 rfl) ho I.free
 ·obtain ⟨v,o,ho,hd⟩:=I.cell x c e
  exact free c o (fun z=>(hch c z).2.2.1 x c e rfl) ho (I.freeC x c e)
 ·obtain ⟨e,n,ne,nf,d⟩:=I.pin p hp
  have nch:p.1 ∉ ch:=fun z=>(hch p.1 z).2.2.2 p hp rfl
  exact ⟨keep p.1 p.2 ne nf nch e n,free p.1 p.2 nch e n,ne,nf,d⟩
theorem Inv.un {t':Nat}(I:Inv X pins σ H s)(u:Un X.fs [] H H' s.heap h')(hok:HOk X.prog X.w H' h'):Inv X pins σ H' { s with heap:=h',toks:=t' }:=by
 obtain ⟨m,⟨o,es,ep,ho,r⟩,_⟩:=id I.loc
 obtain ⟨sl,hL⟩:=u.any ho I.free (by simp)
 exact I.step (g':=s.gens) (d':=s.drawn) (ch:=[]) (fun _ z=>nomatch z) (fun b o _ hb _ e n=>u.keep b o e n hb (by simp)) (fun b o _ hb _ e n=>u.slot b o e n hb (by simp)) (fun b o _ e n=>u.free b o e n (by simp)) (fun b o _ e=>u.there b o e (by simp)) u.tups u.frzs u.tbls (fun m' hm=>by
  obtain ⟨o',es',ep',ho',r'⟩:=hm
  rw [ho] at ho';cases ho'
  exact ⟨_,es',ep',hL,r'⟩) hok I.bare
theorem Inv.call {g':Array GenState}{t':Nat}{d':Drawn}{ch:List Addr}(I:Inv X pins σ H s)(u:Un (frs X.stack) ch H H' s.heap h')(hok:HOk X.prog X.w H' h')(hg:AllBare g')
  (hch:∀ b∈ch,(b∈X.ex∨X.s₀.heap.objs.size≤b)∧b≠X.env.locals∧(∀ x c,X.env.cells.lookup x=some c→c≠b)∧∀ p∈X.pn ++ pins,p.1≠b) :
  Inv X pins σ H' { s with heap:=h',gens:=g',drawn:=d',toks:=t' }:=by
 obtain ⟨m,⟨o,es,ep,ho,r⟩,_⟩:=id I.loc
 obtain ⟨sl,hL⟩:=u.any ho I.free fun z=>(hch _ z).2.1 rfl
 exact I.step (ch:=ch) hch (fun b o hL hb hc e n=>u.keep b o e n (fun z=>(Xan.mp (I.stkSub b z)).elim hL hb) hc) (fun b o _ _ hc e n=>u.any e n hc) (fun b o hc e n=>u.free b o e n hc) (fun b o hc e=>u.there b o e hc) u.tups u.frzs u.tbls (fun m' hm=>by
  obtain ⟨o',es',ep',ho',r'⟩:=hm
  rw [ho] at ho';cases ho'
  exact ⟨_,es',ep',hL,r'⟩) hok hg
theorem Inv.turned {t':Nat}{it:Addr}(I:Inv X pins σ H s)(k:∀ b o,b≠it→s.heap.get? b=some o→h'.get? b=some o)(hn:H it=none)(hL:it≠X.env.locals)
  (h1:it∈X.ex∨X.s₀.heap.objs.size≤it) (h2:∀ x c,X.env.cells.lookup x=some c→c≠it) (h3:∀ p∈X.pn ++ pins,p.1≠it):Inv X pins σ H { s with heap:=h',toks:=t' }:=by
 have nit:∀ b u,H b=some u→b≠it:=fun b u e z=>by rw [z,hn] at e;cases e
 refine I.step (g':=s.gens) (d':=s.drawn) (ch:=[it]) (fun b hb=>?_) (fun b o _ _ hc e _=>k b o (fun z=>hc (by simp [z])) e) (fun b o _ _ hc e _=>⟨o.slots,k b o (fun z=>hc (by simp [z])) e⟩) (fun _ _ _ _ n=>n)
  (fun b o hc e=>⟨o,k b o (fun z=>hc (by simp [z])) e⟩) (fun _ _ e=>e) (fun _ _ _ e=>e) (fun b ps e=>⟨#[],by rw [e];simp⟩) (fun m hm=>?_) (fun b u e=>?_) I.bare
 ·have e:b=it:=by simpa using hb
  subst e
  exact ⟨h1,hL,h2,h3⟩
 ·obtain ⟨o,es,ep,ho,r⟩:=hm
  exact ⟨o,es,ep,k _ o (Ne.symm hL) ho,r⟩
 ·refine (I.hok b u e).stay (fun c v hc q=>k c v ?_ q) (fun _ q=>q) fun _ _ q=>q
  rcases hc with z | z
  ·rw [z];exact nit b u e
  ·exact nit c _ z
theorem Inv.tok (I:Inv X pins σ H s)(t:Nat):Inv X pins σ H { s with toks:=t }:=I.un (h':=s.heap) (t':=t) Un.refl I.hok
theorem Inv.kept {t':Nat}(I:Inv X pins σ H s)(k:∀ b u,s.heap.get? b=some u→h'.get? b=some u):Inv X pins σ H { s with heap:=h',toks:=t' }:=I.un (Un.kept k) (I.hok.kept k)
theorem Inv.laid {a:Addr}{o:HO}{t':Nat}(I:Inv X pins σ H s)(k:∀ b u,s.heap.get? b=some u→h'.get? b=some u)(hp:s.heap.objs.size≤a)(new:ObjOk X.prog X.w (upd H a o) h' a o) :
  Inv X pins σ (upd H a o) { s with heap:=h',toks:=t' }:=I.un (Un.laid k hp (I.hok.fresh hp)) (I.hok.laid k hp new)
theorem Inv.write {x e:Addr}{o:HO}{t':Nat}(I:Inv X pins σ H s)(mu:Mut (H x))(he:e=x∨H e=some (.own x))(k:∀ b u,b≠e→s.heap.get? b=some u→h'.get? b=some u)(heo:∃ u,h'.get? e=some u)
  (new:ObjOk X.prog X.w (upd H x o) h' x o):Inv X pins σ (upd H x o) { s with heap:=h',toks:=t' }:=I.un (Un.write mu he k heo) (I.hok.write mu he k heo new)
theorem Inv.pins_of {pins':List (Addr×Obj)}(I:Inv X pins σ H s)(h:∀ p∈pins',s.heap.get? p.1=some p.2∧H p.1=none∧p.1≠X.env.locals∧p.1 ∉ X.fs∧∀ v,p.2.data≠.cell v):Inv X pins' σ H s:=
 ⟨I.ok,I.os,I.bare,I.base,I.loc,I.cell,I.free,I.freeC,fun p hp=>(XaK.mp hp).elim (fun z=>I.pin p (Xbu _ z)) (h p),I.hok,I.len⟩
theorem zh8 {N:List Str}(hN:N.Nodup){i j:Nat}{x:Str}(a:N[i]? = some x)(b:N[j]? = some x):i=j:=by
 obtain ⟨h1,e1⟩:=Xaf.mp a
 obtain ⟨h2,e2⟩:=Xaf.mp b
 exact (List.getElem_inj hN).mp (e1.trans e2.symm)
theorem zd9 {M:Model}{A:Around}{E:Value→Shared→Prop}{i:Nat}{x:Str}{v:V}{u:Value}{Q:Unit→Shared→Prop}(I:Inv X pins σ H s)(hN:X.N.Nodup)(hi:X.N[i]? = some x)(hx:Loc X.env.scope x)(r:RelV v u)
  (h:∀ s',Inv X pins (σ.set i (some v)) H s'→(∃ a,Heap.SameBut a s.heap s'.heap∧(a=X.env.locals∨X.env.cells.lookup x=some a))→Q () s') (hf:X.fn x=true∨X.env.scope.names.lookup x=some .local:=by first | exact .inl rfl | exact .inr rfl | assumption):wpAny M A (storeName X.env x u) Q E s:=by
 obtain ⟨m,hn,hl⟩:=id I.loc
 have hcls:(X.env.scope.kind == .class || (X.env.scope.kind == .module && X.env.locals != X.env.globals))=false:=by rw [I.ok.kind];rfl
 have hiσ:i<σ.length:=by rw [I.len];exact (Xaf.mp hi).1
 have cne:=I.cne
 have tracked:∀ {a:Addr} {h':Heap},(∃ o,s.heap.get? a=some o∧H a=none)→Heap.SameBut a s.heap h'→HOk X.prog X.w H h':=fun {a h'} ha hs b ob e=>by
  obtain ⟨_,_,hfree⟩:=ha
  refine (I.hok b ob e).stay (fun c w' hc q=>(hs.2 c ?_).trans q) (fun _ q=>q) fun _ _ q=>q
  rintro rfl
  rcases hc with rfl | hc
  ·rw [hfree] at e;cases e
  ·rw [hfree] at hc;cases hc
 rcases hx with hk | hk
 ·refine wpAny_storeName_local hk hn (fun h' hn' hs=>?_) hcls
  obtain ⟨oL,_,_,hoL,_⟩:=id hn
  refine h _ ⟨I.ok,I.os,I.bare,⟨fun b o e n hb hx=>?_,fun b o e n hb hx=>?_,I.base.free,fun b o e hx=>?_,I.base.tups,I.base.frzs,I.base.tbls⟩,⟨_,hn',fun j y v' e1 e2 e3=>?_⟩,fun y c e=>?_,I.free,I.freeC,fun p hp=>?_,tracked ⟨oL,hoL,I.free⟩ hs,by simpa using I.len⟩ ⟨_,hs,.inl rfl⟩
  ·exact (hs.2 b (Xaz (Xak (Xao e) I.ok.above))).trans (I.base.keep b o e n hb hx)
  ·obtain ⟨sl,e1⟩:=I.base.slot b o e n hb hx
   exact ⟨sl,(hs.2 b (Xaz (Xak (Xao e) I.ok.above))).trans e1⟩
  ·obtain ⟨o',e1⟩:=I.base.there b o e hx
   exact ⟨o',(hs.2 b (Xaz (Xak (Xao e) I.ok.above))).trans e1⟩
  ·by_cases hj:j=i
   ·subst hj
    rw [hi] at e1;cases e1
    rw [List.getElem?_set_self hiσ] at e2
    cases e2
    exact ⟨u,r,.inl ⟨hk,by simp⟩⟩
   ·rw [List.getElem?_set_ne (Ne.symm hj)] at e2
    obtain ⟨u',r',q⟩:=hl j y v' e1 e2 e3
    refine ⟨u',r',?_⟩
    rcases q with ⟨k,e⟩ | ⟨k,c,e,z⟩
    ·refine .inl ⟨k,?_⟩
     have:y≠x:=fun e=>hj (zh8 hN e1 (e ▸ hi))
     simp [this,e]
    ·exact .inr ⟨k,c,e,z.sameBut hs (cne y c e)⟩
  ·obtain ⟨w',z⟩:=I.cell y c e
   exact ⟨w',z.sameBut hs (cne y c e)⟩
  ·obtain ⟨e,n,ne,nf,d⟩:=I.pin p hp
   exact ⟨(hs.2 p.1 ne).trans e,n,ne,nf,d⟩
 ·have hfn:X.fn x=true:=by
   rcases hf with z | z
   ·exact z
   ·rw [z] at hk;cases hk
  obtain ⟨c,hc⟩:=I.ok.has x (.inl hk)
  obtain ⟨w',z⟩:=I.cell x c hc
  refine wpAny_storeName_cell I.ok.kind hk hc z (fun h' hc' hs=>?_)
  obtain ⟨oc,hoc,hocd⟩:=id z
  refine h { s with heap:=h' } ⟨I.ok,I.os,I.bare,⟨fun b o e n hb hx=>?_,fun b o e n hb hx=>?_,I.base.free,fun b o e hx=>?_,I.base.tups,I.base.frzs,I.base.tbls⟩,⟨m,hn.sameBut hs (Ne.symm (cne x c hc)),fun j y v' e1 e2 e3=>?_⟩,fun y c' e=>?_,I.free,I.freeC,fun p hp=>?_,tracked ⟨oc,hoc,I.freeC x c hc⟩ hs,by simpa using I.len⟩ ⟨c,hs,.inr hc⟩
  ·exact (hs.2 b (Xaz (Xak (Xao e) (I.ok.cab x c hfn hc)))).trans (I.base.keep b o e n hb hx)
  ·obtain ⟨sl,e1⟩:=I.base.slot b o e n hb hx
   exact ⟨sl,(hs.2 b (Xaz (Xak (Xao e) (I.ok.cab x c hfn hc)))).trans e1⟩
  ·obtain ⟨o',e1⟩:=I.base.there b o e hx
   exact ⟨o',(hs.2 b (Xaz (Xak (Xao e) (I.ok.cab x c hfn hc)))).trans e1⟩
  ·by_cases hj:j=i
   ·subst hj
    rw [hi] at e1;cases e1
    rw [List.getElem?_set_self hiσ] at e2
    cases e2
    exact ⟨u,r,.inr ⟨.inl hk,c,hc,hc'⟩⟩
   ·rw [List.getElem?_set_ne (Ne.symm hj)] at e2
    obtain ⟨u',r',q⟩:=hl j y v' e1 e2 e3
    refine ⟨u',r',?_⟩
    rcases q with q | ⟨k,c',e,z'⟩
    ·exact .inl q
    ·refine .inr ⟨k,c',e,z'.sameBut hs ?_⟩
     rintro rfl
     exact hj (zh8 hN e1 (I.ok.inj _ _ _ e hc ▸ hi))
  ·by_cases hcc:c'=c
   ·subst hcc;exact ⟨_,hc'⟩
   ·obtain ⟨w2,z2⟩:=I.cell y c' e
    exact ⟨w2,z2.sameBut hs hcc⟩
  ·obtain ⟨e,n,ne,nf,d⟩:=I.pin p hp
   refine ⟨(hs.2 p.1 ?_).trans e,n,ne,nf,d⟩
   intro q
   rw [q,hoc] at e
   have q':oc=p.2:=Option.some.inj e
   exact d w' (by rw [← q'];exact hocd)
theorem zfq {M:Model}{A:Around}{E:Value→Shared→Prop}{i:Nat}{x:Str}{v:V}{u:Value}{Q:Unit→Shared→Prop}(I:Inv X pins σ H s)(hN:X.N.Nodup)(hi:X.N[i]? = some x)(hx:Loc X.env.scope x)(r:RelV v u)
  (h:∀ s',Inv X pins (σ.set i (some v)) H s'→Q () s') (hf:X.fn x=true∨X.env.scope.names.lookup x=some .local:=by first | exact .inl rfl | exact .inr rfl | assumption):wpAny M A (storeName X.env x u) Q E s:=
 zd9 I hN hi hx r (fun s' I' _=>h s' I') hf
theorem Inv.call' {s':Shared}{ch:List Addr}(I:Inv X pins σ H s)(ho:s'.os=s.os)(u:Un (frs X.stack) ch H H' s.heap s'.heap)(hok:HOk X.prog X.w H' s'.heap)(hg:AllBare s'.gens)
  (hch:∀ b∈ch,(b∈X.ex∨X.s₀.heap.objs.size≤b)∧b≠X.env.locals∧(∀ x c,X.env.cells.lookup x=some c→c≠b)∧∀ p∈X.pn ++ pins,p.1≠b):Inv X pins σ H' s':=by
 obtain ⟨h',g',d',t',o'⟩:=s'
 have e:o'=s.os:=ho
 subst e
 exact I.call (g':=g') (t':=t') (d':=d') u hok hg hch
end
abbrev XK:=Value→Option Addr→Hp→Prop
abbrev St:=List (Option V)
abbrev VK:=V→Hp→Prop
abbrev TE:=St→Hp→VK→Prop
abbrev TT:=St→Hp→(Bool→Hp→Prop)→Prop
abbrev TA:=St→Hp→(List V→Hp→Prop)→Prop
structure Ends where
 nx:St→Hp→Prop
 rt:VK
 bk:St→Hp→Prop:=fun _ _=>False
 ct:St→Hp→Prop:=fun _ _=>False
abbrev TS:=Ends→St→Hp→Prop
inductive EP (X:Cx)(pins:List (Addr×Obj))(σ:St)(Q:VK)(u:Value)(s':Shared):Prop
 | mk (v:_) (H':_) (z0_:Inv X pins σ H' s') (z1_:RelV v u) (z2_:Q v H')
inductive TP (X:Cx)(pins:List (Addr×Obj))(σ:St)(Q:Bool→Hp→Prop)(b:Bool)(s':Shared):Prop
 | mk (H':_) (z0_:Inv X pins σ H' s') (z1_:Q b H')
inductive AP (X:Cx)(pins:List (Addr×Obj))(σ:St)(Q:List V→Hp→Prop)(us:List Value)(s':Shared):Prop
 | mk (vs:_) (H':_) (z0_:Inv X pins σ H' s') (z1_:Vals vs us) (z2_:Q vs H')
def SP (X:Cx)(pins:List (Addr×Obj))(D:Ends)(f:Flow)(s':Shared):Prop:=
 match f with
 | .next=>∃ σ' H',Inv X pins σ' H' s'∧D.nx σ' H'
 | .brk=>∃ σ' H',Inv X pins σ' H' s'∧D.bk σ' H'
 | .cont=>∃ σ' H',Inv X pins σ' H' s'∧D.ct σ' H'
 | .ret u=>∃ v σ' H',Inv X pins σ' H' s'∧RelV v u∧D.rt v H'
def PE (X:Cx)(e:Expr)(t:TE):Prop:=
 ∀ (pins:List (Addr×Obj)) (s:Shared) (σ:St) (H:Hp) (Q:VK),Inv X pins σ H s→t σ H Q→wpAny (model X.prog X.w) X.A (eval e X.env) (EP X pins σ Q) X.xe s
def PT (X:Cx)(e:Expr)(t:TT):Prop:=
 ∀ (pins:List (Addr×Obj)) (s:Shared) (σ:St) (H:Hp) (Q:Bool→Hp→Prop),Inv X pins σ H s→t σ H Q→wpAny (model X.prog X.w) X.A (isTrue e X.env (eval e X.env)) (TP X pins σ Q) X.xe s
def PW (X:Cx)(e:Expr)(t:TT):Prop:=
 ∀ (whole:Sem Value) (pins:List (Addr×Obj)) (s:Shared) (σ:St) (H:Hp) (Q:Bool→Hp→Prop),Inv X pins σ H s→t σ H Q→wpAny (model X.prog X.w) X.A (isTrue e X.env whole) (TP X pins σ Q) X.xe s
theorem PW.pt {X:Cx}{e:Expr}{t:TT}(h:PW X e t):PT X e t:=h _
def PA (X:Cx)(es:List Expr)(t:TA):Prop:=
 ∀ (pos:Pos) (pins:List (Addr×Obj)) (s:Shared) (σ:St) (H:Hp) (Q:List V→Hp→Prop),Inv X pins σ H s→t σ H Q→wpAny (model X.prog X.w) X.A (spliced (backTo pos (starEach es X.env))) (AP X pins σ Q) X.xe s
def PS (X:Cx)(st:Stmt)(t:TS):Prop:=
 ∀ (pins:List (Addr×Obj)) (s:Shared) (σ:St) (H:Hp) (D:Ends),Inv X pins σ H s→t D σ H→wpAny (model X.prog X.w) X.A (exec st X.env) (SP X pins D) X.xe s
def PSs (X:Cx)(st:List Stmt)(t:TS):Prop:=
 ∀ (pins:List (Addr×Obj)) (s:Shared) (σ:St) (H:Hp) (D:Ends),Inv X pins σ H s→t D σ H→wpAny (model X.prog X.w) X.A (execs st X.env) (SP X pins D) X.xe s
theorem thn {α:Type}{t:Sem α}{Q Q':α→Shared→Prop}{M:Model}{A:Around}{E:Value→Shared→Prop}{s:Shared}(h:wpAny M A t Q E s)(hQ:∀ a s,Q a s→Q' a s):wpAny M A t Q' E s:=Xax h hQ fun _ _ x=>x
section
variable {X:Cx}
inductive tVar (i:Nat)(σ:St)(H:Hp)(Q:VK):Prop
 | mk (v:_) (z0_:σ[i]? = some (some v)) (z1_:Q v H)
def tC (v:V):TE:=fun _ H Q=>Q v H
theorem pe_var {i:Nat}{x:Str}{pos:Pos}(hN:X.N[i]? = some x)(hv:Vis X.env.scope x)(hd:(x == ("__debug__" : Str))=false:=by decide)(hcd:(x == ("__classdict__" : Str))=false:=by decide):PE X (.Name x pos) (tVar i):=by
 intro pins s σ H Q I h
 obtain ⟨v,e,h⟩:=h
 obtain ⟨m,hn,hl⟩:=I.loc
 obtain ⟨u,r,l⟩:=hl i x v hN e hv
 have fin:EP X pins σ Q u s:=⟨v,H,I,r,h⟩
 rcases l with ⟨hk,hm⟩ | ⟨hk,c,hc,hcell⟩
 ·exact wpAny_Name (wpAny_loadName_local I.ok.kind hk hn hm fin) hd
 ·rcases hk with hk | hk
  ·exact wpAny_Name (wpAny_loadName_cell I.ok.kind hk hc hcell fin) hd
  ·exact wpAny_Name (wpAny_loadName_free I.ok.kind hk hc hcell fin hcd) hd
theorem zae {i j pos}:PE X (.Constant (.int i) j pos) (tC (.int i)):=fun _ _ _ H _ I h=>wpAny_Constant_int ⟨.int i,H,I.tok _,⟨_,rfl⟩,h⟩
theorem zb4 {b j pos}:PE X (.Constant (.bool b) j pos) (tC (.bl b)):=fun _ _ _ H _ I h=>Constant_bool ⟨.bl b,H,I,rfl,h⟩
theorem zcz {j pos}:PE X (.Constant .none j pos) (tC .non):=fun _ _ _ H _ I h=>Constant_none ⟨.non,H,I,rfl,h⟩
theorem za1 {x j pos}:PE X (.Constant (.str x) j pos) (tC (.str x)):=fun _ _ _ H _ I h=>Calls.Constant_str ⟨.str x,H,I.tok _,⟨_,rfl⟩,h⟩
def Gl (X:Cx)(x:Str):Prop:=X.env.kindOf x=some .globalImplicit
theorem zeP {E:Value→Shared→Prop}{pins:List (Addr×Obj)}{s:Shared}{σ:St}{H:Hp}{x:Str}{u:Value}{pos:Pos}{Q:Value→Shared→Prop}(I:Inv X pins σ H s)(hg:Gl X x)(hm:X.mg x=some u)(h:Q u s)
  (hd:(x == ("__debug__" : Str))=false:=by decide):wpAny (model X.prog X.w) X.A (eval (.Name x pos) X.env) Q E s:=
 Calls.Name_function_global I.ok.kind hg (Calls.loadGlobal_global (by rw [I.ok.glob];exact I.mod.glob.keeps I.bk) hm h) hd
theorem zc6 {E:Value→Shared→Prop}{pins:List (Addr×Obj)}{s:Shared}{σ:St}{H:Hp}{x:Str}{u:Value}{pos:Pos}{Q:Value→Shared→Prop}(I:Inv X pins σ H s)(hg:Gl X x)(hm:X.mg x=none)(hv:bootBuiltins x=some u)(h:Q u s)
  (hn:x ≠ "__name__" := by decide) (hd:(x == ("__debug__" : Str))=false:=by decide):wpAny (model X.prog X.w) X.A (eval (.Name x pos) X.env) Q E s:=by
 obtain ⟨mb,h1,h2⟩:=I.mod.blt
 exact Calls.Name_function_global I.ok.kind hg (Calls.loadGlobal_builtin (by rw [I.ok.glob];exact I.mod.glob.keeps I.bk) hm (by rw [I.ok.blt];exact h1.keeps I.bk) ((h2 x hn).trans hv) h) hd
theorem zhg {x:Str}{v:V}{u:Value}{pos:Pos}(hg:Gl X x)(hm:X.mg x=some u)(r:RelV v u)(hd:(x == ("__debug__" : Str))=false:=by decide):PE X (.Name x pos) (tC v):=
 fun _ _ _ H _ I h=>zeP I hg hm ⟨v,H,I,r,h⟩ hd
theorem zaV {x:Str}{v:V}{u:Value}{pos:Pos}(hg:Gl X x)(hm:X.mg x=none)(hv:bootBuiltins x=some u)(r:RelV v u)(hn:x ≠ "__name__" := by decide)(hd:(x == ("__debug__" : Str))=false:=by decide):PE X (.Name x pos) (tC v):=
 fun _ _ _ H _ I h=>zc6 I hg hm hv ⟨v,H,I,r,h⟩ hn hd
variable {a b:Expr}{ta tb:TE}{pos:Pos}
def PC (X:Cx)(op:CmpOp)(a b:Expr)(t:TE):Prop:=
 ∀ (pins:List (Addr×Obj)) (s:Shared) (σ:St) (H:Hp) (Q:VK),Inv X pins σ H s→t σ H Q →
  wpAny (model X.prog X.w) X.A (eval a X.env) (fun v s₁=>wpAny (model X.prog X.w) X.A (eval b X.env) (fun u s₂=>wpAny (model X.prog X.w) X.A (compareOp op v u) (EP X pins σ Q) X.xe s₂) X.xe s₁) X.xe s
theorem zc4 (b:Expr){op:CmpOp}(h:op≠.In)(h2:op≠.NotIn):behindInMarks op b=false:=by
 have e1:(op == CmpOp.In)=false:=by cases op <;> first | rfl | exact absurd rfl h
 have e2:(op == CmpOp.NotIn)=false:=by cases op <;> first | rfl | exact absurd rfl h2
 cases b <;> simp [behindInMarks,e1,e2]
def tIsN (ta:TE):TE:=fun σ H Q=>ta σ H fun x H1=>Q (.bl (decide (x = .non))) H1
def tNotN (ta:TE):TE:=fun σ H Q=>ta σ H fun x H1=>Q (.bl (!decide (x = .non))) H1
theorem RelV.none_iff {x:V}{v:Value}(r:RelV x v):(v == Value.none)=decide (x = .non):=by
 cases x with
 | non=>cases r;rfl
 | bl _=>cases r;rfl
 | int _=>obtain ⟨t,rfl⟩:=r;rfl
 | str _=>obtain ⟨t,rfl⟩:=r;rfl
 | byt _=>obtain ⟨t,rfl⟩:=r;rfl
 | flt _=>obtain ⟨t,rfl⟩:=r;rfl
 | ref _=>cases r;rfl
 | ty _=>cases r;rfl
theorem zcj {j pos'}(ha:PE X a ta):PC X .Is a (.Constant .none j pos') (tIsN ta):=by
 intro pins s σ H Q I h
 refine thn (ha pins s σ H _ I h) fun v s1 hh_=>?_
 obtain ⟨x,H1,I1,r1,q1⟩:=hh_
 exact Constant_none (is_none_gen ⟨.bl _,H1,I1,by rw [r1.none_iff];rfl,q1⟩)
theorem zeC {j pos'}(ha:PE X a ta):PC X .IsNot a (.Constant .none j pos') (tNotN ta):=by
 intro pins s σ H Q I h
 refine thn (ha pins s σ H _ I h) fun v s1 hh_=>?_
 obtain ⟨x,H1,I1,r1,q1⟩:=hh_
 exact Constant_none (isnot_none_gen ⟨.bl _,H1,I1,by rw [r1.none_iff];rfl,q1⟩)
inductive tB_1 (Q:Bool→Hp→Prop)(x:V)(H1:Hp):Prop
 | mk (c:_) (z0_:x = .bl c) (z1_:Q c H1)
def tB (t:TE):TT:=fun σ H Q=>t σ H (tB_1 Q)
theorem zh3 {op:CmpOp}{t:TE}(h:PC X op a b t)(h1:behindInMarks op b=false:=by first | exact zc4 _ (by decide) (by decide) | rfl):PE X (.Compare a [op] [b] pos) t:=fun pins s σ H Q I hw=>wpAny_Compare1 (h pins s σ H Q I hw) h1
theorem zbT {op:CmpOp}{t:TE}(h:PC X op a b t)(h1:behindInMarks op b=false:=by first | exact zc4 _ (by decide) (by decide) | rfl):PT X (.Compare a [op] [b] pos) (tB t):=by
 intro pins s σ H Q I hw
 refine wpAny_isTrue_Compare1 (thn (h pins s σ H _ I hw) fun v s1 h1=>thn h1 fun u s2 h2=>thn h2 fun c s3 hh_=>?_) h1
 obtain ⟨x,H1,I1,r1,q1⟩:=hh_
 obtain ⟨d,rfl,q⟩:=q1
 cases r1
 exact Xa2 ⟨H1,I1,q⟩
theorem zaC {e:Expr}{t:TE}(h:PE X e t)(he:∀ whole,isTrue e X.env whole=(do let v ← whole;standAt e.pos;holding [v] (truthy v)):=by intro _;rfl):PT X e (tB t):=by
 intro pins s σ H Q I hw
 refine isTrue_plain (thn (h pins s σ H _ I hw) fun v s1 hh_=>?_) (he _)
 obtain ⟨x,H1,I1,r1,q1⟩:=hh_
 obtain ⟨d,rfl,q⟩:=q1
 cases r1
 exact Xa2 ⟨H1,I1,q⟩
variable {tA tB':TT}{rest:List Expr}
def tAnd (t u:TT):TT:=fun σ H Q=>t σ H fun c H1=>if c=true then u σ H1 Q else Q false H1
def tOr (t u:TT):TT:=fun σ H Q=>t σ H fun c H1=>if c=true then Q true H1 else u σ H1 Q
def tNot (t:TT):TT:=fun σ H Q=>t σ H fun c H1=>Q (!c) H1
theorem zex (ha:PT X a tA):PW X (.BoolOp .And [a] pos) tA:=by
 intro wh pins s σ H Q I h
 refine isTrue_and (thn (ha pins s σ H Q I h) fun c s1 e=>?_)
 cases c with
 | true=>exact isTrue_and_nil e
 | false=>exact e
theorem zbx (ha:PT X a tA):PW X (.BoolOp .Or [a] pos) tA:=by
 intro wh pins s σ H Q I h
 refine isTrue_or (thn (ha pins s σ H Q I h) fun c s1 e=>?_)
 cases c with
 | false=>exact isTrue_or_nil e
 | true=>exact e
theorem zf9 (ha:PT X a tA)(hb:PW X (.BoolOp .And (b :: rest) pos) tB'):PW X (.BoolOp .And (a :: b :: rest) pos) (tAnd tA tB'):=by
 intro wh pins s σ H Q I h
 refine isTrue_and (thn (ha pins s σ H _ I h) fun c s1 ⟨H1,I1,q1⟩=>?_)
 cases c with
 | true=>exact hb wh pins s1 σ H1 Q I1 q1
 | false=>exact ⟨H1,I1,q1⟩
theorem zb9 (ha:PT X a tA)(hb:PW X (.BoolOp .Or (b :: rest) pos) tB'):PW X (.BoolOp .Or (a :: b :: rest) pos) (tOr tA tB'):=by
 intro wh pins s σ H Q I h
 refine isTrue_or (thn (ha pins s σ H _ I h) fun c s1 ⟨H1,I1,q1⟩=>?_)
 cases c with
 | true=>exact ⟨H1,I1,q1⟩
 | false=>exact hb wh pins s1 σ H1 Q I1 q1
theorem zaO (ha:PT X a tA):PT X (.UnaryOp .Not a pos) (tNot tA):=by
 intro pins s σ H Q I h
 exact isTrue_not (thn (ha pins s σ H (fun c H1=>Q (!c) H1) I h) fun c s1 ⟨H1,I1,q1⟩=>⟨H1,I1,q1⟩)
inductive tAndV_1 (tb:TE)(σ:St)(Q:VK)(x:V)(H1:Hp):Prop
 | mk (c:_) (z0_:x = .bl c) (z1_:if c=true then tb σ H1 Q else Q (.bl false) H1)
def tAndV (ta tb:TE):TE:=fun σ H Q=>ta σ H (tAndV_1 tb σ Q)
inductive tOrV_1 (tb:TE)(σ:St)(Q:VK)(x:V)(H1:Hp):Prop
 | mk (c:_) (z0_:x = .bl c) (z1_:if c=true then Q (.bl true) H1 else tb σ H1 Q)
def tOrV (ta tb:TE):TE:=fun σ H Q=>ta σ H (tOrV_1 tb σ Q)
inductive tNotV_1 (Q:VK)(x:V)(H1:Hp):Prop
 | mk (c:_) (z0_:x = .bl c) (z1_:Q (.bl (!c)) H1)
def tNotV (ta:TE):TE:=fun σ H Q=>ta σ H (tNotV_1 Q)
theorem zbz {op}{t:TE}(h:PE X a t):PE X (.BoolOp op [a] pos) t:=fun pins s σ H Q I hw=>BoolOp_one (h pins s σ H Q I hw)
theorem zbB (ha:PE X a ta)(hb:PE X (.BoolOp .And (b :: rest) pos) tb):PE X (.BoolOp .And (a :: b :: rest) pos) (tAndV ta tb):=by
 intro pins s σ H Q I h
 refine BoolOp_and (thn (ha pins s σ H _ I h) fun v s1 hh_=>?_)
 obtain ⟨x,H1,I1,r1,q1⟩:=hh_
 obtain ⟨c,rfl,q1⟩:=q1
 cases r1
 refine Xa2 ?_
 cases c with
 | true=>exact hb pins s1 σ H1 Q I1 q1
 | false=>exact ⟨.bl false,H1,I1,rfl,q1⟩
theorem zmI (ha:PE X a ta)(hb:PE X (.BoolOp .Or (b :: rest) pos) tb):PE X (.BoolOp .Or (a :: b :: rest) pos) (tOrV ta tb):=by
 intro pins s σ H Q I h
 refine BoolOp_or (thn (ha pins s σ H _ I h) fun v s1 hh_=>?_)
 obtain ⟨x,H1,I1,r1,q1⟩:=hh_
 obtain ⟨c,rfl,q1⟩:=q1
 cases r1
 refine Xa2 ?_
 cases c with
 | false=>exact hb pins s1 σ H1 Q I1 q1
 | true=>exact ⟨.bl true,H1,I1,rfl,q1⟩
theorem zlZ (ha:PE X a ta):PE X (.UnaryOp .Not a pos) (tNotV ta):=by
 intro pins s σ H Q I h
 refine UnaryOp_ (thn (ha pins s σ H _ I h) fun v s1 hh_=>?_)
 obtain ⟨x,H1,I1,r1,q1⟩:=hh_
 obtain ⟨c,rfl,q1⟩:=q1
 cases r1
 exact not_of (Xa2 ⟨.bl (!c),H1,I1,rfl,q1⟩)
def tIf (t:TT)(ta tb:TE):TE:=fun σ H Q=>t σ H fun c H1=>if c=true then ta σ H1 Q else tb σ H1 Q
theorem zh0 {c:Expr}(hc:PT X c tA)(ha:PE X a ta)(hb:PE X b tb):PE X (.IfExp c a b pos) (tIf tA ta tb):=by
 intro pins s σ H Q I h
 refine wpAny_IfExp (thn (hc pins s σ H _ I h) fun d s1 ⟨H1,I1,q1⟩=>?_)
 cases d with
 | true=>exact ha pins s1 σ H1 Q I1 q1
 | false=>exact hb pins s1 σ H1 Q I1 q1
end
def SqL (K:W.Frag)(H:Hp)(a:Addr)(xs:List V):Prop:=
 Rd H a (.lst xs) ∨
  ∃ (o:Obj) (its:Array Value) (n:Nat),K.lookup a=some o∧o.cls = .type "list" ∧ o.dict=none∧o.data = .seq its n∧its.size≤sizeLine∧Vals xs its.toList
def SqT (K:W.Frag)(H:Hp)(a:Addr)(xs:List V):Prop:=
 Rd H a (.tup xs) ∨
  ∃ (o:Obj) (its:Array Value) (n:Nat),K.lookup a=some o∧o.cls = .type "tuple" ∧ o.data = .seq its n∧its.size≤sizeLine∧Vals xs its.toList
def absV:Value→Option V
 | .none=>some .non
 | .bool b=>some (.bl b)
 | .int i _=>some (.int i)
 | .str x _=>some (.str x)
 | .bytes b _=>some (.byt b)
 | .float b _=>some (.flt b)
 | .ref a=>some (.ref a)
 | .type n=>some (.ty n)
 | _=>none
theorem RelV.abs {x:V}{u:Value}(r:RelV x u):absV u=some x:=by
 cases x with
 | non=>cases r;rfl
 | bl _=>cases r;rfl
 | int _=>obtain ⟨t,rfl⟩:=r;rfl
 | str _=>obtain ⟨t,rfl⟩:=r;rfl
 | byt _=>obtain ⟨t,rfl⟩:=r;rfl
 | flt _=>obtain ⟨t,rfl⟩:=r;rfl
 | ref _=>cases r;rfl
 | ty _=>cases r;rfl
theorem RelV.inj {x y:V}{u:Value}(r:RelV x u)(q:RelV y u):x=y:=Option.some.inj (r.abs.symm.trans q.abs)
theorem Vals.inj:∀ {xs ys:List V} {us:List Value},Vals xs us→Vals ys us→xs=ys
 | _,_,_,.nil,.nil=>rfl
 | _,_,_,.cons r t,.cons r' t'=>by rw [r.inj r',Vals.inj t t']
section
variable {X:Cx}{pins:List (Addr×Obj)}{σ:St}{H:Hp}{s:Shared}{a:Addr}{xs ys:List V}
theorem SqL.of {K:W.Frag}(h:H a=some (.lst xs)):SqL K H a xs:=.inl (.inl h)
theorem SqT.of {K:W.Frag}(h:H a=some (.tup xs)):SqT K H a xs:=.inl (.inl h)
theorem Inv.list (I:Inv X pins σ H s)(h:SqL X.K H a xs):∃ its:List Value,Vals xs its∧PlainL s.heap a its.toArray∧xs.length≤sizeLine:=by
 rcases h with h | ⟨o,its,n,hk,hc,hd,hs,hz,r⟩
 ·obtain ⟨z,its,n,r,e⟩:=h.ok I.hok
  exact ⟨its,r,⟨_,n,e,rfl,rfl,rfl⟩,z⟩
 ·refine ⟨its.toList,r,⟨o,n,I.kIn a o hk,hc,hd,by simpa using hs⟩,?_⟩
  have e:=r.length
  simp only [Array.length_toList] at e
  omega
theorem Inv.tuple (I:Inv X pins σ H s)(h:SqT X.K H a xs):∃ its:List Value,Vals xs its∧IsTup s.heap a its.toArray∧xs.length≤sizeLine:=by
 rcases h with h | ⟨o,its,n,hk,hc,hs,hz,r⟩
 ·obtain ⟨z,its,r,p⟩:=h.ok I.hok
  exact ⟨its,r,p,z.1⟩
 ·refine ⟨its.toList,r,⟨o,I.kIn a o hk,hc,n,by simpa using hs⟩,?_⟩
  have e:=r.length
  simp only [Array.length_toList] at e
  omega
theorem Inv.list_inj (I:Inv X pins σ H s)(h:SqL X.K H a xs)(h':SqL X.K H a ys):xs=ys:=by
 obtain ⟨its,r,⟨o,n,e,_,_,d⟩,_⟩:=I.list h
 obtain ⟨its',r',⟨o',n',e',_,_,d'⟩,_⟩:=I.list h'
 rw [e] at e';cases e'
 rw [d] at d'
 injection d' with d1 _
 have:its=its':=by simpa using congrArg Array.toList d1
 subst this
 exact r.inj r'
theorem Inv.tuple_inj (I:Inv X pins σ H s)(h:SqT X.K H a xs)(h':SqT X.K H a ys):xs=ys:=by
 obtain ⟨its,r,⟨o,e,_,n,d⟩,_⟩:=I.tuple h
 obtain ⟨its',r',⟨o',e',_,n',d'⟩,_⟩:=I.tuple h'
 rw [e] at e';cases e'
 rw [d] at d'
 injection d' with d1 _
 have:its=its':=by simpa using congrArg Array.toList d1
 subst this
 exact r.inj r'
end
abbrev Cx.wish (X:Cx)(E:Value→Shared→Prop):Cx:={ X with xe:=E }
abbrev Cx.nox (X:Cx):Cx:=X.wish fun _ _=>False
theorem Cx.Ok.wish {X:Cx}(ok:X.Ok)(E:Value→Shared→Prop):(X.wish E).Ok:=
 ⟨ok.mod,ok.kind,ok.glob,ok.blt,ok.above,ok.inj,ok.has,ok.cab,ok.hd,ok.frames,ok.stk,ok.exf,ok.bs,ok.bsz,ok.noex,ok.exfs,ok.funs,ok.frf⟩
theorem Cx.Ok.unwish {X:Cx}{E:Value→Shared→Prop}(ok:(X.wish E).Ok):X.Ok:=
 ⟨ok.mod,ok.kind,ok.glob,ok.blt,ok.above,ok.inj,ok.has,ok.cab,ok.hd,ok.frames,ok.stk,ok.exf,ok.bs,ok.bsz,ok.noex,ok.exfs,ok.funs,ok.frf⟩
section
variable {X:Cx}{pins:List (Addr×Obj)}{σ:St}{H:Hp}{s:Shared}{E:Value→Shared→Prop}
theorem Inv.wish (I:Inv X pins σ H s)(E:Value→Shared→Prop):Inv (X.wish E) pins σ H s:=⟨I.ok.wish E,I.os,I.bare,I.base,I.loc,I.cell,I.free,I.freeC,I.pin,I.hok,I.len⟩
theorem Inv.unwish (I:Inv (X.wish E) pins σ H s):Inv X pins σ H s:=⟨I.ok.unwish,I.os,I.bare,I.base,I.loc,I.cell,I.free,I.freeC,I.pin,I.hok,I.len⟩
theorem SP.unwish {D:Ends}{f:Flow}{s':Shared}(h:SP (X.wish E) pins D f s'):SP X pins D f s':=by
 cases f with
 | next=>obtain ⟨σ',H',I,q⟩:=h;exact ⟨σ',H',I.unwish,q⟩
 | brk=>obtain ⟨σ',H',I,q⟩:=h;exact ⟨σ',H',I.unwish,q⟩
 | cont=>obtain ⟨σ',H',I,q⟩:=h;exact ⟨σ',H',I.unwish,q⟩
 | ret u=>obtain ⟨v,σ',H',I,r,q⟩:=h;exact ⟨v,σ',H',I.unwish,r,q⟩
theorem PE.nox {e:Expr}{t:TE}(h:PE X.nox e t):PE X e t:=fun pins s σ H Q I hw =>
 Xax (h pins s σ H Q (I.wish _) hw) (fun _ _ ⟨v,H',I',r,q⟩=>⟨v,H',I'.unwish,r,q⟩) fun _ _ z=>False.elim z
theorem PT.nox {e:Expr}{t:TT}(h:PT X.nox e t):PT X e t:=fun pins s σ H Q I hw =>
 Xax (h pins s σ H Q (I.wish _) hw) (fun _ _ ⟨H',I',q⟩=>⟨H',I'.unwish,q⟩) fun _ _ z=>False.elim z
theorem PSs.nox {st:List Stmt}{t:TS}(h:PSs X.nox st t):PSs X st t:=fun pins s σ H D I hw =>
 Xax (h pins s σ H D (I.wish _) hw) (fun _ _ q=>q.unwish) fun _ _ z=>False.elim z
end
section
variable {X:Cx}{st:Stmt}{rest:List Stmt}{t u:TS}{e:Expr}{te:TE}{pos:Pos}
def tNext:TS:=fun D σ H=>D.nx σ H
def tSeq (t u:TS):TS:=fun D σ H=>t { D with nx:=u D } σ H
theorem zaq:PSs X [] tNext:=fun _ _ σ H _ I h=>wpAny_execs_nil ⟨σ,H,I,h⟩
theorem zab (h1:PS X st t)(h2:PSs X rest u):PSs X (st :: rest) (tSeq t u):=by
 intro pins s σ H D I h
 refine wpAny_execs_cons (thn (h1 pins s σ H { D with nx:=u D } I h) fun f s1 q=>?_)
 cases f with
 | next =>
  obtain ⟨σ',H',I',q⟩:=q
  exact h2 pins s1 σ' H' D I' q
 | ret v=>exact q
 | brk=>exact q
 | cont=>exact q
theorem zaf (h1:PS X st t):PSs X [st] t:=by
 intro pins s σ H D I h
 refine wpAny_execs_cons (thn (h1 pins s σ H D I h) fun f s1 q=>?_)
 cases f with
 | next=>exact wpAny_execs_nil q
 | ret v=>exact q
 | brk=>exact q
 | cont=>exact q
theorem Inv.quiet {pins:List (Addr×Obj)}{σ:St}{H:Hp}{s:Shared}(I:Inv X pins σ H s):interactive X.env=false:=by simp [interactive,I.ok.kind]
def tDrop (te:TE):TS:=fun D σ H=>te σ H fun _ H1=>D.nx σ H1
theorem zaz (he:PE X e te)(hs:swapsWith e none pos.line X.env=pure false:=by rfl):PS X (.Expr e pos) (tDrop te):=by
 intro pins s σ H D I h
 exact wpAny_Expr_any (thn (he pins s σ H _ I h) fun v s1 ⟨x,H1,I1,r1,q1⟩=>⟨σ,H1,I1,q1⟩) I.quiet hs
def tRet (te:TE):TS:=fun D σ H=>te σ H D.rt
theorem zap (he:PE X e te):PS X (.Return (some e) pos) (tRet te):=by
 intro pins s σ H D I h
 exact wpAny_Return_some (thn (he pins s σ H _ I h) fun v s1 ⟨x,H1,I1,r1,q1⟩=>⟨x,σ,H1,I1,r1,q1⟩)
def tIfS (c:TT)(t u:TS):TS:=fun D σ H=>c σ H fun b H1=>if b=true then t D σ H1 else u D σ H1
theorem zax {c:Expr}{a b:List Stmt}{tc:TT}(hc:PT X c tc)(ha:PSs X a t)(hb:PSs X b u):PS X (.If c a b pos) (tIfS tc t u):=by
 intro pins s σ H D I h
 refine wpAny_If (thn (hc pins s σ H _ I h) fun d s1 ⟨H1,I1,q1⟩=>?_)
 cases d with
 | true=>exact ha pins s1 σ H1 D I1 q1
 | false=>exact hb pins s1 σ H1 D I1 q1
def tNever:TS:=fun _ _ _=>False
theorem zaR:PS X st tNever:=fun _ _ _ _ _ _ h=>h.elim
end
abbrev TG:=V→St→Hp→(St→Hp→Prop)→Prop
abbrev TGs:=List V→St→Hp→(St→Hp→Prop)→Prop
def PG (X:Cx)(target:Expr)(t:TG):Prop:=
 ∀ (pins:List (Addr×Obj)) (s:Shared) (σ:St) (H:Hp) (v:V) (u:Value) (Q:St→Hp→Prop),Inv X pins σ H s→RelV v u→t v σ H Q →
  wpAny (model X.prog X.w) X.A (assign target X.env u) (fun _ s'=>∃ σ' H',Inv X pins σ' H' s'∧Q σ' H') X.xe s
def PGs (X:Cx)(ts:List Expr)(t:TGs):Prop:=
 ∀ (pins:List (Addr×Obj)) (s:Shared) (σ:St) (H:Hp) (vs:List V) (us:List Value) (Q:St→Hp→Prop),Inv X pins σ H s→Vals vs us→t vs σ H Q →
  wpAny (model X.prog X.w) X.A (assignInOrder ((assignEach ts X.env).map (·.2)) us) (fun _ s'=>∃ σ' H',Inv X pins σ' H' s'∧Q σ' H') X.xe s
abbrev TSet:=V→V→V→Hp→(Hp→Prop)→Prop
def PSet (X:Cx)(t:TSet):Prop:=
 ∀ (pins:List (Addr×Obj)) (s:Shared) (σ:St) (H:Hp) (o i v:V) (ov iv u:Value) (Q:Hp→Prop),Inv X pins σ H s→RelV o ov→RelV i iv→RelV v u→t o i v H Q →
  wpAny (model X.prog X.w) X.A (setItem ov iv u) (fun _ s'=>∃ H',Inv X pins σ H' s'∧Q H') X.xe s
abbrev TIp:=V→V→Hp→VK→Prop
def PIp (X:Cx)(op:Operator)(t:TIp):Prop:=
 ∀ (pins:List (Addr×Obj)) (s:Shared) (σ:St) (H:Hp) (x y:V) (v u:Value) (Q:VK),Inv X pins σ H s→RelV x v→RelV y u→t x y H Q →
  wpAny (model X.prog X.w) X.A (inplaceOp op v u) (EP X pins σ Q) X.xe s
section
variable {X:Cx}{pos:Pos}
def zaT (i:Nat):TG:=fun v σ H Q=>Q (σ.set i (some v)) H
theorem zjB {i:Nat}{x:Str}(hN:X.N.Nodup)(hi:X.N[i]? = some x)(hx:Loc X.env.scope x)(hf:X.fn x=true∨X.env.scope.names.lookup x=some .local:=by first | exact .inl rfl | exact .inr rfl | assumption):PG X (.Name x pos) (zaT i):=by
 intro pins s σ H v u Q I r h
 exact wpAny_assign_Name (zfq I hN hi hx r (fun s' I'=>⟨_,H,I',h⟩) hf)
def gNil:TGs:=fun vs σ H Q=>vs=[]∧Q σ H
inductive gCons (t:TG)(u:TGs)(vs:List V)(σ:St)(H:Hp)(Q:St→Hp→Prop):Prop
 | mk (v:_) (r:_) (z0_:vs=v :: r) (z1_:t v σ H fun σ' H'=>u r σ' H' Q)
theorem zaM:PGs X [] gNil:=by
 intro pins s σ H vs us Q I r h
 obtain ⟨e,h⟩:=h
 subst e
 cases r
 exact assignInOrder_nil ⟨σ,H,I,h⟩
theorem zan {e:Expr}{es:List Expr}{t:TG}{u:TGs}(h1:PG X e t)(h2:PGs X es u)
  (hs:(assignEach (e :: es) X.env).map (·.2)=assign e X.env :: (assignEach es X.env).map (·.2):=by rfl):PGs X (e :: es) (gCons t u):=by
 intro pins s σ H vs us Q I r h
 obtain ⟨v,vr,e1,h⟩:=h
 subst e1
 cases r with
 | cons r rr =>
  rw [hs]
  refine assignInOrder_cons (thn (h1 pins s σ H _ _ _ I r h) fun _ s1 ⟨σ1,H1,I1,q1⟩=>?_)
  exact h2 pins s1 σ1 H1 _ _ Q I1 rr q1
inductive gTup (K:W.Frag)(n:Nat)(t:TGs)(v:V)(σ:St)(H:Hp)(Q:St→Hp→Prop):Prop
 | mk (a:_) (xs:_) (z0_:v = .ref a) (z1_:SqT K H a xs) (z2_:xs.length=n) (z3_:t xs σ H Q)
theorem zba {es:List Expr}{k:Nat}{t:TGs}{n:Nat}(hc:X.calm=true)(h:PGs X es t)
  (hn:(assignEach es X.env).length=n:=by rfl) (hst:(assignEach es X.env).findIdx? (·.1)=none:=by rfl):PG X (.Tuple es k pos) (gTup X.K n t):=by
 intro pins s σ H v u Q I r hw
 obtain ⟨a,xs,e1,hq,hl,hw⟩:=hw
 subst e1
 cases r
 obtain ⟨its,rv,ht,hz⟩:=I.tuple hq
 refine assign_Tuple_tuple (I.ok.hd hc) ht (by simp [hn,← hl,rv.length]) hst fun h' hx=>?_
 have I1:Inv X pins σ H { s with heap:=h' }:=I.kept (t':=s.toks) fun b o e=>hx b o (Xaz (Xao e)) e
 exact h pins _ σ H xs _ Q I1 (by simpa using rv) hw
def gSub (to ti:TE)(t:TSet):TG:=fun v σ H Q=>to σ H fun o H1=>ti σ H1 fun i H2=>t o i v H2 fun H3=>Q σ H3
theorem zjA {o i:Expr}{to ti:TE}{t:TSet}(ho:PE X o to)(hi:PE X i ti)(hs:PSet X t)
  (ha:∀ v,assign (.Subscript o i pos) X.env v=(do
   let ov ← holding [v] (eval o X.env)
   let iv ← holding [v,ov] (eval i X.env)
   standAt pos
   holding [v,ov,iv] (setItem ov iv v)
   release [v,ov,iv] []):=by intro _;rfl):PG X (.Subscript o i pos) (gSub to ti t):=by
 intro pins s σ H v u Q I r h
 rw [ha]
 refine Xaa (Xba (thn (ho pins s σ H _ I h) fun ov s1 hh_=>?_))
 obtain ⟨x,H1,I1,r1,q1⟩:=hh_
 refine Xaa (Xba (thn (hi pins s1 σ H1 _ I1 q1) fun iv s2 hh_=>?_))
 obtain ⟨y,H2,I2,r2,q2⟩:=hh_
 refine Xaa (Xbj (Xaa (Xba (thn (hs pins s2 σ H2 x y v ov iv u _ I2 r1 r2 r q2) fun _ s3 ⟨H3,I3,q3⟩=>?_))))
 exact wpAny_release ⟨σ,H3,I3,q3⟩
def tAsg (te:TE)(g:TG):TS:=fun D σ H=>te σ H fun x H1=>g x σ H1 D.nx
theorem zbj {tg e:Expr}{te:TE}{g:TG}(he:PE X e te)(hg:PG X tg g)(hs:swapsWithSole [tg] e pos.line X.env=pure false:=by rfl)(hw:swappedStores [tg] e X.env=pure none:=by rfl)
  (h1:(assignEach [tg] X.env).map (·.2)=[assign tg X.env]:=by rfl):PS X (.Assign [tg] e pos) (tAsg te g):=by
 intro pins s σ H D I h
 refine wpAny_Assign_stores (thn (he pins s σ H _ I h) fun v s1 hh_=>?_) hs hw
 obtain ⟨x,H1,I1,r1,q1⟩:=hh_
 rw [h1]
 exact thn (hg pins s1 σ H1 x v _ I1 r1 q1) fun _ s2 q=>q
theorem zju {i:Nat}{x:Str}{e:Expr}{te:TE}{pos':Pos}(hN:X.N.Nodup)(hi:X.N[i]? = some x)(hx:Loc X.env.scope x)(he:PE X e te)(hs:swapsWith e (some (.Name x pos')) pos.line X.env=pure false:=by rfl)(hf:X.fn x=true∨X.env.scope.names.lookup x=some .local:=by first | exact .inl rfl | exact .inr rfl | assumption) :
  PS X (.Assign [.Name x pos'] e pos) (tAsg te (zaT i)):=by
 intro pins s σ H D I h
 refine wpAny_Assign_Name (thn (he pins s σ H _ I h) fun v s1 hh_=>?_) hs
 obtain ⟨y,H1,I1,r1,q1⟩:=hh_
 exact zfq I1 hN hi hx r1 (fun s2 I2=>⟨_,H1,I2,q1⟩) hf
inductive tAug (i:Nat)(te:TE)(ti:TIp)(D:Ends)(σ:St)(H:Hp):Prop
 | mk (x:_) (z0_:σ[i]? = some (some x)) (z1_:te σ H fun y H1=>ti x y H1 fun z H2=>D.nx (σ.set i (some z)) H2)
theorem zez {i:Nat}{x:Str}{e:Expr}{te:TE}{op:Operator}{ti:TIp}{pos':Pos}(hN:X.N.Nodup)(hi:X.N[i]? = some x)(hx:Loc X.env.scope x)(he:PE X e te)(ho:PIp X op ti)(hf:X.fn x=true∨X.env.scope.names.lookup x=some .local:=by first | exact .inl rfl | exact .inr rfl | assumption) :
  PS X (.AugAssign (.Name x pos') op e pos) (tAug i te ti):=by
 intro pins s σ H D I h
 obtain ⟨v,e1,h⟩:=h
 obtain ⟨m,hn,hl⟩:=I.loc
 have vis:Vis X.env.scope x:=by rcases hx with k | k;exact .inl k;exact .inr (.inl k)
 obtain ⟨u,r,l⟩:=hl i x v hi e1 vis
 refine wpAny_AugAssign_Name ?_
 have go:wpAny (model X.prog X.w) X.A (eval e X.env) (fun w s₂=>wpAny (model X.prog X.w) X.A (inplaceOp op u w) (fun r s₃=>wpAny (model X.prog X.w) X.A (storeName X.env x r) (fun _=>SP X pins D .next) X.xe s₃) X.xe s₂) X.xe s:=by
  refine thn (he pins s σ H _ I h) fun w s1 hh_=>?_
  obtain ⟨y,H1,I1,r1,q1⟩:=hh_
  refine thn (ho pins s1 σ H1 v y u w _ I1 r r1 q1) fun z s2 hh_=>?_
  obtain ⟨zv,H2,I2,r2,q2⟩:=hh_
  exact zfq I2 hN hi hx r2 (fun s3 I3=>⟨_,H2,I3,q2⟩) hf
 rcases l with ⟨hk,hm⟩ | ⟨hk,c,hc,hcell⟩
 ·exact wpAny_loadName_local I.ok.kind hk hn hm go
 ·rcases hk with hk | hk
  ·exact wpAny_loadName_cell I.ok.kind hk hc hcell go
  ·rcases hx with k | k
   ·have:X.env.scope.names.lookup x=some .free:=hk
    rw [k] at this;cases this
   ·have:X.env.scope.names.lookup x=some .free:=hk
    rw [k] at this;cases this
end
section
variable {X:Cx}{pos:Pos}
def zlP (c:TT)(tb:TS):TS:=fun D σ H=>∃ W:Nat→St→Hp→Prop,(∃ m,W m σ H)∧∀ m σ H,W m σ H →
 c σ H fun b H1=>if b=true then ∃ N:St→Hp→Prop,(∀ σ' H',N σ' H'→∃ m',m'<m∧W m' σ' H')∧tb { D with nx:=N,ct:=N,bk:=D.nx } σ H1 else D.nx σ H1
theorem zdZ {c:Expr}{body:List Stmt}{tc:TT}{tb:TS}(hp:PassesOwn (model X.prog X.w) X.A X.env X.xe)(hc:PT X c tc)(hb:PSs X body tb):PS X (.While c body [] pos) (zlP tc tb):=by
 intro pins s σ H D I h
 obtain ⟨W,⟨m0,w0⟩,turn⟩:=h
 refine wpAny_While (codeAny_whileLoop (fun n s'=>∃ σ' H',Inv X pins σ' H' s'∧W n σ' H') ?_ m0 ⟨σ,H,I,w0⟩)
 rintro n s1 ⟨σ1,H1,I1,w1⟩
 refine Xbv hp (thn (hc pins s1 σ1 H1 _ I1 (turn n σ1 H1 w1)) fun b s2 ⟨H2,I2,q2⟩=>?_)
 cases b with
 | true =>
  obtain ⟨N,hN,q2⟩:=q2
  rw [if_pos rfl]
  refine Xbv hp (thn (hb pins s2 σ1 H2 _ I2 q2) fun f s3 q3=>?_)
  cases f with
  | next =>
   obtain ⟨σ3,H3,I3,n3⟩:=q3
   obtain ⟨m',hm,w3⟩:=hN σ3 H3 n3
   exact ⟨m',hm,σ3,H3,I3,w3⟩
  | cont =>
   obtain ⟨σ3,H3,I3,n3⟩:=q3
   obtain ⟨m',hm,w3⟩:=hN σ3 H3 n3
   exact ⟨m',hm,σ3,H3,I3,w3⟩
  | brk=>exact q3
  | ret v=>exact q3
 | false =>
  rw [if_neg Xap]
  exact wpAny_execs_nil ⟨σ1,H2,I2,q2⟩
end
structure It where
 go:Nat→Hp→Prop
 yld:Nat→Hp→V→Hp→Prop
 stop:Nat→Hp→Prop
def FpOk (X:Cx)(pins:List (Addr×Obj))(H:Hp)(b:Addr):Prop:=
 H b=none∧b≠X.env.locals∧b ∉ X.fs∧(b∈X.ex∨X.s₀.heap.objs.size≤b)∧(∀ x c,X.env.cells.lookup x=some c→c≠b)∧∀ p∈X.pn ++ pins,p.1≠b
theorem Inv.fpOk {X:Cx}{pins:List (Addr×Obj)}{σ:St}{H H':Hp}{s:Shared}{b:Addr}(I:Inv X pins σ H s)(hb:s.heap.objs.size≤b)(hn:H' b=none):FpOk X pins H' b:=by
 refine ⟨hn,XbC (Xak I.lt hb),I.nofs hb,.inr (Xam I.sz hb),fun x c e z=>?_,fun p hp z=>?_⟩
 ·obtain ⟨v,q⟩:=I.cell x c e
  exact absurd (Xak q.lt (by rw [z];exact hb)) (XaU _)
 ·exact absurd (Xak (Xao (I.pin p hp).1) (by rw [z];exact hb)) (XaU _)
structure Turn (P:Program)(w:World)(K:W.Frag)(tg:Expr)(J:It)(fp:List Addr)(it:Addr)(tn:Nat→Heap→Prop):Prop where
 mem:it∈fp
 obj:∀ i h,tn i h→∀ b∈fp,∃ o,h.get? b=some o∧∀ v,o.data≠.cell v
 keep:∀ i h h',tn i h→(∀ b∈fp,∀ o,h.get? b=some o→h'.get? b=some o)→tn i h'
 item:∀ (X:Cx),X.prog=P→X.w=w→X.K=K→X.calm=true→∀ (i:Nat) (pins:List (Addr×Obj)) (s:Shared) (σ:St) (H:Hp) (E:Value→Shared→Prop),Inv X pins σ H s→(∀ b∈fp,FpOk X pins H b)→tn i s.heap→J.go i H →
  wpAny (model P w) X.A (pyNext (.ref it)) (fun r s1=>∃ u,r=some u ∧
   wpAny (model P w) X.A (letOwnedTupleGo tg (.ref it) u) (fun _ s2=>∃ x H',Inv X pins σ H' s2∧RelV x u∧J.yld i H x H'∧tn (i+1) s2.heap∧∀ b∈fp,H' b=none) E s1) E s
 done:∀ (X:Cx),X.prog=P→X.w=w→X.K=K→X.calm=true→∀ (i:Nat) (pins:List (Addr×Obj)) (s:Shared) (σ:St) (H:Hp) (E:Value→Shared→Prop),Inv X pins σ H s→(∀ b∈fp,FpOk X pins H b)→tn i s.heap→J.stop i H →
  wpAny (model P w) X.A (pyNext (.ref it)) (fun r s1=>r=none∧Inv X pins σ H s1) E s
 self:∀ (A:Around) (i:Nat) (s:Shared) (Q:Value→Shared→Prop) (E:Value→Shared→Prop),tn i s.heap→Q (.ref it) s→wpAny (model P w) A (pyIter (.ref it)) Q E s
abbrev TI:=St→Hp→(It→Hp→Prop)→Prop
def PIE (X:Cx)(pins:List (Addr×Obj))(σ:St)(tg:Expr)(R:It→Hp→Prop)(itv:Value)(s2:Shared):Prop:=
 ∃ (it:Addr) (fp:List Addr) (tn:Nat→Heap→Prop) (J:It) (H':Hp),itv = .ref it∧Inv X pins σ H' s2∧Turn X.prog X.w X.K tg J fp it tn∧tn 0 s2.heap∧(∀ b∈fp,FpOk X pins H' b)∧R J H'
def PI (X:Cx)(tg iter:Expr)(wi:TI):Prop:=
 ∀ (pins:List (Addr×Obj)) (s:Shared) (σ:St) (H:Hp) (R:It→Hp→Prop),Inv X pins σ H s→wi σ H R →
  wpAny (model X.prog X.w) X.A (eval iter X.env) (fun v s1=>wpAny (model X.prog X.w) X.A (pyIter v) (PIE X pins σ tg R) X.xe s1) X.xe s
theorem zlw {M:Model}{A:Around}{E:Value→Shared→Prop}{s:Shared}{tg:Expr}{it:Addr}{u:Value}{o:Obj}{n:String}{vs:Array Value}{Q:Unit→Shared→Prop}(ho:s.heap.get? it=some o)(hc:o.cls = .type n)(hd:o.data = .fields vs)
    (hn:["enumerate","zip","dict_itemiterator","dict_reverseitemiterator","odict_iterator","itertools.zip_longest","itertools.pairwise"].contains n=false) (hQ:Q () s):wpAny M A (letOwnedTupleGo tg (.ref it) u) Q E s:=by
  unfold letOwnedTupleGo
  cases tg <;> first
    | exact Xac hQ
    | (cases u <;> first
        | exact Xac hQ
        | (refine Xaa (wpAny_load ho ?_)
           rw [hc,hd]
           show wpAny M A (if (["enumerate","zip","dict_itemiterator","dict_reverseitemiterator","odict_iterator","itertools.zip_longest","itertools.pairwise"].contains n && vs[0]? == some (rawInt _))=true then _ else _) Q E s
           rw [if_neg (by intro h;rw [hn,Bool.false_and] at h;cases h)]
           exact Xac hQ))
def Itl (K:W.Frag)(a:Addr):It:=
 ⟨fun i H=>∃ xs x,SqL K H a xs∧xs[i]? = some x,fun i H x H'=>H'=H∧∀ xs,SqL K H a xs→xs[i]? = some x,fun i H=>∃ xs,SqL K H a xs∧xs.length≤i⟩
def Itt (K:W.Frag)(a:Addr):It:=
 ⟨fun i H=>∃ xs x,SqT K H a xs∧xs[i]? = some x,fun i H x H'=>H'=H∧∀ xs,SqT K H a xs→xs[i]? = some x,fun i H=>∃ xs,SqT K H a xs∧xs.length≤i⟩
def Itr (lo:Int)(n:Nat):It:=⟨fun i _=>i<n,fun i H x H'=>H'=H∧x = .int (lo+i),fun i _=>n≤i⟩
theorem zjc {P:Program}{w:World}{K:W.Frag}{tg:Expr}(a it:Addr):Turn P w K tg (Itl K a) [it] it (fun i h=>h.IsListIter it a i) where
 mem:=by simp
 obj:=fun i h st b hb=>by
  have e:b=it:=by simpa using hb
  subst e
  obtain ⟨o,e,c,d⟩:=st
  exact ⟨o,e,fun v z=>by rw [d] at z;cases z⟩
 keep:=fun i h h' st k=>st.at fun o e=>k it (by simp) o e
 item:=by
  intro X hP hw hK hc i pins s σ H E I hf st hg
  subst hP hw hK
  obtain ⟨xs,x,hq,hx⟩:=hg
  obtain ⟨its,rv,p,hz⟩:=I.list hq
  obtain ⟨u,hu,ru⟩:=rv.get hx
  obtain ⟨f0,f1,f2,f3,f4,f5⟩:=hf it (by simp)
  refine wpAny_pyNext_list_item st p.isList (x:=u) (by simpa using hu) fun h' st' sb=>?_
  have I1:Inv X pins σ H { s with heap:=h' }:=I.turned (t':=s.toks) (fun b o hb e=>(sb.2 b hb).trans e) f0 f1 f3 f4 f5
  obtain ⟨o,e,c,d⟩:=id st'
  exact ⟨u,rfl,zlw (s:={ s with heap:=h' }) e c d (by decide) ⟨x,H,I1,ru,⟨rfl,fun ys hy=>by rw [I.list_inj hy hq];exact hx⟩,st',fun b hb=>(hf b hb).1⟩⟩
 done:=by
  intro X hP hw hK hc i pins s σ H E I hf st hg
  subst hP hw hK
  obtain ⟨xs,hq,hx⟩:=hg
  obtain ⟨its,rv,p,hz⟩:=I.list hq
  obtain ⟨f0,f1,f2,f3,f4,f5⟩:=hf it (by simp)
  have hl:=rv.length
  exact wpAny_pyNext_list_end (I.ok.hd hc) st p.isList (by simp;omega) fun h' eb=>⟨rfl,I.turned (t':=s.toks) (fun b o hb e=>eb b o hb e) f0 f1 f3 f4 f5⟩
 self:=fun _ _ _ _ _ st h=>wpAny_pyIter_listiter st h
theorem ziq {P:Program}{w:World}{K:W.Frag}{tg:Expr}(a it:Addr):Turn P w K tg (Itt K a) [it] it (fun i h=>h.IsTupleIter it a i) where
 mem:=by simp
 obj:=fun i h st b hb=>by
  have e:b=it:=by simpa using hb
  subst e
  obtain ⟨o,e,c,d⟩:=st
  exact ⟨o,e,fun v z=>by rw [d] at z;cases z⟩
 keep:=fun i h h' st k=>st.at fun o e=>k it (by simp) o e
 item:=by
  intro X hP hw hK hc i pins s σ H E I hf st hg
  subst hP hw hK
  obtain ⟨xs,x,hq,hx⟩:=hg
  obtain ⟨its,rv,p,hz⟩:=I.tuple hq
  obtain ⟨u,hu,ru⟩:=rv.get hx
  obtain ⟨f0,f1,f2,f3,f4,f5⟩:=hf it (by simp)
  refine wpAny_pyNext_tuple_item st (show s.heap.IsTuple a its.toArray from p) (x:=u) (by simpa using hu) fun h' st' sb=>?_
  have I1:Inv X pins σ H { s with heap:=h' }:=I.turned (t':=s.toks) (fun b o hb e=>(sb.2 b hb).trans e) f0 f1 f3 f4 f5
  obtain ⟨o,e,c,d⟩:=id st'
  exact ⟨u,rfl,zlw (s:={ s with heap:=h' }) e c d (by decide) ⟨x,H,I1,ru,⟨rfl,fun ys hy=>by rw [I.tuple_inj hy hq];exact hx⟩,st',fun b hb=>(hf b hb).1⟩⟩
 done:=by
  intro X hP hw hK hc i pins s σ H E I hf st hg
  subst hP hw hK
  obtain ⟨xs,hq,hx⟩:=hg
  obtain ⟨its,rv,p,hz⟩:=I.tuple hq
  obtain ⟨f0,f1,f2,f3,f4,f5⟩:=hf it (by simp)
  have hl:=rv.length
  exact wpAny_pyNext_tuple_end (I.ok.hd hc) st (show s.heap.IsTuple a its.toArray from p) (by simp;omega) fun h' eb=>⟨rfl,I.turned (t':=s.toks) (fun b o hb e=>eb b o hb e) f0 f1 f3 f4 f5⟩
 self:=fun _ _ _ _ _ st h=>wpAny_pyIter_tupleiter st h
theorem zir {P:Program}{w:World}{K:PySem.W.Frag}{tg:Expr}(it:Addr)(lo:Int)(n:Nat):Turn P w K tg (Itr lo n) [it] it (fun i h=>IsRangeIter h it (lo+(i:Nat) * 1) ((n:Int) - (i:Nat)) 1) where
 mem:=by simp
 obj:=fun i h st b hb=>by
  have e:b=it:=by simpa using hb
  subst e
  exact ⟨_,st,fun v z=>by
   have z':Data.fields _=Data.cell v:=z
   cases z'⟩
 keep:=fun i h h' st k=>k it (by simp) _ st
 item:=by
  intro X hP hw hK hc i pins s σ H E I hf st hg
  subst hP hw hK
  obtain ⟨f0,f1,f2,f3,f4,f5⟩:=hf it (by simp)
  have W:=Walks.range (prog:=X.prog) (w:=X.w) (I.ok.hd hc) it lo 1 n
  refine W.item i s _ _ hg st fun v h' tk hv st' kk=>?_
  obtain ⟨t,rfl⟩:=hv
  have I1:Inv X pins σ H { s with heap:=h',toks:=tk }:=I.turned (fun b o hb e=>kk b o (by simpa using hb) e) f0 f1 f3 f4 f5
  refine ⟨_,rfl,zlw (s:={ s with heap:=h',toks:=tk }) (n := "range_iterator") st' rfl rfl (by decide) ⟨.int (lo+i),H,I1,⟨t,?_⟩,⟨rfl,rfl⟩,st',fun b hb=>(hf b hb).1⟩⟩
  rw [Int.mul_one]
 done:=by
  intro X hP hw hK hc i pins s σ H E I hf st hg
  subst hP hw hK
  obtain ⟨f0,f1,f2,f3,f4,f5⟩:=hf it (by simp)
  exact wpAny_pyNext_range_end (I.ok.hd hc) st (by have:n≤i:=hg;omega) fun h' eb=>⟨rfl,I.turned (t':=s.toks) (fun b o hb e=>eb b o hb e) f0 f1 f3 f4 f5⟩
 self:=fun _ _ _ _ _ st h=>wpAny_pyIter_rangeiter st h
section
variable {X:Cx}{tg:Expr}
inductive iList_1 (K:W.Frag)(R:It→Hp→Prop)(x:V)(H1:Hp):Prop
 | mk (a:_) (z0_:x = .ref a) (z1_:(∃ xs,SqL K H1 a xs)) (z2_:R (Itl K a) H1)
def iList (K:W.Frag)(tl:TE):TI:=fun σ H R=>tl σ H (iList_1 K R)
inductive iTup_1 (K:W.Frag)(R:It→Hp→Prop)(x:V)(H1:Hp):Prop
 | mk (a:_) (z0_:x = .ref a) (z1_:(∃ xs,SqT K H1 a xs)) (z2_:R (Itt K a) H1)
def iTup (K:W.Frag)(tl:TE):TI:=fun σ H R=>tl σ H (iTup_1 K R)
theorem zby {l:Expr}{tl:TE}(hl:PE X l tl):PI X tg l (iList X.K tl):=by
 intro pins s σ H R I h
 refine thn (hl pins s σ H _ I h) fun v s1 hh_=>?_
 obtain ⟨x,H1,I1,r1,q1⟩:=hh_
 obtain ⟨a,e,⟨xs,hq⟩,q⟩:=q1
 subst e
 cases r1
 obtain ⟨its,rv,p,hz⟩:=I1.list hq
 refine wpAny_pyIter_list p.isList ?_
 refine ⟨s1.heap.objs.size,[s1.heap.objs.size],_,_,H1,rfl,I1.kept (t':=s1.toks) fun b o e=>Xab _ e,zjc a _,⟨_,Xaj _ rfl,rfl,rfl⟩,fun b hb=>?_,q⟩
 have e:b=s1.heap.objs.size:=by simpa using hb
 subst e
 exact I1.fpOk (Xae _) (I1.hok.fresh (Xae _))
theorem zhZ {l:Expr}{tl:TE}(hl:PE X l tl):PI X tg l (iTup X.K tl):=by
 intro pins s σ H R I h
 refine thn (hl pins s σ H _ I h) fun v s1 hh_=>?_
 obtain ⟨x,H1,I1,r1,q1⟩:=hh_
 obtain ⟨a,e,⟨xs,hq⟩,q⟩:=q1
 subst e
 cases r1
 obtain ⟨its,rv,p,hz⟩:=I1.tuple hq
 refine XbT (show s1.heap.IsTuple a its.toArray from p) ?_
 refine ⟨s1.heap.objs.size,[s1.heap.objs.size],_,_,H1,rfl,I1.kept (t':=s1.toks) fun b o e=>Xab _ e,ziq a _,⟨_,Xaj _ rfl,rfl,rfl⟩,fun b hb=>?_,q⟩
 have e:b=s1.heap.objs.size:=by simpa using hb
 subst e
 exact I1.fpOk (Xae _) (I1.hok.fresh (Xae _))
theorem zkZ {pins:List (Addr×Obj)}{σ:St}{H:Hp}{s:Shared}{R:It→Hp→Prop}{E:Value→Shared→Prop}{lo hi:Int}{t u v:Tok}{tk:Nat}(I:Inv X pins σ H s)(h1:-(2 ^ 62)≤lo)(h2:lo<2 ^ 62)(h3:-(2 ^ 62)≤hi)(h4:hi<2 ^ 62)
  (q:R (Itr lo (hi - lo).toNat) H):wpAny (model X.prog X.w) X.A (pyIter (.ref s.heap.objs.size)) (PIE X pins σ tg R) E { s with heap:=s.heap.push { cls:=.type "range",data:=.fields #[.int lo t,.int hi u,.int 1 v] },toks:=tk }:=by
 refine wpAny_pyIter_range (IsRange.new ..) (small_one h1 h2 h3 h4) ?_
 have I1:Inv X pins σ H { s with heap:=s.heap.push { cls:=.type "range",data:=.fields #[.int lo t,.int hi u,.int 1 v] },toks:=tk }:=I.kept fun b o e=>Xab _ e
 refine ⟨(s.heap.push { cls:=.type "range",data:=.fields #[.int lo t,.int hi u,.int 1 v] }).objs.size,[(s.heap.push { cls:=.type "range",data:=.fields #[.int lo t,.int hi u,.int 1 v] }).objs.size],_,_,H,rfl,
  I1.kept (t':=tk) fun b o e=>Xab _ e,zir _ lo (hi - lo).toNat,?_,fun b hb=>?_,q⟩
 ·have e1:lo+((0:Nat):Int) * 1=lo:=by simp
  have e2:(((hi - lo).toNat:Nat):Int) - ((0:Nat):Int)=Builtin.Range.rangeSize lo hi 1:=by rw [rangeSize_one];split <;> omega
  show IsRangeIter _ _ (lo+((0:Nat):Int) * 1) ((((hi - lo).toNat:Nat):Int) - ((0:Nat):Int)) 1
  rw [e1,e2]
  exact Xaj _ rfl
 ·have e:b=(s.heap.push { cls:=.type "range",data:=.fields #[.int lo t,.int hi u,.int 1 v] }).objs.size:=by simpa using hb
  subst e
  exact I1.fpOk (Xae _) (I1.hok.fresh (Xae _))
inductive iRng1_1 (R:It→Hp→Prop)(vs:List V)(H1:Hp):Prop
 | mk (j:Int) (z0_:vs=[.int j]) (z1_:-(2 ^ 62)≤j) (z2_:j<2 ^ 62) (z3_:R (Itr 0 j.toNat) H1)
def iRng1 (ta:TA):TI:=fun σ H R=>ta σ H (iRng1_1 R)
theorem zaU {a:Expr}{ta:TA}{p pos:Pos}(hg:Gl X "range")(hm:X.mg "range" = none)(ha:PA X [a] ta)(hs:starEach [a] X.env=[(false,eval a X.env)]:=by rfl):PI X tg (.Call (.Name "range" p) [a] [] pos) (iRng1 ta):=by
 intro pins s σ H R I h
 refine Call_ (zc6 I hg hm boot_range (PyProof.Rows.callWith_type1 (thn (ha pos pins s σ H _ I h) fun us s1 hh_=>?_) hs rfl))
 obtain ⟨vs,H1,I1,r1,q1⟩:=hh_
 obtain ⟨j,e,q1,q2,q⟩:=q1
 subst e
 cases r1 with
 | cons r rr =>
  cases rr
  obtain ⟨t,rfl⟩:=r
  exact call_range_1 (zkZ I1 (by omega) (by omega) q1 q2 (by simpa using q))
def tFor (wi:TI)(g:TG)(tb:TS):TS:=fun D σ H=>wi σ H fun J H1=>∃ W:Nat→Nat→St→Hp→Prop,(∃ m,W 0 m σ H1)∧∀ i m σ H,W i m σ H →
 (J.stop i H∧D.nx σ H)∨(J.go i H∧∃ N:St→Hp→Prop,(∀ σ' H',N σ' H'→∃ m',m'<m∧W (i+1) m' σ' H')∧∀ x H',J.yld i H x H'→g x σ H' fun σ2 H2=>tb { D with nx:=N,ct:=N,bk:=D.nx } σ2 H2)
def zgb (fp:List Addr)(h:Heap):List (Addr×Obj):=fp.filterMap fun b=>(h.get? b).map fun o=>(b,o)
theorem zcw {fp:List Addr}{h:Heap}{b:Addr}{o:Obj}(hb:b∈fp)(e:h.get? b=some o):(b,o)∈zgb fp h:=List.mem_filterMap.mpr ⟨b,hb,by rw [e];rfl⟩
theorem zjN {fp:List Addr}{h:Heap}{p:Addr×Obj}(hp:p∈zgb fp h):p.1∈fp∧h.get? p.1=some p.2:=by
 obtain ⟨b,hb,e⟩:=List.mem_filterMap.mp hp
 cases q:h.get? b with
 | none=>rw [q] at e;cases e
 | some o =>
  rw [q] at e
  have e':(b,o)=p:=Option.some.inj e
  subst e'
  exact ⟨hb,q⟩
theorem Inv.pinned {pins:List (Addr×Obj)}{σ:St}{H:Hp}{s:Shared}{fp:List Addr}(I:Inv X pins σ H s)(hf:∀ b∈fp,FpOk X pins H b)(ho:∀ b∈fp,∃ o,s.heap.get? b=some o∧∀ v,o.data≠.cell v):Inv X (pins ++ zgb fp s.heap) σ H s:=
 I.pins_of fun p hp=>(XaK.mp hp).elim (fun z=>I.pin p (XaC _ z)) fun z=>by
  obtain ⟨hb,e⟩:=zjN z
  obtain ⟨f0,f1,f2,_⟩:=hf p.1 hb
  obtain ⟨o,e',d⟩:=ho p.1 hb
  rw [e] at e';cases e'
  exact ⟨e,f0,f1,f2,d⟩
theorem Inv.unpinned {pins pl:List (Addr×Obj)}{σ:St}{H:Hp}{s:Shared}(I:Inv X (pins ++ pl) σ H s):Inv X pins σ H s:=I.pins_of fun p hp=>I.pin p (XaC _ (Xbu _ hp))
theorem za4 {iter:Expr}{body:List Stmt}{wi:TI}{g:TG}{tb:TS}{pos:Pos}(hp:PassesOwn (model X.prog X.w) X.A X.env X.xe)(hc:X.calm=true)(hi:PI X tg iter wi)(hg:PG X tg g)(hb:PSs X body tb)
  (hs:∀ x,foldedSetIterable iter X.env x=pure x:=by intro _;rfl):PS X (.For tg iter body [] pos) (tFor wi g tb):=by
 intro pins s σ H D I h
 refine wpAny_For (thn (hi pins s σ H _ I h) fun v s1 h1=>thn h1 fun itv s2 h2=>?_) hs
 obtain ⟨it,fp,tn,J,H2,e,I2,T,st2,f2,W,⟨m0,w0⟩,turn⟩:=h2
 subst e
 
 have stat:∀ {H':Hp},(∀ b∈fp,H' b=none)→∀ b∈fp,FpOk X pins H' b:=fun hn b hb=>⟨hn b hb,(f2 b hb).2⟩
 refine codeAny_forLoop_any (fun n s'=>∃ i σ' H',Inv X pins σ' H' s'∧tn i s'.heap∧(∀ b∈fp,H' b=none)∧W i n σ' H') ?_ m0 ⟨0,σ,H2,I2,st2,fun b hb=>(f2 b hb).1,w0⟩
 rintro n s3 ⟨i,σ3,H3,I3,st3,fr3,w3⟩
 rcases turn i n σ3 H3 w3 with ⟨stop,qn⟩ | ⟨go,N,hN,step⟩
 ·refine Xbv hp (thn (T.done X rfl rfl rfl hc i pins s3 σ3 H3 X.xe I3 (stat fr3) st3 stop) fun r s4 ⟨hr,I4⟩=>?_)
  subst hr
  exact wpAny_execs_nil ⟨σ3,H3,I4,qn⟩
 ·refine Xbv hp (thn (T.item X rfl rfl rfl hc i pins s3 σ3 H3 X.xe I3 (stat fr3) st3 go) fun r s4 ⟨u,hr,h4⟩=>?_)
  subst hr
  refine Xbv hp (thn h4 fun _ s5 hh_=>?_)
  obtain ⟨x,H5,I5,r5,y5,st5,fr5⟩:=hh_
  have I5':=I5.pinned (stat fr5) (T.obj _ _ st5)
  refine Xbv hp (thn (hg _ s5 σ3 H5 x u _ I5' r5 (step x H5 y5)) fun _ s6 ⟨σ6,H6,I6,q6⟩=>?_)
  refine Xbv hp (thn (hb _ s6 σ6 H6 _ I6 q6) fun f s7 q7=>?_)
  have again:∀ {σ7:St} {H7:Hp},Inv X (pins ++ zgb fp s5.heap) σ7 H7 s7→N σ7 H7→∃ m,m<n∧∃ i σ' H',Inv X pins σ' H' s7∧tn i s7.heap∧(∀ b∈fp,H' b=none)∧W i m σ' H':=fun {σ7 H7} I7 n7=>by
   obtain ⟨m',hm,w7⟩:=hN σ7 H7 n7
   refine ⟨m',hm,i+1,σ7,H7,I7.unpinned,T.keep _ _ _ st5 fun b hb o e=>(I7.pin (b,o) (XaC _ (XaC _ (zcw hb e)))).1,fun b hb=>?_,w7⟩
   obtain ⟨o,e,d⟩:=T.obj _ _ st5 b hb
   exact (I7.pin (b,o) (XaC _ (XaC _ (zcw hb e)))).2.1
  cases f with
  | next=>obtain ⟨σ7,H7,I7,n7⟩:=q7;exact again I7 n7
  | cont=>obtain ⟨σ7,H7,I7,n7⟩:=q7;exact again I7 n7
  | brk=>obtain ⟨σ7,H7,I7,q7⟩:=q7;exact ⟨σ7,H7,I7.unpinned,q7⟩
  | ret v=>obtain ⟨x7,σ7,H7,I7,r7,q7⟩:=q7;exact ⟨x7,σ7,H7,I7.unpinned,r7,q7⟩
end
theorem zcx {K:PySem.W.Frag}{a:Addr}{xs:List V}{g:TG}{tb:TS}{D:Ends}{σ:St}{H:Hp}(Pv:Nat→St→Hp→Prop)(h0:Pv 0 σ H)(hl:∀ i σ H,i≤xs.length→Pv i σ H→SqL K H a xs)
  (hs:∀ i x σ H,xs[i]? = some x→Pv i σ H→g x σ H fun σ2 H2=>tb { D with nx:=Pv (i+1),ct:=Pv (i+1),bk:=D.nx } σ2 H2) (hd:∀ σ H,Pv xs.length σ H→D.nx σ H) :
  ∃ W:Nat→Nat→St→Hp→Prop,(∃ m,W 0 m σ H)∧∀ i m σ H,W i m σ H →
   ((Itl K a).stop i H∧D.nx σ H)∨((Itl K a).go i H∧∃ N:St→Hp→Prop,(∀ σ' H',N σ' H'→∃ m',m'<m∧W (i+1) m' σ' H')∧∀ x H',(Itl K a).yld i H x H'→g x σ H' fun σ2 H2=>tb { D with nx:=N,ct:=N,bk:=D.nx } σ2 H2):=by
 refine ⟨fun i m σ H=>m=xs.length - i∧i≤xs.length∧Pv i σ H,⟨xs.length,by simp,Nat.zero_le _,h0⟩,?_⟩
 rintro i m σ H ⟨rfl,hi,p⟩
 have q:=hl i σ H hi p
 by_cases hlt:i<xs.length
 ·refine .inr ⟨⟨xs,xs[i],q,by simp [hlt]⟩,Pv (i+1),fun σ' H' p'=>⟨xs.length - (i+1),by omega,rfl,hlt,p'⟩,fun x H' y=>?_⟩
  obtain ⟨e,y⟩:=y
  subst e
  exact hs i x σ _ (y xs q) p
 ·have e:i=xs.length:=by omega
  subst e
  exact .inl ⟨⟨xs,q,Xae _⟩,hd σ H p⟩
theorem zbb {lo:Int}{n:Nat}{g:TG}{tb:TS}{D:Ends}{σ:St}{H:Hp}(Pv:Nat→St→Hp→Prop)(h0:Pv 0 σ H)
  (hs:∀ i σ H,i<n→Pv i σ H→g (.int (lo+i)) σ H fun σ2 H2=>tb { D with nx:=Pv (i+1),ct:=Pv (i+1),bk:=D.nx } σ2 H2) (hd:∀ σ H,Pv n σ H→D.nx σ H) :
  ∃ W:Nat→Nat→St→Hp→Prop,(∃ m,W 0 m σ H)∧∀ i m σ H,W i m σ H →
   ((Itr lo n).stop i H∧D.nx σ H)∨((Itr lo n).go i H∧∃ N:St→Hp→Prop,(∀ σ' H',N σ' H'→∃ m',m'<m∧W (i+1) m' σ' H')∧∀ x H',(Itr lo n).yld i H x H'→g x σ H' fun σ2 H2=>tb { D with nx:=N,ct:=N,bk:=D.nx } σ2 H2):=by
 refine ⟨fun i m σ H=>m=n - i∧i≤n∧Pv i σ H,⟨n,by simp,Nat.zero_le _,h0⟩,?_⟩
 rintro i m σ H ⟨rfl,hi,p⟩
 by_cases hlt:i<n
 ·refine .inr ⟨hlt,Pv (i+1),fun σ' H' p'=>⟨n - (i+1),by omega,rfl,hlt,p'⟩,fun x H' y=>?_⟩
  obtain ⟨e,y⟩:=y
  subst e y
  exact hs i σ _ hlt p
 ·have e:i=n:=by omega
  subst e
  exact .inl ⟨Xae _,hd σ H p⟩
theorem zdW {c:TT}{tb:TS}{D:Ends}{σ:St}{H:Hp}(Pv:St→Hp→Prop)(μ:St→Hp→Nat)(h0:Pv σ H)
  (hs:∀ σ H,Pv σ H→c σ H fun b H1=>if b=true then tb { D with nx:=fun σ' H'=>Pv σ' H'∧μ σ' H'<μ σ H,ct:=fun σ' H'=>Pv σ' H'∧μ σ' H'<μ σ H,bk:=D.nx } σ H1 else D.nx σ H1)
  (mono:∀ σ H Q Q',(∀ b H1,Q b H1→Q' b H1)→c σ H Q→c σ H Q'):zlP c tb D σ H:=by
 refine ⟨fun m σ H=>m=μ σ H∧Pv σ H,⟨_,rfl,h0⟩,?_⟩
 rintro m σ H ⟨rfl,p⟩
 refine mono σ H _ _ (fun b H1 q=>?_) (hs σ H p)
 cases b with
 | true=>exact ⟨_,fun σ' H' ⟨p',l⟩=>⟨_,l,rfl,p'⟩,q⟩
 | false=>exact q
abbrev R2:=V→V→Hp→VK→Prop
def OpR (X:Cx)(f:Value→Value→Sem Value)(r:R2):Prop:=
 ∀ (pins:List (Addr×Obj)) (s:Shared) (σ:St) (H:Hp) (x y:V) (v u:Value) (Q:VK),Inv X pins σ H s→RelV x v→RelV y u→r x y H Q →
  wpAny (model X.prog X.w) X.A (f v u) (EP X pins σ Q) X.xe s
def UnR (X:Cx)(f:Value→Sem Value)(r:V→Hp→VK→Prop):Prop:=
 ∀ (pins:List (Addr×Obj)) (s:Shared) (σ:St) (H:Hp) (x:V) (v:Value) (Q:VK),Inv X pins σ H s→RelV x v→r x H Q →
  wpAny (model X.prog X.w) X.A (f v) (EP X pins σ Q) X.xe s
def zdI (X:Cx)(f:Value)(r:List V→Hp→VK→Prop):Prop:=
 ∀ (pins:List (Addr×Obj)) (s:Shared) (σ:St) (H:Hp) (xs:List V) (us:List Value) (Q:VK),Inv X pins σ H s→Vals xs us→r xs H Q →
  wpAny (model X.prog X.w) X.A (call f us) (EP X pins σ Q) X.xe s
def TruR (X:Cx)(r:V→Hp→(Bool→Hp→Prop)→Prop):Prop:=
 ∀ (pins:List (Addr×Obj)) (s:Shared) (σ:St) (H:Hp) (x:V) (v:Value) (Q:Bool→Hp→Prop),Inv X pins σ H s→RelV x v→r x H Q →
  wpAny (model X.prog X.w) X.A (truthy v) (TP X pins σ Q) X.xe s
def tOp (r:R2)(ta tb:TE):TE:=fun σ H Q=>ta σ H fun x H1=>tb σ H1 fun y H2=>r x y H2 Q
def tUn (r:V→Hp→VK→Prop)(ta:TE):TE:=fun σ H Q=>ta σ H fun x H1=>r x H1 Q
inductive rI (C:Int→Int→Prop)(g:Int→Int→V)(x:V)(y:V)(H:Hp)(Q:VK):Prop
 | mk (i:_) (j:_) (z0_:x = .int i) (z1_:y = .int j) (z2_:C i j) (z3_:Q (g i j) H)
inductive rI0 (g:Int→Int→V)(x:V)(y:V)(H:Hp)(Q:VK):Prop
 | mk (i:_) (j:_) (z0_:x = .int i) (z1_:y = .int j) (z2_:Q (g i j) H)
inductive rU (g:Int→V)(x:V)(H:Hp)(Q:VK):Prop
 | mk (i:_) (z0_:x = .int i) (z1_:Q (g i) H)
section
variable {X:Cx}{a b c:Expr}{ta tb tc:TE}{pos:Pos}
theorem binT (ha:PE X a ta)(hb:PE X b tb){pins:List (Addr×Obj)}{s:Shared}{σ:St}{H:Hp}{R:V→V→Hp→Prop}(I:Inv X pins σ H s)
  (h:ta σ H fun x H1=>tb σ H1 fun y H2=>R x y H2) {Q:Value→Shared→Prop} {f:Value→Value→Sem Value}
  (hf:∀ v u s2 x y H2,Inv X pins σ H2 s2→RelV x v→RelV y u→R x y H2→wpAny (model X.prog X.w) X.A (f v u) Q X.xe s2) :
  wpAny (model X.prog X.w) X.A (eval a X.env) (fun v s₁=>wpAny (model X.prog X.w) X.A (eval b X.env) (fun u s₂=>wpAny (model X.prog X.w) X.A (f v u) Q X.xe s₂) X.xe s₁) X.xe s:=by
 refine thn (ha pins s σ H _ I h) fun v s1 hh_=>?_
 obtain ⟨x,H1,I1,r1,q1⟩:=hh_
 refine thn (hb pins s1 σ H1 _ I1 q1) fun u s2 hh_=>?_
 obtain ⟨y,H2,I2,r2,q2⟩:=hh_
 exact hf v u s2 x y H2 I2 r1 r2 q2
theorem zaj {op:Operator}{r:R2}(ho:OpR X (binaryOp op) r)(ha:PE X a ta)(hb:PE X b tb):PE X (.BinOp a op b pos) (tOp r ta tb):=by
 intro pins s σ H Q I h
 exact wpAny_BinOp (binT ha hb I h fun v u s2 x y H2 I2 rx ry q=>ho pins s2 σ H2 x y v u Q I2 rx ry q)
theorem pe_un {op:UnaryOp}{r:V→Hp→VK→Prop}(ho:UnR X (unaryOp op) r)(ha:PE X a ta):PE X (.UnaryOp op a pos) (tUn r ta):=by
 intro pins s σ H Q I h
 exact UnaryOp_ (thn (ha pins s σ H _ I h) fun v s1 ⟨x,H1,I1,r1,q1⟩=>ho pins s1 σ H1 x v Q I1 r1 q1)
theorem opI {f:Value→Value→Sem Value}{C:Int→Int→Prop}{g:Int→Int→Int}
  (rule:∀ (i j:Int) (t u:Tok) (s:Shared) (Q:Value→Shared→Prop) (E:Value→Shared→Prop),C i j→Q (.int (g i j) s.toks) { s with toks:=s.toks+1 }→wpAny (model X.prog X.w) X.A (f (.int i t) (.int j u)) Q E s) :
  OpR X f (rI C fun i j=>.int (g i j)):=by
 intro pins s σ H x y v u Q I rx ry h
 obtain ⟨i,j,rfl,rfl,hc,q⟩:=h
 obtain ⟨t,rfl⟩:=rx
 obtain ⟨t',rfl⟩:=ry
 exact rule i j t t' s _ _ hc ⟨.int (g i j),H,I.tok _,⟨_,rfl⟩,q⟩
theorem opI0 {f:Value→Value→Sem Value}{g:Int→Int→Int}
  (rule:∀ (i j:Int) (t u:Tok) (s:Shared) (Q:Value→Shared→Prop) (E:Value→Shared→Prop),Q (.int (g i j) s.toks) { s with toks:=s.toks+1 }→wpAny (model X.prog X.w) X.A (f (.int i t) (.int j u)) Q E s) :
  OpR X f (rI0 fun i j=>.int (g i j)):=by
 intro pins s σ H x y v u Q I rx ry h
 obtain ⟨i,j,rfl,rfl,q⟩:=h
 obtain ⟨t,rfl⟩:=rx
 obtain ⟨t',rfl⟩:=ry
 exact rule i j t t' s _ _ ⟨.int (g i j),H,I.tok _,⟨_,rfl⟩,q⟩
theorem opB0 {f:Value→Value→Sem Value}{g:Int→Int→Bool}
  (rule:∀ (i j:Int) (t u:Tok) (s:Shared) (Q:Value→Shared→Prop) (E:Value→Shared→Prop),Q (.bool (g i j)) s→wpAny (model X.prog X.w) X.A (f (.int i t) (.int j u)) Q E s) :
  OpR X f (rI0 fun i j=>.bl (g i j)):=by
 intro pins s σ H x y v u Q I rx ry h
 obtain ⟨i,j,rfl,rfl,q⟩:=h
 obtain ⟨t,rfl⟩:=rx
 obtain ⟨t',rfl⟩:=ry
 exact rule i j t t' s _ _ ⟨.bl (g i j),H,I,rfl,q⟩
def CDiv (i j:Int):Prop:=0<j∧j<1073741824
def CPow (i j:Int):Prop:=0≤j∧j≤1000000∧i.natAbs<2 ^ 64
theorem zio (k:Nat):(0:Int)≤2 ^ k:=by
 rw [two_pow_cast]
 exact XbU _
theorem zaS:OpR X (binaryOp .Add) (rI0 fun i j=>.int (i+j)):=opI0 fun _ _ _ _ _ _ _ q=>add_int q
theorem zbC:OpR X (binaryOp .Sub) (rI0 fun i j=>.int (i - j)):=opI0 fun _ _ _ _ _ _ _ q=>sub_int q
theorem zaD:OpR X (binaryOp .Mod) (rI (fun _ j=>0<j) fun i j=>.int (i % j)):=opI fun i j _ _ _ _ _ hc q=>by
 have h1:(0:Int)<j:=hc
 exact mod_int' (by omega) (by rw [Int.fmod_eq_emod_of_nonneg i (by omega)];exact q)
theorem zh6:OpR X (binaryOp .Pow) (rI CPow fun i j=>.int (i ^ j.toNat)):=opI fun _ _ _ _ _ _ _ hc q=>pow_int_small hc.1 hc.2.1 hc.2.2 q
theorem zc1:OpR X (binaryOp .LShift) (rI CPow fun i j=>.int (i * 2 ^ j.toNat)):=opI fun _ _ _ _ _ _ _ hc q=>lshift_int_small hc.1 hc.2.1 hc.2.2 q
theorem zjG:OpR X (binaryOp .RShift) (rI (fun _ j=>0≤j) fun i j=>.int (i / 2 ^ j.toNat)):=opI fun i j _ _ _ _ _ hc q =>
 rshift_int hc (by rw [Int.fdiv_eq_ediv_of_nonneg i (zio _)];exact q)
theorem zaP:OpR X (binaryOp .BitAnd) (rI0 fun i j=>.int (Builtin.bitAnd i j)):=opI0 fun _ _ _ _ _ _ _ q=>and_int q
theorem zjH:OpR X (binaryOp .BitOr) (rI0 fun i j=>.int (Builtin.bitOr i j)):=opI0 fun _ _ _ _ _ _ _ q=>or_int q
theorem zh5:OpR X (binaryOp .BitXor) (rI0 fun i j=>.int (Builtin.bitXor i j)):=opI0 fun _ _ _ _ _ _ _ q=>xor_int q
theorem zdC:OpR X (inplaceOp .Add) (rI0 fun i j=>.int (i+j)):=opI0 fun _ _ _ _ _ _ _ q=>iadd_int q
theorem zlt:OpR X (inplaceOp .FloorDiv) (rI CDiv fun i j=>.int (i / j)):=opI fun i j _ _ _ _ _ hc q=>by
 have h1:(0:Int)<j:=hc.1
 have h2:j<1073741824:=hc.2
 exact ifloordiv_int (by omega) (by rw [Int.fdiv_eq_ediv_of_nonneg i (by omega)];exact q) (.inl (PyProof.noPylong_small (by omega)))
theorem unI {f:Value→Sem Value}{g:Int→Int}
  (rule:∀ (i:Int) (t:Tok) (s:Shared) (Q:Value→Shared→Prop) (E:Value→Shared→Prop),Q (.int (g i) s.toks) { s with toks:=s.toks+1 }→wpAny (model X.prog X.w) X.A (f (.int i t)) Q E s) :
  UnR X f (rU fun i=>.int (g i)):=by
 intro pins s σ H x v Q I rx h
 obtain ⟨i,rfl,q⟩:=h
 obtain ⟨t,rfl⟩:=rx
 exact rule i t s _ _ ⟨.int (g i),H,I.tok _,⟨_,rfl⟩,q⟩
theorem un_neg:UnR X (unaryOp .USub) (rU fun i=>.int (-i)):=unI fun _ _ _ _ _ q=>neg_int q
theorem un_inv:UnR X (unaryOp .Invert) (rU fun i=>.int (Builtin.bitNot i)):=unI fun _ _ _ _ _ q=>invert_int q
end
def scal:V→V→Bool
 | .non,.non=>true | .non,.int _=>true | .int _,.non=>true | .non,.bl _=>true | .bl _,.non=>true | .non,.str _=>true | .str _,.non=>true
 | .int _,.int _=>true | .bl _,.bl _=>true | .str _,.str _=>true | .byt _,.byt _=>true
 | .int _,.str _=>true | .str _,.int _=>true | .bl _,.str _=>true | .str _,.bl _=>true
 | _,_=>false
def rEq:R2:=fun x y H Q=>scal x y=true∧Q (.bl (decide (x=y))) H
def rNe:R2:=fun x y H Q=>scal x y=true∧Q (.bl (!decide (x=y))) H
theorem zkh {i j:Int}:decide (V.int i=V.int j)=(i == j):=by
 rw [XbV]
 simp
theorem zma {i j:Bool}:decide (V.bl i=V.bl j)=(i == j):=by
 rw [XbV]
 simp
theorem zkg {i j:Str}:decide (V.str i=V.str j)=(i == j):=by
 rw [XbV]
 simp
theorem zki {i j:Array UInt8}:decide (V.byt i=V.byt j)=(i.toList == j.toList):=by
 rw [XbV]
 cases i
 cases j
 simp
section
variable {X:Cx}{a b c:Expr}{ta tb tc:TE}{pos:Pos}
theorem zaH {pins:List (Addr×Obj)}{σ:St}{H:Hp}{s:Shared}{Q:VK}{k k':Bool}(I:Inv X pins σ H s)(q:Q (.bl k) H)(e:k=k'):EP X pins σ Q (.bool k') s:=by
 subst e
 exact ⟨.bl k,H,I,rfl,q⟩
theorem zbk:OpR X (compareOp .Eq) rEq:=by
 intro pins s σ H x y v u Q I rx ry h
 obtain ⟨hs,q⟩:=h
 cases x with
 | non =>
  cases rx
  cases y with
  | non=>cases ry;exact PySem.EqNone.eq_none_none (zaH I q (by simp))
  | bl j=>cases ry;exact PySem.EqNone.eq_none_bool (zaH I q (by simp))
  | int j=>obtain ⟨t',rfl⟩:=ry;exact PySem.EqNone.eq_none_int (zaH I q (by simp))
  | str j=>obtain ⟨t',rfl⟩:=ry;exact PySem.EqNone.eq_none_str (zaH I q (by simp))
  | _=>exact absurd (show false=true from hs) Xap
 | bl i =>
  cases rx
  cases y with
  | non=>cases ry;exact PySem.EqNone.eq_bool_none (zaH I q (by simp))
  | bl j=>cases ry;exact eq_bool (zaH I q zma)
  | str j=>obtain ⟨t',rfl⟩:=ry;exact PySem.EqMixed.eq_bool_str (zaH I q (by simp))
  | _=>exact absurd (show false=true from hs) Xap
 | int i =>
  obtain ⟨t,rfl⟩:=rx
  cases y with
  | non=>cases ry;exact PySem.EqNone.eq_int_none (zaH I q (by simp))
  | int j=>obtain ⟨t',rfl⟩:=ry;exact eq_int (zaH I q zkh)
  | str j=>obtain ⟨t',rfl⟩:=ry;exact PySem.EqMixed.eq_int_str (zaH I q (by simp))
  | _=>exact absurd (show false=true from hs) Xap
 | str i =>
  obtain ⟨t,rfl⟩:=rx
  cases y with
  | non=>cases ry;exact PySem.EqNone.eq_str_none (zaH I q (by simp))
  | bl j=>cases ry;exact PySem.EqMixed.eq_str_bool (zaH I q (by simp))
  | int j=>obtain ⟨t',rfl⟩:=ry;exact PySem.EqMixed.eq_str_int (zaH I q (by simp))
  | str j=>obtain ⟨t',rfl⟩:=ry;exact eq_str (zaH I q zkg)
  | _=>exact absurd (show false=true from hs) Xap
 | byt i =>
  obtain ⟨t,rfl⟩:=rx
  cases y with
  | byt j=>obtain ⟨t',rfl⟩:=ry;exact W.eq_bytes (zaH I q zki)
  | _=>exact absurd (show false=true from hs) Xap
 | _=>cases y <;> exact absurd (show false=true from hs) Xap
theorem zhi:OpR X (compareOp .NotEq) rNe:=by
 intro pins s σ H x y v u Q I rx ry h
 obtain ⟨hs,q⟩:=h
 cases x with
 | non =>
  cases rx
  cases y with
  | non=>cases ry;exact PySem.EqNone.ne_none_none (zaH I q (by simp))
  | bl j=>cases ry;exact PySem.EqNone.ne_none_bool (zaH I q (by simp))
  | int j=>obtain ⟨t',rfl⟩:=ry;exact PySem.EqNone.ne_none_int (zaH I q (by simp))
  | str j=>obtain ⟨t',rfl⟩:=ry;exact PySem.EqNone.ne_none_str (zaH I q (by simp))
  | _=>exact absurd (show false=true from hs) Xap
 | bl i =>
  cases rx
  cases y with
  | non=>cases ry;exact PySem.EqNone.ne_bool_none (zaH I q (by simp))
  | bl j=>cases ry;exact ne_bool (zaH I q (congrArg not zma))
  | str j=>obtain ⟨t',rfl⟩:=ry;exact PySem.EqMixed.ne_bool_str (zaH I q (by simp))
  | _=>exact absurd (show false=true from hs) Xap
 | int i =>
  obtain ⟨t,rfl⟩:=rx
  cases y with
  | non=>cases ry;exact PySem.EqNone.ne_int_none (zaH I q (by simp))
  | int j=>obtain ⟨t',rfl⟩:=ry;exact ne_int (zaH I q (congrArg not zkh))
  | str j=>obtain ⟨t',rfl⟩:=ry;exact PySem.EqMixed.ne_int_str (zaH I q (by simp))
  | _=>exact absurd (show false=true from hs) Xap
 | str i =>
  obtain ⟨t,rfl⟩:=rx
  cases y with
  | non=>cases ry;exact PySem.EqNone.ne_str_none (zaH I q (by simp))
  | bl j=>cases ry;exact PySem.EqMixed.ne_str_bool (zaH I q (by simp))
  | int j=>obtain ⟨t',rfl⟩:=ry;exact PySem.EqMixed.ne_str_int (zaH I q (by simp))
  | str j=>obtain ⟨t',rfl⟩:=ry;exact ne_str (zaH I q (congrArg not zkg))
  | _=>exact absurd (show false=true from hs) Xap
 | byt i =>
  obtain ⟨t,rfl⟩:=rx
  cases y with
  | byt j=>obtain ⟨t',rfl⟩:=ry;exact W.ne_bytes (zaH I q (congrArg not zki))
  | _=>exact absurd (show false=true from hs) Xap
 | _=>cases y <;> exact absurd (show false=true from hs) Xap
theorem zhj:OpR X (compareOp .Lt) (rI0 fun i j=>.bl (decide (i<j))):=opB0 fun _ _ _ _ _ _ _ q=>lt_int q
theorem ziB:OpR X (compareOp .LtE) (rI0 fun i j=>.bl (decide (i≤j))):=opB0 fun _ _ _ _ _ _ _ q=>le_int q
theorem zeD:OpR X (compareOp .Gt) (rI0 fun i j=>.bl (decide (j<i))):=opB0 fun _ _ _ _ _ _ _ q=>gt_int q
theorem op_ge:OpR X (compareOp .GtE) (rI0 fun i j=>.bl (decide (j≤i))):=opB0 fun _ _ _ _ _ _ _ q=>ge_int q
theorem zav (b:Expr){op:CmpOp}(h:op≠.In:=by decide)(h2:op≠.NotIn:=by decide):behindInMarks op b=false:=by
 have e1:(op == CmpOp.In)=false:=by cases op <;> first | rfl | exact absurd rfl h
 have e2:(op == CmpOp.NotIn)=false:=by cases op <;> first | rfl | exact absurd rfl h2
 cases b <;> simp [behindInMarks,e1,e2]
theorem zbA {op:CmpOp}{r:R2}(ho:OpR X (compareOp op) r)(ha:PE X a ta)(hb:PE X b tb)(hm:behindInMarks op b=false):PE X (.Compare a [op] [b] pos) (tOp r ta tb):=by
 intro pins s σ H Q I h
 exact wpAny_Compare1 (binT ha hb I h fun v u s2 x y H2 I2 rx ry q=>ho pins s2 σ H2 x y v u Q I2 rx ry q) hm
inductive tTest_1 (Q:Bool→Hp→Prop)(x:V)(H':Hp):Prop
 | mk (k:_) (z0_:x = .bl k) (z1_:Q k H')
def zmq (t:TE):TT:=fun σ H Q=>t σ H (tTest_1 Q)
theorem zat {op:CmpOp}{r:R2}(ho:OpR X (compareOp op) r)(ha:PE X a ta)(hb:PE X b tb)(hm:behindInMarks op b=false):PT X (.Compare a [op] [b] pos) (zmq (tOp r ta tb)):=by
 intro pins s σ H Q I h
 refine wpAny_isTrue_Compare1 (thn (ha pins s σ H _ I h) fun v s1 ⟨x,H1,I1,r1,q1⟩=>thn (hb pins s1 σ H1 _ I1 q1) fun u s2 ⟨y,H2,I2,r2,q2⟩ =>
  thn (ho pins s2 σ H2 x y v u _ I2 r1 r2 q2) fun c s3 ⟨z,H3,I3,r3,k,e,q3⟩=>?_) hm
 subst e
 cases r3
 exact Xa2 ⟨H3,I3,q3⟩
inductive tChain_1 (r':R2)(tc:TE)(σ:St)(Q:VK)(y:V)(z:V)(H3:Hp):Prop
 | mk (k:_) (z0_:z = .bl k) (z1_:(if k=true then tc σ H3 fun w' H4=>r' y w' H4 Q else Q (.bl false) H3))
def zlQ (r r':R2)(ta tb tc:TE):TE:=fun σ H Q=>ta σ H fun x H1=>tb σ H1 fun y H2=>r x y H2 (tChain_1 r' tc σ Q y)
theorem zlb {op op':CmpOp}{r r':R2}(ho:OpR X (compareOp op) r)(ho':OpR X (compareOp op') r')(ha:PE X a ta)(hb:PE X b tb)(hc:PE X c tc)
  (hm:lastMarks [op,op'] [b,c]=false:=by with_unfolding_all rfl):PE X (.Compare a [op,op'] [b,c] pos) (zlQ r r' ta tb tc):=by
 intro pins s σ H Q I h
 refine Compare_chain (thn (ha pins s σ H _ I h) fun v s1 ⟨x,H1,I1,r1,q1⟩=>chain_link (thn (hb pins s1 σ H1 _ I1 q1) fun u s2 ⟨y,H2,I2,r2,q2⟩ =>
  thn (ho pins s2 σ H2 x y v u _ I2 r1 r2 q2) fun d s3 ⟨z,H3,I3,r3,k,e,q3⟩=>?_)) hm
 subst e
 cases r3
 refine Xa2 ?_
 cases k with
 | false=>exact ite_ff ⟨.bl false,H3,I3,rfl,q3⟩
 | true=>exact ite_tt (chain_last (thn (hc pins s3 σ H3 _ I3 q3) fun w' s4 ⟨z',H4,I4,r4,q4⟩=>ho' pins s4 σ H4 y z' u w' Q I4 r2 r4 q4))
theorem zk2 {op op':CmpOp}{r r':R2}(ho:OpR X (compareOp op) r)(ho':OpR X (compareOp op') r')(ha:PE X a ta)(hb:PE X b tb)(hc:PE X c tc)
  (hm:lastMarks [op,op'] [b,c]=false:=by with_unfolding_all rfl):PT X (.Compare a [op,op'] [b,c] pos) (zmq (zlQ r r' ta tb tc)):=by
 intro pins s σ H Q I h
 refine isTrue_chain (thn (ha pins s σ H _ I h) fun v s1 ⟨x,H1,I1,r1,q1⟩=>test_link (thn (hb pins s1 σ H1 _ I1 q1) fun u s2 ⟨y,H2,I2,r2,q2⟩ =>
  thn (ho pins s2 σ H2 x y v u _ I2 r1 r2 q2) fun d s3 ⟨z,H3,I3,r3,k,e,q3⟩=>?_)) hm
 subst e
 cases r3
 refine Xa2 ?_
 cases k with
 | false =>
  obtain ⟨k',e',q'⟩:=q3
  cases e'
  exact ite_ff ⟨H3,I3,q'⟩
 | true =>
  refine ite_tt (test_last (thn (hc pins s3 σ H3 _ I3 q3) fun w' s4 ⟨z',H4,I4,r4,q4⟩=>thn (ho' pins s4 σ H4 y z' u w' _ I4 r2 r4 q4) fun d' s5 hh_=>?_))
  obtain ⟨z2,H5,I5,r5,k2,e2,q5⟩:=hh_
  subst e2
  cases r5
  exact Xa2 ⟨H5,I5,q5⟩
def TruV (K:W.Frag)(x:V)(H:Hp)(k:Bool):Prop:=
 match x with
 | .non=>k=false
 | .bl b=>k=b
 | .int i=>k=(i != 0)
 | .str y=>y.length≤sizeLine∧k=((y.length:Int) != 0)
 | .byt y=>y.size≤sizeLine∧k=((y.size:Int) != 0)
 | .ref p=>(∃ xs,SqL K H p xs∧k = !xs.isEmpty)∨(∃ xs,SqT K H p xs∧k = !xs.isEmpty)∨∃ kvs,H p=some (.dK kvs)∧k = !kvs.isEmpty
 | _=>False
theorem ziR {κ:Type}{kvs:List (κ×V)}{vs:List (κ×Value)}(r:KV kvs vs):(!vs.isEmpty) = !kvs.isEmpty:=by
 cases r <;> rfl
theorem zfg {xs:List V}{its:List Value}(r:Vals xs its):(!its.toArray.isEmpty) = !xs.isEmpty:=by
 cases r <;> simp
theorem zfe:(sizeLine:Nat)<2 ^ 63:=by rw [sizeLine_eq];decide
theorem tru_ok:TruR X (fun x H Q=>∃ k,TruV X.K x H k∧Q k H):=by
 intro pins s σ H x v Q I rx h
 obtain ⟨k,e,q⟩:=h
 have hl:=zfe
 have hs:sizeLine=16777216:=sizeLine_eq
 cases x with
 | non =>
  cases rx
  have e':k=false:=e
  subst e'
  exact truthy_none ⟨H,I,q⟩
 | bl b =>
  cases rx
  have e':k=b:=e
  subst e'
  exact Xa2 ⟨H,I,q⟩
 | int i =>
  obtain ⟨t,rfl⟩:=rx
  have e':k=(i != 0):=e
  subst e'
  exact PySem.P.truthy_int ⟨H,I,q⟩
 | str y =>
  obtain ⟨t,rfl⟩:=rx
  obtain ⟨hy,e'⟩:y.length≤sizeLine∧k=((y.length:Int) != 0):=e
  subst e'
  exact PySem.P.truthy_str (by omega) ⟨H,I.tok _,q⟩
 | byt y =>
  obtain ⟨t,rfl⟩:=rx
  obtain ⟨hy,e'⟩:y.size≤sizeLine∧k=((y.size:Int) != 0):=e
  subst e'
  exact W.truthy_bytes (by omega) ⟨H,I.tok _,q⟩
 | ref p =>
  cases rx
  have e':(∃ xs,SqL X.K H p xs∧k = !xs.isEmpty)∨(∃ xs,SqT X.K H p xs∧k = !xs.isEmpty)∨∃ kvs,H p=some (.dK kvs)∧k = !kvs.isEmpty:=e
  rcases e' with ⟨xs,hx,e'⟩ | ⟨xs,hx,e'⟩ | ⟨kvs,hx,e'⟩
  ·subst e'
   obtain ⟨its,r,pl,hz⟩:=I.list hx
   have hlen:=r.length
   exact wpAny_truthy_list pl.isList (by simp only [Xat];omega) ⟨H,I.tok _,by rw [zfg r];exact q⟩
  ·subst e'
   obtain ⟨its,r,pl,hz⟩:=I.tuple hx
   have hlen:=r.length
   exact truthy_tuple pl (by simp only [Xat];omega) ⟨H,I.tok _,by rw [zfg r];exact q⟩
  ·subst e'
   obtain ⟨hz,hS,vs,r,m⟩:kvs.length≤sizeLine∧(p == sysModules)=false∧∃ vs,KV kvs vs∧s.heap.DictOf (zaI X.prog X.w) p vs:=I.hok p _ hx
   have hlen:kvs.length=vs.length:=Paired.length r
   exact wpAny_truthy_dict hS m (by omega) ⟨H,I.tok _,by rw [ziR r];exact q⟩
 | _=>exact (show False from e).elim
theorem zfD (ha:PE X a ta)(he:∀ whole,isTrue a X.env whole=(do let v ← whole;standAt a.pos;holding [v] (truthy v))) :
  PT X a (fun σ H Q=>ta σ H fun x H'=>∃ k,TruV X.K x H' k∧Q k H'):=by
 intro pins s σ H Q I h
 exact isTrue_plain (thn (ha pins s σ H _ I h) fun v s1 ⟨x,H1,I1,r1,q1⟩=>tru_ok pins s1 σ H1 x v Q I1 r1 q1) (he _)
theorem ziC:OpR X (binaryOp .Add) (fun x y H Q=>∃ i j,x = .str i∧y = .str j∧i.length+j.length≤sizeLine∧Q (.str (i ++ j)) H):=by
 intro pins s σ H x y v u Q I rx ry h
 obtain ⟨i,j,rfl,rfl,hz,q⟩:=h
 obtain ⟨t,rfl⟩:=rx
 obtain ⟨t',rfl⟩:=ry
 exact add_str (fun t' tk=>⟨.str (i ++ j),H,I.tok _,⟨_,rfl⟩,q⟩) hz
theorem zd8 {x:V}{us:List Value}(r:Vals [x] us):∃ u,us=[u]∧RelV x u:=by
 cases r with
 | cons r1 r2=>cases r2;exact ⟨_,rfl,r1⟩
theorem zml {x y:V}{us:List Value}(r:Vals [x,y] us):∃ u w',us=[u,w']∧RelV x u∧RelV y w':=by
 cases r with
 | cons r1 r2 =>
  cases r2 with
  | cons r3 r4=>cases r4;exact ⟨_,_,rfl,r1,r3⟩
theorem zkt (hc:X.calm=true):zdI X (.builtin "max") (fun xs H Q=>∃ i j,xs=[.int i,.int j]∧Q (.int (if j > i then j else i)) H):=by
 intro pins s σ H xs us Q I r h
 obtain ⟨i,j,rfl,q⟩:=h
 obtain ⟨u,w',rfl,⟨t,rfl⟩,⟨t',rfl⟩⟩:=zml r
 refine max_two_ints (I.ok.hd hc) fun h' tk k=>⟨_,H,I.kept k,?_,q⟩
 by_cases hj:j > i
 ·rw [if_pos hj,if_pos hj];exact ⟨_,rfl⟩
 ·rw [if_neg hj,if_neg hj];exact ⟨_,rfl⟩
theorem zku:zdI X (.type "int") (fun xs H Q=>(∃ i,xs=[.int i]∧Q (.int i) H)∨∃ k,xs=[.bl k]∧Q (.int (if k then 1 else 0)) H):=by
 intro pins s σ H xs us Q I r h
 rcases h with ⟨i,rfl,q⟩ | ⟨k,rfl,q⟩
 ·obtain ⟨u,rfl,t,rfl⟩:=zd8 r
  exact call_int_int ⟨.int i,H,I,⟨_,rfl⟩,q⟩
 ·obtain ⟨u,rfl,r1⟩:=zd8 r
  cases r1
  exact call_int_bool ⟨.int (if k then 1 else 0),H,I.tok _,⟨_,rfl⟩,q⟩
end
structure ObjM (h:Heap)(x dx C:Addr)(mA:Str→Option Value):Prop where
 obj:h.get? x=some (W.instObj C dx)
 ns:h.Ns1 dx mA
 ne:dx≠x
set_option tactic.hygienic true in
theorem zjW {h:Heap}{dx:Addr}{mA:Str→Option Value}(n:h.Ns1 dx mA):∃ od,h.get? dx=some od∧∀ name,W.lookIn name od=some (mA name):=by
 obtain ⟨o,es,ep,ho,hd,hk,_,hm⟩:=n
 refine ⟨o,ho,fun name=>?_⟩
 have e:=hm name
 unfold nsFind findBy at e
 rw [← Array.find?_toList] at e
 unfold W.lookIn
 rw [hd]
 dsimp only
 split
 ·rename_i y q
  rw [q] at e
  exact congrArg some e
 ·rename_i q
  rw [q] at e
  have a:es.toList.any (·.refKey)=false:=by
   rw [List.any_eq_false]
   intro y hy
   obtain ⟨z,t,hkey⟩:=hk y (Array.mem_toList_iff.mp hy)
   simp [DictEntry.refKey,hkey]
  have a':¬ es.toList.any (·.refKey)=true:=by rw [a];exact Xap
  rw [if_neg a']
  exact congrArg some e
theorem ObjM.look {h:Heap}{x dx C:Addr}{mA:Str→Option Value}(I:ObjM h x dx C mA):∃ od,W.InstAt h x (W.instObj C dx) C (some od)∧∀ name,W.lookIn name od=some (mA name):=
 let ⟨od,ho,hl⟩:=zjW I.ns
 ⟨od,⟨I.obj,rfl,rfl,ho⟩,hl⟩
section
variable {prog:Program}{w:World}{A:Around}{E:Value→Shared→Prop}{s:Shared}{K:W.Frag}{x dx C f:Addr}{mA:Str→Option Value}{name:Str}{v:Value}
theorem zmW {expr:Bool}{Q:Value→Shared→Prop}(X:K.In s.heap)(I:ObjM s.heap x dx C mA)(hg:W.plainGet K C name=true)(hh:W.hasDictIn K C=true)
  (ha:W.findIn K (.ref C) name=some none) (hv:mA name=some v) (hv':W.handedIn v=true) (h:Q v { s with toks:=s.toks+1 }) :
  wpAny (model prog w) A (getAttr (.ref x) name expr) Q E s:=by
 obtain ⟨od,J,hl⟩:=I.look
 exact W.get_value X J (W.plainGet_of hg).1 (W.findObj_own hh ha rfl (by rw [hl,hv])) hv' h
theorem zlx {pl:Sem Bool}{Q:Value×List Value→Shared→Prop}(X:K.In s.heap)(I:ObjM s.heap x dx C mA)(hg:W.plainGet K C name=true)
  (hf:W.findIn K (.ref C) name=some (some (.ref f))) (ht:W.isFn K (.ref f)=true) (hv:mA name=none) (h:Q (.ref f,[.ref x]) s) :
  wpAny (model prog w) A (getMethod (.ref x) name pl) Q E s:=by
 obtain ⟨od,J,hl⟩:=I.look
 exact W.method_fn X J (W.plainGet_of hg).1 (W.plainGet_of hg).2 hf (beq_iff_eq.mp ht) (by show (W.lookIn name od).map (·.isSome)=some false;rw [hl,hv];rfl) h
theorem zmy {ns:List Str}{Q:Unit→Shared→Prop}(X:K.In s.heap)(I:ObjM s.heap x dx C mA)
  (hs:W.findIn K (.ref C) "__setattr__" = some (some (.builtin "object.__setattr__"))) (hp:W.plainOver K C=true) (ht:W.takerIn K C name=some none) (hh:W.hasDictIn K C=true)
  (hw:PySem.Within mA ns) (hsz:ns.length≤sizeLine)
  (h:∀ h',ObjM h' x dx C (fun y=>if y=name then some v else mA y)→Heap.SameBut dx s.heap h'→Q () { s with heap:=h',toks:=s.toks+2 }) :
  wpAny (model prog w) A (setAttr (.ref x) name v) Q E s:=by
 obtain ⟨od,J,hl⟩:=I.look
 refine W.set_plain X J hs (W.osa_open (s:={ s with toks:=s.toks+1 }) (r:=none) X J hp ht fun b=>?_)
 obtain ⟨cd,hc,hd'⟩:=W.any_some hh
 have hx:s.heap.get? x=some ⟨.ref C,some dx,.plain,#[]⟩:=I.obj
 refine Xaa (Xac (Xaa (Xaa (wpAny_loadPart hx (Xaa (W.Looks.here (s:={ s with toks:=s.toks+1 }) (W.looks_clsIn X hc) ?_))))))
 rw [hd']
 refine Xac (a:=some dx) (Xaa (Xac (Xaa ?_)))
 refine wpAny_nsSet1 (s:={ s with toks:=s.toks+1 }) I.ns fun h' hn2 hs2=>?_
 obtain ⟨oD,esD,epD,hoD,hdD,hcD⟩:=hn2.count (PySem.Within.cons name v hw)
 refine Xaa (wpAny_lookBehind hoD (by rw [hdD];exact pastItsLine_dict (Xam hcD (by rw [Xar];omega))) ?_)
 exact Xac (h _ ⟨(hs2.2 _ (Ne.symm I.ne)).trans I.obj,hn2,I.ne⟩ hs2)
theorem zlj {R:Result→Shared→Prop}{vs:List Value}{kw:List (Str×Value)}(X:K.In s.heap)(hm:W.makesIn K C=true)
  (hi:W.findIn K (.ref C) "__init__" = some (some (.ref f))) (hf:W.typeIn K (.ref f)=some (.type "function"))
  (h:codeAny (model prog w) (A.under (.builtin "type.__call__" ⟨.ref C :: vs,kw⟩)) (.call (.ref f) ⟨.ref (s.heap.objs.size+1) :: vs,kw⟩) (W.InitBack (s.heap.objs.size+1) R)
   { s with heap:=(s.heap.push W.emptyDict).push (W.instObj C s.heap.objs.size) }) :
  codeAny (model prog w) A (.call (.ref C) ⟨vs,kw⟩) R s:=by
 obtain ⟨hh,g,d,t,os⟩:=s
 exact W.make_core (W.makes_of X hm) (W.looks_findIn X hi) (fun self=>W.bind_fn X self hf) (.inl rfl) h
end
def putF (f:Str)(v:V):List (Str×V)→List (Str×V)
 | []=>[(f,v)]
 | (g,x) :: r=>if g=f then (g,v) :: r else (g,x) :: putF f v r
theorem zeN (f g:Str)(v:V):∀ fs:List (Str×V),(putF f v fs).lookup g=if g=f then some v else fs.lookup g
 | []=>by
  show List.lookup g [(f,v)]=_
  by_cases h:g=f
  ·have hb:(g == f)=true:=beq_iff_eq.mpr h
   simp only [List.lookup,hb,if_pos h]
  ·have hb:(g == f)=false:=beq_eq_false_iff_ne.mpr h
   simp only [List.lookup,hb,if_neg h]
 | (k,x) :: r=>by
  have ih:=zeN f g v r
  rw [show putF f v ((k,x) :: r)=(if k=f then (k,v) :: r else (k,x) :: putF f v r) from rfl]
  by_cases hk:k=f
  ·rw [if_pos hk]
   by_cases h:g=k
   ·have hb:(g == k)=true:=beq_iff_eq.mpr h
    simp only [List.lookup,hb,if_pos (h.trans hk)]
   ·have hb:(g == k)=false:=beq_eq_false_iff_ne.mpr h
    simp only [List.lookup,hb,if_neg (fun e:g=f=>h (e.trans hk.symm))]
  ·rw [if_neg hk]
   by_cases h:g=k
   ·have hb:(g == k)=true:=beq_iff_eq.mpr h
    simp only [List.lookup,hb,if_neg (fun e:g=f=>hk (h.symm.trans e))]
   ·have hb:(g == k)=false:=beq_eq_false_iff_ne.mpr h
    simp only [List.lookup,hb]
    exact ih
theorem zeR (f:Str)(v:V):∀ fs:List (Str×V),f∈(putF f v fs).map (·.1)∧∀ g,g∈fs.map (·.1)→g∈(putF f v fs).map (·.1)
 | []=>⟨by simp [putF],fun g h=>by simp at h⟩
 | (k,x) :: r=>by
  obtain ⟨i1,i2⟩:=zeR f v r
  rw [show putF f v ((k,x) :: r)=(if k=f then (k,v) :: r else (k,x) :: putF f v r) from rfl]
  by_cases hk:k=f
  ·rw [if_pos hk]
   subst hk
   exact ⟨by simp,fun g h=>by simpa using h⟩
  ·rw [if_neg hk]
   refine ⟨?_,fun g h=>?_⟩
   ·rw [XaJ]
    exact Xau _ i1
   ·rw [XaJ] at h ⊢
    rcases Xan.mp h with e | e
    ·exact Xan.mpr (.inl e)
    ·exact Xau _ (i2 g e)
theorem zeO (f:Str)(v:V):∀ fs:List (Str×V),(putF f v fs).length≤fs.length+1
 | []=>by simp [putF]
 | (k,x) :: r=>by
  have ih:=zeO f v r
  rw [show putF f v ((k,x) :: r)=(if k=f then (k,v) :: r else (k,x) :: putF f v r) from rfl]
  by_cases hk:k=f
  ·rw [if_pos hk,Xar,Xar];omega
  ·rw [if_neg hk,Xar,Xar];omega
theorem RelO.some_of {v:V}{o:Option Value}(r:RelO (some v) o):∃ u,o=some u∧RelV v u:=by
 cases o with
 | none=>exact (show False from r).elim
 | some u=>exact ⟨u,rfl,r⟩
theorem RelO.none_of {o:Option Value}(r:RelO none o):o=none:=by
 cases o with
 | none=>rfl
 | some u=>exact (show False from r).elim
theorem zj7 {v:V}{u:Value}(r:RelV v u):W.handedIn u=true:=by
 cases v with
 | non=>cases (show u=Value.none from r);rfl
 | bl b=>cases (show u=Value.bool b from r);rfl
 | int i=>obtain ⟨t,e⟩:=(show ∃ t,u=Value.int i t from r);cases e;rfl
 | str x=>obtain ⟨t,e⟩:=(show ∃ t,u=Value.str x t from r);cases e;rfl
 | byt b=>obtain ⟨t,e⟩:=(show ∃ t,u=Value.bytes b t from r);cases e;rfl
 | flt b=>obtain ⟨t,e⟩:=(show ∃ t,u=Value.float b t from r);cases e;rfl
 | ref a=>cases (show u=Value.ref a from r);rfl
 | ty n=>cases (show u=Value.type n from r);rfl
section
variable {P:Program}{w:World}{H H':Hp}{h h':Heap}{a C dx:Addr}{fs fs':List (Str×V)}
theorem zeT (hok:HOk P w H h)(e:H a=some (.ins C dx fs)):∃ mA,ObjM h a dx C mA∧(∀ f,RelO (fs.lookup f) (mA f))∧PySem.Within mA (fs.map (·.1))∧fs.length≤1000∧H dx=some (.own a):=by
 obtain ⟨d,z,ne,ob,mA,n,r,q⟩:=(show ObjOk P w H h a (.ins C dx fs) from hok a _ e)
 exact ⟨mA,⟨ob,n,ne⟩,r,q,z,d⟩
end
structure Cls (K:W.Frag)(C:Addr):Prop where
 pg:W.plainGet K C Str.empty=true
 hd:W.hasDictIn K C=true
 po:W.plainOver K C=true
 sa:W.findIn K (.ref C) "__setattr__" = some (some (.builtin "object.__setattr__"))
theorem Cls.get {K:W.Frag}{C:Addr}(c:Cls K C)(f:Str):W.plainGet K C f=true:=c.pg
def NoAttr (K:W.Frag)(C:Addr)(f:Str):Prop:=W.findIn K (.ref C) f=some none
theorem NoAttr.taker {K:W.Frag}{C:Addr}{f:Str}(n:NoAttr K C f):W.takerIn K C f=some none:=by
 unfold W.takerIn
 rw [show W.findIn K (.ref C) f=some none from n]
 rfl
structure Meth (K:W.Frag)(C:Addr)(m:Str)(f:Addr):Prop where
 at_:W.findIn K (.ref C) m=some (some (.ref f))
 fn:W.isFn K (.ref f)=true
 kp:W.keepIn K (.ref f)=true
section
variable {X:Cx}{pins:List (Addr×Obj)}{σ:St}{H:Hp}{s:Shared}{a C dx:Addr}{fs:List (Str×V)}{f:Str}{v:V}{A:Around}{E:Value→Shared→Prop}
theorem ziU {b:Bool}{Q:Value→Shared→Prop}(I:Inv X pins σ H s)(e:H a=some (.ins C dx fs))(c:Cls X.K C)(n:NoAttr X.K C f)(l:fs.lookup f=some v)
  (h:∀ u s',Inv X pins σ H s'→RelV v u→Q u s'):wpAny (model X.prog X.w) A (getAttr (.ref a) f b) Q E s:=by
 obtain ⟨mA,O,r,_,_,_⟩:=zeT I.hok e
 obtain ⟨u,hu,ru⟩:=RelO.some_of (v:=v) (o:=mA f) (by rw [← l];exact r f)
 exact zmW I.kIn O (c.get f) c.hd n hu (zj7 ru) (h u _ (I.tok _) ru)
theorem zfh {m:Str}{g:Addr}{pl:Sem Bool}{Q:Value×List Value→Shared→Prop}(I:Inv X pins σ H s)(e:H a=some (.ins C dx fs))(c:Cls X.K C)(k:Meth X.K C m g)(l:fs.lookup m=none)
  (h:Q (.ref g,[.ref a]) s):wpAny (model X.prog X.w) A (getMethod (.ref a) m pl) Q E s:=by
 obtain ⟨mA,O,r,_,_,_⟩:=zeT I.hok e
 have hn:mA m=none:=RelO.none_of (by rw [← l];exact r m)
 exact zlx I.kIn O (c.get m) k.at_ k.fn hn h
theorem zit {y:V}{u:Value}{Q:Unit→Shared→Prop}(I:Inv X pins σ H s)(e:H a=some (.ins C dx fs))(c:Cls X.K C)(n:NoAttr X.K C f)(hl:fs.length<1000)(ry:RelV y u)
  (h:∀ s',Inv X pins σ (upd H a (.ins C dx (putF f y fs))) s'→Q () s'):wpAny (model X.prog X.w) A (setAttr (.ref a) f u) Q E s:=by
 obtain ⟨mA,O,r,wi,_,ho⟩:=zeT I.hok e
 have hz:(fs.map (·.1)).length≤sizeLine:=by rw [Xal,sizeLine_eq];omega
 refine zmy I.kIn O c.sa c.po n.taker c.hd wi hz fun h' O' sb=>h _ ?_
 have hd:∃ o,h'.get? dx=some o:=let ⟨o,_,_,e',_⟩:=O'.ns;⟨o,e'⟩
 refine I.write (x:=a) (e:=dx) (by rw [e];exact True.intro) (.inr ho) (fun b q hb z=>(sb.2 b hb).trans z) hd ?_
 refine ⟨by rw [zai O.ne];exact ho,?_,O.ne,O'.obj,_,O'.ns,fun g=>?_,fun g hg=>?_⟩
 ·have:=zeO f y fs;omega
 ·show RelO ((putF f y fs).lookup g) (if g=f then some u else mA g)
  rw [zeN]
  by_cases q:g=f
  ·rw [if_pos q,if_pos q];exact ry
  ·rw [if_neg q,if_neg q];exact r g
 ·by_cases q:g=f
  ·rw [q];exact (zeR f y fs).1
  ·refine (zeR f y fs).2 g (wi g fun z=>hg ?_)
   show (if g=f then some u else mA g)=none
   rw [if_neg q];exact z
theorem Inv.made (I:Inv X pins σ H s):Inv X pins σ (upd (upd H s.heap.objs.size (.own (s.heap.objs.size+1))) (s.heap.objs.size+1) (.ins C s.heap.objs.size []))
  { s with heap:=(s.heap.push W.emptyDict).push (W.instObj C s.heap.objs.size) }:=by
 have e1:(s.heap.push W.emptyDict).get? s.heap.objs.size=some W.emptyDict:=Xaj s.heap rfl
 have e2:((s.heap.push W.emptyDict).push (W.instObj C s.heap.objs.size)).get? (s.heap.objs.size+1)=some (W.instObj C s.heap.objs.size):=by
  have:=Xaj (s.heap.push W.emptyDict) (o:=W.instObj C s.heap.objs.size) rfl
  rwa [XaN] at this
 have e3:(s.heap.push W.emptyDict).Ns s.heap.objs.size (fun _=>none):=⟨W.emptyDict,#[],_,e1,rfl,(fun e he=>absurd he (by simp)),fun _=>rfl⟩
 have I1:=I.laid (a:=s.heap.objs.size) (o:=.own (s.heap.objs.size+1)) (h':=s.heap.push W.emptyDict) (t':=s.toks) (fun b u q=>Xab _ q) (Xae _) ⟨_,e1⟩
 refine I1.laid (a:=s.heap.objs.size+1) (o:=.ins C s.heap.objs.size []) (t':=s.toks) (fun b u q=>Xab _ q) (Nat.le_of_eq (XaN _ _)) ?_
 have ne:s.heap.objs.size≠s.heap.objs.size+1:=Xaz (Xbf _)
 refine ⟨by rw [zai ne,zad],Nat.zero_le _,ne,e2,fun _=>none,(Heap.Ns1.of_empty e3).at fun o q=>Xab _ q,fun _=>True.intro,fun y hy=>absurd rfl hy⟩
theorem zm8 {prog:Program}{w:World}{env:Env}{e:Expr}{f:Str}{pos:Pos}{s:Shared}{Q:Value→Shared→Prop}(hb:attributeBase e f env (eval e env)=eval e env)
  (h:wpAny (model prog w) A (eval e env) (fun o s₁=>wpAny (model prog w) A (getAttr o f true) Q E s₁) E s):wpAny (model prog w) A (eval (.Attribute e f pos) env) Q E s:=
 Attribute_any_ h (by rw [arm_eval_Attribute,hb])
end
inductive tFld_1 (K:W.Frag)(f:Str)(Q:VK)(x:V)(H1:Hp):Prop
 | mk (a:_) (C:_) (dx:_) (fs:_) (v:_) (z0_:x = .ref a) (z1_:H1 a=some (.ins C dx fs)) (z2_:Cls K C) (z3_:NoAttr K C f) (z4_:fs.lookup f=some v) (z5_:Q v H1)
def tFld (K:W.Frag)(ta:TE)(f:Str):TE:=fun σ H Q=>ta σ H (tFld_1 K f Q)
inductive sFld_1 (K:W.Frag)(f:Str)(D:Ends)(σ:St)(y:V)(x:V)(H2:Hp):Prop
 | mk (a:_) (C:_) (dx:_) (fs:_) (z0_:x = .ref a) (z1_:H2 a=some (.ins C dx fs)) (z2_:Cls K C) (z3_:NoAttr K C f) (z4_:fs.length<1000) (z5_:D.nx σ (upd H2 a (.ins C dx (putF f y fs))))
def sFld (K:W.Frag)(ta tv:TE)(f:Str):TS:=fun D σ H=>tv σ H fun y H1=>ta σ H1 (sFld_1 K f D σ y)
section
variable {X:Cx}{o e value:Expr}{f:Str}{pos pos' tpos:Pos}{ta tv:TE}
theorem za5 (he:PE X e ta)(hb:attributeBase e f X.env (eval e X.env)=eval e X.env):PE X (.Attribute e f pos) (tFld X.K ta f):=by
 intro pins s σ H Q I h
 refine zm8 hb (thn (he pins s σ H _ I h) fun u s1 hh_=>?_)
 obtain ⟨x,H1,I1,rx,a,C,dx,fs,v,ex,ea,c,n,l,q⟩:=hh_
 subst ex
 obtain rfl:u=Value.ref a:=rx
 exact ziU I1 ea c n l fun u' s2 I2 ru=>⟨v,H1,I2,ru,q⟩
theorem zch (ha:PE X o ta)(hv:PE X value tv)(hs:swapsWith value (some (.Attribute o f pos')) pos.line X.env=pure false):PS X (.Assign [.Attribute o f pos'] value pos) (sFld X.K ta tv f):=by
 intro pins s σ H D I h
 refine plainObj_wpAny_Assign_Attribute (thn (hv pins s σ H _ I h) fun u s1 ⟨y,H1,I1,ry,q⟩=>thn (ha pins s1 σ H1 _ I1 q) fun ov s2 hh_=>?_) hs
 obtain ⟨x,H2,I2,rx,a,C,dx,fs,ex,ea,c,n,l,q2⟩:=hh_
 subst ex
 obtain rfl:ov=Value.ref a:=rx
 exact zit I2 ea c n l ry fun s3 I3=>⟨σ,_,I3,q2⟩
end
section
variable {X:Cx}{pins:List (Addr×Obj)}{σ:St}{H:Hp}{s:Shared}{A:Around}{E:Value→Shared→Prop}{Q:Value→Shared→Prop}{c:Value}{b:Bool}
inductive TyOf (K:W.Frag)(H:Hp):V→Value→Prop where
 | non:TyOf K H .non (.type "NoneType")
 | bl (x:Bool):TyOf K H (.bl x) (.type "bool")
 | int (i:Int):TyOf K H (.int i) (.type "int")
 | str (x:Str):TyOf K H (.str x) (.type "str")
 | flt (x:UInt64):TyOf K H (.flt x) (.type "float")
 | lst {a:Addr} {xs:List V} (e:H a=some (.lst xs)):TyOf K H (.ref a) (.type "list")
 | frz {a:Addr} {o:Obj} {xs:List V} (e:H a=some (.frz o (.lst xs))):TyOf K H (.ref a) (.type "list")
 | tup {a:Addr} {xs:List V} (e:H a=some (.tup xs)):TyOf K H (.ref a) (.type "tuple")
 | dK {a:Addr} {kvs:List (Key×V)} (e:H a=some (.dK kvs)):TyOf K H (.ref a) (.type "dict")
 | dT {a:Addr} {kvs:List (List Key×V)} (e:H a=some (.dT kvs)):TyOf K H (.ref a) (.type "dict")
 | ins {a C dx:Addr} {fs:List (Str×V)} (e:H a=some (.ins C dx fs)) (cl:Cls K C) (ha:W.findIn K (.ref C) "__class__" = some (some (.builtin "object.__class__")))
   (hn:W.specialIn K (.builtin "object.__class__") "__get__" = some (some (.builtin "getset_descriptor.__get__"))) (htk:W.takesIn K (.builtin "object.__class__")=some true)
   (hm:W.mroIn K C (.type "object")=some true):TyOf K H (.ref a) (.ref C)
theorem zgw {x:V}{u t:Value}(I:Inv X pins σ H s)(rx:RelV x u)(ty:TyOf X.K H x t)(e:W.kitOne X.K t c=some b)(h:∀ tk,Q (.bool b) { s with toks:=tk }) :
  wpAny (model X.prog X.w) A (call (.builtin "isinstance") [u,c]) Q E s:=by
 cases ty with
 | non=>cases (show u=Value.none from rx);exact W.kia_one W.kitx_none I.kIn True.intro e (fun z=>nomatch z) h
 | bl y=>cases (show u=Value.bool y from rx);exact W.kia_one W.kitx_bool I.kIn True.intro e (fun z=>nomatch z) h
 | int i=>obtain ⟨t,q⟩:=(show ∃ t,u=Value.int i t from rx);cases q;exact W.kia_one W.kitx_int I.kIn True.intro e (fun z=>nomatch z) h
 | str y=>obtain ⟨t,q⟩:=(show ∃ t,u=Value.str y t from rx);cases q;exact W.kia_one W.kitx_str I.kIn True.intro e (fun z=>nomatch z) h
 | flt y=>obtain ⟨t,q⟩:=(show ∃ t,u=Value.float y t from rx);cases q;exact W.kia_one W.kitx_float I.kIn True.intro e (fun z=>nomatch z) h
 | @lst a xs ea =>
  cases (show u=Value.ref a from rx)
  obtain ⟨_,_,n,_,h1⟩:=(show ObjOk X.prog X.w H s.heap a (.lst xs) from I.hok a _ ea)
  exact W.kia_one W.kitx_list I.kIn ⟨_,h1,rfl⟩ e (fun z=>nomatch z) h
 | @frz a ob xs ea =>
  cases (show u=Value.ref a from rx)
  obtain ⟨_,_,_,n,_,h1⟩:=(show ObjOk X.prog X.w H s.heap a (.frz ob (.lst xs)) from I.hok a _ ea)
  exact W.kia_one W.kitx_list I.kIn ⟨_,h1,rfl⟩ e (fun z=>nomatch z) h
 | @tup a xs ea =>
  cases (show u=Value.ref a from rx)
  obtain ⟨_,_,_,p⟩:=(show ObjOk X.prog X.w H s.heap a (.tup xs) from I.hok a _ ea)
  obtain ⟨o,h1,h2,_⟩:=p
  exact W.kia_one W.kitx_tuple I.kIn ⟨o,h1,h2⟩ e (fun z=>nomatch z) h
 | @dK a kvs ea =>
  cases (show u=Value.ref a from rx)
  obtain ⟨_,_,vs,_,p⟩:=(show ObjOk X.prog X.w H s.heap a (.dK kvs) from I.hok a _ ea)
  obtain ⟨o,es,ep,h1,h2,_⟩:=p
  exact W.kia_one W.kitx_dict I.kIn ⟨o,h1,h2.1⟩ e (fun z=>nomatch z) h
 | @dT a kvs ea =>
  cases (show u=Value.ref a from rx)
  obtain ⟨_,_,xs,_,o,es,ep,h1,h2,_⟩:=(show ObjOk X.prog X.w H s.heap a (.dT kvs) from I.hok a _ ea)
  exact W.kia_one W.kitx_dict I.kIn ⟨o,h1,h2.1⟩ e (fun z=>nomatch z) h
 | @ins a C dx fs ea cl ha hn htk hm =>
  cases (show u=Value.ref a from rx)
  obtain ⟨mA,O,_⟩:=zeT I.hok ea
  obtain ⟨od,J,_⟩:=O.look
  exact W.kia_one (W.kitx_own (cl.get _) cl.hd ha hn htk hm) I.kIn J e (fun z=>nomatch z) h
end
structure Room (k:Nat)(A:Around):Prop where
 hd:A.handled=none
 dp:A.depth+3 * k+5<recursionLimit
 un:A.units+16 * k+200<cLine
 gd:A.guards=some []
theorem Room.mono {j k:Nat}{A:Around}(r:Room k A)(h:j≤k):Room j A:=⟨r.hd,by have:=r.dp;omega,by have:=r.un;omega,r.gd⟩
theorem Room.deeper {k:Nat}{A:Around}(r:Room (k+1) A)(env:Env):Room k (A.deeper env):=
 ⟨r.hd,by have:=r.dp;show A.depth+1+3 * k+5<_;omega,by have:=r.un;show A.units+3+16 * k+200<_;omega,r.gd⟩
theorem Room.in1 {k:Nat}{A:Around}(r:Room (k+1) A):Room k A.in1:=
 ⟨r.hd,by have:=r.dp;show A.depth+3 * k+5<_;omega,by have:=r.un;show A.units+1+16 * k+200<_;omega,r.gd⟩
theorem ziP {A:Around}{C:Addr}{us:List Value}{kw:List (Str×Value)}:(A.under (.builtin "type.__call__" ⟨.ref C :: us,kw⟩)).depth=A.depth+1:=by
 first | rfl | simp [Around.under,Code.weight,Code.isCreation,Code.isGuard,Code.isCaller,Code.frames,Code.isFrame,guardIds]
theorem ziO {A:Around}{C:Addr}{us:List Value}{kw:List (Str×Value)}:(A.under (.builtin "type.__call__" ⟨.ref C :: us,kw⟩)).units=A.units+1:=by
 first | rfl | simp [Around.under,Code.cUnits,Code.frames,Code.isFrame]
theorem zhB {A:Around}{C:Addr}{us:List Value}{kw:List (Str×Value)}(h:A.guards=some []):(A.under (.builtin "type.__call__" ⟨.ref C :: us,kw⟩)).guards=some []:=by
 have hc:(Code.builtin "type.__call__" ⟨Value.ref C :: us,kw⟩).guards=[]:=by
  first | rfl | (simp [Code.guards,Code.isGuard,guardIds];done) | (unfold Code.guards;rw [if_neg];decide +kernel) | skip
 simp only [Around.under,h,hc]
 rfl
theorem Room.make {k:Nat}{A:Around}(r:Room (k+1) A)(C:Addr)(us:List Value)(kw:List (Str×Value)):Room k (A.under (.builtin "type.__call__" ⟨.ref C :: us,kw⟩)):=
 ⟨r.hd,by have:=r.dp;rw [ziP];omega,by have:=r.un;rw [ziO];omega,zhB r.gd⟩
theorem Room.depth {k:Nat}{A:Around}(r:Room k A):A.depth<recursionLimit:=by have:=r.dp;omega
theorem Room.units {k:Nat}{A:Around}(r:Room k A):A.units+64<cLine:=by have:=r.un;omega
def tNil:TA:=fun _ H Q=>Q [] H
def tCons (ta:TE)(tr:TA):TA:=fun σ H Q=>ta σ H fun x H1=>tr σ H1 fun xs H2=>Q (x :: xs) H2
section
variable {X:Cx}{e:Expr}{es:List Expr}{te:TE}{t:TA}{pos:Pos}
theorem zac:PA X [] tNil:=fun _ _ _ _ H Q I h=>Calls.spliced_nil ⟨[],H,I,.nil,h⟩
theorem zaa (ha:PE X e te)(hr:PA X es t)(hs:starEach (e :: es) X.env=(false,eval e X.env) :: starEach es X.env:=by rfl):PA X (e :: es) (tCons te t):=by
 intro pos pins s σ H Q I h
 rw [hs]
 show wpAny _ _ (spliced ((false,eval e X.env) :: backTo pos (starEach es X.env))) _ _ s
 refine Calls.spliced_cons (thn (ha pins s σ H _ I h) fun u s1 hh_=>?_)
 obtain ⟨x,H1,I1,r1,q1⟩:=hh_
 exact thn (hr pos pins s1 σ H1 _ I1 q1) fun us s2 ⟨xs,H2,I2,r2,q2⟩=>⟨x :: xs,H2,I2,.cons r1 r2,q2⟩
def tTup (t:TA):TE:=fun σ H Q=>t σ H fun xs H1=>xs.length≤sizeLine∧∀ p,H1 p=none→Q (.ref p) (upd H1 p (.tup xs))
def tLst (t:TA):TE:=fun σ H Q=>t σ H fun xs H1=>xs.length≤sizeLine∧∀ p,H1 p=none→Q (.ref p) (upd H1 p (.lst xs))
theorem za0 {x1}(h:PA X es t):PE X (.Tuple es x1 pos) (tTup t):=by
 intro pins s σ H Q I hq
 refine wpAny_Tuple_spliced (thn (h pos pins s σ H _ I hq) fun us s1 ⟨xs,H1,I1,r,z,q⟩=>⟨by rw [← r.length];exact z,?_⟩)
 have hf:H1 s1.heap.objs.size=none:=I1.hok.fresh (Xae _)
 refine ⟨.ref s1.heap.objs.size,upd H1 s1.heap.objs.size (.tup xs),I1.laid (t':=s1.toks) (fun b u e=>Xab _ e) (Xae _) ?_,rfl,q _ hf⟩
 exact ⟨⟨z,_,Xaj _ rfl,rfl⟩,us,r,⟨_,Xaj _ rfl,rfl,_,rfl⟩⟩
theorem zay (h:PA X es t):PE X (.List es pos) (tLst t):=by
 intro pins s σ H Q I hq
 refine wpAny_List_spliced (thn (h pos pins s σ H _ I hq) fun us s1 ⟨xs,H1,I1,r,z,q⟩=>⟨by rw [← r.length];exact z,?_⟩)
 have hf:H1 s1.heap.objs.size=none:=I1.hok.fresh (Xae _)
 refine ⟨.ref s1.heap.objs.size,upd H1 s1.heap.objs.size (.lst xs),I1.laid (t':=s1.toks) (fun b u e=>Xab _ e) (Xae _) ?_,rfl,q _ hf⟩
 exact ⟨z,us,0,r,Xaj _ rfl⟩
end
abbrev Sp:=List V→Hp→VK→XK→Prop
abbrev CXT:=List Env→Hp→Shared→XK→Value→Shared→Prop
structure Env0 (P:Program)(w:World)(K:W.Frag)(mg:Str→Option Value)(base:Heap)(A:Around)(outer:List Env)(s:Shared)(H:Hp):Prop where
 frames:A.frames=some outer
 mod:Mod K mg base
 bs:∀ b o,base.get? b=some o→s.heap.get? b=some o∧H b=none
 bsz:base.objs.size≤s.heap.objs.size
 funs:s.heap.FunFrames base outer
 frf:∀ b∈frs outer,H b=none
 hok:HOk P w H s.heap
 bare:AllBare s.gens
def CE (outer:List Env)(P:Program)(w:World)(H:Hp)(s:Shared)(Q:VK)(u:Value)(s':Shared):Prop:=
 ∃ v H',s'.os=s.os∧AllBare s'.gens∧Un (frs outer) [] H H' s.heap s'.heap∧HOk P w H' s'.heap∧RelV v u∧Q v H'
def CR (CX:CXT)(outer:List Env)(P:Program)(w:World)(H:Hp)(s:Shared)(Q:VK)(E:XK)(r:Result)(s':Shared):Prop:=
 match r with
 | .ok (.ret u)=>CE outer P w H s Q u s'
 | .ok _=>False
 | .error e=>CX outer H s E e s'
structure FnOk (P:Program)(w:World)(K:W.Frag)(mg:Str→Option Value)(base:Heap)(CX:CXT)(k:Nat)(f:Addr)(fd:FuncData)(ps:List Str)(sp:Sp):Prop where
 len:∀ vs H Q E,sp vs H Q E→vs.length=ps.length
 run:∀ (A:Around) (outer:List Env) (s:Shared) (H:Hp) (args:Args) (us:List Value) (vs:List V) (Q:VK) (E:XK),Room k A→Env0 P w K mg base A outer s H→BindsTo s fd args (ps.zip us)→Vals vs us→sp vs H Q E →
  codeAny (model P w) A (.call (.ref f) args) (CR CX outer P w H s Q E) s
theorem FnOk.mono {P:Program}{w:World}{K:W.Frag}{mg:Str→Option Value}{base:Heap}{CX:CXT}{j k:Nat}{f:Addr}{fd:FuncData}{ps:List Str}{sp:Sp}(F:FnOk P w K mg base CX j f fd ps sp)(h:j≤k) :
  FnOk P w K mg base CX k f fd ps sp:=⟨F.len,fun A outer s H args us vs Q E hr=>F.run A outer s H args us vs Q E (hr.mono h)⟩
theorem FnOk.imp {P:Program}{w:World}{K:W.Frag}{mg:Str→Option Value}{base:Heap}{CX:CXT}{k:Nat}{f:Addr}{fd:FuncData}{ps:List Str}{sp sp':Sp}(F:FnOk P w K mg base CX k f fd ps sp)
  (h:∀ vs H Q E,sp' vs H Q E→sp vs H Q E):FnOk P w K mg base CX k f fd ps sp':=
 ⟨fun vs H Q E q=>F.len vs H Q E (h _ _ _ _ q),fun A outer s H args us vs Q E hr he hb hv hs=>F.run A outer s H args us vs Q E hr he hb hv (h _ _ _ _ hs)⟩
theorem Env0.make {P:Program}{w:World}{K:W.Frag}{mg:Str→Option Value}{base:Heap}{A:Around}{outer:List Env}{s:Shared}{H:Hp}(e:Env0 P w K mg base A outer s H)(C:Addr)(us:List Value)(kw:List (Str×Value)) :
  Env0 P w K mg base (A.under (.builtin "type.__call__" ⟨.ref C :: us,kw⟩)) outer s H:=⟨by first | exact e.frames | (simpa [Around.under,Code.envs,Code.isFrame,pushEnvs] using e.frames),e.mod,e.bs,e.bsz,e.funs,e.frf,e.hok,e.bare⟩
theorem Env0.in1 {P:Program}{w:World}{K:W.Frag}{mg:Str→Option Value}{base:Heap}{A:Around}{outer:List Env}{s:Shared}{H:Hp}(e:Env0 P w K mg base A outer s H) :
  Env0 P w K mg base A.in1 outer s H:=⟨e.frames,e.mod,e.bs,e.bsz,e.funs,e.frf,e.hok,e.bare⟩
section
variable {X:Cx}{pins:List (Addr×Obj)}{σ:St}{H:Hp}{s s':Shared}
theorem Inv.env0 (I:Inv X pins σ H s):Env0 X.prog X.w X.K X.mg X.base X.A X.stack s H:=
 ⟨I.ok.frames,I.ok.mod,I.bs,Xam I.ok.bsz I.sz,I.stack,I.stkFree,I.hok,I.bare⟩
theorem Inv.after {Q:VK}{u:Value}(I:Inv X pins σ H s)(h:CE X.stack X.prog X.w H s Q u s'):EP X pins σ Q u s':=by
 obtain ⟨v,H',os,bare,un,hok,r,q⟩:=h
 obtain ⟨hh,g,d,t,os'⟩:=s'
 obtain rfl:os'=s.os:=os
 exact ⟨v,H',I.call (h':=hh) (g':=g) (d':=d) (t':=t) (ch:=[]) un hok bare (fun b z=>absurd z (by simp)),r,q⟩
end
def zje (sp:Sp)(dvs:List V)(E:XK)(t:TA):TE:=fun σ H Q=>t σ H fun vs H1=>sp (vs ++ dvs) H1 Q E
def Binds (K:W.Frag)(fd:FuncData)(ps:List Str)(ds:List Value):Prop:=
 ∀ (s:Shared) (us:List Value),K.In s.heap→(us ++ ds).length=ps.length→BindsTo s fd ⟨us,[]⟩ (ps.zip (us ++ ds))
theorem Binds.all {K:W.Frag}{fd:FuncData}{ps:List Str}(h:∀ us:List Value,us.length=ps.length→bindArgs fd ⟨us,[]⟩=pure (ps.zip us)):Binds K fd ps []:=fun s us _ hl=>by
 rw [Xa1] at hl ⊢
 exact .of_eq (h us hl)
def zgS (CX:CXT)(X:Cx)(E:XK):Prop:=∀ (pins:List (Addr×Obj)) (σ:St) (H:Hp) (s:Shared) (e:Value) (s':Shared),Inv X pins σ H s→CX X.stack H s E e s'→X.xe e s'
section
variable {X:Cx}{CX:CXT}{k:Nat}{f C:Addr}{fd:FuncData}{ps:List Str}{sp:Sp}{dvs:List V}{ds:List Value}{E:XK}{x m:Str}{p pos apos:Pos}{e o:Expr}{es:List Expr}{ta:TE}{t:TA}
theorem zlV {pins:List (Addr×Obj)}{σ:St}{H:Hp}{s:Shared}{Q:VK}{us:List Value}{vs:List V}(F:FnOk X.prog X.w X.K X.mg X.base CX k f fd ps sp)(hr:Room k X.A)(hb:Binds X.K fd ps ds)(hd:Vals dvs ds)(hx:zgS CX X E)
  (I:Inv X pins σ H s) (r:Vals vs us) (h:sp (vs ++ dvs) H Q E):wpAny (model X.prog X.w) X.A (call (.ref f) us) (EP X pins σ Q) X.xe s:=by
 have r2:Vals (vs ++ dvs) (us ++ ds):=r.append hd
 have hl:(us ++ ds).length=ps.length:=by rw [← r2.length];exact F.len _ _ _ _ h
 refine wpAny_call (codeAny_mono (F.run X.A X.stack s H ⟨us,[]⟩ (us ++ ds) (vs ++ dvs) Q E hr I.env0 (hb s us I.kIn hl) r2 h) fun r s' hq=>?_)
 cases r with
 | error e=>exact hx pins σ H s e s' I hq
 | ok fl =>
  cases fl with
  | ret u=>exact I.after hq
  | next=>exact False.elim hq
  | brk=>exact False.elim hq
  | cont=>exact False.elim hq
theorem zjD (F:FnOk X.prog X.w X.K X.mg X.base CX k f fd ps sp)(hr:Room k X.A)(hg:Gl X x)(hm:X.mg x=some (.ref f))(hk:W.keepIn X.K (.ref f)=true)(hb:Binds X.K fd ps ds)(hd:Vals dvs ds)(hx:zgS CX X E)
  (ha:PA X (e :: es) t) (hdb:(x == ("__debug__" : Str))=false:=by decide) (he:starEach (e :: es) X.env=(false,eval e X.env) :: starEach es X.env:=by rfl) (hpl:(backTo pos (starEach es X.env)).any (·.1)=false:=by rfl) :
  PE X (.Call (.Name x p) (e :: es) [] pos) (zje sp dvs E t):=by
 intro pins s σ H Q I h
 refine XbW (zeP I hg hm ?_ hdb)
 refine W.callWith_K (h₀:=X.base) I.ok.mod.kin hk (thn (ha pos pins s σ H _ I h) fun us s1 ⟨vs,H1,I1,r,q⟩=>⟨I1.kIn,?_⟩) he hpl
 exact zlV F hr hb hd hx I1 r q
structure Mk (K:W.Frag)(C f:Addr):Prop where
 makes:W.makesIn K C=true
 init:W.findIn K (.ref C) "__init__" = some (some (.ref f))
 fn:W.isFn K (.ref f)=true
 kp:W.keepIn K (.ref C)=true
end
def PK (X:Cx)(kws:List Keyword)(t:TA):Prop:=
 ∀ (pos:Pos) (pins:List (Addr×Obj)) (s:Shared) (σ:St) (H:Hp) (Q:List V→Hp→Prop),Inv X pins σ H s→t σ H Q→wpAny (model X.prog X.w) X.A (evalAll ((backToKw pos (keywordEach kws X.env)).map (·.2))) (AP X pins σ Q) X.xe s
section
variable {X:Cx}{CX:CXT}{k:Nat}{f C:Addr}{fd:FuncData}{ps ks:List Str}{sp:Sp}{E:XK}{x m:Str}{p pos apos kpos:Pos}{e o:Expr}{es:List Expr}{kws:List Keyword}{te ta:TE}{t tk:TA}{nm:Option Str}
theorem pk_nil:PK X [] tNil:=fun _ _ _ _ H Q I h=>wpAny_evalAll_nil ⟨[],H,I,.nil,h⟩
theorem zmF (ha:PE X e te)(hr:PK X kws t):PK X (⟨nm,e,kpos⟩ :: kws) (tCons te t):=by
 intro pos pins s σ H Q I h
 show wpAny _ _ (evalAll ((do let v ← eval e X.env;standAt pos;pure v) :: (backToKw pos (keywordEach kws X.env)).map (·.2))) _ _ s
 refine wpAny_evalAll_cons (Xaa (thn (ha pins s σ H _ I h) fun u s1 ⟨x,H1,I1,r1,q1⟩=>Xaa (Xbj (Xac ?_))))
 exact thn (hr pos pins s1 σ H1 _ I1 q1) fun us s2 ⟨xs,H2,I2,r2,q2⟩=>⟨x :: xs,H2,I2,.cons r1 r2,q2⟩
structure KBinds (K:W.Frag)(fd:FuncData)(ps ks:List Str)(g:List Value→List Value→List Value)(gV:List V→List V→List V):Prop where
 to:∀ (s:Shared) (us ws:List Value),K.In s.heap→(g us ws).length=ps.length→BindsTo s fd ⟨us,ks.zip ws⟩ (ps.zip (g us ws))
 rel:∀ {vs:List V} {us:List Value} {zs:List V} {ws:List Value},Vals vs us→Vals zs ws→Vals (gV vs zs) (g us ws)
variable {g:List Value→List Value→List Value}{gV:List V→List V→List V}
theorem zjp {pins:List (Addr×Obj)}{σ:St}{H:Hp}{s:Shared}{Q:VK}{us ws:List Value}{vs zs:List V}(F:FnOk X.prog X.w X.K X.mg X.base CX k f fd ps sp)(hr:Room k X.A)(hb:KBinds X.K fd ps ks g gV)(hx:zgS CX X E)
  (I:Inv X pins σ H s) (r:Vals vs us) (rz:Vals zs ws) (h:sp (gV vs zs) H Q E):wpAny (model X.prog X.w) X.A (call (.ref f) us (ks.zip ws)) (EP X pins σ Q) X.xe s:=by
 have r2:=hb.rel r rz
 have hl:(g us ws).length=ps.length:=by rw [← r2.length];exact F.len _ _ _ _ h
 refine wpAny_call (codeAny_mono (F.run X.A X.stack s H ⟨us,ks.zip ws⟩ (g us ws) (gV vs zs) Q E hr I.env0 (hb.to s us ws I.kIn hl) r2 h) fun r s' hq=>?_)
 cases r with
 | error e=>exact hx pins σ H s e s' I hq
 | ok fl =>
  cases fl with
  | ret u=>exact I.after hq
  | next=>exact False.elim hq
  | brk=>exact False.elim hq
  | cont=>exact False.elim hq
end
structure FnScope (N P:List Str)(sc:Scope):Prop where
 kind:sc.kind = .function
 co:sc.isCoroutine=false
 gen:sc.isGenerator=false
 nd:N.Nodup
 pre:N.take P.length=P
 par:∀ x∈P,sc.names.lookup x=some .local∨sc.names.lookup x=some .cell
 nofree:∀ y∈sc.names,y.2≠.free
theorem zgL {kindOf:Str→Option NameKind}{x:Str}:∀ {binds:List (Str×Value)} {m:Str→Option Value},(∀ v,(x,v) ∉ binds)→bindL kindOf binds m x=m x
 | [],_,_=>rfl
 | (n,v) :: r,m,h=>by
  unfold bindL
  rw [zgL fun w hw=>h w (Xau _ hw)]
  split
  ·have:x≠n:=by rintro rfl;exact h v Xav
   simp [this]
  ·rfl
theorem zgN {kindOf:Str→Option NameKind}{x:Str}:∀ {binds:List (Str×Value)} {m:Str→Option Value},(∀ v,(x,v) ∉ binds)→bindC kindOf binds m x=m x
 | [],_,_=>rfl
 | (n,v) :: r,m,h=>by
  unfold bindC
  rw [zgN fun w hw=>h w (Xau _ hw)]
  split
  ·rfl
  ·have:x≠n:=by rintro rfl;exact h v Xav
   simp [this]
theorem zgM {kindOf:Str→Option NameKind}{x:Str}{v:Value}:∀ {P:List Str} {vs:List Value} {i:Nat} {m:Str→Option Value},P.Nodup→P[i]? = some x→vs[i]? = some v→kindOf x=some .local →
  bindL kindOf (P.zip vs) m x=some v
 | [],_,_,_,_,h,_,_=>by simp at h
 | _ :: _,[],_,_,_,_,h,_=>by simp at h
 | p :: P,w :: vs,0,m,nd,h1,h2,hk=>by
  simp at h1 h2;subst h1;subst h2
  show bindL kindOf ((p,w) :: P.zip vs) m p=_
  unfold bindL
  rw [zgL fun v hv=>(XbX.mp nd).1 (List.of_mem_zip hv).1,if_pos hk]
  simp
 | p :: P,w :: vs,i+1,m,nd,h1,h2,hk=>by
  show bindL kindOf ((p,w) :: P.zip vs) m x=_
  unfold bindL
  exact zgM (i:=i) (XbX.mp nd).2 (by simpa using h1) (by simpa using h2) hk
theorem zgO {kindOf:Str→Option NameKind}{x:Str}{v:Value}:∀ {P:List Str} {vs:List Value} {i:Nat} {m:Str→Option Value},P.Nodup→P[i]? = some x→vs[i]? = some v→kindOf x≠some .local →
  bindC kindOf (P.zip vs) m x=some v
 | [],_,_,_,_,h,_,_=>by simp at h
 | _ :: _,[],_,_,_,_,h,_=>by simp at h
 | p :: P,w :: vs,0,m,nd,h1,h2,hk=>by
  simp at h1 h2;subst h1;subst h2
  show bindC kindOf ((p,w) :: P.zip vs) m p=_
  unfold bindC
  rw [zgN fun v hv=>(XbX.mp nd).1 (List.of_mem_zip hv).1,if_neg hk]
  simp
 | p :: P,w :: vs,i+1,m,nd,h1,h2,hk=>by
  show bindC kindOf ((p,w) :: P.zip vs) m x=_
  unfold bindC
  exact zgO (i:=i) (XbX.mp nd).2 (by simpa using h1) (by simpa using h2) hk
def start (N:List Str)(vs:List V):St:=vs.map some ++ List.replicate (N.length - vs.length) none
def cxOf (CX:CXT)(P:Program)(w:World)(K:W.Frag)(mg:Str→Option Value)(base:Heap)(N:List Str)(qual:Str)(scope:Scope)(f:Addr)(cd:Value)(A:Around)(outer:List Env)(s:Shared)(H:Hp)(E:XK):Cx where
 prog:=P
 w:=w
 K:=K
 mg:=mg
 base:=base
 A:=A.deeper (envOfC qual scope s.heap.objs.size f cd)
 N:=N
 s₀:=s
 H₀:=H
 env:=envOfC qual scope s.heap.objs.size f cd
 outer:=outer
 stack:=envOfC qual scope s.heap.objs.size f cd :: outer
 ex:=[]
 calm:=true
 fn:=fun _=>true
 pn:=[]
 xe:=fun e s'=>wpAny (model P w) (A.deeper (envOfC qual scope s.heap.objs.size f cd)) (leaving (envOfC qual scope s.heap.objs.size f cd) e) (fun _ s''=>CX outer H s E e s'') (fun e' s''=>CX outer H s E e' s'') s'
theorem zii {sc:Scope}{n:Nat}{x:Str}(h:sc.names.lookup x=some .cell):∃ c,(cellsFrom n sc.names []).lookup x=some c:=by
 have q:=W.cellsFrom_some sc.names n [] (.inl h)
 exact Option.isSome_iff_exists.mp q
theorem zj1 {CX:CXT}{P:Program}{w:World}{K:W.Frag}{mg:Str→Option Value}{base:Heap}{N ps:List Str}{qual:Str}{scope:Scope}{f:Addr}{cd:Value}{A:Around}{outer:List Env}{s s1:Shared}{H:Hp}{E:XK}{us:List Value}{vs:List V}
  (S:FnScope N ps scope) (hd:A.handled=none) (e0:Env0 P w K mg base A outer s H) (hl:vs.length=ps.length) (r:Vals vs us)
  (x:InCallC s s.heap.objs.size (bindL (envOfC qual scope s.heap.objs.size f cd).kindOf (ps.zip us) fun _=>none) (cellsFrom (s.heap.objs.size+1) scope.names []) (bindC (envOfC qual scope s.heap.objs.size f cd).kindOf (ps.zip us) fun _=>none) s1) :
  Inv (cxOf CX P w K mg base N qual scope f cd A outer s H E) [] (start N vs) H s1:=by
 have hpl:ps.length≤N.length:=by have:=congrArg List.length S.pre;rw [XaM] at this;omega
 obtain ⟨h1,tk,rfl,hk⟩:=x.done
 have noA:∀ b:Addr,b ∉ (cxOf CX P w K mg base N qual scope f cd A outer s H E).ex:=fun b z=>absurd (show b∈([]:List Addr) from z) (by simp)
 refine ⟨⟨e0.mod,S.kind,rfl,rfl,Xae _,fun y z c h1 h2=>?_,fun y hy=>?_,fun y c _ h=>?_,fun _=>hd,Around.frames_deeper e0.frames,.inr ⟨rfl,rfl⟩,fun b z=>absurd z (noA b),e0.bs,e0.bsz,fun b _ _=>noA b,fun b z=>absurd z (noA b),e0.funs,e0.frf⟩,
  rfl,e0.bare,Un.kept hk,⟨_,x.toInCall.ns,fun i y v h1 h2 h3=>?_⟩,fun y c h=>⟨_,x.cell y c h⟩,e0.hok.fresh (Xae _),fun y c h=>?_,fun p hp=>absurd (show p∈([]:List (Addr×Obj)) from hp) (by simp),e0.hok.kept hk,?_⟩
 ·exact name_of_addr x.apart (PySem.mem_of_lookup h1) (PySem.mem_of_lookup h2)
 ·have hy:scope.names.lookup y=some .cell∨scope.names.lookup y=some .free:=hy
  rcases hy with hy | hy
  ·exact zii hy
  ·exact absurd rfl (S.nofree _ (PySem.mem_of_lookup hy))
 ·exact Xbt (x.above y c (PySem.mem_of_lookup h))
 ·have hi:i<vs.length:=by
   unfold start at h2
   by_cases hi:i<vs.length
   ·exact hi
   ·rw [List.getElem?_append_right (by simpa using hi)] at h2
    rw [List.getElem?_replicate] at h2
    split at h2 <;> cases h2
  have ha:vs[i]? = some v:=by
   unfold start at h2
   rw [List.getElem?_append_left (by simpa using hi),Xaq] at h2
   cases e:vs[i]? with
   | none=>rw [e] at h2;cases h2
   | some a=>rw [e] at h2;cases h2;rfl
  obtain ⟨u,hu,rv⟩:=r.get ha
  have hp:ps[i]? = some y:=by
   rw [← S.pre,List.getElem?_take_of_lt (by omega)];exact h1
  have ndP:ps.Nodup:=by rw [← S.pre];exact S.nd.sublist (List.take_sublist _ _)
  refine ⟨u,rv,?_⟩
  rcases S.par y (Xas hp) with k | k
  ·exact .inl ⟨k,zgM ndP hp hu k⟩
  ·obtain ⟨c,e⟩:=zii (n:=s.heap.objs.size+1) k
   refine .inr ⟨.inl k,c,e,?_⟩
   have q:=x.cell y c e
   rw [zgO ndP hp hu (by show scope.names.lookup y≠_;rw [k];decide)] at q
   exact q
 ·exact e0.hok.fresh (Xbt (x.above y c (PySem.mem_of_lookup h)))
 ·unfold start
  show _=N.length
  rw [Xay,Xal,XbD]
  omega
theorem zm0 {CX:CXT}{P:Program}{w:World}{K:W.Frag}{mg:Str→Option Value}{base:Heap}{k:Nat}{f:Addr}{name qual:Str}{params:Arguments}{body:List Stmt}{scope:Scope}{dV kV doc pm cdv ct oc:Value}{an od:Option Addr}
  {osl:Array (Option Value)} {N ps:List Str} {sp:Sp} (lk:K.lookup f=some ⟨oc,od,.func (W.fnOf name qual params body scope dV kV doc pm an cdv ct),osl⟩) (hcd:W.codeIn K cdv qual=true) (S:FnScope N ps scope)
  (len:∀ vs H Q E,sp vs H Q E→vs.length=ps.length)
  (hbody:∀ (A:Around) (outer:List Env) (s:Shared) (H:Hp) (vs:List V) (Q:VK) (E:XK),Room k (A.deeper (envOfC qual scope s.heap.objs.size f cdv))→sp vs H Q E →
   ∃ t,PSs (cxOf CX P w K mg base N qual scope f cdv A outer s H E) body t∧t { nx:=fun _ H'=>Q .non H',rt:=Q } (start N vs) H) :
  FnOk P w K mg base CX (k+1) f (W.fnOf name qual params body scope dV kV doc pm an cdv ct) ps sp:=by
 refine ⟨len,fun A outer s H args us vs Q E hr e0 hb r hsp=>?_⟩
 have hl:=len _ _ _ _ hsp
 have KX:K.In s.heap:=e0.mod.kin.keeps fun b o e=>(e0.bs b o e).1
 have lim:s.heap.NoLimit:=e0.mod.nolimit.keeps fun b o e=>(e0.bs b o e).1
 have hkind:∀ y∈ps.zip us,scope.names.lookup y.1=some .local∨(scope.names.lookup y.1=some .cell∧((cellsFrom (s.heap.objs.size+1) scope.names []).lookup y.1).isSome=true):=fun ⟨n,v⟩ hy=>by
  rcases S.par n (List.of_mem_zip hy).1 with q | q
  ·exact .inl q
  ·exact .inr ⟨q,W.cellsFrom_some _ _ _ (.inl q)⟩
 refine codeAny_call_function hr.depth (KX _ _ lk) rfl S.co S.gen rfl (W.codeRec_of KX hcd) (hb _ _ _ _ ?_)
 refine wpAny_newFunctionEnv_cells S.kind hkind fun env he s1 x=>?_
 subst he
 refine ⟨lim.keeps x.toInCall.keep,codeAny_func ?_⟩
 obtain ⟨t,ht,hq⟩:=hbody A outer s H vs Q E (hr.deeper _) hsp
 have I:Inv (cxOf CX P w K mg base N qual scope f cdv A outer s H E) [] (start N vs) H s1:=zj1 S hr.hd e0 hl r x
 refine Xax (ht [] s1 (start N vs) H _ I hq) (fun fl s' hs=>?_) fun e s' hs=>hs
 have fin:∀ {σ':St} {H':Hp} {v:V} {u:Value},Inv (cxOf CX P w K mg base N qual scope f cdv A outer s H E) [] σ' H' s'→RelV v u→Q v H'→CE outer P w H s Q u s':=
  fun {σ' H' v u} J rv q=>⟨v,H',J.os,J.bare,J.base,J.hok,rv,q⟩
 cases fl with
 | ret u =>
  obtain ⟨v,σ',H',J,rv,q⟩:=hs
  exact fin J rv q
 | next =>
  obtain ⟨σ',H',J,q⟩:=hs
  exact fin (v:=V.non) (u:=Value.none) J rfl q
 | brk =>
  obtain ⟨_,_,_,q⟩:=hs
  exact False.elim q
 | cont =>
  obtain ⟨_,_,_,q⟩:=hs
  exact False.elim q
section
variable {X:Cx}{x:Str}{p pos:Pos}{e:Expr}{es:List Expr}{t:TA}{id T:String}{r:List V→Hp→VK→Prop}
def tCB (r:List V→Hp→VK→Prop)(t:TA):TE:=fun σ H Q=>t σ H fun vs H1=>r vs H1 Q
theorem zao (hc:zdI X (.builtin id) r)(hg:Gl X x)(hm:X.mg x=none)(hv:bootBuiltins x=some (.builtin id))(ha:PA X (e :: es) t)(hn:x ≠ "__name__" := by decide)(hdb:(x == ("__debug__" : Str))=false:=by decide)
  (he:starEach (e :: es) X.env=(false,eval e X.env) :: starEach es X.env:=by rfl) (hpl:(backTo pos (starEach es X.env)).any (·.1)=false:=by rfl):PE X (.Call (.Name x p) (e :: es) [] pos) (tCB r t):=by
 intro pins s σ H Q I h
 refine XbW (zc6 I hg hm hv ?_ hn hdb)
 exact PyProof.Rows.callWith_builtin1 (thn (ha pos pins s σ H _ I h) fun us s1 ⟨vs,H1,I1,r1,q1⟩=>hc pins s1 σ H1 vs us Q I1 r1 q1) he hpl
theorem zci (hc:zdI X (.type T) r)(hg:Gl X x)(hm:X.mg x=none)(hv:bootBuiltins x=some (.type T))(ha:PA X (e :: es) t)(hn:x ≠ "__name__" := by decide)(hdb:(x == ("__debug__" : Str))=false:=by decide)
  (he:starEach (e :: es) X.env=(false,eval e X.env) :: starEach es X.env:=by rfl) (hpl:(backTo pos (starEach es X.env)).any (·.1)=false:=by rfl):PE X (.Call (.Name x p) (e :: es) [] pos) (tCB r t):=by
 intro pins s σ H Q I h
 refine XbW (zc6 I hg hm hv ?_ hn hdb)
 exact PyProof.Rows.callWith_type1 (thn (ha pos pins s σ H _ I h) fun us s1 ⟨vs,H1,I1,r1,q1⟩=>hc pins s1 σ H1 vs us Q I1 r1 q1) he hpl
end
end L2
namespace HT
open PySem PyProof.Rows
section
open PySem.SeqAt
open PySem.AutoSeq1 (wpAny_loadPart')
open PySem.MeetsSeq PySem.MeetsSeq2 PySem.MeetsSeq3
end
section
variable {prog:Program}{w:World}{A:Around}{E:Value→Shared→Prop}{s:Shared}
def sIx (n d:Nat):Option Int→Nat
 | none=>d
 | some v=>if v<0 then (v+(n:Int)).toNat else min v.toNat n
theorem sIx_none (n d:Nat):sIx n d none=d:=rfl
theorem sIx_nat (n d k:Nat):sIx n d (some (k:Int))=min k n:=by
 show (if (k:Int)<0 then ((k:Int)+(n:Int)).toNat else min (k:Int).toNat n)=min k n
 rw [if_neg (by omega),Xag]
theorem sIx_le (n d:Nat)(hd:d≤n)(o:Option Int):sIx n d o≤n:=by
 cases o with
 | none=>exact hd
 | some v =>
  show (if v<0 then (v+(n:Int)).toNat else min v.toNat n)≤n
  by_cases hv:v<0
  ·rw [if_pos hv];omega
  ·rw [if_neg hv];exact Nat.min_le_right _ _
theorem zkq (v:Int)(n d:Nat):(if v<0 then max (v+(n:Int)) 0 else min v (n:Int))=((sIx n d (some v):Nat):Int):=by
 show (if v<0 then max (v+(n:Int)) 0 else min v (n:Int))=(((if v<0 then (v+(n:Int)).toNat else min v.toNat n):Nat):Int)
 by_cases hv:v<0
 ·simp only [if_pos hv];omega
 ·simp only [if_neg hv];omega
theorem zi5 (lo hi:Option Int)(n:Nat):Builtin.Slice.sliceAdjust lo hi 1 (n:Int)=(((sIx n 0 lo:Nat):Int),((sIx n n hi:Nat):Int)):=by
 have h1:¬ ((1:Int)<0):=by omega
 unfold Builtin.Slice.sliceAdjust
 simp only [h1,if_false]
 refine Prod.ext ?_ ?_
 ·cases lo with
  | none=>rfl
  | some v=>exact zkq v n 0
 ·cases hi with
  | none=>rfl
  | some v=>exact zkq v n n
theorem zix (i j:Nat):Builtin.Slice.slicePlaces (i:Int) (j:Int) 1=j - i:=by
 unfold Builtin.Slice.slicePlaces
 have h1:(1:Int) > 0:=by omega
 simp only [h1,if_true,Int.ediv_one]
 split <;> omega
theorem zfa {v:Value}{o:Option Int}{Q:Option Int→Shared→Prop}(p:IsPart v o)(h:Q o s):wpAny (model prog w) A (Builtin.Slice.slicePartIndex v) Q E s:=by
 cases p with
 | none=>exact slicePart_none h
 | int i t=>exact slicePart_int h
theorem zb8 {sl:Addr}{vl vu:Value}{lo hi:Option Int}{n:Nat}{Q:Int×Int×Nat→Shared→Prop}(hs:s.heap.IsSliceOf sl vl vu .none)(pl:IsPart vl lo)(pu:IsPart vu hi)
  (h:Q (((sIx n 0 lo:Nat):Int),1,sIx n n hi - sIx n 0 lo) s):wpAny (model prog w) A (Builtin.Slice.sliceApplied (.ref sl) (pure (n:Int))) Q E s:=by
 obtain ⟨os,hos,hcs,hds⟩:=id hs
 unfold Builtin.Slice.sliceApplied Builtin.Slice.sliceFields
 refine Xaa (Xaa (XaS hos hds (x:=vl) rfl (Xaa (XaS hos hds (x:=vu) rfl (Xaa (XaS hos hds (x:=.none) rfl (Xac ?_)))))))
 refine Xaa (slicePart_none ?_)
 show wpAny _ _ (if ((1:Int) == 0)=true then _ else _) _ _ s
 rw [if_neg (by decide)]
 refine Xaa (zfa pl (Xaa (zfa pu (Xaa (Xac ?_)))))
 show wpAny _ _ (match Builtin.Slice.sliceAdjust lo hi 1 (n:Int) with | (lo,hi)=>pure (lo,(1:Int),Builtin.Slice.slicePlaces lo hi 1)) _ _ s
 rw [zi5 lo hi n]
 show wpAny _ _ (pure (((sIx n 0 lo:Nat):Int),(1:Int),Builtin.Slice.slicePlaces ((sIx n 0 lo:Nat):Int) ((sIx n n hi:Nat):Int) 1)) _ _ s
 rw [zix]
 exact Xac h
theorem zk4 (xs:Array Value)(i k:Nat):((List.range k).filterMap fun (m:Nat)=>xs[((i:Int)+(m:Int) * 1).toNat]?).toArray=((xs.toList.drop i).take k).toArray:=by
 have e:(fun (m:Nat)=>xs[((i:Int)+(m:Int) * 1).toNat]?)=fun m=>xs[i+m]?:=by
  funext m
  have:((i:Int)+(m:Int) * 1).toNat=i+m:=by omega
  rw [this]
 rw [e]
 have:=pick_run xs i k
 rw [List.filterMap_map] at this
 have e2:((fun x=>xs[x]?) ∘ fun x=>i+x)=fun m=>xs[i+m]?:=rfl
 rw [e2] at this
 rw [this]
theorem getItem_tuple_cut {t sl:Addr}{items:Array Value}{vl vu:Value}{lo hi:Option Int}{Q:Value→Shared→Prop}(ht:IsTup s.heap t items)(hs:s.heap.IsSliceOf sl vl vu .none)(pl:IsPart vl lo)(pu:IsPart vu hi)
  (hw:¬ (sIx items.size 0 lo=0∧sIx items.size items.size hi=items.size))
  (h:Q (.ref s.heap.objs.size) { s with heap:=s.heap.push { cls:=.type "tuple",data:=.seq ((items.toList.drop (sIx items.size 0 lo)).take (sIx items.size items.size hi - sIx items.size 0 lo)).toArray } })
  (hsz:items.size≤sizeLine):wpAny (model prog w) A (getItem (.ref t) (.ref sl)) Q E s:=by
 have htake:sizeOk (.seq ((items.toList.drop (sIx items.size 0 lo)).take (sIx items.size items.size hi - sIx items.size 0 lo)).toArray):=by
  show ((items.toList.drop (sIx items.size 0 lo)).take (sIx items.size items.size hi - sIx items.size 0 lo)).toArray.size≤sizeLine
  rw [Xat,XaM,XaV,Array.length_toList]
  omega
 have hj:sIx items.size items.size hi≤items.size:=sIx_le _ _ (Xae _) hi
 obtain ⟨os,hos,hcs,hds⟩:=id hs
 have hTs:s.TypeIs (.ref sl) "slice" := ⟨os,hos,hcs⟩
 unfold getItem
 try with_reducible refine Xba ?_
 first | refine Xaa (Xac ?_) | skip
 refine Xaa (wpAny_sequenceKey ht.typeIs (by decide) ?_)
 refine Xaa (wpAny_callSpecial?_slot (name:=Str.ofString "__getitem__") ht.typeIs PyProof.Rows.slot_tuple_getitem
  (XaW PyProof.Rows.slot_tuple_getitem ht.typeIs entry_tuple_getitem ?_ (args_tuple_getitem _ _)))
 show wpAny _ _ (Builtin.Tuple.tupleItemsOf (.ref t) >>= _) _ _ s
 refine Xaa (tupleItemsOf_ ht ?_)
 refine Xaa (wpAny_typeOf hTs ?_)
 rw [if_pos (by decide)]
 refine Xaa (zb8 hs pl pu ?_)
 have hno:¬ ((((sIx items.size 0 lo:Nat):Int) == 0 && (1:Int) == 1 && (sIx items.size items.size hi - sIx items.size 0 lo) == items.size)=true):=by
  intro q
  rw [Xa5,Xa5] at q
  have q1:((sIx items.size 0 lo:Nat):Int)=0:=eq_of_beq q.1.1
  have q2:sIx items.size items.size hi - sIx items.size 0 lo=items.size:=eq_of_beq q.2
  exact hw ⟨by omega,by omega⟩
 show wpAny _ _ (if (((sIx items.size 0 lo:Nat):Int) == 0 && (1:Int) == 1 && (sIx items.size items.size hi - sIx items.size 0 lo) == items.size)=true then _ else _) _ _ s
 rw [if_neg hno,zk4]
 first
  | exact Xaa (m:=Builtin.Tuple.tupleExact _) (XaR (Xac ⟨_,rfl,Xac h⟩) htake)
  | exact Xaa (m:=Builtin.Tuple.tupleExact _) (XaR (Xaa (Xac (Xac ⟨_,rfl,Xac h⟩))) htake)
  | exact Xaa (Xaa (m:=Builtin.Tuple.tupleExact _) (XaR (Xac (Xac ⟨_,rfl,Xac h⟩)) htake))
  | exact Xaa (Xaa (m:=Builtin.Tuple.tupleExact _) (XaR (Xac ⟨_,rfl,Xac h⟩) htake))
end
end HT
namespace L2
open PySem PySem.Spec PyProof.Rows
abbrev TO:=St→Hp→(Option Int→Hp→Prop)→Prop
def PO (X:Cx)(e:Option Expr)(t:TO):Prop:=
 ∀ (pins:List (Addr×Obj)) (s:Shared) (σ:St) (H:Hp) (Q:Option Int→Hp→Prop),Inv X pins σ H s→t σ H Q →
  wpAny (model X.prog X.w) X.A (evalPart e X.env) (fun u s'=>∃ o H',Inv X pins σ H' s'∧IsPart u o∧Q o H') X.xe s
def zmr:TO:=fun _ H Q=>Q none H
inductive tPart_1 (Q:Option Int→Hp→Prop)(x:V)(H1:Hp):Prop
 | mk (i:_) (z0_:x = .int i) (z1_:Q (some i) H1)
def tPart (t:TE):TO:=fun σ H Q=>t σ H (tPart_1 Q)
theorem ziS {ns:List Int}:∀ {us:List Value},Vals (ns.map V.int) us→IntsAre us ns:=by
 induction ns with
 | nil=>intro us r;rw [List.map_nil] at r;cases r;exact .nil
 | cons n ns ih =>
  intro us r
  rw [XaJ] at r
  cases r with
  | cons r1 r2 =>
   obtain ⟨t,e⟩:=r1
   subst e
   exact .cons n t (ih r2)
section
variable {X:Cx}{e:Expr}{te:TE}{lo hi:Option Expr}{tl th:TO}{pos p2:Pos}
theorem zcR:PO X none zmr:=by
 intro pins s σ H Q I h
 rw [evalPart_none]
 exact Xac ⟨none,H,I,.none,h⟩
theorem za9 (h:PE X e te):PO X (some e) (tPart te):=by
 intro pins s σ H Q I hw
 rw [evalPart_some]
 refine thn (h pins s σ H _ I hw) fun u s1 hh_=>?_
 obtain ⟨x,H1,I1,r1,q1⟩:=hh_
 obtain ⟨i,rfl,q⟩:=q1
 obtain ⟨t,rfl⟩:=r1
 exact ⟨some i,H1,I1,.int i t,q⟩
def SlR (X:Cx)(r:V→Option Int→Option Int→Hp→VK→Prop):Prop:=
 ∀ (pins:List (Addr×Obj)) (s:Shared) (σ:St) (H:Hp) (x:V) (v vl vu:Value) (lo hi:Option Int) (sl:Addr) (Q:VK),Inv X pins σ H s→RelV x v→s.heap.IsSliceOf sl vl vu .none→IsPart vl lo→IsPart vu hi→r x lo hi H Q →
  ∃ T id,typeLookup (.type T) "__getitem__" = pure (some (.builtin id))∧s.TypeIs v T∧wpAny (model X.prog X.w) X.A (getItem v (.ref sl)) (EP X pins σ Q) X.xe s
def tSl (r:V→Option Int→Option Int→Hp→VK→Prop)(te:TE)(tl th:TO):TE:=fun σ H Q=>te σ H fun x H1=>tl σ H1 fun l H2=>th σ H2 fun u H3=>r x l u H3 Q
theorem zbg {r:V→Option Int→Option Int→Hp→VK→Prop}(hr:SlR X r)(he:PE X e te)(hl:PO X lo tl)(hu:PO X hi th):PE X (.Subscript e (.Slice lo hi none p2) pos) (tSl r te tl th):=by
 intro pins s σ H Q I h
 refine Subscript_ (thn (he pins s σ H _ I h) fun v s1 hh_=>?_)
 obtain ⟨x,H1,I1,r1,q1⟩:=hh_
 refine wpAny_Slice (thn (hl pins s1 σ H1 _ I1 q1) fun vl s2 ⟨l,H2,I2,pl,q2⟩=>thn (hu pins s2 σ H2 _ I2 q2) fun vu s3 hh_=>?_)
 obtain ⟨u,H3,I3,pu,q3⟩:=hh_
 rw [evalPart_none]
 refine Xac ?_
 have I4:Inv X pins σ H3 { s3 with heap:=s3.heap.push { cls:=.type "slice",data:=.fields #[vl,vu,.none] } }:=I3.kept (t':=s3.toks) fun b ob q=>Xab _ q
 obtain ⟨T,id,hT,ht,hg⟩:=hr pins { s3 with heap:=s3.heap.push { cls:=.type "slice",data:=.fields #[vl,vu,.none] } } σ H3 x v vl vu l u s3.heap.objs.size Q I4 r1 (Heap.IsSliceOf.new ..) pl pu q3
 show wpAny (model X.prog X.w) X.A (subscriptTail e (.Slice lo hi none p2) v (.ref s3.heap.objs.size)) (EP X pins σ Q) X.xe { s3 with heap:=s3.heap.push { cls:=.type "slice",data:=.fields #[vl,vu,.none] } }
 exact tail_any (ops:=[.ref s3.heap.objs.size,v]) ht hT hg (by with_unfolding_all rfl)
def cutV (xs:List V)(lo hi:Option Int):List V:=(xs.drop (HT.sIx xs.length 0 lo)).take (HT.sIx xs.length xs.length hi - HT.sIx xs.length 0 lo)
theorem zcV (xs:List V)(lo hi:Option Int):(cutV xs lo hi).length≤xs.length:=by
 unfold cutV
 rw [XaM,XaV]
 omega
inductive rSlT (K:W.Frag)(x:V)(lo:Option Int)(hi:Option Int)(H:Hp)(Q:VK):Prop
 | mk (a:_) (xs:_) (z0_:x = .ref a) (z1_:SqT K H a xs) (z2_:¬ (HT.sIx xs.length 0 lo=0∧HT.sIx xs.length xs.length hi=xs.length)) (z3_:∀ p,H p=none→Q (.ref p) (upd H p (.tup (cutV xs lo hi))))
theorem sl_tup:SlR X (rSlT X.K):=by
 intro pins s σ H x v vl vu lo hi sl Q I rx hs pl pu h
 obtain ⟨a,xs,rfl,hx,hw,q⟩:=h
 cases rx
 obtain ⟨its,r,ht,hz⟩:=I.tuple hx
 have hlen:its.toArray.size=xs.length:=by rw [Xat];exact r.length.symm
 refine ⟨"tuple",_,PyProof.Rows.slot_tuple_getitem.lookup,ht.typeIs,?_⟩
 refine HT.getItem_tuple_cut ht hs pl pu (by rw [hlen];exact hw) ?_ (by rw [hlen];exact hz)
 rw [hlen]
 refine ⟨.ref s.heap.objs.size,_,I.laid (t':=s.toks) (o:=.tup (cutV xs lo hi)) (fun b ob q=>Xab _ q) (Xae _) ?_,rfl,q _ (I.hok.fresh (Xae _))⟩
 exact ⟨⟨Xam (zcV xs lo hi) hz,_,Xaj _ rfl,rfl⟩,_,(r.drop (HT.sIx xs.length 0 lo)).take (HT.sIx xs.length xs.length hi - HT.sIx xs.length 0 lo),IsTup.new _ _⟩
theorem Vals.nil_iff {xs:List V}{us:List Value}(r:Vals xs us):us=[]↔xs=[]:=by
 cases r with
 | nil=>simp
 | cons _ _=>simp
end
def ixN (n:Nat)(i:Int):Option Nat:=if 0≤i then (if i<n then some i.toNat else none) else if -(n:Int)≤i then some (i+n).toNat else none
def atI {α:Type}(xs:List α)(i:Int):Option α:=(ixN xs.length i).bind fun j=>xs[j]?
theorem zj0 {n:Nat}{i:Int}{j:Nat}(h:ixN n i=some j):seqIndex? i n=some j∧j<n∧-(n:Int)≤i∧i<n:=by
 unfold ixN at h
 by_cases h0:0≤i
 ·rw [if_pos h0] at h
  by_cases h1:i<n
  ·rw [if_pos h1] at h
   have e:i.toNat=j:=Option.some.inj h
   exact ⟨by rw [seqIndex_of h0 h1,e],by omega,by omega,h1⟩
  ·rw [if_neg h1] at h;cases h
 ·rw [if_neg h0] at h
  by_cases h1:-(n:Int)≤i
  ·rw [if_pos h1] at h
   have e:(i+n).toNat=j:=Option.some.inj h
   exact ⟨by rw [seqIndex_neg (by omega) h1,e],by omega,h1,by omega⟩
  ·rw [if_neg h1] at h;cases h
theorem zhM {α:Type}{xs:List α}{i:Int}{v:α}(h:atI xs i=some v):∃ j,seqIndex? i xs.length=some j∧xs[j]? = some v∧j<xs.length∧-(xs.length:Int)≤i∧i<xs.length:=by
 unfold atI at h
 cases e:ixN xs.length i with
 | none=>rw [e] at h;cases h
 | some j =>
  rw [e] at h
  obtain ⟨h1,h2,h3,h4⟩:=zj0 e
  exact ⟨j,h1,h,h2,h3,h4⟩
theorem zaA {α:Type}{xs:List α}{j:Nat}{v:α}(h:xs[j]? = some v):atI xs (j:Int)=some v:=by
 have hj:j<xs.length:=(Xaf.mp h).1
 have e:ixN xs.length (j:Int)=some j:=by
  unfold ixN
  rw [if_pos (by omega),if_pos (by omega)];simp
 unfold atI;rw [e];exact h
theorem zdf {α:Type}(xs:List α)(v:α):atI (xs ++ [v]) (-1)=some v:=by
 have hl:(xs ++ [v]).length=xs.length+1:=by simp
 have e:ixN (xs ++ [v]).length (-1)=some xs.length:=by
  unfold ixN
  rw [hl,if_neg (by decide),if_pos (by omega)]
  congr 1
  omega
 unfold atI
 rw [e]
 show (xs ++ [v])[xs.length]? = some v
 simp
def zkD (b:Expr):Prop:=∀ o i,subscripted b false o i=operate [o,i] (getItem o i)
def IxR (X:Cx)(r:R2):Prop:=
 ∀ (value slice:Expr) (pins:List (Addr×Obj)) (s:Shared) (σ:St) (H:Hp) (x y:V) (v u:Value) (Q:VK),Inv X pins σ H s→RelV x v→RelV y u→r x y H Q →
  subscripted slice false v u=operate [v,u] (getItem v u)→wpAny (model X.prog X.w) X.A (subscriptTail value slice v u) (EP X pins σ Q) X.xe s
def MtR (X:Cx)(id:String)(r:V→List V→Hp→VK→Prop):Prop:=
 ∀ (pins:List (Addr×Obj)) (s:Shared) (σ:St) (H:Hp) (x:V) (xs:List V) (v:Value) (us:List Value) (Q:VK),Inv X pins σ H s→RelV x v→Vals xs us→r x xs H Q →
  wpAny (model X.prog X.w) X.A (call (.builtin id) (v :: us)) (EP X pins σ Q) X.xe s
section
variable {X:Cx}{a b:Expr}{ta tb:TE}{pos:Pos}
theorem pe_ix {r:R2}(hr:IxR X r)(ha:PE X a ta)(hb:PE X b tb)(hs:zkD b):PE X (.Subscript a b pos) (tOp r ta tb):=by
 intro pins s σ H Q I h
 exact Subscript_ (binT ha hb I h fun v u s2 x y H2 I2 rx ry q=>hr a b pins s2 σ H2 x y v u Q I2 rx ry q (hs _ _))
inductive rIxL (K:W.Frag)(x:V)(y:V)(H:Hp)(Q:VK):Prop
 | mk (p:_) (xs:_) (i:_) (v:_) (z0_:x = .ref p) (z1_:y = .int i) (z2_:SqL K H p xs) (z3_:atI xs i=some v) (z4_:Q v H)
inductive rIxT (K:W.Frag)(x:V)(y:V)(H:Hp)(Q:VK):Prop
 | mk (p:_) (xs:_) (i:_) (v:_) (z0_:x = .ref p) (z1_:y = .int i) (z2_:SqT K H p xs) (z3_:atI xs i=some v) (z4_:Q v H)
inductive rIxS (x:V)(y:V)(H:Hp)(Q:VK):Prop
 | mk (z:_) (i:_) (c:_) (z0_:x = .str z) (z1_:y = .int i) (z2_:z.length≤sizeLine) (z3_:atI z.cps.toList i=some c) (z4_:Q (.str ⟨#[c]⟩) H)
theorem zam:IxR X (rIxL X.K):=by
 intro value slice pins s σ H x y v u Q I rx ry h hs
 obtain ⟨p,xs,i,z,rfl,rfl,hq,he,q⟩:=h
 cases rx
 obtain ⟨t,rfl⟩:=ry
 obtain ⟨its,r,pl,hz⟩:=I.list hq
 obtain ⟨j,h1,h2,h3,h4,h5⟩:=zhM he
 obtain ⟨w,ew,rw'⟩:=r.get h2
 have hl:=r.length
 have hn:=zfe
 have fin:EP X pins σ Q w s:=⟨z,H,I,rw',q⟩
 by_cases h0:0≤i
 ·have hj:i.toNat=j:=by
   rw [seqIndex_of h0 h5] at h1
   exact Option.some.inj h1
  exact item_listR pl.isList h0 (by omega) (by rw [hj];simpa using ew) fin hs
 ·have hj:(i+(its.toArray.size:Int)).toNat=j:=by
   rw [seqIndex_neg (by omega) h4] at h1
   rw [Xat,← hl]
   exact Option.some.inj h1
  exact subscriptTail_builtinR (x:=w) pl.isList.typeIs slot_list_getitem.lookup
   (wpAny_getItem_list_neg (Q:=fun r s'=>r=w∧EP X pins σ Q r s') pl.isList (by omega) (by rw [Xat] <;> omega) (by omega) (by rw [hj];simpa using ew) ⟨rfl,fin⟩) hs
theorem zaw:IxR X (rIxT X.K):=by
 intro value slice pins s σ H x y v u Q I rx ry h hs
 obtain ⟨p,xs,i,z,rfl,rfl,hq,he,q⟩:=h
 cases rx
 obtain ⟨t,rfl⟩:=ry
 obtain ⟨its,r,pl,hz⟩:=I.tuple hq
 obtain ⟨j,h1,h2,h3,h4,h5⟩:=zhM he
 obtain ⟨w,ew,rw'⟩:=r.get h2
 have hl:=r.length
 have hn:=zfe
 have fin:EP X pins σ Q w s:=⟨z,H,I,rw',q⟩
 exact subscriptTail_builtinR (x:=w) pl.typeIs slot_tuple_getitem.lookup
  (getItem_tuple (j:=j) (Q:=fun r s'=>r=w∧EP X pins σ Q r s') pl (by omega) (by omega) (by rw [Xat,← hl];exact h1) (by simpa using ew) ⟨rfl,fin⟩) hs
theorem ix_str:IxR X rIxS:=by
 intro value slice pins s σ H x y v u Q I rx ry h hs
 obtain ⟨z,i,c,rfl,rfl,hz,he,q⟩:=h
 obtain ⟨t,rfl⟩:=rx
 obtain ⟨t',rfl⟩:=ry
 obtain ⟨j,h1,h2,h3,h4,h5⟩:=zhM he
 have hl:z.cps.toList.length=z.length:=by simp [Str.length]
 rw [hl] at h1 h4 h5
 have hn:=zfe
 exact tail_any (typeIs_str s z t) slot_str_getitem.lookup (getItem_str (c:=c) (by
  have e1:decide (i < -(2 ^ 63:Int))=false:=Xai (by omega)
  have e2:decide (i ≥ 2 ^ 63)=false:=Xai (by omega)
  rw [e1,e2,Bool.or_false]) (by rw [h1];simpa using h2) ⟨.str ⟨#[c]⟩,H,I.tok _,⟨_,rfl⟩,q⟩) hs
theorem ziN (its:List Value)(n j:Nat)(u:Value):Obj.mapSeq (·.setIfInBounds j u) { cls:=.type "list",data:=.seq its.toArray n }={ cls:=.type "list",data:=.seq (its.set j u).toArray n }:=by
 simp [Obj.mapSeq]
theorem Inv.lst {pins:List (Addr×Obj)}{σ:St}{H:Hp}{s:Shared}{p:Addr}{xs:List V}(I:Inv X pins σ H s)(h:H p=some (.lst xs)) :
  ∃ (its:List Value) (n:Nat),Vals xs its∧s.heap.get? p=some { cls:=.type "list",data:=.seq its.toArray n }∧xs.length≤sizeLine:=by
 obtain ⟨z,its,n,r,e⟩:=I.hok p _ h
 exact ⟨its,n,r,e,z⟩
theorem Inv.lstUpd {pins:List (Addr×Obj)}{σ:St}{H:Hp}{s:Shared}{p:Addr}{xs ys:List V}{its its':List Value}{n n':Nat}{f:Obj→Obj}(I:Inv X pins σ H s)(h:H p=some (.lst xs))
  (ho:s.heap.get? p=some { cls:=.type "list",data:=.seq its.toArray n }) (hf:f { cls:=.type "list",data:=.seq its.toArray n }={ cls:=.type "list",data:=.seq its'.toArray n' }) (r:Vals ys its') (hz:ys.length≤sizeLine) (t:Nat) :
  Inv X pins σ (upd H p (.lst ys)) { s with heap:=s.heap.update p f,toks:=t }:=by
 have e:(s.heap.update p f).get? p=some { cls:=.type "list",data:=.seq its'.toArray n' }:=by
  rw [XaT f ho (by rw [hf] <;> rfl),hf]
 refine I.write (x:=p) (e:=p) (by rw [h];trivial) (.inl rfl) (fun b u hb q=>(XaY _ _ (Ne.symm hb)).trans q) ⟨_,e⟩ ?_
 exact ⟨hz,its',n',r,e⟩
inductive rSetL (o:V)(i:V)(v:V)(H:Hp)(Q:(Hp→Prop)):Prop
 | mk (p:_) (xs:_) (k:_) (j:_) (z0_:o = .ref p) (z1_:i = .int k) (z2_:H p=some (.lst xs)) (z3_:ixN xs.length k=some j) (z4_:Q (upd H p (.lst (xs.set j v))))
theorem zfy:PSet X rSetL:=by
 intro pins s σ H o i v ov iv u Q I ro ri rv h
 obtain ⟨p,xs,k,j,rfl,rfl,hp,hj,q⟩:=h
 cases ro
 obtain ⟨t,rfl⟩:=ri
 obtain ⟨its,n,r,ho,hz⟩:=I.lst hp
 obtain ⟨h1,h2,h3,h4⟩:=zj0 hj
 have hl:=r.length
 have hn:=zfe
 have I':Inv X pins σ (upd H p (.lst (xs.set j v))) { s with heap:=s.heap.update p (Obj.mapSeq (·.setIfInBounds j u)) }:=
  I.lstUpd hp ho (ziN its n j u) (r.set rv j) (by rw [XbY];exact hz) s.toks
 by_cases h0:0≤k
 ·have hk:k.toNat=j:=by
   rw [seqIndex_of h0 h4] at h1
   exact Option.some.inj h1
  exact W.ki_setAt ho h0 (by omega) (by rw [Xat,← hl];exact h4) (by rw [hk];exact ⟨_,I',q⟩)
 ·have hk:(k+(its.toArray.size:Int)).toNat=j:=by
   rw [seqIndex_neg (by omega) h3] at h1
   rw [Xat,← hl]
   exact Option.some.inj h1
  exact W.ki_setBack ho (by omega) (by rw [Xat,← hl];exact h3) (by omega) (by rw [hk];exact ⟨_,I',q⟩)
theorem zf2 (lo hi:Option Int)(n:Nat):(sliceBounds lo hi none n).1=((HT.sIx n 0 lo:Nat):Int)∧(sliceBounds lo hi none n).2.1=((HT.sIx n n hi:Nat):Int)∧(sliceBounds lo hi none n).2.2=1:=by
 refine ⟨?_,?_,rfl⟩
 ·cases lo with
  | none=>simp [sliceBounds,HT.sIx]
  | some i =>
   simp only [sliceBounds,HT.sIx,Option.getD_none,show (1:Int) > 0 by decide,if_true]
   by_cases h:i<0
   ·simp only [h,if_true] <;> omega
   ·simp only [h,if_false] <;> omega
 ·cases hi with
  | none=>simp [sliceBounds,HT.sIx]
  | some i =>
   simp only [sliceBounds,HT.sIx,Option.getD_none,show (1:Int) > 0 by decide,if_true]
   by_cases h:i<0
   ·simp only [h,if_true] <;> omega
   ·simp only [h,if_false] <;> omega
theorem zfv (its:List Value)(lo hi:Option Int):slicePick its.toArray lo hi none=((its.drop (HT.sIx its.length 0 lo)).take (HT.sIx its.length its.length hi - HT.sIx its.length 0 lo)).toArray:=by
 obtain ⟨h1,h2,h3⟩:=zf2 lo hi its.toArray.size
 unfold slicePick
 rw [h1,h2,h3]
 simp only [sliceRange_one,pick_run,Xat] <;> rfl
inductive rSlL (K:W.Frag)(x:V)(lo:Option Int)(hi:Option Int)(H:Hp)(Q:VK):Prop
 | mk (a:_) (xs:_) (z0_:x = .ref a) (z1_:SqL K H a xs) (z2_:∀ p,H p=none→Q (.ref p) (upd H p (.lst (cutV xs lo hi))))
theorem zdg:SlR X (rSlL X.K):=by
 intro pins s σ H x v vl vu lo hi sl Q I rx hs pl pu h
 obtain ⟨a,xs,rfl,hx,q⟩:=h
 cases rx
 obtain ⟨its,r,ht,hz⟩:=I.list hx
 have hlen:=r.length
 refine ⟨"list",_,slot_list_getitem.lookup,ht.isList.typeIs,?_⟩
 refine wpAny_getItem_list_slice ht.isList hs pl pu .none (by simp) ?_ (by rw [Xat] <;> omega)
 rw [zfv,← hlen]
 refine ⟨.ref s.heap.objs.size,_,I.laid (t':=s.toks) (o:=.lst (cutV xs lo hi)) (fun b ob q=>Xab _ q) (Xae _) ?_,rfl,q _ (I.hok.fresh (Xae _))⟩
 exact ⟨Xam (zcV xs lo hi) hz,_,0,(r.drop (HT.sIx xs.length 0 lo)).take (HT.sIx xs.length xs.length hi - HT.sIx xs.length 0 lo),Xaj _ rfl⟩
theorem zar:zdI X (.builtin "len") (fun xs H Q=>∃ p ys,xs=[.ref p]∧(SqL X.K H p ys∨SqT X.K H p ys)∧Q (.int ys.length) H):=by
 intro pins s σ H xs us Q I r h
 obtain ⟨p,ys,rfl,hq,q⟩:=h
 obtain ⟨u,rfl,rx⟩:=zd8 r
 cases rx
 have hn:=zfe
 rcases hq with hq | hq
 ·obtain ⟨its,r',pl,hz⟩:=I.list hq
  have hlen:=r'.length
  exact Calls.call_len_list pl.isList (by simp only [Xat] <;> omega) ⟨.int ys.length,H,I.tok _,⟨s.toks+1,by rw [Xat,hlen]⟩,q⟩
 ·obtain ⟨its,r',pl,hz⟩:=I.tuple hq
  have hlen:=r'.length
  exact len_tuple pl (by simp only [Xat] <;> omega) ⟨.int ys.length,H,I.tok _,⟨s.toks+1,by rw [Xat,hlen]⟩,q⟩
theorem zdK:zdI X (.type "list") (fun xs H Q=>∃ p ys,xs=[.ref p]∧(SqL X.K H p ys∨SqT X.K H p ys)∧∀ l,H l=none→Q (.ref l) (upd H l (.lst ys))):=by
 intro pins s σ H xs us Q I r h
 obtain ⟨p,ys,rfl,hq,q⟩:=h
 obtain ⟨u,rfl,rx⟩:=zd8 r
 cases rx
 have fin:∀ (its:List Value),Vals ys its→ys.length≤sizeLine→∀ (h':Heap) (c':Nat),(∀ b o',s.heap.get? b=some o'→h'.get? b=some o') →
   h'.get? s.heap.objs.size=some { cls:=.type "list",dict:=none,data:=.seq its.toArray c',slots:=#[] }→EP X pins σ Q (.ref s.heap.objs.size) { s with heap:=h' }:=fun its r' hz h' c' kp e =>
  ⟨.ref s.heap.objs.size,_,I.laid (t':=s.toks) kp (Xae _) (show ObjOk X.prog X.w _ h' _ (.lst ys) from ⟨hz,its,c',r',e⟩),rfl,q _ (I.hok.fresh (Xae _))⟩
 rcases hq with hq | hq
 ·obtain ⟨its,r',pl,hz⟩:=I.list hq
  have hlen:=r'.length
  obtain ⟨o,ho,hc,n,hd⟩:=pl.isList
  exact call_list_seq p (.inl rfl) ho hc hd (fun h' c' kp e=>fin its r' hz h' c' kp e) (by simp only [Xat] <;> omega)
 ·obtain ⟨its,r',pl,hz⟩:=I.tuple hq
  have hlen:=r'.length
  obtain ⟨o,ho,hc,n,hd⟩:=pl
  exact call_list_seq p (.inr rfl) ho hc hd (fun h' c' kp e=>fin its r' hz h' c' kp e) (by simp only [Xat] <;> omega)
theorem zdd:zdI X (.type "tuple") (fun xs H Q=>∃ p ys,xs=[.ref p]∧((SqL X.K H p ys∧∀ l,H l=none→Q (.ref l) (upd H l (.tup ys)))∨(SqT X.K H p ys∧Q (.ref p) H))):=by
 intro pins s σ H xs us Q I r h
 obtain ⟨p,ys,rfl,h⟩:=h
 obtain ⟨u,rfl,rx⟩:=zd8 r
 cases rx
 rcases h with ⟨hq,q⟩ | ⟨hq,q⟩
 ·obtain ⟨its,r',pl,hz⟩:=I.list hq
  have hlen:=r'.length
  refine call_tuple_list pl.isList (fun h' kp=>?_) (by simp only [Xat] <;> omega)
  have I1:Inv X pins σ H { s with heap:=h' }:=I.kept (t':=s.toks) kp
  have I2:Inv X pins σ (upd H h'.objs.size (.tup ys)) { s with heap:=h'.push { cls:=.type "tuple",data:=.seq its.toArray } }:=
   I1.laid (t':=s.toks) (fun b o e=>Xab _ e) (Xae _) (show ObjOk X.prog X.w _ _ _ (.tup ys) from ⟨⟨hz,_,Xaj _ rfl,rfl⟩,its,r',IsTup.new _ _⟩)
  exact ⟨.ref h'.objs.size,_,I2,rfl,q _ (I1.hok.fresh (Xae _))⟩
 ·obtain ⟨its,r',pl,hz⟩:=I.tuple hq
  exact call_tuple_same pl ⟨.ref p,H,I,rfl,q⟩
def tyV (K:W.Frag)(T:String)(x:V)(H:Hp):Prop:=match x with
 | .str _=>T = "str"
 | .int _=>T = "int"
 | .ref p=>(T = "list" ∧ ∃ xs,SqL K H p xs)∨(T = "tuple" ∧ ∃ o,K.lookup p=some o∧o.cls = .type "tuple" ∧ o.dict=none) ∨
   (T = "dict" ∧ ((∃ kvs,H p=some (.dK kvs))∨∃ kvs,H p=some (.dT kvs)))∨(T = "set" ∧ ∃ S n,H p=some (.set S n))
 | _=>False
theorem zlO {pins:List (Addr×Obj)}{σ:St}{H:Hp}{s:Shared}{T:String}{x:V}{v:Value}(I:Inv X pins σ H s)(r:RelV x v)(ty:tyV X.K T x H) :
  s.TypeIs v T∧∀ a,v = .ref a→∃ ob,s.heap.get? a=some ob∧ob.dict=none:=by
 cases x with
 | str z =>
  obtain ⟨t,rfl⟩:=r
  cases (show T = "str" from ty)
  exact ⟨typeIs_str s z t,fun _ e=>nomatch e⟩
 | int i =>
  obtain ⟨t,rfl⟩:=r
  cases (show T = "int" from ty)
  exact ⟨typeIs_int s i t,fun _ e=>nomatch e⟩
 | ref p =>
  cases r
  rcases ty with ⟨rfl,xs,hq⟩ | ⟨rfl,o,hk,hc,hd⟩ | ⟨rfl,hk⟩ | ⟨rfl,S,n,hk⟩
  ·obtain ⟨its,_,pl,_⟩:=I.list hq
   refine ⟨pl.isList.typeIs,fun a e=>?_⟩
   cases e
   obtain ⟨o,n,e,c,hd,_⟩:=pl
   exact ⟨o,e,hd⟩
  ·refine ⟨⟨o,I.kIn p o hk,hc⟩,fun a e=>?_⟩
   cases e
   exact ⟨o,I.kIn _ o hk,hd⟩
  ·have z:∃ o,s.heap.get? p=some o∧o.ExactDict:=by
    rcases hk with ⟨kvs,hk⟩ | ⟨kvs,hk⟩
    ·obtain ⟨_,_,_,_,o,_,_,e,ex,_⟩:=I.hok p _ hk
     exact ⟨o,e,ex⟩
    ·obtain ⟨_,_,_,_,o,_,_,e,ex,_⟩:=I.hok p _ hk
     exact ⟨o,e,ex⟩
   obtain ⟨o,e,ex⟩:=z
   refine ⟨⟨o,e,ex.1⟩,fun a e2=>?_⟩
   cases e2
   exact ⟨o,e,ex.2.1⟩
  ·obtain ⟨o,_,_,_,e,ex,_⟩:=I.hok p _ hk
   refine ⟨⟨o,e,ex.1⟩,fun a e2=>?_⟩
   cases e2
   exact ⟨o,e,ex.2.1⟩
 | _=>exact False.elim ty
def tBM0 (K:W.Frag)(T:String)(r:V→List V→Hp→VK→Prop)(to:TE):TE:=fun σ H Q=>to σ H fun x H1=>tyV K T x H1∧r x [] H1 Q
def tBM (K:W.Frag)(T:String)(r:V→List V→Hp→VK→Prop)(to:TE)(t:TA):TE:=fun σ H Q=>to σ H fun x H1=>tyV K T x H1∧t σ H1 fun xs H2=>r x xs H2 Q
variable {o e:Expr}{es:List Expr}{to:TE}{t:TA}{name:Str}{apos cpos:Pos}{T id:String}{r:V→List V→Hp→VK→Prop}
theorem zjE (pa:PlainAttrs T)(slot:Slot T name id)(hty:typeOf (.builtin id)=pure (.type "method_descriptor"))(hm:MtR X id r)(ho:PE X o to)
  (hbase:attributeBase o name X.env (eval o X.env)=eval o X.env:=by rfl) (hline:(apos.endLine == cpos.line)=true:=by rfl):PE X (.Call (.Attribute o name apos) [] [] cpos) (tBM0 X.K T r to):=by
 intro pins s σ H Q I h
 refine wpAny_Call_method0_late hbase hline (thn (ho pins s σ H _ I h) fun v s1 hh_=>?_)
 obtain ⟨x,H1,I1,r1,ty,q1⟩:=hh_
 obtain ⟨h1,h2⟩:=zlO I1 r1 ty
 exact ⟨T,id,pa,slot,hty,h1,h2,Calls.callWith_builtin rfl (PySem.evalArgs_none (hm pins s1 σ H1 x [] v [] Q I1 r1 .nil q1))⟩
theorem zdz (pa:PlainAttrs T)(slot:Slot T name id)(hty:typeOf (.builtin id)=pure (.type "method_descriptor"))(hm:MtR X id r)(ho:PE X o to)(ha:PA X (e :: es) t)
  (hbase:attributeBase o name X.env (eval o X.env)=eval o X.env:=by rfl)
  (hfew:((backTo cpos (starEach (e :: es) X.env)).all (fun x=>!x.1) && (backToKw cpos (keywordEach [] X.env)).all (fun x=>x.1.isSome)
   && decide ((e :: es).length+([]:List Keyword).length+(if ([]:List Keyword).isEmpty then 0 else 1)<30))=true:=by rfl)
  (hline:(apos.endLine == cpos.line)=true:=by rfl) (hs:starEach (e :: es) X.env=(false,eval e X.env) :: starEach es X.env:=by rfl) (hplain:(backTo cpos (starEach es X.env)).any (·.1)=false:=by rfl) :
  PE X (.Call (.Attribute o name apos) (e :: es) [] cpos) (tBM X.K T r to t):=by
 intro pins s σ H Q I h
 refine wpAny_Call_method_late hbase hfew hline rfl (thn (ho pins s σ H _ I h) fun v s1 hh_=>?_)
 obtain ⟨x,H1,I1,r1,ty,q1⟩:=hh_
 obtain ⟨h1,h2⟩:=zlO I1 r1 ty
 refine ⟨T,id,pa,slot,hty,h1,h2,?_⟩
 have hA:=ha cpos pins s1 σ H1 _ I1 q1
 rw [hs] at hA ⊢
 refine Calls.callWith_builtin (by show (false || (backTo cpos (starEach es X.env)).any (·.1))=false;rw [hplain] <;> rfl) (Calls.evalArgs_plain ?_)
 exact thn hA fun us s2 ⟨vs,H2,I2,r2,q2⟩=>hm pins s2 σ H2 x vs v us Q I2 r1 r2 q2
end
def MtM (X:Cx)(id:String)(r:V→List V→Hp→VK→Prop):Prop:=
 ∀ (pins:List (Addr×Obj)) (s:Shared) (σ:St) (H:Hp) (x:V) (xs:List V) (v:Value) (us:List Value) (Q:VK),Inv X pins σ H s→RelV x v→Vals xs us→r x xs H Q →
  wpAny (model X.prog X.w) X.A (call (.builtin id) (v :: us)) (EP X pins σ Q) X.xe s
theorem Vals.one:∀ {x:V} {us:List Value},Vals [x] us→∃ u,us=[u]∧RelV x u
 | _,_,.cons r .nil=>⟨_,rfl,r⟩
theorem Vals.zero:∀ {us:List Value},Vals [] us→us=[]
 | _,.nil=>rfl
theorem Vals.rep {xs:List V}{us:List Value}(h:Vals xs us):∀ k:Nat,Vals (List.replicate k xs).flatten (List.replicate k us).flatten
 | 0=>.nil
 | k+1=>by
  rw [Xa8,Xa8,List.flatten_cons,List.flatten_cons]
  exact Vals.append h (Vals.rep h k)
theorem zgz (its:List Value):∀ (k:Nat) (acc:List Value),
  List.foldl (fun x1 x2=>x1 ++ x2) acc.toArray (List.replicate k its.toArray)=(acc ++ (List.replicate k its).flatten).toArray
 | 0,acc=>by simp
 | k+1,acc=>by
  have e:acc.toArray ++ its.toArray=(acc ++ its).toArray:=by simp
  have e2:(acc ++ its) ++ (List.replicate k its).flatten=acc ++ (List.replicate (k+1) its).flatten:=by
   rw [Xa8,List.flatten_cons,List.append_assoc]
  rw [← e2,← zgz its k (acc ++ its),← e,Xa8,List.foldl_cons]
section
variable {X:Cx}{pins:List (Addr×Obj)}{σ:St}{H:Hp}{s:Shared}{l b:Addr}{xs ys zs:List V}
theorem Inv.lset {its its':List Value}{n:Nat}{f:Array Value→Array Value}{t':Nat}(I:Inv X pins σ H s)(hH:H l=some (.lst xs))
  (e:s.heap.get? l=some { cls:=.type "list",data:=.seq its.toArray n }) (hf:f its.toArray=its'.toArray) (hv:Vals ys its') (hz:ys.length≤sizeLine) :
  Inv X pins σ (upd H l (.lst ys)) { s with heap:=s.heap.update l (Obj.mapSeq f),toks:=t' }:=by
 have q:=PySem.IsL.update e f
 rw [hf] at q
 refine I.write (x:=l) (e:=l) (by rw [hH];exact trivial) (.inl rfl) (fun b' u hb hu=>(XaY s.heap (Obj.mapSeq f) (Ne.symm hb)).trans hu) ⟨_,q⟩ ?_
 exact ⟨hz,its',_,hv,q⟩
theorem Inv.lnew {its:List Value}{t':Nat}(I:Inv X pins σ H s)(hv:Vals ys its)(hz:ys.length≤sizeLine) :
  Inv X pins σ (upd H s.heap.objs.size (.lst ys)) { s with heap:=s.heap.push { cls:=.type "list",data:=.seq its.toArray },toks:=t' }:=
 I.laid (fun _ _ q=>Xab _ q) (Xae _) ⟨hz,its,0,hv,Xaj _ rfl⟩
theorem Inv.fresh (I:Inv X pins σ H s):H s.heap.objs.size=none:=I.hok.fresh (Xae _)
theorem Inv.lstM (I:Inv X pins σ H s)(hH:H l=some (.lst xs)):xs.length≤sizeLine∧∃ (its:List Value) (n:Nat),Vals xs its∧xs.length=its.length∧s.heap.get? l=some { cls:=.type "list",data:=.seq its.toArray n }:=by
 obtain ⟨z,its,n,r,e⟩:=I.hok l _ hH
 exact ⟨z,its,n,r,r.length,e⟩
theorem zlh {n:Nat}(h:n≤sizeLine):Builtin.List.listTooLong n=false:=by
 unfold Builtin.List.listTooLong
 exact Xai (by omega)
end
section
variable {X:Cx}
inductive rAppend (x:V)(vs:List V)(H:Hp)(Q:VK):Prop
 | mk (l:_) (xs:_) (y:_) (z0_:x = .ref l) (z1_:vs=[y]) (z2_:H l=some (.lst xs)) (z3_:xs.length<sizeLine) (z4_:Q .non (upd H l (.lst (xs ++ [y]))))
theorem zaW:MtM X "list.append" rAppend:=by
 intro pins s σ H x vs v us Q I rx rv h
 obtain ⟨l,xs,y,rfl,rfl,hH,hz,q⟩:=h
 cases rx
 obtain ⟨u,rfl,ru⟩:=rv.one
 obtain ⟨z,its,n,r,hl,e⟩:=I.lstM hH
 refine call_meets F.slot_list_append ⟨_,e,rfl⟩ F.entry_list_append (F.args_list_append_2 _ _) (PySem.list_append l its.toArray n u (by rw [Xat];omega)) ⟨e,?_⟩
 refine ⟨.non,_,I.lset (its':=its ++ [u]) hH e (by simp) (r.append (.cons ru .nil)) ?_,rfl,q⟩
 rw [Xay,List.length_singleton]
 omega
inductive rClear (x:V)(vs:List V)(H:Hp)(Q:VK):Prop
 | mk (l:_) (xs:_) (z0_:x = .ref l) (z1_:vs=[]) (z2_:H l=some (.lst xs)) (z3_:Q .non (upd H l (.lst [])))
theorem zli:MtM X "list.clear" rClear:=by
 intro pins s σ H x vs v us Q I rx rv h
 obtain ⟨l,xs,rfl,rfl,hH,q⟩:=h
 cases rx
 have hus:=rv.zero
 subst hus
 obtain ⟨z,its,n,r,hl,e⟩:=I.lstM hH
 refine call_meets F.slot_list_clear ⟨_,e,rfl⟩ F.entry_list_clear (F.args_list_clear_1 _) (AutoSeq1.list_clear_list_0 l its.toArray n (by rw [Xat];omega)) ⟨e,?_⟩
 exact ⟨.non,_,I.lset (its':=[]) (ys:=[]) hH e rfl .nil (Nat.zero_le _),rfl,q⟩
inductive rRep (x:V)(y:V)(H:Hp)(Q:VK):Prop
 | mk (l:_) (k:_) (xs:_) (z0_:x = .ref l) (z1_:y = .int k) (z2_:H l=some (.lst xs)) (z3_:-(2 ^ 63)≤k) (z4_:k<2 ^ 63) (z5_:xs.length * k.toNat≤sizeLine) (z6_:∀ p,H p=none→Q (.ref p) (upd H p (.lst (List.replicate k.toNat xs).flatten)))
theorem zmQ {α:Type}(xs:List α)(k:Nat):(List.replicate k xs).flatten.length=k * xs.length:=by
 induction k with
 | zero=>simp
 | succ k ih=>rw [Xa8,List.flatten_cons,Xay,ih,Nat.succ_mul,XbO]
theorem zl0:OpR X (binaryOp .Mult) rRep:=by
 intro pins s σ H x y v u Q I rx ry h
 obtain ⟨l,k,xs,rfl,rfl,hH,h1,h2,hz,q⟩:=h
 cases rx
 obtain ⟨t,rfl⟩:=ry
 obtain ⟨z,its,n,r,hl,e⟩:=I.lstM hH
 have hlen:its.toArray.size * k.toNat≤sizeLine:=by rw [Xat,← hl];exact hz
 have hcap:¬ its.toArray.size * k.toNat > (2 ^ 63 - 1) / 8:=by
  have:(sizeLine:Nat)≤(2 ^ 63 - 1) / 8:=by decide
  omega
 have hfit:¬ (!Builtin.List.listFitsIndex k)=true:=by
  rw [fitsIndex_both h1 h2]
  exact Xap
 have hlong:¬ Builtin.List.listTooLong (its.toArray.size * k.toNat)=true:=by
  rw [zlh hlen]
  exact Xap
 have hnew:List.foldl (fun x1 x2=>x1 ++ x2) #[] (List.replicate (if its.toArray.isEmpty=true then 0 else k.toNat) its.toArray)=(List.replicate k.toNat its).flatten.toArray:=by
  have f0:∀ m:Nat,List.foldl (fun x1 x2=>x1 ++ x2) #[] (List.replicate m its.toArray)=(List.replicate m its).flatten.toArray:=fun m=>by
   have:=zgz its m []
   rw [List.nil_append] at this
   exact this
  rw [f0]
  cases its with
  | nil=>simp
  | cons a r'=>rw [if_neg (by simp)]
 refine wpAny_binaryOp_repeat_ref (T := "list") (U := "int") (by decide) ⟨_,e,rfl⟩ (fun s'=>typeIs_int s' k t) noFill_list_mul F.fills_int_mul F.slot_int_rmul repeat_list F.slot_int_index.lookup
  (call_meets F.slot_int_rmul (typeIs_int s k t) F.entry_int_rmul (F.args_int_rmul_2 _ _) (int___rmul___int_list k t l its.toArray n)
   ⟨e,rfl,⟨_,e,rfl⟩,call_meets F.slot_list_mul ⟨_,e,rfl⟩ F.entry_list_mul (F.args_list_mul_2 _ _) (AutoListH.list___mul___list_int_3 l its.toArray n k t hfit hcap hlong) ⟨e,?_⟩⟩)
 rw [hnew]
 exact ⟨.ref _,_,I.lnew (t':=s.toks) (r.rep k.toNat) (by rw [zmQ,Xa4];exact hz),rfl,q _ I.fresh⟩
end
section
variable {prog:Program}{w:World}{A:Around}{E:Value→Shared→Prop}{s:Shared}
end
section
variable {X:Cx}
end
section
variable {κ:Type}[DecidableEq κ]
def valV (kvs:List (κ×V))(k:κ):Option V:=(kvs.find? fun kv=>decide (kv.1=k)).map (·.2)
def putK (kvs:List (κ×V))(k:κ)(v:V):List (κ×V):=
 if (kvs.any fun kv=>decide (kv.1=k))=true then kvs.map (fun kv=>if kv.1=k then (kv.1,v) else kv) else kvs ++ [(k,v)]
theorem zaX {p:κ×V}{r:List (κ×V)}{k:κ}(e:p.1=k):valV (p :: r) k=some p.2:=by simp [valV,List.find?_cons,e]
theorem za7 {p:κ×V}{r:List (κ×V)}{k:κ}(e:¬ p.1=k):valV (p :: r) k=valV r k:=by simp [valV,List.find?_cons,e]
theorem zcs (k:κ):∀ kvs:List (κ×V),(kvs.any fun kv=>decide (kv.1=k))=(valV kvs k).isSome
 | []=>rfl
 | p :: r=>by
  rw [List.any_cons]
  by_cases e:p.1=k
  ·simp only [zaX e,Xah e,Bool.true_or,Option.isSome_some]
  ·rw [za7 e,Xai e,Bool.false_or];exact zcs k r
theorem zhR (k j:κ)(y:V):∀ kvs:List (κ×V),valV (kvs.map fun kv=>if kv.1=k then (kv.1,y) else kv) j=(valV kvs j).map fun x=>if j=k then y else x
 | []=>rfl
 | p :: r=>by
  have ih:=zhR k j y r
  rw [XaJ]
  by_cases h:p.1=k
  ·rw [if_pos h]
   by_cases e:p.1=j
   ·rw [zaX (p:=(p.1,y)) e,zaX e,Option.map_some,if_pos (e.symm.trans h)]
   ·rw [za7 (p:=(p.1,y)) e,za7 e,ih]
  ·rw [if_neg h]
   by_cases e:p.1=j
   ·rw [zaX (p:=p) e,zaX e,Option.map_some,if_neg (fun z=>h (e.trans z))]
   ·rw [za7 (p:=p) e,za7 e,ih]
theorem zf0 (k j:κ)(y:V):∀ kvs:List (κ×V),valV kvs k=none→valV (kvs ++ [(k,y)]) j=if j=k then some y else valV kvs j
 | [],_=>by
  by_cases e:k=j
  ·rw [if_pos e.symm];exact zaX (p:=(k,y)) e
  ·rw [if_neg (fun z=>e z.symm)];exact za7 (p:=(k,y)) e
 | p :: r,hn=>by
  rw [List.cons_append]
  have hk:¬ p.1=k:=fun z=>by rw [zaX z] at hn;cases hn
  rw [za7 hk] at hn
  have ih:=zf0 k j y r hn
  by_cases e:p.1=j
  ·rw [zaX e,zaX e,if_neg (fun z=>hk (e.trans z))]
  ·rw [za7 e,za7 e,ih]
theorem zhQ (kvs:List (κ×V))(k j:κ)(y:V):valV (putK kvs k y) j=if j=k then some y else valV kvs j:=by
 unfold putK
 by_cases a:(kvs.any fun kv=>decide (kv.1=k))=true
 ·rw [if_pos a,zhR]
  rw [zcs] at a
  by_cases e:j=k
  ·obtain ⟨x,hx⟩:=Option.isSome_iff_exists.mp a
   rw [if_pos e,e,hx,Option.map_some,if_pos rfl]
  ·rw [if_neg e]
   cases valV kvs j with
   | none=>rfl
   | some x=>rw [Option.map_some,if_neg e]
 ·rw [if_neg a]
  refine zf0 k j y kvs ?_
  rw [zcs] at a
  cases q:valV kvs k with
  | none=>rfl
  | some x=>rw [q] at a;exact (a rfl).elim
theorem zb7 (kvs:List (κ×V))(k:κ)(v:V):(putK kvs k v).length≤kvs.length+1:=by
 unfold putK
 split
 ·rw [Xal];omega
 ·rw [Xay,Xar,XbE];omega
theorem RelO.isSome_eq {o:Option V}{u:Option Value}(r:RelO o u):o.isSome=u.isSome:=by
 cases o with
 | none=>cases u with
  | none=>rfl
  | some _=>exact (show False from r).elim
 | some _=>cases u with
  | none=>exact (show False from r).elim
  | some _=>rfl
theorem RelO.getD {o:Option V}{u:Option Value}{d:V}{d':Value}(r:RelO o u)(rd:RelV d d'):RelV (o.getD d) (u.getD d'):=by
 cases o with
 | none=>cases u with
  | none=>exact rd
  | some _=>exact (show False from r).elim
 | some _=>cases u with
  | none=>exact (show False from r).elim
  | some _=>exact r
theorem KV.val {kvs:List (κ×V)}{vs:List (κ×Value)}(r:KV kvs vs)(k:κ):RelO (valV kvs k) (valueAt vs k):=by
 unfold KV at r
 induction r with
 | nil=>exact True.intro
 | @cons p q ps qs h t ih =>
  obtain ⟨h1,h2⟩:=h
  by_cases e:p.1=k
  ·have e':q.1=k:=h1.symm.trans e
   have b:valueAt (q :: qs) k=some q.2:=by simp [valueAt,List.find?_cons,e']
   rw [zaX e,b];exact h2
  ·have e':¬ q.1=k:=fun z=>e (h1.trans z)
   have b:valueAt (q :: qs) k=valueAt qs k:=by simp [valueAt,List.find?_cons,e']
   rw [za7 e,b];exact ih
theorem KV.any {kvs:List (κ×V)}{vs:List (κ×Value)}(r:KV kvs vs)(k:κ):(kvs.any fun kv=>decide (kv.1=k))=vs.any fun kv=>decide (kv.1=k):=by
 unfold KV at r
 induction r with
 | nil=>rfl
 | cons h t ih=>rw [List.any_cons,List.any_cons,ih,h.1]
theorem KV.repl {kvs:List (κ×V)}{vs:List (κ×Value)}(r:KV kvs vs)(k:κ){y:V}{u:Value}(ry:RelV y u) :
  KV (kvs.map fun kv=>if kv.1=k then (kv.1,y) else kv) (vs.map fun kv=>if kv.1=k then (kv.1,u) else kv):=by
 unfold KV at r ⊢
 induction r with
 | nil=>exact .nil
 | @cons p q ps qs h t ih =>
  rw [XaJ,XaJ]
  refine .cons ?_ ih
  obtain ⟨h1,h2⟩:=h
  by_cases e:p.1=k
  ·rw [if_pos e,if_pos (h1.symm.trans e)];exact ⟨h1,ry⟩
  ·rw [if_neg e,if_neg (fun z=>e (h1.trans z))];exact ⟨h1,h2⟩
theorem KV.put {kvs:List (κ×V)}{vs:List (κ×Value)}(r:KV kvs vs)(k:κ){y:V}{u:Value}(ry:RelV y u):KV (putK kvs k y) (stored vs k u):=by
 unfold putK stored
 rw [r.any k]
 by_cases e:(vs.any fun kv=>decide (kv.1=k))=true
 ·rw [if_pos e,if_pos e];exact r.repl k ry
 ·rw [if_neg e,if_neg e];exact Paired.snoc r ⟨rfl,ry⟩
theorem KV.length {kvs:List (κ×V)}{vs:List (κ×Value)}(r:KV kvs vs):kvs.length=vs.length:=Paired.length r
end
theorem zhE {P:Program}{w:World}{k:Key}{u:Value}(r:RelV (kV k) u):(zaI P w).is k u=true:=by
 cases k with
 | inl i=>obtain ⟨t,e⟩:=(show ∃ t,u=Value.int i t from r);subst e;exact zhA P w i t
 | inr x=>obtain ⟨t,e⟩:=(show ∃ t,u=Value.str x t from r);subst e;exact zhz P w x t
theorem zgv {P:Program}{w:World}:∀ {ks:List Key} {us:List Value},Vals (ks.map kV) us→ItemsAre (zaI P w) ks us
 | [],_,r=>by rw [List.map_nil] at r;cases r;exact .nil
 | k :: ks,_,r=>by
  rw [XaJ] at r
  cases r with
  | cons h t=>exact .cons (zhE h) (zgv t)
abbrev KT (H:Hp):List (List Key×V)→List (List Key×Addr×Value)→Prop:=Paired fun p q=>p.1=q.1∧H q.2.1=some (.tup (p.1.map kV))∧RelV p.2 q.2.2
theorem KT.val {H:Hp}{kvs:List (List Key×V)}{xs:List (List Key×Addr×Value)}(r:KT H kvs xs)(k:List Key):RelO (valV kvs k) ((atKey xs k).map (·.2)):=by
 induction r with
 | nil=>exact True.intro
 | @cons p q ps qs h t ih =>
  obtain ⟨h1,_,h2⟩:=h
  by_cases e:p.1=k
  ·have e':q.1=k:=h1.symm.trans e
   have b:atKey (q :: qs) k=some q.2:=by simp [atKey,List.find?_cons,e']
   rw [zaX e,b];exact h2
  ·have e':¬ q.1=k:=fun z=>e (h1.trans z)
   have b:atKey (q :: qs) k=atKey qs k:=by simp [atKey,List.find?_cons,e']
   rw [za7 e,b];exact ih
theorem KT.repl {H:Hp}{kvs:List (List Key×V)}{xs:List (List Key×Addr×Value)}(r:KT H kvs xs)(k:List Key){y:V}{u:Value}(ry:RelV y u) :
  KT H (kvs.map fun kv=>if kv.1=k then (kv.1,y) else kv) (xs.map (putAt k u)):=by
 induction r with
 | nil=>exact .nil
 | @cons p q ps qs h t ih =>
  rw [XaJ,XaJ]
  refine .cons ?_ ih
  obtain ⟨h1,h2,h3⟩:=h
  unfold putAt
  by_cases e:p.1=k
  ·rw [if_pos e,if_pos (h1.symm.trans e)];exact ⟨h1,h2,ry⟩
  ·rw [if_neg e,if_neg (fun z=>e (h1.trans z))];exact ⟨h1,h2,h3⟩
theorem KT.put {H:Hp}{kvs:List (List Key×V)}{xs:List (List Key×Addr×Value)}(r:KT H kvs xs)(k:List Key){b:Addr}{y:V}{u:Value}(hb:H b=some (.tup (k.map kV)))(ry:RelV y u) :
  KT H (putK kvs k y) (storedH xs k b u):=by
 have e:(kvs.any fun kv=>decide (kv.1=k))=(atKey xs k).isSome:=by
  rw [zcs,(r.val k).isSome_eq,Option.isSome_map]
 unfold putK storedH
 rw [e]
 by_cases q:(atKey xs k).isSome=true
 ·rw [if_pos q,if_pos q];exact r.repl k ry
 ·rw [if_neg q,if_neg q];exact Paired.snoc r ⟨rfl,hb,ry⟩
theorem KT.keeps {H H':Hp}{kvs:List (List Key×V)}{xs:List (List Key×Addr×Value)}(r:KT H kvs xs)(ht:∀ b ys,H b=some (.tup ys)→H' b=some (.tup ys)):KT H' kvs xs:=
 Paired.mapP r fun _ _ z=>⟨z.1,ht _ _ z.2.1,z.2.2⟩
section
variable {P:Program}{w:World}{H:Hp}{h:Heap}{a:Addr}
theorem rd_of {u:HO}(ok:HOk P w H h)(e:Rd H a u):ObjOk P w H h a u:=e.ok ok
theorem ziW {kvs:List (Key×V)}(ok:HOk P w H h)(e:Rd H a (.dK kvs)):kvs.length≤sizeLine∧(a == sysModules)=false∧∃ vs,KV kvs vs∧h.DictOf (zaI P w) a vs:=
 show ObjOk P w H h a (.dK kvs) from rd_of ok e
theorem zkf {kvs:List (Key×V)}(ok:HOk P w H h)(e:H a=some (.dK kvs)):kvs.length≤sizeLine∧(a == sysModules)=false∧∃ vs,KV kvs vs∧h.DictOf (zaI P w) a vs:=ziW ok (.inl e)
theorem zff {ks:List Key}(ok:HOk P w H h)(e:H a=some (.tup (ks.map kV))):(tupleKind (zaI P w)).is h ks a:=by
 obtain ⟨_,its,r,o,h1,h2,n,h3⟩:=(show ObjOk P w H h a (.tup (ks.map kV)) from ok a _ e)
 exact ⟨o,its.toArray,n,h1,h2,h3,by simpa using zgv r⟩
theorem ziV {kvs:List (List Key×V)}(ok:HOk P w H h)(e:Rd H a (.dT kvs)):kvs.length≤sizeLine∧(a == sysModules)=false ∧
  ∃ xs,KT H kvs xs∧h.DictOfH (tupleKind (zaI P w)) a xs:=by
 obtain ⟨z,y,xs,r,o,es,ep,h1,h2,h3,h4,h5⟩:=(show ObjOk P w H h a (.dT kvs) from rd_of ok e)
 refine ⟨z,y,xs,r,o,es,ep,h1,h2,h3,h4,fun x hx=>?_,h5⟩
 have all:∀ {l:List (List Key×V)} {m:List (List Key×Addr×Value)},KT H l m→∀ x∈m,(tupleKind (zaI P w)).is h x.1 x.2.1:=by
  intro l m q
  induction q with
  | nil=>intro x hx;exact nomatch hx
  | @cons p q ps qs hq t ih =>
   intro x hx
   rcases Xan.mp hx with e | hx
   ·subst e
    exact zff ok (by rw [← hq.1];exact hq.2.1)
   ·exact ih x hx
 exact all r x hx
theorem dt_of {kvs:List (List Key×V)}(ok:HOk P w H h)(e:H a=some (.dT kvs)):kvs.length≤sizeLine∧(a == sysModules)=false ∧
  ∃ xs,KT H kvs xs∧h.DictOfH (tupleKind (zaI P w)) a xs:=ziV ok (.inl e)
end
def DGet (H:Hp)(a:Addr)(y:V)(r:Option V):Prop:=
 (∃ kvs k,Rd H a (.dK kvs)∧y=kV k∧r=valV kvs k)∨∃ kvs k b,Rd H a (.dT kvs)∧y = .ref b∧H b=some (.tup (k.map kV))∧r=valV kvs k
def DPut (H:Hp)(a:Addr)(y v:V)(H':Hp):Prop:=
 (∃ kvs k,H a=some (.dK kvs)∧y=kV k∧kvs.length<sizeLine∧H'=upd H a (.dK (putK kvs k v))) ∨
 ∃ kvs k b,H a=some (.dT kvs)∧y = .ref b∧H b=some (.tup (k.map kV))∧kvs.length<sizeLine∧H'=upd H a (.dT (putK kvs k v))
theorem DGet.k {H:Hp}{a:Addr}{kvs:List (Key×V)}{k:Key}(e:H a=some (.dK kvs)):DGet H a (kV k) (valV kvs k):=.inl ⟨kvs,k,.inl e,rfl,rfl⟩
theorem DGet.t {H:Hp}{a b:Addr}{kvs:List (List Key×V)}{k:List Key}(e:H a=some (.dT kvs))(eb:H b=some (.tup (k.map kV))):DGet H a (.ref b) (valV kvs k):=.inr ⟨kvs,k,b,.inl e,rfl,eb,rfl⟩
section
variable {X:Cx}{pins:List (Addr×Obj)}{σ:St}{H:Hp}{s:Shared}{a:Addr}{y v:V}{u r:Value}{o:Option V}{A:Around}{E:Value→Shared→Prop}
theorem Inv.big (I:Inv X pins σ H s):sysModules<s.heap.objs.size:=by
 have h:mainGlobals<s.heap.objs.size:=(I.mod.glob.keeps I.bk).lt
 exact Nat.lt_trans (by decide) h
theorem zkk {Q:Value→Shared→Prop}(hu:A.units+1<cLine)(I:Inv X pins σ H s)(g:DGet H a y (some v))(ry:RelV y u)(h:∀ w' s',Inv X pins σ H s'→RelV v w'→Q w' s') :
  wpAny (model X.prog X.w) A (getItem (.ref a) u) Q E s:=by
 rcases g with ⟨kvs,k,e,ey,l⟩ | ⟨kvs,k,b,e,ey,eb,l⟩
 ·subst ey
  obtain ⟨z,hd,vs,rel,dd⟩:=ziW I.hok e
  obtain ⟨w',hw,rw'⟩:=RelO.some_of (v:=v) (o:=valueAt vs k) (by rw [l];exact rel.val k)
  exact wpAny_getItem_of (zhE ry) dd.mapOf hw (h w' _ (I.tok _) rw')
 ·subst ey
  cases (show u=Value.ref b from ry)
  obtain ⟨z,hd,xs,rel,dd⟩:=ziV I.hok e
  obtain ⟨w',hw,rw'⟩:=RelO.some_of (v:=v) (o:=(atKey xs k).map (·.2)) (by rw [l];exact rel.val k)
  obtain ⟨p,hp,hp2⟩:=XaP.mp hw
  refine wpAny_getItem_heap (tupleKind_room_in1 hu) (zff I.hok eb) dd hp ?_
  rw [hp2]
  exact h w' _ (I.tok _) rw'
theorem d_in {Q:Value→Shared→Prop}(hu:A.units+1<cLine)(I:Inv X pins σ H s)(g:DGet H a y o)(ry:RelV y u)(h:∀ s',Inv X pins σ H s'→Q (.bool o.isSome) s') :
  wpAny (model X.prog X.w) A (compareOp .In u (.ref a)) Q E s:=by
 rcases g with ⟨kvs,k,e,ey,l⟩ | ⟨kvs,k,b,e,ey,eb,l⟩
 ·subst ey
  obtain ⟨z,hd,vs,rel,dd⟩:=ziW I.hok e
  refine wpAny_in_of (zhE ry) hd dd.mapOf ?_
  rw [← (rel.val k).isSome_eq,← l]
  exact h _ (I.tok _)
 ·subst ey
  cases (show u=Value.ref b from ry)
  obtain ⟨z,hd,xs,rel,dd⟩:=ziV I.hok e
  refine wpAny_in_heap (tupleKind_room_in1 hu) (zff I.hok eb) hd dd ?_
  have q:=(rel.val k).isSome_eq
  rw [Option.isSome_map] at q
  rw [← q,← l]
  exact h _ (I.tok _)
theorem zfR {h':Heap}{t':Nat}{ob:HO}(I:Inv X pins σ H s)(mu:Mut (H a))(hs:Heap.SameBut a s.heap h')(he:∃ q,h'.get? a=some q)(new:ObjOk X.prog X.w (upd H a ob) h' a ob) :
  Inv X pins σ (upd H a ob) { s with heap:=h',toks:=t' }:=
 I.write (x:=a) (e:=a) mu (.inl rfl) (fun b q hb z=>(hs.2 b hb).trans z) he new
theorem zl8 {P:Program}{w:World}{H':Hp}{h':Heap}{kvs:List (Key×V)}{vs:List (Key×Value)}(z:kvs.length≤sizeLine)(hd:(a == sysModules)=false)(rel:KV kvs vs)(dd:h'.DictOf (zaI P w) a vs) :
  ObjOk P w H' h' a (.dK kvs):=⟨z,hd,vs,rel,dd⟩
theorem zkj {H':Hp}{Q:Unit→Shared→Prop}(hu:A.units+1<cLine)(I:Inv X pins σ H s)(g:DPut H a y v H')(ry:RelV y u)(rv:RelV v r)(h:∀ s',Inv X pins σ H' s'→Q () s') :
  wpAny (model X.prog X.w) A (setItem (.ref a) u r) Q E s:=by
 rcases g with ⟨kvs,k,e,ey,l,eH⟩ | ⟨kvs,k,b,e,ey,eb,l,eH⟩
 ·subst ey eH
  obtain ⟨z,hd,vs,rel,dd⟩:=zkf I.hok e
  have hz:vs.length≤sizeLine:=by rw [← rel.length];exact z
  have hl:(putK kvs k v).length≤sizeLine:=by have:=zb7 kvs k v;omega
  refine wpAny_setItem_pairs (hsz:=hz) (zhE ry) dd fun h' dd' hs=>h _ ?_
  have he:∃ q,h'.get? a=some q:=let ⟨q,_,_,hq,_⟩:=dd';⟨q,hq⟩
  exact zfR I (by rw [e];exact True.intro) hs he (zl8 hl hd (rel.put k rv) dd')
 ·subst ey eH
  cases (show u=Value.ref b from ry)
  obtain ⟨z,hd,xs,rel,dd⟩:=dt_of I.hok e
  have hz:xs.length≤sizeLine:=by rw [← Paired.length rel];exact z
  have hl:(putK kvs k v).length≤sizeLine:=by have:=zb7 kvs k v;omega
  refine wpAny_setItem_heap (hsz:=hz) (tupleKind_room_in1 hu) (zff I.hok eb) dd fun h' dd' hs=>h _ ?_
  obtain ⟨q,es,ep,hq,h2,h3,h4,_,h5⟩:=dd'
  refine zfR I (by rw [e];exact True.intro) hs ⟨q,hq⟩ ⟨hl,hd,_,(rel.put k eb rv).keeps fun c ys ec=>?_,q,es,ep,hq,h2,h3,h4,h5⟩
  rw [zai (ne_of ec e (fun z=>nomatch z))]
  exact ec
end
section
variable {X:Cx}{pins:List (Addr×Obj)}{σ:St}{H:Hp}{s:Shared}{a:Addr}{kvs:List (Key×V)}{k:Key}{u:Value}{A:Around}{E:Value→Shared→Prop}
end
def NoSl (i:Expr):Prop:=∀ ov iv,subscripted i false ov iv=operate [ov,iv] (getItem ov iv)
theorem zms {prog:Program}{w:World}{A:Around}{E:Value→Shared→Prop}{s:Shared}{env:Env}{value slice:Expr}{pos:Pos}{T id:String}{Q:Value→Shared→Prop}
  (hl:typeLookup (.type T) "__getitem__" = pure (some (.builtin id))) (hs:NoSl slice)
  (h:wpAny (model prog w) A (eval value env) (fun o s₁=>wpAny (model prog w) A (eval slice env) (fun i s₂=>s₂.TypeIs o T∧wpAny (model prog w) A (getItem o i) Q E s₂) E s₁) E s) :
  wpAny (model prog w) A (eval (.Subscript value slice pos) env) Q E s:=by
 refine Subscript_ (Xax h (fun o s₁ h₁=>Xax h₁ (fun i s₂ h₂=>?_) fun _ _ x=>x) fun _ _ x=>x)
 obtain ⟨hT,h₂⟩:=h₂
 unfold subscriptTail
 refine Xaa ?_
 rw [getitemInPython_of_ne hT.not_modules]
 refine Xaa (wpAny_specialOf hT hl ?_)
 have fin:wpAny (model prog w) A (subscripted slice false o i) (fun r s₃=>wpAny (model prog w) A (letTemporaryGo value o r >>= fun _=>pure r) Q E s₃) E s₂:=by
  rw [hs o i]
  exact wpAny_operating (Xax h₂ (fun r s₃ h₃=>Xaa (wpAny_letTemporaryGo (Xac h₃))) fun _ _ x=>x)
 first
  | exact Xac (Xaa fin)
  | exact Xaa (Xac (Xaa fin))
  | exact Xaa fin
theorem zhK {X:Cx}{pins:List (Addr×Obj)}{σ:St}{H:Hp}{s:Shared}{a:Addr}{y:V}{o:Option V}(I:Inv X pins σ H s)(g:DGet H a y o):s.TypeIs (.ref a) "dict" := by
 rcases g with ⟨kvs,k,e,_,_⟩ | ⟨kvs,k,b,e,_,_,_⟩
 ·obtain ⟨_,_,vs,_,dd⟩:=ziW I.hok e
  exact dd.typeIs
 ·obtain ⟨_,_,xs,_,dd⟩:=ziV I.hok e
  exact dd.typeIs
inductive tDGet_1 (Q:VK)(x:V)(y:V)(H2:Hp):Prop
 | mk (a:_) (v:_) (z0_:x = .ref a) (z1_:DGet H2 a y (some v)) (z2_:Q v H2)
def tDGet (td ty:TE):TE:=fun σ H Q=>td σ H fun x H1=>ty σ H1 (tDGet_1 Q x)
inductive tDIn_1 (Q:VK)(y:V)(x:V)(H2:Hp):Prop
 | mk (a:_) (o:_) (z0_:x = .ref a) (z1_:DGet H2 a y o) (z2_:Q (.bl o.isSome) H2)
def tDIn (ty td:TE):TE:=fun σ H Q=>ty σ H fun y H1=>td σ H1 (tDIn_1 Q y)
inductive sDPut_1 (D:Ends)(σ:St)(v:V)(x:V)(y:V)(H3:Hp):Prop
 | mk (a:_) (H4:_) (z0_:x = .ref a) (z1_:DPut H3 a y v H4) (z2_:D.nx σ H4)
def sDPut (td ty tv:TE):TS:=fun D σ H=>tv σ H fun v H1=>td σ H1 fun x H2=>ty σ H2 (sDPut_1 D σ v x)
section
variable {X:Cx}{o i e value:Expr}{pos pos' tpos:Pos}{td ty tv:TE}
theorem zhh (hu:X.A.units+1<cLine)(ho:PE X o td)(hi:PE X i ty)(hs:NoSl i):PE X (.Subscript o i pos) (tDGet td ty):=by
 intro pins s σ H Q I h
 refine zms PySem.F.slot_dict_getitem.lookup hs (thn (ho pins s σ H _ I h) fun u s1 ⟨x,H1,I1,rx,q1⟩=>thn (hi pins s1 σ H1 _ I1 q1) fun iv s2 hh_=>?_)
 obtain ⟨y,H2,I2,ry,a,v,ex,g,q2⟩:=hh_
 subst ex
 obtain rfl:u=Value.ref a:=rx
 exact ⟨zhK I2 g,zkk hu I2 g ry fun w' s3 I3 rw'=>⟨v,H2,I3,rw',q2⟩⟩
theorem pc_din (hu:X.A.units+1<cLine)(hi:PE X i ty)(ho:PE X o td):PC X .In i o (tDIn ty td):=by
 intro pins s σ H Q I h
 refine thn (hi pins s σ H _ I h) fun iv s1 ⟨y,H1,I1,ry,q1⟩=>thn (ho pins s1 σ H1 _ I1 q1) fun u s2 hh_=>?_
 obtain ⟨x,H2,I2,rx,a,ov,ex,g,q2⟩:=hh_
 subst ex
 obtain rfl:u=Value.ref a:=rx
 exact d_in hu I2 g ry fun s3 I3=>⟨.bl ov.isSome,H2,I3,rfl,q2⟩
theorem zmD (hu:X.A.units+1<cLine)(ho:PE X o td)(hi:PE X i ty)(hv:PE X value tv)(hs:swapsWith value (some (.Subscript o i pos')) pos.line X.env=pure false) :
  PS X (.Assign [.Subscript o i pos'] value pos) (sDPut td ty tv):=by
 intro pins s σ H D I h
 refine wpAny_Assign_Subscript (thn (hv pins s σ H _ I h) fun r s1 ⟨v,H1,I1,rv,q1⟩=>thn (ho pins s1 σ H1 _ I1 q1) fun u s2 ⟨x,H2,I2,rx,q2⟩=>thn (hi pins s2 σ H2 _ I2 q2) fun iv s3 hh_=>?_) hs
 obtain ⟨y,H3,I3,ry,a,H4,ex,g,q3⟩:=hh_
 subst ex
 obtain rfl:u=Value.ref a:=rx
 exact zkj hu I3 g ry rv fun s4 I4=>⟨σ,H4,I4,q3⟩
end
theorem zlA {P:Program}{w:World}{H:Hp}(h:Heap)(hb:sysModules<h.objs.size):ObjOk P w H (h.push { cls:=.type "dict",data:=.dict #[] }) h.objs.size (.dK []):=
 ⟨Nat.zero_le _,beq_eq_false_iff_ne.mpr (Ne.symm (Xaz hb)),[],.nil,Heap.DictOf.new h⟩
theorem zlz {P:Program}{w:World}{H:Hp}(h:Heap)(hb:sysModules<h.objs.size):ObjOk P w H (h.push { cls:=.type "dict",data:=.dict #[] }) h.objs.size (.dT []):=
 ⟨Nat.zero_le _,beq_eq_false_iff_ne.mpr (Ne.symm (Xaz hb)),[],.nil,_,#[],0,Xaj _ rfl,⟨rfl,rfl,rfl⟩,rfl,rfl,Xbp⟩
def tDNewK:TE:=fun _ H Q=>∀ p,H p=none→Q (.ref p) (upd H p (.dK []))
def tDNewT:TE:=fun _ H Q=>∀ p,H p=none→Q (.ref p) (upd H p (.dT []))
section
variable {X:Cx}{pos:Pos}
theorem zb2:PE X (.Dict [] [] pos) tDNewK:=fun pins s σ H Q I h =>
 wpAny_Dict_empty ⟨.ref s.heap.objs.size,_,I.laid (a:=s.heap.objs.size) (o:=.dK []) (t':=s.toks) (fun _ _ q=>Xab _ q) (Xae _) (zlA s.heap I.big),rfl,h _ (I.hok.fresh (Xae _))⟩
theorem zk9:PE X (.Dict [] [] pos) tDNewT:=fun pins s σ H Q I h =>
 wpAny_Dict_empty ⟨.ref s.heap.objs.size,_,I.laid (a:=s.heap.objs.size) (o:=.dT []) (t':=s.toks) (fun _ _ q=>Xab _ q) (Xae _) (zlz s.heap I.big),rfl,h _ (I.hok.fresh (Xae _))⟩
end
structure M2 (X:Cx)(o:Expr)(m:Str)(apos:Pos)(e f:Expr)(cpos:Pos):Prop where
 base:attributeBase o m X.env (eval o X.env)=eval o X.env
 few:((backTo cpos (starEach [e,f] X.env)).all (fun x=>!x.1) && (backToKw cpos (keywordEach [] X.env)).all (fun x=>x.1.isSome)
  && decide (([e,f]:List Expr).length+([]:List Keyword).length+(if ([]:List Keyword).isEmpty then 0 else 1)<30))=true
 line:(apos.endLine == cpos.line)=true
 trees:backTo cpos (starEach [e,f] X.env)=[(false,eval e X.env),(false,eval f X.env)]
def IsD (H:Hp)(a:Addr):Prop:=(∃ kvs,Rd H a (.dK kvs))∨∃ kvs,Rd H a (.dT kvs)
theorem isD_at {X:Cx}{pins:List (Addr×Obj)}{σ:St}{H:Hp}{s:Shared}{a:Addr}(I:Inv X pins σ H s)(d:IsD H a) :
  s.TypeIs (.ref a) "dict" ∧ (∀ b,Value.ref a = .ref b→∃ ob,s.heap.get? b=some ob∧ob.dict=none)∧(a == sysModules)=false:=by
 rcases d with ⟨kvs,e⟩ | ⟨kvs,e⟩
 ·obtain ⟨_,hd,vs,_,dd⟩:=ziW I.hok e
  refine ⟨dd.typeIs,fun b q=>?_,hd⟩
  cases q
  obtain ⟨ob,_,_,h1,h2,_⟩:=dd
  exact ⟨ob,h1,h2.2.1⟩
 ·obtain ⟨_,hd,xs,_,dd⟩:=ziV I.hok e
  refine ⟨dd.typeIs,fun b q=>?_,hd⟩
  cases q
  obtain ⟨ob,_,_,h1,h2,_⟩:=dd
  exact ⟨ob,h1,h2.2.1⟩
section
variable {X:Cx}{pins:List (Addr×Obj)}{σ:St}{H:Hp}{s:Shared}{a:Addr}{y d:V}{u r:Value}{o:Option V}{A:Around}{E:Value→Shared→Prop}
theorem d_get2 {Q:Value→Shared→Prop}(hu:A.units+1<cLine)(I:Inv X pins σ H s)(g:DGet H a y o)(ry:RelV y u)(rd:RelV d r)(h:∀ w' s',Inv X pins σ H s'→RelV (o.getD d) w'→Q w' s') :
  wpAny (model X.prog X.w) A (call (.builtin "dict.get") [.ref a,u,r]) Q E s:=by
 rcases g with ⟨kvs,k,e,ey,l⟩ | ⟨kvs,k,b,e,ey,eb,l⟩
 ·subst ey
  obtain ⟨z,hd,vs,rel,dd⟩:=ziW I.hok e
  refine call_meetsIn PySem.F.slot_dict_get dd.typeIs PySem.F.entry_dict_get (PySem.F.args_dict_get_3 _ _ _) (meets_dict_get_default (zaI X.prog X.w) a (zhE ry) hd r) ⟨_,dd.mapOf,h _ _ (I.tok _) ?_⟩
  rw [l]
  exact (rel.val k).getD rd
 ·subst ey
  cases (show u=Value.ref b from ry)
  obtain ⟨z,hd,xs,rel,dd⟩:=ziV I.hok e
  refine call_meetsIn PySem.F.slot_dict_get dd.typeIs PySem.F.entry_dict_get (PySem.F.args_dict_get_3 _ _ _) (meetsH_dict_get_default (tupleKind (zaI X.prog X.w)) a b hd r) ⟨tupleKind_room_in1 hu,k,xs,zff I.hok eb,dd,h _ _ (I.tok _) ?_⟩
  rw [l]
  exact (rel.val k).getD rd
end
def tDGet2 (td ty tx:TE):TE:=fun σ H Q=>td σ H fun x H1=>∃ a,x = .ref a∧IsD H1 a∧ty σ H1 fun y H2=>tx σ H2 fun z H3=>∃ o,DGet H3 a y o∧Q (o.getD z) H3
section
variable {X:Cx}{o e f:Expr}{apos cpos:Pos}{td ty tx:TE}
theorem zh2 (hu:X.A.units+1<cLine)(ho:PE X o td)(he:PE X e ty)(hf:PE X f tx)(m:M2 X o "get" apos e f cpos):PE X (.Call (.Attribute o "get" apos) [e,f] [] cpos) (tDGet2 td ty tx):=by
 intro pins s σ H Q I h
 refine wpAny_Call_method m.base m.few m.line PySem.F.plainAttrs_dict PySem.F.slot_dict_get PySem.F.type_dict_get (thn (ho pins s σ H _ I h) fun u s1 hh_=>?_)
 obtain ⟨x,H1,I1,rx,a,ex,d,q1⟩:=hh_
 subst ex
 obtain rfl:u=Value.ref a:=rx
 obtain ⟨t1,t2,_⟩:=isD_at I1 d
 refine ⟨t1,t2,?_⟩
 rw [m.trees]
 refine Calls.callWith_builtin rfl (Calls.evalArgs_plain (Calls.spliced_cons (thn (he pins s1 σ H1 _ I1 q1) fun iv s2 ⟨y,H2,I2,ry,q2⟩ =>
  Calls.spliced_cons (thn (hf pins s2 σ H2 _ I2 q2) fun fv s3 ⟨z,H3,I3,rz,ov,g,q3⟩=>Calls.spliced_nil ?_))))
 exact d_get2 hu I3 g ry rz fun w' s4 I4 rw'=>⟨_,H3,I4,rw',q3⟩
end
section
variable {X:Cx}{pins:List (Addr×Obj)}{σ:St}{H:Hp}{s:Shared}{a:Addr}{kvs:List (Key×V)}{A:Around}{E:Value→Shared→Prop}
end
section
variable {X:Cx}{pins:List (Addr×Obj)}{σ:St}{H:Hp}{s:Shared}{a:Addr}{y:V}{u:Value}{A:Around}{E:Value→Shared→Prop}
end
end L2
namespace Att
open PySem PySem.W PySem.Calls PyProof.Rows
theorem zeS {P:Params}{h:Heap}:∀ (ns:List Int) (vs:List Value),WellAll P h vs (ns.map WData.int)→IntsAre vs ns:=by
 intro ns
 induction ns with
 | nil =>
  intro vs w
  rw [List.map_nil] at w
  cases w
  exact .nil
 | cons n ns ih =>
  intro vs w
  rw [XaJ] at w
  cases w with
  | cons a b =>
   cases a
   exact .cons _ _ (ih _ b)
theorem zjl {l:OpenLaw}{n:Nat}(hn:l.most=some n){P:Params}{h:Heap}{args:List WData}{vals:List Value}
  (hpre:l.row.toRowW.claim.pre args=true) (hwl:WellAll P h vals args) :
  ∃ a vs ns,vals=[Value.ref a]∧args=[WData.list (ns.map WData.int)]∧h.get? a=some { cls:=.type "list",data:=.seq vs.toArray }∧IntsAre vs ns∧ns.length≤n:=by
 have hsh:WShape.hasAll [] args [.list .int]=true:=(pre_splitW hpre).1
 have hc:l.pre.holds [] { args:=args }=true:=(pre_splitW hpre).2
 obtain ⟨d,r,rfl,h1,h2⟩:=hasAllW_cons hsh
 obtain rfl:=hasAllW_nil h2
 obtain ⟨xs,rfl,h3⟩:=hasW_list h1
 obtain ⟨ns,rfl⟩:=items_int h3
 have hlen:ns.length≤n:=by
  unfold OpenLaw.pre at hc
  have h4:(WTm.not (.lt (.lit (.int (n:Int))) (.len (.arg 0)))).holds [] { args:=[.list (ns.map .int)] }=true:=by
   have h4:=(holds_andW hc).1
   rw [hn] at h4
   exact h4
  have h5:=condW_of h4 (w_not (w_lt w_lit (w_len_list (w_arg rfl))))
  rw [Xal] at h5
  refine Nat.le_of_not_lt fun q=>?_
  have q':(n:Int)<((ns.length:Nat):Int):=by omega
  first
   | (rw [Xah q'] at h5;exact absurd h5 (by decide))
   | (simp at h5;omega)
 cases hwl with
 | cons w1 w2 =>
  cases w2
  cases w1 with
  | list ho hall=>exact ⟨_,_,ns,rfl,rfl,ho,zeS ns _ hall,hlen⟩
theorem zjw (l:OpenLaw)(args:List WData):l.row.toRowW.claim.post args (.bool true) args=true:=
 postW_of (r:=l.row.toRowW) (X:=(true == true))
  (show WShape.has [] (.bool true) .bool=true by first | rfl | decide | simp [WShape.has,WShape.arms,WShape.armsAll])
  (show (WTm.eq .res (.lit (.bool true))).value [] { args:=args,res:=some (.bool true),after:=args }=some (.bool (true == true)) from w_eq_bool (w_res rfl) w_lit) rfl
section
variable {prog:Program}{w:World}{A:Around}{E:Value→Shared→Prop}{s:Shared}{K:Frag}
end
end Att
namespace L2
open PySem PySem.Spec PyProof.Rows
theorem zcW:∀ {vs:List Value} {ns:List Int},IntsAre vs ns→Vals (ns.map V.int) vs
 | _,_,.nil=>.nil
 | _,_,.cons n t h=>.cons ⟨t,rfl⟩ (zcW h)
def Only (H:Hp):Prop:=∀ b,H b=none∨∃ o xs,H b=some (.frz o (.lst xs))
theorem zln {P:Program}{w:World}{K:W.Frag}{mg mb:Str→Option Value}{CX:CXT}{k:Nat}{fa a:Addr}{fd:FuncData}{x:Str}{sp:Sp}{s₁:Shared}{vs:List Value}{ns:List Int}
  (KX:K.In s₁.heap) (hns:s₁.heap.Ns mainGlobals mg) (hb:s₁.heap.Ns builtinsNs mb) (hbb:∀ x:Str,x ≠ "__name__" → mb x=bootBuiltins x) (hlim:s₁.heap.NoLimit) (hg:s₁.gens = #[])
  (ha:s₁.heap.get? a=some { cls:=.type "list",data:=.seq vs.toArray }) (hi:IntsAre vs ns) (hl:ns.length≤sizeLine) (hr:Room k callerA)
  (F:∀ base:Heap,K.In base→base.Ns mainGlobals mg→FnOk P w K mg base CX k fa fd [x] sp) (hbind:∀ (s:Shared) (u:Value),BindsTo s fd ⟨[u],[]⟩ [(x,u)])
  (hsp:∀ H:Hp,Only H→SqL K H a (ns.map V.int)→sp [.ref a] H (fun v _=>v = .bl true) fun _ _ _=>False)
  (hCX:∀ H e s',CX [] H s₁ (fun _ _ _=>False) e s'→False) :
  codeAny (model P w) callerA (.call (.ref fa) ⟨[.ref a],[]⟩) (fun r s'=>r = .ok (.ret (.bool true))∧OldK s₁.heap s'.heap∧s'.os=s₁.os∧AllBare s'.gens) s₁:=by
 have rv:=zcW hi
 have lenV:=hi.length
 
 have core:∀ H:Hp,Only H→SqL K H a (ns.map V.int)→HOk P w H s₁.heap→(∀ b,H b≠none→b=a)→(H a≠none→K.lookup a=none) →
   codeAny (model P w) callerA (.call (.ref fa) ⟨[.ref a],[]⟩) (fun r s'=>r = .ok (.ret (.bool true))∧OldK s₁.heap s'.heap∧s'.os=s₁.os∧AllBare s'.gens) s₁:=by
  intro H hO hS hok hA hK
  have base_of:∀ {b:Addr} {o:Obj},s₁.heap.get? b=some o→H b=none→(hidT s₁.heap H).get? b=some o:=fun e n=>zlv e n
  have noA:∀ {b:Addr} {o:Obj} {es:Array DictEntry} {ep:Nat},s₁.heap.get? b=some o→o.data = .dict es ep→H b=none:=fun {b o es ep} e d=>by
   cases q:H b with
   | none=>rfl
   | some u =>
    have e':b=a:=hA b (by rw [q];simp)
    subst e'
    rw [ha] at e;cases e
    have d':Data.seq vs.toArray _=Data.dict es ep:=d
    cases d'
  have nsK:∀ {b:Addr} {m:Str→Option Value},s₁.heap.Ns b m→(hidT s₁.heap H).Ns b m:=fun {b m} ⟨o,es,ep,e,d,r⟩=>⟨o,es,ep,base_of e (noA e d),d,r⟩
  have hKb:K.In (hidT s₁.heap H):=fun b o e=>base_of (KX b o e) (by
   cases q:H b with
   | none=>rfl
   | some u =>
    have e':b=a:=hA b (by rw [q];simp)
    subst e'
    rw [hK (by rw [q];simp)] at e;cases e)
  have hM:Mod K mg (hidT s₁.heap H):=⟨hKb,nsK hns,⟨mb,nsK hb,hbb⟩,let ⟨mc,h1,h2⟩:=hlim;⟨mc,nsK h1,h2⟩⟩
  have e0:Env0 P w K mg (hidT s₁.heap H) callerA [] s₁ H:=⟨rfl,hM,fun b o e=>zmN e,Nat.le_of_eq (zj5 _ _),trivial,fun b hb=>absurd (show b∈([]:List Addr) from hb) (by simp),hok,.of_eq hg⟩
  refine codeAny_mono ((F _ hKb (nsK hns)).run callerA [] s₁ H ⟨[.ref a],[]⟩ [.ref a] [.ref a] _ _ hr e0 (hbind s₁ (.ref a)) (.cons rfl .nil) (hsp H hO hS)) fun r s' h=>?_
  cases r with
  | error e=>exact (hCX H e s' h).elim
  | ok fl =>
   cases fl with
   | next=>exact False.elim h
   | brk=>exact False.elim h
   | cont=>exact False.elim h
   | ret u =>
    obtain ⟨v,H',os,bare,un,hok',r',q⟩:=h
    have q':v = .bl true:=q
    subst q'
    obtain rfl:u=Value.bool true:=r'
    refine ⟨rfl,OldK.of_keep fun b o e=>?_,os,bare⟩
    cases q:H b with
    | none=>exact un.keep b o e q (by intro z;exact absurd (show b∈([]:List Addr) from z) (by simp)) (by simp)
    | some u =>
     rcases hO b with z | ⟨ob,xs,z⟩
     ·rw [q] at z;cases z
     ·have z2:=un.frzs b ob _ z
      obtain ⟨e1,_⟩:=hok b _ z
      obtain ⟨e2,_⟩:=hok' b _ z2
      rw [e] at e1;cases e1
      exact e2
 cases hk:K.lookup a with
 | some o =>
  
  have e:=KX a o hk
  rw [ha] at e
  cases e
  refine core (fun _=>none) (fun _=>.inl rfl) (.inr ⟨_,vs.toArray,_,hk,rfl,rfl,rfl,by rw [Xat,lenV];exact hl,by simpa using rv⟩) (fun b u z=>by have z':(none:Option HO)=some u:=z;cases z') (fun b z=>absurd rfl z) fun z=>absurd rfl z
 | none =>
  refine core (fun b=>if b=a then some (.frz { cls:=.type "list",data:=.seq vs.toArray } (.lst (ns.map V.int))) else none) (fun b=>?_) (.inl (.inr ⟨{ cls:=.type "list",data:=.seq vs.toArray },if_pos rfl⟩)) (fun b u z=>?_) (fun b z=>?_) fun _=>hk
  ·by_cases hb:b=a
   ·exact .inr ⟨_,_,if_pos hb⟩
   ·exact .inl (if_neg hb)
  ·by_cases hb:b=a
   ·have z':=(if_pos hb).symm.trans z
    cases z'
    subst hb
    exact ⟨ha,by rw [Xal];exact hl,vs,_,rv,ha⟩
   ·have z':=(if_neg hb).symm.trans z
    cases z'
  ·by_cases hb:b=a
   ·exact hb
   ·exact absurd (if_neg hb) z
def zaF (s:Stmt)(j:Nat):Stmt:=match s with
 | .ClassDef _ _ _ body _ _ _ _ _ _ _=>body.getD j (.Pass ⟨0,0,0,0⟩)
 | _=>.Pass ⟨0,0,0,0⟩
def zbF (s:Stmt):Arguments:=match s with
 | .FunctionDef _ a _ _ _ _ _ _ _ _=>a
 | _=>{ posonlyargs:=[],args:=[],vararg:=none,kwonlyargs:=[],kw_defaults:=[],kwarg:=none,defaults:=[] }
def zbc (s:Stmt):List Stmt:=match s with
 | .FunctionDef _ _ b _ _ _ _ _ _ _=>b
 | _=>[]
def zah (s:Stmt):Scope:=match s with
 | .FunctionDef _ _ _ _ _ _ sc _ _ _=>sc
 | _=>{ kind:=.function,names:=[],isGenerator:=false,isCoroutine:=false }
abbrev CX0:CXT:=fun _ _ _ _ _ _=>False
abbrev E0:XK:=fun _ _ _=>False
theorem ziA {X:Cx}:zgS CX0 X E0:=fun _ _ _ _ _ _ _ h=>h.elim
structure Fun (K:W.Frag)(x qual:Str)(st:Stmt)(f:Addr)(fd:FuncData):Prop where
 ex:∃ (oc:Value) (od:Option Addr) (kV doc pm:Value) (an:Option Addr) (cdv ct:Value) (osl:Array (Option Value)),
  fd=W.fnOf x qual (zbF st) (zbc st) (zah st) .none kV doc pm an cdv ct∧K.lookup f=some ⟨oc,od,.func fd,osl⟩∧W.codeIn K cdv qual=true
 kp:W.keepIn K (.ref f)=true
section
variable {P:Program}{w:World}{K:W.Frag}{mg:Str→Option Value}{base:Heap}
theorem Fun.ok {x qual:Str}{st:Stmt}{f:Addr}{fd:FuncData}{N ps:List Str}{k:Nat}{sp:Sp}(F:Fun K x qual st f fd)(S:FnScope N ps (zah st))(len:∀ vs H Q E,sp vs H Q E→vs.length=ps.length)
  (hbody:∀ (cdv:Value) (A:Around) (outer:List Env) (s:Shared) (H:Hp) (vs:List V) (Q:VK) (E:XK),Room k (A.deeper (envOfC qual (zah st) s.heap.objs.size f cdv))→sp vs H Q E →
   ∃ t,PSs (cxOf CX0 P w K mg base N qual (zah st) f cdv A outer s H E).nox (zbc st) t∧t { nx:=fun _ H'=>Q .non H',rt:=Q } (start N vs) H):FnOk P w K mg base CX0 (k+1) f fd ps sp:=by
 obtain ⟨oc,od,kV,doc,pm,an,cdv,ct,osl,rfl,lk,hcd⟩:=F.ex
 refine zm0 lk hcd S len fun A outer s H vs Q E hr hsp=>?_
 obtain ⟨t,h,q⟩:=hbody cdv A outer s H vs Q E hr hsp
 exact ⟨t,h.nox,q⟩
theorem Fun.binds {x qual:Str}{st:Stmt}{f:Addr}{fd:FuncData}{ps:List Str}(F:Fun K x qual st f fd)
  (h:∀ (kV doc pm:Value) (an:Option Addr) (cdv ct:Value) (us:List Value),us.length=ps.length→bindArgs (W.fnOf x qual (zbF st) (zbc st) (zah st) .none kV doc pm an cdv ct) ⟨us,[]⟩=pure (ps.zip us)):Binds K fd ps []:=by
 obtain ⟨oc,od,kV,doc,pm,an,cdv,ct,osl,rfl,lk,hcd⟩:=F.ex
 exact .all (h kV doc pm an cdv ct)
theorem zl6 {x qual:Str}{st:Stmt}{f:Addr}{oc:Value}{od an:Option Addr}{osl:Array (Option Value)}{kV doc pm cdv ct:Value}(l:K.lookup f=some ⟨oc,od,.func (W.fnOf x qual (zbF st) (zbc st) (zah st) .none kV doc pm an cdv ct),osl⟩)
  (c:W.codeIn K cdv qual=true) (k:W.keepIn K (.ref f)=true):Fun K x qual st f (W.fnOf x qual (zbF st) (zbc st) (zah st) .none kV doc pm an cdv ct):=⟨⟨oc,od,kV,doc,pm,an,cdv,ct,osl,rfl,l,c⟩,k⟩
end
theorem zeU {A:Around}{k:Nat}(hr:Room k A):A.units+1<cLine:=XaZ (Nat.add_le_add_left (by decide:1≤64) _) hr.units
theorem zcc {n:Nat}(h:n≤1000):n<sizeLine:=XaZ h (by decide)
section
variable {X:Cx}
theorem pv (i:Nat){x:Str}{pos:Pos}(hN:X.N[i]? = some x:=by rfl)(hv:Vis X.env.scope x:=by first | exact Or.inl rfl | exact Or.inr (Or.inl rfl) | exact Or.inr (Or.inr rfl))(hd:(x == ("__debug__" : Str))=false:=by decide)
  (hcd:(x == ("__classdict__" : Str))=false:=by decide):PE X (.Name x pos) (tVar i):=pe_var hN hv hd hcd
end
theorem iteF {A B:Prop}(h:B):if false=true then A else B:=by
 rw [if_neg Xap]
 exact h
theorem iteT {A B:Prop}(h:A):if true=true then A else B:=by
 rw [if_pos rfl]
 exact h
theorem ite2 {c A B:Prop}[Decidable c](h1:c→A)(h2:¬ c→B):if c then A else B:=by
 by_cases h:c
 ·rw [if_pos h]
  exact h1 h
 ·rw [if_neg h]
  exact h2 h
theorem zhG {c A B:Prop}[Decidable c](hc:c)(h:B):if (!decide c)=true then A else B:=by
 rw [Xah hc]
 exact iteF h
def Same (H H':Hp):Prop:=∀ b o,H b=some o→H' b=some o
theorem Same.refl (H:Hp):Same H H:=fun _ _ h=>h
theorem Same.trans {H H1 H2:Hp}(a:Same H H1)(b:Same H1 H2):Same H H2:=fun c o h=>b c o (a c o h)
theorem Same.free {H H':Hp}(e:Same H H'){l:Addr}(h:H' l=Option.none):H l=Option.none:=by
 cases q:H l with
 | none=>rfl
 | some o =>
  rw [e l o q] at h
  cases h
theorem Same.seq {K:W.Frag}{H H':Hp}{a:Addr}{xs:List V}(e:Same H H')(h:SqL K H a xs):SqL K H' a xs:=by
 rcases h with (h | ⟨o,h⟩) | h
 ·exact .inl (.inl (e _ _ h))
 ·exact .inl (.inr ⟨o,e _ _ h⟩)
 ·exact .inr h
section
variable {X:Cx}
end
section
variable {κ:Type}[DecidableEq κ]
theorem zmm {kvs:List (κ×V)}{k:κ}{v:V}(h:valV kvs k=some v):k∈kvs.map (·.1):=by
 have q:(kvs.any fun kv=>decide (kv.1=k))=true:=by
  rw [zcs,h]
  all_goals rfl
 obtain ⟨p,hp,e⟩:=List.any_eq_true.mp q
 exact XaF.mpr ⟨p,hp,XaD e⟩
end
theorem zmP {prog:Program}{w:World}{A:Around}{R:Result→Shared→Prop}{s:Shared}{elt target iter:Expr}{ifs:List Expr}{scope:Scope}{pos:Pos}{it acc:Value}{env:Env}(I:Nat→Shared→Prop)
  (turn:∀ n s,I n s→wpAny (model prog w) A (pyNext it) (fun r s1=>match r with
   | none=>R (.ok .next) s1
   | some v=>wpAny (model prog w) A (letOwnedTupleGo target it v) (fun _ s2=>wpAny (model prog w) A (assign target env v) (fun _ s3 =>
     wpAny (model prog w) A (forIn ifs true fun c r=>if r=true then do let ok ← isTrue c env (eval c env);pure (ForInStep.yield ok) else pure (ForInStep.yield r)) (fun ok s4 =>
      if ok=true then wpAny (model prog w) A (eval elt env) (fun x s5 =>
       wpAny (model prog w) A (call (.builtin "list.append") [acc,x]) (fun _ s6=>∃ m,m<n∧I m s6) (fun _ _=>False) s5) (fun _ _=>False) s4
      else ∃ m,m<n∧I m s4) (fun _ _=>False) s3) (fun _ _=>False) s2) (fun _ _=>False) s1) (fun _ _=>False) s)
  (n:Nat) (h:I n s) :
  codeAny (model prog w) A (.compLoop (.ListComp elt [⟨target,iter,ifs,0⟩] scope pos) 0 it acc env) R s:=by
 refine codeAny_loop rfl I (fun n s hI=>?_) n h
 show wpAny _ A ((compTurn (.ListComp elt [⟨target,iter,ifs,0⟩] scope pos) 0 it acc env).onRaise (fun x=>do noteFrame x env;theTreesLotGoes x)) _ _ s
 refine wpAny_noted ?_
 rw [compTurn_list]
 refine Xaa (Xbj (Xaa (Xax (turn n s hI) (fun r s1 h1=>?_) fun _ _ h'=>h'.elim)))
 cases r with
 | none=>exact Xac h1
 | some v =>
  refine Xaa (Xax h1 (fun _ s2 h2=>?_) fun _ _ h'=>h'.elim)
  refine Xaa (Xax h2 (fun _ s3 h3=>Xaa (Xax h3 (fun ok s4 h4=>?_) fun _ _ h'=>h'.elim)) fun _ _ h'=>h'.elim)
  cases ok with
  | false=>exact Xac ⟨rfl,h4⟩
  | true =>
   exact Xaa (Xaa (Xax h4 (fun x s5 h5=>Xaa (Xax h5 (fun _ s6 h6=>Xac (Xac ⟨rfl,h6⟩)) fun _ _ h'=>h'.elim)) fun _ _ h'=>h'.elim))
def PF (X:Cx)(ifs:List Expr)(t:TT):Prop:=
 ∀ (pins:List (Addr×Obj)) (s:Shared) (σ:St) (H:Hp) (Q:Bool→Hp→Prop),Inv X pins σ H s→t σ H Q →
  wpAny (model X.prog X.w) X.A (forIn ifs true fun c r=>if r=true then do let ok ← isTrue c X.env (eval c X.env);pure (ForInStep.yield ok) else pure (ForInStep.yield r)) (TP X pins σ Q) X.xe s
def tYes:TT:=fun _ H Q=>Q true H
theorem zeB {X:Cx}:PF X [] tYes:=fun pins s σ H Q I h=>wpAny_tests_nil ⟨H,I,h⟩
theorem zeA {X:Cx}{c:Expr}{t:TT}(hc:PT X c t):PF X [c] t:=fun pins s σ H Q I h=>wpAny_tests_one (hc pins s σ H Q I h)
def cxC (X:Cx)(Nc:List Str)(scope:Scope)(cl:List (Str×Addr))(C:Addr)(fp:List Addr)(s2:Shared)(H2:Hp):Cx where
 prog:=X.prog
 w:=X.w
 K:=X.K
 mg:=X.mg
 base:=X.base
 A:=X.A
 N:=Nc
 s₀:=s2
 H₀:=H2
 env:=compEnvC scope cl C X.env
 outer:=X.stack
 stack:=X.stack
 ex:=fp
 fn:=fun _=>false
 calm:=X.calm
 pn:=[]
 xe:=fun _ _=>False
def zcq (src:List (Option Nat))(σ:St):St:=src.map fun o=>match o with
 | none=>none
 | some i=>(σ[i]?).getD none
structure CompOk (N:List Str)(osc:Scope)(Nc:List Str)(src:List (Option Nat))(scope:Scope):Prop where
 kind:scope.kind = .function
 nocell:∀ x∈scope.names,x.2≠.cell
 nodup:scope.names.Pairwise fun x y=>x.1≠y.1
 free:∀ x∈scope.names,x.2 = .free→osc.names.lookup x.1=some .cell∨osc.names.lookup x.1=some .free
 len:src.length=Nc.length
 src:∀ (j i:Nat),src[j]? = some (some i)→∃ x,Nc[j]? = some x∧N[i]? = some x∧scope.names.lookup x=some .free
set_option tactic.hygienic true in
theorem zdB {α:Type}{l:List (Str×α)}{x:Str}{k:α}(h:l.lookup x=some k):(x,k)∈l:=by
 induction l with
 | nil=>cases h
 | cons p r ih =>
  obtain ⟨y,j⟩:=p
  rw [List.lookup_cons] at h
  split at h
  ·rename_i hb
   have e:=eq_of_beq hb
   cases h;subst e;exact Xav
  ·exact Xau _ (ih h)
theorem zbp {α:Type}{l:List (Str×α)}(nd:l.Pairwise fun x y=>x.1≠y.1){x:Str}{k:α}(h:(x,k)∈l):l.lookup x=some k:=by
 induction l with
 | nil=>cases h
 | cons p r ih =>
  obtain ⟨y,j⟩:=p
  rw [Xbg] at nd
  rw [List.lookup_cons]
  rcases Xan.mp h with e | h
  ·cases e;simp
  ·have ne:=nd.1 _ h
   have:(x == y)=false:=beq_eq_false_iff_ne.mpr (Ne.symm ne)
   rw [this];exact ih nd.2 h
theorem zi0 {X:Cx}(ok:X.Ok){scope:Scope}:∀ (names:List (Str×NameKind)) (acc:List (Str×Addr)),(∀ x∈names,x.2 = .free→∃ c,X.env.cells.lookup x.1=some c) →
  (∀ x c,(x,c)∈acc→X.env.cells.lookup x=some c) →
  ∃ cl,(forIn names acc (fun (p:Str×NameKind) (cs:List (Str×Addr))=>(do
   if p.2 == NameKind.free then
    let c ← cellOf X.env p.1
    pure (ForInStep.yield ((p.1,c) :: cs))
   else pure (ForInStep.yield cs):Sem (ForInStep (List (Str×Addr))))))=pure cl∧(∀ x c,(x,c)∈cl→X.env.cells.lookup x=some c)∧(∀ x∈names,x.2 = .free→∃ c,(x.1,c)∈cl)∧(∀ p∈acc,p∈cl):=by
 intro names
 induction names with
 | nil=>intro acc _ ha;exact ⟨acc,(by rw [List.forIn_nil]),ha,(fun _ h=>nomatch h),fun _ h=>h⟩
 | cons p r ih =>
  intro acc hf ha
  obtain ⟨x,k⟩:=p
  rw [List.forIn_cons]
  by_cases hk:k = .free
  ·subst hk
   obtain ⟨c,hc⟩:=hf _ Xav rfl
   obtain ⟨cl,e,h1,h2,h3⟩:=ih ((x,c) :: acc) (fun y hy=>hf y (Xau _ hy)) (fun y d hy=>by
    rcases Xan.mp hy with e | hy
    ·cases e;exact hc
    ·exact ha y d hy)
   have hcell:cellOf X.env x=pure c:=by unfold cellOf;rw [show X.env.cells.lookup x=some c from hc]
   refine ⟨cl,?_,h1,fun y hy hk=>?_,fun q hq=>h3 q (Xau _ hq)⟩
   ·simp only [beq_self_eq_true,if_true,hcell,pure_bind];exact e
   ·rcases Xan.mp hy with e | hy
    ·cases e;exact ⟨c,h3 _ Xav⟩
    ·exact h2 y hy hk
  ·obtain ⟨cl,e,h1,h2,h3⟩:=ih acc (fun y hy=>hf y (Xau _ hy)) ha
   have hb:(k == NameKind.free)=false:=by simpa using hk
   refine ⟨cl,?_,h1,fun y hy hk'=>?_,h3⟩
   ·simp only [hb,Bool.false_eq_true,if_false,pure_bind];exact e
   ·rcases Xan.mp hy with e | hy
    ·cases e;exact absurd hk' hk
    ·exact h2 y hy hk'
theorem zbq {X:Cx}(ok:X.Ok){scope:Scope}(hf:∀ x∈scope.names,x.2 = .free→X.env.scope.names.lookup x.1=some .cell∨X.env.scope.names.lookup x.1=some .free) :
  ∃ cl:List (Str×Addr),closureFor scope X.env=pure cl∧(∀ (x:Str) (c:Addr),cl.lookup x=some c→X.env.cells.lookup x=some c)∧(∀ x∈scope.names,x.2 = .free→∃ c,cl.lookup x.1=some c):=by
 obtain ⟨cl,e,h1,h2,_⟩:=zi0 ok (scope:=scope) scope.names [] (fun x hx hk=>ok.has x.1 (hf x hx hk)) (fun _ _ h=>nomatch h)
 refine ⟨cl,?_,fun x c h=>h1 x c (zdB h),fun x hx hk=>?_⟩
 ·unfold closureFor
  exact (bind_pure _).trans e
 ·obtain ⟨c,hc⟩:=h2 x hx hk
  have:∀ l:List (Str×Addr),(x.1,c)∈l→∃ d,l.lookup x.1=some d:=by
   intro l
   induction l with
   | nil=>intro h;cases h
   | cons p r ih =>
    intro h
    obtain ⟨y,d⟩:=p
    rw [List.lookup_cons]
    cases hb:x.1 == y with
    | true=>exact ⟨d,rfl⟩
    | false =>
     rcases Xan.mp h with e | h
     ·cases e;simp at hb
     ·exact ih h
  exact this cl hc
theorem zcA {scope:Scope}{env:Env}(x:Str):(relabel scope env).names.lookup x=(scope.names.lookup x).map fun k=>if (k == .free && env.scope.kind == .function && env.kindOf x == some .cell) then .cell else k:=by
 unfold relabel
 show List.lookup x (scope.names.map _)=_
 induction scope.names with
 | nil=>rfl
 | cons p r ih =>
  obtain ⟨n,k⟩:=p
  rw [XaJ]
  cases hb:x == n with
  | true =>
   have e:=eq_of_beq hb
   subst e
   show List.lookup x ((if (k == NameKind.free && env.scope.kind == .function && env.kindOf x == some .cell)=true then (x,NameKind.cell) else (x,k)) :: _)=_
   by_cases hc:(k == NameKind.free && env.scope.kind == .function && env.kindOf x == some .cell)=true
   ·rw [if_pos hc,List.lookup_cons,List.lookup_cons]
    simp only [beq_self_eq_true,Option.map_some]
    rw [if_pos hc]
   ·rw [if_neg hc,List.lookup_cons,List.lookup_cons]
    simp only [beq_self_eq_true,Option.map_some]
    rw [if_neg hc]
  | false =>
   show List.lookup x ((if (k == NameKind.free && env.scope.kind == .function && env.kindOf n == some .cell)=true then (n,NameKind.cell) else (n,k)) :: _)=_
   by_cases hc:(k == NameKind.free && env.scope.kind == .function && env.kindOf n == some .cell)=true
   ·rw [if_pos hc,List.lookup_cons,List.lookup_cons,hb];exact ih
   ·rw [if_neg hc,List.lookup_cons,List.lookup_cons,hb];exact ih
theorem HOk.track {P:Program}{w:World}{H:Hp}{h:Heap}{a:Addr}{o:HO}(x:HOk P w H h)(hn:H a=none)(new:ObjOk P w (upd H a o) h a o):HOk P w (upd H a o) h:=fun b u e=>by
 by_cases hb:b=a
 ·subst hb;rw [zad] at e;cases e;exact new
 ·rw [zai hb] at e
  exact (x b u e).stay (fun c v _ q=>q) (fun c q=>by rw [zai (zak q hn)];exact q) fun c xs q=>by rw [zai (zak q hn)];exact q
theorem Un.track {fs ex:List Addr}{H H':Hp}{h h':Heap}{a:Addr}{o:HO}(u:Un fs ex H H' h h')(hp:h.objs.size≤a)(hl:∀ b v,H b=some v→b<h.objs.size):Un fs ex H (upd H' a o) h h' where
 keep:=u.keep
 slot:=u.slot
 free:=fun b v q n x=>by rw [zai (Xaz (Xak (Xao q) hp))];exact u.free b v q n x
 there:=u.there
 tups:=fun b xs q=>by rw [zai (Xaz (Xak (hl b _ q) hp))];exact u.tups b xs q
 frzs:=fun b v xs q=>by rw [zai (Xaz (Xak (hl b _ q) hp))];exact u.frzs b v xs q
 tbls:=fun b ps q=>by rw [zai (Xaz (Xak (hl b _ q) hp))];exact u.tbls b ps q
theorem cxC_ok {X:Cx}{pins:List (Addr×Obj)}{σ:St}{H2:Hp}{s2:Shared}{Nc:List Str}{src:List (Option Nat)}{scope:Scope}{cl:List (Str×Addr)}{C:Addr}{fp:List Addr}(I2:Inv X pins σ H2 s2)(S:CompOk X.N X.env.scope Nc src scope)
  (hcl1:∀ (x:Str) (c:Addr),cl.lookup x=some c→X.env.cells.lookup x=some c) (hcl2:∀ x∈scope.names,x.2 = .free→∃ c,cl.lookup x.1=some c) (hC:s2.heap.objs.size≤C)
  (hfp:∀ b∈fp,b<s2.heap.objs.size) (f2:∀ b∈fp,FpOk X pins H2 b):(cxC X Nc scope cl C fp s2 H2).Ok where
 mod:=I2.ok.mod
 kind:=S.kind
 glob:=I2.ok.glob
 blt:=I2.ok.blt
 above:=hC
 inj:=fun x y c h1 h2=>I2.ok.inj x y c (hcl1 _ _ h1) (hcl1 _ _ h2)
 has:=fun x h=>by
  have h':(relabel scope X.env).names.lookup x=some .cell∨(relabel scope X.env).names.lookup x=some .free:=h
  rw [zcA] at h'
  cases hk:scope.names.lookup x with
  | none=>rw [hk] at h';rcases h' with h' | h' <;> cases h'
  | some k =>
   have hm:=zdB hk
   have hkf:k = .free:=by
    rw [hk] at h'
    simp only [Option.map_some] at h'
    cases k with
    | free=>rfl
    | cell=>exact absurd rfl (S.nocell _ hm)
    | _=>exfalso;revert h';simp
   subst hkf
   exact hcl2 _ hm rfl
 cab:=fun x c h=>nomatch h
 hd:=I2.ok.hd
 frames:=I2.ok.frames
 stk:=.inl rfl
 exf:=fun b hb=>⟨Xaz (Xak (hfp b hb) hC),fun x c e=>(f2 b hb).2.2.2.2.1 x c (hcl1 _ _ e)⟩
 bs:=I2.bs
 bsz:=Xam I2.ok.bsz I2.sz
 noex:=fun b o e hb=>by
  rcases (f2 b hb).2.2.2.1 with z | z
  ·exact I2.ok.noex b o e z
  ·exact absurd (Xak (Xao e) (Xam I2.ok.bsz z)) (XaU _)
 exfs:=fun b hb hs=>by
  obtain ⟨_,f1,f3,_⟩:=f2 b hb
  rcases Xan.mp (I2.stkSub b hs) with z | z
  ·exact f1 z
  ·exact f3 z
 funs:=I2.stack
 frf:=I2.stkFree
abbrev TEm (α:Type):=St→Hp→(α→Hp→Prop)→Prop
def PEm {α:Type}(B:Nat)(Y:Cx)(EM:Env→Addr→(Shared→Prop)→Shared→Prop)(AO:List α→Obj→Prop)(em:TEm α):Prop:=
 ∀ (D:Addr) (pins:List (Addr×Obj)) (s:Shared) (σ:St) (H:Hp) (Q:α→Hp→Prop) (ys:List α) (o:Obj),Inv Y pins σ H s→(D,o)∈pins→AO ys o→ys.length<B→em σ H Q →
  EM Y.env D (fun s'=>∃ y H8 s8 h' o' tk,Inv Y pins σ H8 s8∧AO (ys ++ [y]) o'∧Heap.SameBut D s8.heap h'∧h'.get? D=some o'∧s'={ s8 with heap:=h',toks:=tk }∧Q y H8) s
def zfo {α:Type}(B:Nat)(J:It)(g:TG)(tf:TT)(em:TEm α)(Q:List α→Hp→Prop)(σ0:St)(H1:Hp):Prop:=
 ∃ W:Nat→Nat→List α→St→Hp→Prop,(∃ m,W 0 m [] σ0 H1)∧∀ i m ys σc Hc,W i m ys σc Hc →
  (J.stop i Hc∧ys.length≤B∧Q ys Hc) ∨
  (J.go i Hc∧ys.length<B∧∃ N:List α→St→Hp→Prop,(∀ ys' σ' H',N ys' σ' H'→∃ m',m'<m∧W (i+1) m' ys' σ' H') ∧
   ∀ x H',J.yld i Hc x H'→g x σc H' fun σ2 H2=>tf σ2 H2 fun b H3=>if b=true then em σ2 H3 fun y H4=>N (ys ++ [y]) σ2 H4 else N ys σ2 H3)
structure CLoop (prog:Program)(w:World)(A:Around)(tg:Expr)(ifs:List Expr)(ce:Expr)(it:Value)(EM:Env→Addr→(Shared→Prop)→Shared→Prop):Prop where
 mono:∀ (env:Env) (D:Addr) (p q:Shared→Prop) (s:Shared),EM env D p s→(∀ s',p s'→q s')→EM env D q s
 loop:∀ (env:Env) (D:Addr) (I:Nat→Shared→Prop) {R:Result→Shared→Prop} (turn:∀ n s,I n s→wpAny (model prog w) A (pyNext it) (fun r s1=>match r with
   | none=>R (.ok .next) s1
   | some v=>wpAny (model prog w) A (letOwnedTupleGo tg it v) (fun _ s2=>wpAny (model prog w) A (assign tg env v) (fun _ s3 =>
     wpAny (model prog w) A (forIn ifs true fun c r=>if r=true then do let ok ← isTrue c env (eval c env);pure (ForInStep.yield ok) else pure (ForInStep.yield r)) (fun ok s4 =>
      if ok=true then EM env D (fun s6=>∃ m,m<n∧I m s6) s4 else ∃ m,m<n∧I m s4) (fun _ _=>False) s3) (fun _ _=>False) s2) (fun _ _=>False) s1) (fun _ _=>False) s)
  (n:Nat) (s:Shared) (h:I n s),codeAny (model prog w) A (.compLoop ce 0 it (.ref D) env) R s
 start:∀ (env:Env) (D:Addr) (R:Result→Shared→Prop) (s:Shared),codeAny (model prog w) A (.compLoop ce 0 it (.ref D) env) R s →
  wpAny (model prog w) A (pyIter it) (fun it' s'=>codeAny (model prog w) A (.compLoop ce 0 it' (.ref D) env) R s') (notedBy (model prog w) A env fun x s'=>R (.error x) s') s→codeAny (model prog w) A (.compStart ce 0 it (.ref D) env) R s
theorem zdG {α:Type}{X:Cx}{pins:List (Addr×Obj)}{σ:St}{H2:Hp}{s2:Shared}{Nc:List Str}{src:List (Option Nat)}{scope:Scope}{cl:List (Str×Addr)}{fp:List Addr}{tg ce:Expr}{ifs:List Expr}
  {it:Addr} {tn:Nat→Heap→Prop} {J:It} {g:TG} {tf:TT} {em:TEm α} {Qf:List α→Hp→Prop} {E:Value→Shared→Prop} {RR:Value→Addr→Result→Shared→Prop} {mk:Sem Value} {o0:Obj} {AO:List α→Obj→Prop} {ho:Addr→List α→HO} {B:Nat} {EM:Env→Addr→(Shared→Prop)→Shared→Prop}
  (hc:X.calm=true) (I2:Inv X pins σ H2 s2) (S:CompOk X.N X.env.scope Nc src scope)
  (hcl1:∀ (x:Str) (c:Addr),cl.lookup x=some c→X.env.cells.lookup x=some c) (hcl2:∀ x∈scope.names,x.2 = .free→∃ c,cl.lookup x.1=some c)
  (T:Turn X.prog X.w X.K tg J fp it tn) (st2:tn 0 s2.heap) (f2:∀ b∈fp,FpOk X pins H2 b)
  (hg:∀ cl C fp s2 H2,PG (cxC X Nc scope cl C fp s2 H2) tg g) (hf:∀ cl C fp s2 H2,PF (cxC X Nc scope cl C fp s2 H2) ifs tf) (he:∀ cl C fp s2 H2,PEm B (cxC X Nc scope cl C fp s2 H2) EM AO em)
  (hmk:∀ (Q:Value→Shared→Prop) (s:Shared),Q (.ref s.heap.objs.size) { s with heap:=s.heap.push o0 }→wpAny (model X.prog X.w) X.A mk Q E s) (hfr:o0.isFreed=false) (h0:AO [] o0) (hcell:∀ ys o v,AO ys o→o.data≠.cell v)
  (hho:∀ ys o H h D,AO ys o→ys.length≤B→s2.heap.objs.size≤D→h.get? D=some o→ObjOk X.prog X.w (upd H D (ho D ys)) h D (ho D ys))
  (hlp:CLoop X.prog X.w X.A tg ifs ce (.ref it) EM)
  (hw:zfo B J g tf em Qf (zcq src σ) H2)
  (fin:∀ (H4:Hp) (s4:Shared) (ys:List α) (m:Str→Option Value) (C:Addr),s2.heap.objs.size≤C→H4 s2.heap.objs.size=none→Inv X pins σ (upd H4 s2.heap.objs.size (ho s2.heap.objs.size ys)) s4→s4.heap.Ns C m→upd H4 s2.heap.objs.size (ho s2.heap.objs.size ys) C=none→Qf ys H4→RR (.ref s2.heap.objs.size) C (.ok .next) s4) :
  wpAny (model X.prog X.w) X.A mk (fun acc s3=>wpAny (model X.prog X.w) X.A (newFunctionEnv scope X.env.globals cl [] X.env.qual none .none (some X.env)) (fun cenv s4 =>
   codeAny (model X.prog X.w) X.A (.compStart ce 0 (.ref it) acc { cenv with scope:=relabel scope X.env }) (RR acc cenv.locals) s4) E s3) E s2:=by
 refine hmk _ s2 (wpAny_newFunctionEnv S.nocell (by intro y hy;simp at hy) (fun h1 hns1 hsb1=>?_) S.kind)
 dsimp only at hns1 hsb1 ⊢
 generalize hH2:s2.heap.push o0=G2 at hns1 hsb1 ⊢
 have hCz:G2.objs.size=s2.heap.objs.size+1:=by rw [← hH2,XaN]
 generalize hCe:G2.objs.size=C at hns1 hsb1 hCz ⊢
 generalize hDe:s2.heap.objs.size=D at fin hCz ⊢
 have hDC:D≠C:=by omega
 have hCle:s2.heap.objs.size≤C:=by omega
 have hDle:s2.heap.objs.size≤D:=by omega
 have old:∀ b o,s2.heap.get? b=some o→h1.get? b=some o:=fun b o e=>hsb1.extBut b o (Xaz (Xak (Xao e) hCle)) (Xab _ (hH2 ▸ Xab _ e))
 have hacc:h1.get? D=some o0:=by
  refine hsb1.extBut _ _ hDC (Xab _ ?_)
  rw [← hH2,← hDe]
  exact Xaj _ hfr
 have hfp:∀ b∈fp,b<s2.heap.objs.size:=fun b hb=>by
  obtain ⟨o,e,_⟩:=T.obj 0 _ st2 b hb
  exact Xao e
 have ok:=cxC_ok (Nc:=Nc) (src:=src) (scope:=scope) (cl:=cl) (C:=C) (fp:=fp) I2 S hcl1 hcl2 hCle hfp f2
 generalize hXC:cxC X Nc scope cl C fp s2 H2=Y at ok
 have hYN:Y.N=Nc:=by rw [← hXC];rfl
 
 have I0:Inv (cxC X Nc scope cl C fp s2 H2) [] (zcq src σ) H2 { s2 with heap:=h1,toks:=s2.toks+([]:List (Str×Value)).length }:=by
  rw [← hXC] at ok
  refine ⟨ok,rfl,I2.bare,Un.kept old,⟨_,hns1,fun j x v e1 e2 _=>?_⟩,fun x c e=>?_,I2.hok.fresh hCle,fun x c e=>I2.freeC x c (hcl1 _ _ e),(fun p hp=>nomatch hp),I2.hok.kept old,?_⟩
  ·
   have e2':(zcq src σ)[j]? = some (some v):=e2
   have e1':Nc[j]? = some x:=e1
   unfold zcq at e2'
   rw [Xaq] at e2'
   cases hs:src[j]? with
   | none=>rw [hs] at e2';cases e2'
   | some o =>
    rw [hs] at e2'
    cases o with
    | none=>cases e2'
    | some i =>
     simp only [Option.map_some,Option.some.injEq] at e2'
     obtain ⟨y,hy1,hy2,hy3⟩:=S.src j i hs
     rw [e1'] at hy1;cases hy1
     have hσ:σ[i]? = some (some v):=by
      cases hq:σ[i]? with
      | none=>rw [hq] at e2';cases e2'
      | some z=>rw [hq] at e2';simp only [Option.getD_some] at e2';rw [e2']
     have hm:=zdB hy3
     have hfr:=S.free _ hm rfl
     obtain ⟨m0,hn0,hl0⟩:=I2.loc
     obtain ⟨u,r,l⟩:=hl0 i x v hy2 hσ (Or.inr hfr)
     refine ⟨u,r,.inr ⟨?_,?_⟩⟩
     ·show (relabel scope X.env).names.lookup x=some .cell∨(relabel scope X.env).names.lookup x=some .free
      rw [zcA,hy3]
      simp only [Option.map_some]
      split
      ·exact .inl rfl
      ·exact .inr rfl
     ·rcases l with ⟨k,_⟩ | ⟨_,c,hc1,hc2⟩
      ·have k':X.env.scope.names.lookup x=some .local:=k
       rw [k'] at hfr;rcases hfr with z | z <;> cases z
      ·obtain ⟨c',hc'⟩:=hcl2 _ hm rfl
       have:=hcl1 _ _ hc'
       rw [hc1] at this;cases this
       exact ⟨c,hc',hc2.keeps old⟩
  ·obtain ⟨v,z⟩:=I2.cell x c (hcl1 _ _ e)
   exact ⟨v,z.keeps old⟩
  ·show (zcq src σ).length=Nc.length
   unfold zcq;rw [Xal];exact S.len
 obtain ⟨W,⟨m0,w0⟩,turn⟩:=hw
 have loop:codeAny (model X.prog X.w) X.A (.compLoop ce 0 (.ref it) (.ref D) (compEnvC scope cl C X.env)) (RR (.ref D) C) { s2 with heap:=h1,toks:=s2.toks+([]:List (Str×Value)).length }:=by
  have fpk:∀ {H':Hp} {ob:Obj},(∀ b∈fp,H' b=none)→∀ b∈fp,FpOk (cxC X Nc scope cl C fp s2 H2) [(D,ob)] H' b:=fun {H' ob} hn b hb =>
   ⟨hn b hb,(I0.ok.exf b hb).1,I0.ok.exfs b hb,.inl hb,(I0.ok.exf b hb).2,fun p hp=>by
    have e:p=(D,ob):=Xad.mp hp
    subst e
    exact XbC (Xak (hfp b hb) hDle)⟩
  have hDfs:D ∉ frs X.stack:=fun hs=>by
   rcases Xan.mp (I2.stkSub D hs) with z | z
   ·exact absurd (Xak I2.lt hDle) (by rw [z];exact XaU _)
   ·exact I2.nofs hDle z
  refine hlp.loop (compEnvC scope cl C X.env) D (fun n s'=>∃ i ys σ' H' ob,Inv (cxC X Nc scope cl C fp s2 H2) [] σ' H' s'∧tn i s'.heap∧(∀ b∈fp,H' b=none)∧H' D=none∧s'.heap.get? D=some ob∧AO ys ob∧W i n ys σ' H') ?_ m0 _
   ⟨0,[],zcq src σ,H2,o0,I0,T.keep _ _ _ st2 fun b hb o e=>old b o e,fun b hb=>(f2 b hb).1,I2.hok.fresh hDle,hacc,h0,w0⟩
  rintro n s3 ⟨i,ys,σ3,H3,ob,I3,st3,fr3,hD3,hO3,vs3,w3⟩
  have I3':Inv (cxC X Nc scope cl C fp s2 H2) [(D,ob)] σ3 H3 s3:=I3.pins_of fun p hp=>by
   have e:=Xad.mp hp
   subst e
   exact ⟨hO3,hD3,hDC,hDfs,fun v z=>hcell ys ob v vs3 z⟩
  rcases turn i n ys σ3 H3 w3 with ⟨stop,hlen,qn⟩ | ⟨go,hlen,N,hN,step⟩
  ·refine thn (T.done (cxC X Nc scope cl C fp s2 H2) rfl rfl rfl hc i _ s3 σ3 H3 _ I3' (fpk fr3) st3 stop) fun r s4 ⟨hr,I4⟩=>?_
   subst hr
   have hO4:=(I4.pin (D,_) (XaC _ (Xad.mpr rfl))).1
   obtain ⟨m4,hn4,_⟩:=I4.loc
   have fC:H3 C=none:=I4.free
   have uD:upd H3 D (ho D ys) C=none:=by rw [zai hDC.symm];exact fC
   have hl2:∀ b v,H2 b=some v→b<s2.heap.objs.size:=fun b v e=>I2.hok.lt e
   have Iout:Inv X pins σ (upd H3 D (ho D ys)) s4:=by
    refine I2.call' (ch:=fp) I4.os (Un.track I4.base hDle hl2) (HOk.track I4.hok hD3 (hho ys ob H3 s4.heap D vs3 hlen hDle hO4)) I4.bare fun b hb=>?_
    obtain ⟨_,a1,_,a3,a4,a5⟩:=f2 b hb
    exact ⟨a3,a1,a4,a5⟩
   exact fin H3 s4 ys m4 C (by omega) hD3 Iout hn4 uD qn
  ·refine thn (T.item (cxC X Nc scope cl C fp s2 H2) rfl rfl rfl hc i _ s3 σ3 H3 _ I3' (fpk fr3) st3 go) fun r s4 ⟨u,hr,h4⟩=>?_
   subst hr
   refine thn h4 fun _ s5 hh_=>?_
   obtain ⟨x,H5,I5,r5,y5,st5,fr5⟩:=hh_
   have I5':=I5.pinned (fpk fr5) (T.obj _ _ st5)
   refine thn (hg cl C fp s2 H2 _ s5 σ3 H5 x u _ I5' r5 (step x H5 y5)) fun _ s6 ⟨σ6,H6,I6,q6⟩=>?_
   refine thn (hf cl C fp s2 H2 _ s6 σ6 H6 _ I6 q6) fun ok s7 ⟨H7,I7,q7⟩=>?_
   have back:∀ {s8:Shared} {σ8:St} {H8:Hp},Inv (cxC X Nc scope cl C fp s2 H2) ([(D,ob)] ++ zgb fp s5.heap) σ8 H8 s8 →
     tn (i+1) s8.heap∧(∀ b∈fp,H8 b=none)∧H8 D=none∧s8.heap.get? D=some ob:=fun {s8 σ8 H8} I8=>by
    refine ⟨T.keep _ _ _ st5 fun b hb o e=>(I8.pin (b,o) (XaC _ (XaC _ (zcw hb e)))).1,fun b hb=>?_,?_,?_⟩
    ·obtain ⟨o,e,d⟩:=T.obj _ _ st5 b hb
     exact (I8.pin (b,o) (XaC _ (XaC _ (zcw hb e)))).2.1
    ·exact (I8.pin (D,_) (XaC _ (Xbu _ (Xad.mpr rfl)))).2.1
    ·exact (I8.pin (D,_) (XaC _ (Xbu _ (Xad.mpr rfl)))).1
   cases ok with
   | false =>
    obtain ⟨m',hm',w7⟩:=hN _ _ _ q7
    obtain ⟨b1,b2,b3,b4⟩:=back I7
    exact ⟨m',hm',i+1,ys,σ6,H7,ob,I7.pins_of (fun p hp=>nomatch hp),b1,b2,b3,b4,vs3,w7⟩
   | true =>
    refine hlp.mono _ _ _ _ _ (he cl C fp s2 H2 D _ s7 σ6 H7 _ ys ob I7 (Xbu _ (Xad.mpr rfl)) vs3 hlen q7) fun s9 hh_=>?_
    obtain ⟨y,H8,s8,h9,o9,tk9,I8,a9,sb9,g9,e9,q8⟩:=hh_
    subst e9
    obtain ⟨m',hm',w8⟩:=hN _ _ _ q8
    obtain ⟨b1,b2,b3,b4⟩:=back I8
    have I8n:Inv (cxC X Nc scope cl C fp s2 H2) [] σ6 H8 s8:=I8.pins_of fun p hp=>nomatch hp
    have I9:Inv (cxC X Nc scope cl C fp s2 H2) [] σ6 H8 { s8 with heap:=h9,toks:=tk9 }:=
     I8n.turned (it:=D) (fun b o hb e=>sb9.extBut b o hb e) b3 hDC (.inr hDle) (fun x c e z=>by
      obtain ⟨w',z'⟩:=I2.cell x c (hcl1 _ _ e)
      exact absurd (Xak z'.lt hDle) (by rw [z];exact XaU _)) (fun p hp=>nomatch hp)
    refine ⟨m',hm',i+1,ys ++ [y],σ6,H8,o9,I9,T.keep _ _ _ b1 fun b hb o e=>sb9.extBut b o (Xaz (Xak (hfp b hb) hDle)) e,b2,b3,g9,a9,w8⟩
 exact hlp.start _ D _ _ loop (T.self X.A 0 _ _ _ (T.keep _ _ _ st2 fun b hb o e=>old b o e) loop)
def zgT (J:It)(g:TG)(tf:TT)(te:TE)(Q:List V→Hp→Prop)(σ0:St)(H1:Hp):Prop:=zfo (α:=V) sizeLine J g tf te Q σ0 H1
def tComp (src:List (Option Nat))(wi:TI)(g:TG)(tf:TT)(te:TE):TE:=fun σ H Q=>wi σ H fun J H1 =>
 zgT J g tf te (fun ys H2=>∀ D,H2 D=none→Q (.ref D) (upd H2 D (.lst ys))) (zcq src σ) H1
def EMl (prog:Program)(w:World)(A:Around)(elt:Expr)(env:Env)(D:Addr)(p:Shared→Prop)(s:Shared):Prop:=
 wpAny (model prog w) A (eval elt env) (fun v s5=>wpAny (model prog w) A (call (.builtin "list.append") [.ref D,v]) (fun _ s6=>p s6) (fun _ _=>False) s5) (fun _ _=>False) s
theorem zjU {prog:Program}{w:World}{A:Around}{elt target iter:Expr}{ifs:List Expr}{scope:Scope}{pos:Pos}{it:Value}:CLoop prog w A target ifs (.ListComp elt [⟨target,iter,ifs,0⟩] scope pos) it (EMl prog w A elt) where
 mono:=fun env D p q s h k=>Xax h (fun v s5 h5=>Xax h5 (fun _ s6 h6=>k s6 h6) fun _ _ e=>e) fun _ _ e=>e
 loop:=fun env D I {R} turn n s h=>zmP I turn n h
 start:=fun env D R s h0 h=>codeAny_compStart_list h0 h
inductive AOl (ys:List V):Obj→Prop
 | mk (its:List Value) (k:Nat):Vals ys its→AOl ys { cls:=.type "list",data:=.seq its.toArray k }
theorem zk5 {Y:Cx}{elt:Expr}{te:TE}(he:PE Y elt te)(hxe:Y.xe=fun _ _=>False):PEm sizeLine Y (EMl Y.prog Y.w Y.A elt) AOl te:=by
 intro D pins s σ H Q ys o I hp ao hl h
 refine Xax (he pins s σ H _ I h) (fun v s8 hh_=>?_) fun e s' z=>by rw [hxe] at z;exact z
 obtain ⟨y,H8,I8,r8,q8⟩:=hh_
 have g8:=(I8.pin (D,o) (XaC _ hp)).1
 obtain ⟨its,k,vs3⟩:=ao
 have hl8:=vs3.length
 refine call_meets F.slot_list_append ⟨_,g8,rfl⟩ F.entry_list_append (F.args_list_append_2 _ _) (PySem.list_append D its.toArray k v (by rw [Xat];omega)) ⟨g8,?_⟩
 have qn:=PySem.IsL.update g8 (·.push v)
 rw [show its.toArray.push v=(its ++ [v]).toArray by simp] at qn
 exact ⟨y,H8,s8,_,_,_,I8,.mk (its ++ [v]) _ (vs3.append (.cons r8 .nil)),Heap.SameBut.update _ _ _,qn,rfl,q8⟩
theorem zgD {X:Cx}{pins:List (Addr×Obj)}{σ:St}{H2:Hp}{s2:Shared}{Nc:List Str}{src:List (Option Nat)}{scope:Scope}{cl:List (Str×Addr)}{fp:List Addr}{elt tg iter:Expr}{ifs:List Expr}{pos:Pos}
  {it:Addr} {tn:Nat→Heap→Prop} {J:It} {g:TG} {tf:TT} {te:TE} {Qf:List V→Hp→Prop} {E:Value→Shared→Prop} {RR:Value→Addr→Result→Shared→Prop}
  (hc:X.calm=true) (I2:Inv X pins σ H2 s2) (S:CompOk X.N X.env.scope Nc src scope)
  (hcl1:∀ (x:Str) (c:Addr),cl.lookup x=some c→X.env.cells.lookup x=some c) (hcl2:∀ x∈scope.names,x.2 = .free→∃ c,cl.lookup x.1=some c)
  (T:Turn X.prog X.w X.K tg J fp it tn) (st2:tn 0 s2.heap) (f2:∀ b∈fp,FpOk X pins H2 b)
  (hg:∀ cl C fp s2 H2,PG (cxC X Nc scope cl C fp s2 H2) tg g) (hf:∀ cl C fp s2 H2,PF (cxC X Nc scope cl C fp s2 H2) ifs tf) (he:∀ cl C fp s2 H2,PE (cxC X Nc scope cl C fp s2 H2) elt te)
  (hw:zgT J g tf te Qf (zcq src σ) H2)
  (fin:∀ (H4:Hp) (s4:Shared) (ys:List V) (m:Str→Option Value) (C:Addr),s2.heap.objs.size≤C→H4 s2.heap.objs.size=none→Inv X pins σ (upd H4 s2.heap.objs.size (.lst ys)) s4→s4.heap.Ns C m→upd H4 s2.heap.objs.size (.lst ys) C=none→Qf ys H4→RR (.ref s2.heap.objs.size) C (.ok .next) s4) :
  wpAny (model X.prog X.w) X.A (newList []) (fun acc s3=>wpAny (model X.prog X.w) X.A (newFunctionEnv scope X.env.globals cl [] X.env.qual none .none (some X.env)) (fun cenv s4 =>
   codeAny (model X.prog X.w) X.A (.compStart (.ListComp elt [⟨tg,iter,ifs,0⟩] scope pos) 0 (.ref it) acc { cenv with scope:=relabel scope X.env }) (RR acc cenv.locals) s4) E s3) E s2:=zdG (α:=V) (B:=sizeLine) (ho:=fun _ ys=>.lst ys) (AO:=AOl) hc I2 S hcl1 hcl2 T st2 f2 hg hf (fun cl C fp s2 H2=>zk5 (he cl C fp s2 H2) rfl) (fun _ _ q=>XaR q) rfl (.mk [] 0 .nil) (fun _ _ _ x z=>by cases x;cases z)
  (fun _ _ _ _ _ x hl _ e=>by obtain ⟨its,k,v⟩:=x;exact ⟨hl,its,k,v,e⟩) zjU hw fin
section
variable {X:Cx}{Nc:List Str}{src:List (Option Nat)}{scope:Scope}{elt tg iter:Expr}{ifs:List Expr}{pos:Pos}{wi:TI}{g:TG}{tf:TT}{te:TE}
theorem zb3 (src:List (Option Nat))(hc:X.calm=true)(S:CompOk X.N X.env.scope Nc src scope)(hi:PI X tg iter wi)
  (hg:∀ cl C fp s2 H2,PG (cxC X Nc scope cl C fp s2 H2) tg g) (hf:∀ cl C fp s2 H2,PF (cxC X Nc scope cl C fp s2 H2) ifs tf) (he:∀ cl C fp s2 H2,PE (cxC X Nc scope cl C fp s2 H2) elt te)
  (hs:∀ x,foldedSetIterable iter X.env x=pure x:=by intro _;rfl):PE X (.ListComp elt [⟨tg,iter,ifs,0⟩] scope pos) (tComp src wi g tf te):=by
 intro pins s σ H Q I h
 obtain ⟨cl,hclos,hcl1,hcl2⟩:=zbq I.ok (scope:=scope) S.free
 rw [eval_ListComp]
 refine XbP (use:=none) rfl hs hclos S.kind (fun x hx hl=>by obtain ⟨n,k⟩:=x;cases hl;exact zbp S.nodup hx) (thn (hi pins s σ H _ I h) fun xv s1 h1=>thn h1 fun itv s2 h2=>?_)
 obtain ⟨it,fp,tn,J,H2,e,I2,T,st2,f2,hw⟩:=h2
 subst e
 refine zgD (RR:=fun acc C=>compPost (model X.prog X.w) X.A X.xe none (EP X pins σ Q) acc C) hc I2 S hcl1 hcl2 T st2 f2 hg hf he hw ?_
 intro H4 s4 ys m C hC hD Iout hn hCn q
 refine ⟨m,hn,fun h' sb=>⟨.ref s2.heap.objs.size,_,?_,rfl,q _ hD⟩⟩
 obtain ⟨f0,f1,f3,f4,f5,f6⟩:=I2.fpOk (H':=upd H4 s2.heap.objs.size (.lst ys)) hC hCn
 exact Iout.turned (t':=s4.toks) (it:=C) (fun b o hb e=>(sb.2 b hb).trans e) f0 f1 f4 f5 f6
theorem zdx {i:Nat}{y:Str}{pos' spos:Pos}(src:List (Option Nat))(hN:X.N.Nodup)(hi':X.N[i]? = some y)(hy:X.env.scope.names.lookup y=some .local)
  (hc:X.calm=true) (S:CompOk X.N X.env.scope Nc src scope) (hi:PI X tg iter wi)
  (hg:∀ cl C fp s2 H2,PG (cxC X Nc scope cl C fp s2 H2) tg g) (hf:∀ cl C fp s2 H2,PF (cxC X Nc scope cl C fp s2 H2) ifs tf) (he:∀ cl C fp s2 H2,PE (cxC X Nc scope cl C fp s2 H2) elt te)
  (hsw:swapsWith (.ListComp elt [⟨tg,iter,ifs,0⟩] scope pos) (some (.Name y pos')) spos.line X.env=pure true:=by rfl)
  (hs:∀ x,foldedSetIterable iter X.env x=pure x:=by intro _;rfl):PS X (.Assign [.Name y pos'] (.ListComp elt [⟨tg,iter,ifs,0⟩] scope pos) spos) (tAsg (tComp src wi g tf te) (zaT i)):=by
 intro pins s σ H D I h
 obtain ⟨cl,hclos,hcl1,hcl2⟩:=zbq I.ok (scope:=scope) S.free
 rw [exec_Assign_Name_used _ _ _ _ hsw]
 refine Xaa (Xbj (Xaa ?_))
 show wpAny _ X.A (do let _ ← comprehension (.ListComp elt [⟨tg,iter,ifs,0⟩] scope pos) scope X.env _ (newList []) false (eval iter X.env) (some (assign (.Name y pos') X.env))) _ _ s
 refine Xaa (Xax (XbP (use:=some (assign (.Name y pos') X.env)) (Q:=fun _ s'=>SP X pins D .next s') rfl hs hclos S.kind (fun x hx hl=>by obtain ⟨n,k⟩:=x;cases hl;exact zbp S.nodup hx)
  (thn (hi pins s σ H _ I h) fun xv s1 h1=>thn h1 fun itv s2 h2=>?_)) (fun _ s' hq=>Xac (Xac hq)) fun _ _ e=>e)
 obtain ⟨it,fp,tn,J,H2,e,I2,T,st2,f2,hw⟩:=h2
 subst e
 refine zgD (RR:=fun acc C=>compPost (model X.prog X.w) X.A X.xe (some (assign (.Name y pos') X.env)) (fun _ s'=>SP X pins D .next s') acc C) hc I2 S hcl1 hcl2 T st2 f2 hg hf he hw ?_
 intro H4 s4 ys m C hC hD Iout hn hCn q
 show wpAny _ X.A (assign (.Name y pos') X.env (.ref s2.heap.objs.size)) _ _ _
 refine wpAny_assign_Name (zd9 (i:=i) Iout hN hi' (.inl hy) (v:=.ref s2.heap.objs.size) rfl (fun s5 I5 ch=>?_) (.inr hy))
 obtain ⟨f0,f1,f3,f4,f5,f6⟩:=I2.fpOk (H':=upd H4 s2.heap.objs.size (.lst ys)) hC hCn
 obtain ⟨a,sb,ha⟩:=ch
 have hCa:C≠a:=by
  rcases ha with ha | ha
  ·rw [ha];exact f1
  ·exact fun z=>f5 _ _ ha z.symm
 refine ⟨m,hn.sameBut sb hCa,fun h' sb'=>⟨_,_,I5.turned (t':=s5.toks) (it:=C) (fun b o hb e=>(sb'.2 b hb).trans e) f0 f1 f4 f5 f6,q _ hD⟩⟩
end
section
variable {X:Cx}{pins:List (Addr×Obj)}{σ:St}{H:Hp}{s:Shared}
theorem Inv.turnedL {h':Heap}{t':Nat}{ch:List Addr}(I:Inv X pins σ H s)(k:∀ b o,b ∉ ch→s.heap.get? b=some o→h'.get? b=some o)(hf:∀ b∈ch,FpOk X pins H b):Inv X pins σ H { s with heap:=h',toks:=t' }:=by
 have nit:∀ b u,H b=some u→b ∉ ch:=fun b u e z=>by rw [(hf b z).1] at e;cases e
 refine I.step (g':=s.gens) (d':=s.drawn) (ch:=ch) (fun b hb=>?_) (fun b o _ _ hc e _=>k b o hc e) (fun b o _ _ hc e _=>⟨o.slots,k b o hc e⟩) (fun _ _ _ _ n=>n)
  (fun b o hc e=>⟨o,k b o hc e⟩) (fun _ _ e=>e) (fun _ _ _ e=>e) (fun b ps e=>⟨#[],by rw [e];simp⟩) (fun m hm=>?_) (fun b u e=>?_) I.bare
 ·obtain ⟨_,a1,_,a3,a4,a5⟩:=hf b hb
  exact ⟨a3,a1,a4,a5⟩
 ·obtain ⟨o,es,ep,ho,r⟩:=hm
  exact ⟨o,es,ep,k _ o (fun z=>(hf _ z).2.1 rfl) ho,r⟩
 ·refine (I.hok b u e).stay (fun c v hc q=>k c v ?_ q) (fun _ q=>q) fun _ _ q=>q
  rcases hc with z | z
  ·rw [z];exact nit b u e
  ·exact nit c _ z
theorem Un.track' {fs ex:List Addr}{H H':Hp}{h h':Heap}{a:Addr}{o:HO}(u:Un fs ex H H' h h')(hp:h.objs.size≤a)(hn:H' a=none):Un fs ex H (upd H' a o) h h' where
 keep:=u.keep
 slot:=u.slot
 free:=fun b v q n x=>by rw [zai (Xaz (Xak (Xao q) hp))];exact u.free b v q n x
 there:=u.there
 tups:=fun b xs q=>by rw [zai (zak (u.tups b xs q) hn)];exact u.tups b xs q
 frzs:=fun b v xs q=>by rw [zai (zak (u.frzs b v xs q) hn)];exact u.frzs b v xs q
 tbls:=fun b ps q=>by
  obtain ⟨m,e⟩:=u.tbls b ps q
  exact ⟨m,by rw [zai (zak e hn)];exact e⟩
theorem Inv.track {a:Addr}{o:HO}(I:Inv X pins σ H s)(f:FpOk X pins H a)(hs:X.s₀.heap.objs.size≤a)(new:ObjOk X.prog X.w (upd H a o) s.heap a o):Inv X pins σ (upd H a o) s:=by
 obtain ⟨hn,h1,_,_,h4,h5⟩:=f
 refine ⟨I.ok,I.os,I.bare,Un.track' I.base hs hn,I.loc,I.cell,by rw [zai (Ne.symm h1)];exact I.free,fun x c e=>by rw [zai (h4 x c e)];exact I.freeC x c e,fun p hp=>?_,HOk.track I.hok hn new,I.len⟩
 obtain ⟨a1,a2,a3⟩:=I.pin p hp
 exact ⟨a1,by rw [zai (h5 p hp)];exact a2,a3⟩
end
def Ite (K:W.Frag)(a:Addr):It:=
 ⟨fun i H=>∃ xs x,SqL K H a xs∧xs[i]? = some x,
  fun i H v H'=>∃ T x,H T=none∧v = .ref T∧H'=upd H T (.tup [.int i,x])∧∀ xs,SqL K H a xs→xs[i]? = some x,
  fun i H=>∃ xs,SqL K H a xs∧xs.length≤i⟩
theorem zgX {P:Program}{w:World}{H:Hp}{h:Heap}{T:Addr}{x y:V}{u v:Value}(r:RelV x u)(q:RelV y v)(e:h.get? T=some { cls:=.type "tuple",data:=.seq #[u,v] }):ObjOk P w H h T (.tup [x,y]):=
 ⟨⟨by show 2≤sizeLine;decide,_,e,rfl⟩,[u,v],.cons r (.cons q .nil),⟨_,e,rfl,_,rfl⟩⟩
theorem zjd {P:Program}{w:World}{K:W.Frag}{elts:List Expr}{kt:Nat}{tp:Pos}(a e it:Addr)(hne:e≠it) :
  Turn P w K (.Tuple elts kt tp) (Ite K a) [e,it] e (fun i h=>(∃ old,IsEnum h e it i old)∧h.IsListIter it a i) where
 mem:=by simp
 obj:=fun i h st b hb=>by
  obtain ⟨⟨old,he⟩,hi⟩:=st
  rcases Xan.mp hb with z | z
  ·subst z
   exact ⟨_,he,fun v z=>by
    have z':Data.fields _=Data.cell v:=z
    cases z'⟩
  ·have z:=Xad.mp z
   subst z
   obtain ⟨o,e1,c,d⟩:=hi
   exact ⟨o,e1,fun v z=>by rw [d] at z;cases z⟩
 keep:=fun i h h' st k=>by
  obtain ⟨⟨old,he⟩,hi⟩:=st
  exact ⟨⟨old,k e (by simp) _ he⟩,hi.at fun o e1=>k it (by simp) o e1⟩
 item:=by
  intro X hP hw hK hc i pins s σ H E I hf st hg
  subst hP hw hK
  obtain ⟨xs,x,hq,hx⟩:=hg
  obtain ⟨its,rv,p,hz⟩:=I.list hq
  obtain ⟨u,hu,ru⟩:=rv.get hx
  obtain ⟨⟨old,he⟩,hi⟩:=st
  refine wpAny_pyNext_enum_item he hi p.isList (x:=u) (by simpa using hu) hne fun h' ho hi' ht hsz kk=>⟨_,rfl,?_⟩
  refine wpAny_letOwnedTupleGo_enum ho fun h2 he2 sb=>?_
  have fT:FpOk X pins H s.heap.objs.size:=I.fpOk (Xae _) (I.hok.fresh (Xae _))
  have k2:∀ b o,b ∉ [e,it]→s.heap.get? b=some o→h2.get? b=some o:=fun b o hb e1=>by
   simp only [Xan,Xbh,or_false,not_or] at hb
   exact (sb.2 b hb.1).trans (kk b o hb.1 hb.2 e1)
  have I1:Inv X pins σ H { s with heap:=h2,toks:=s.toks+1 }:=I.turnedL (ch:=[e,it]) k2 hf
  have eT:h2.get? s.heap.objs.size=some { cls:=.type "tuple",data:=.seq #[.int i s.toks,u] }:=(sb.2 _ (XbC (Xao he))).trans ht
  have I2:=I1.track (o:=.tup [.int i,x]) fT (Xam I.sz (Xae _)) (zgX ⟨_,rfl⟩ ru eT)
  refine ⟨.ref s.heap.objs.size,_,I2,rfl,⟨_,x,fT.1,rfl,rfl,fun ys hy=>by rw [I.list_inj hy hq];exact hx⟩,⟨⟨u,by exact_mod_cast he2⟩,hi'.extBut sb.extBut (Ne.symm hne)⟩,fun b hb=>?_⟩
  obtain ⟨o,eb⟩:∃ o,s.heap.get? b=some o:=by
   rcases Xan.mp hb with z | z
   ·subst z;exact ⟨_,he⟩
   ·have z:=Xad.mp z
    subst z
    obtain ⟨o,e1,_⟩:=hi
    exact ⟨o,e1⟩
  rw [zai (Xaz (Xao eb))]
  exact (hf b hb).1
 done:=by
  intro X hP hw hK hc i pins s σ H E I hf st hg
  subst hP hw hK
  obtain ⟨xs,hq,hx⟩:=hg
  obtain ⟨its,rv,p,hz⟩:=I.list hq
  obtain ⟨⟨old,he⟩,hi⟩:=st
  have hl:=rv.length
  refine wpAny_pyNext_enum_end (I.ok.hd hc) he hi p.isList (by simp;omega) fun h' eb=>⟨rfl,I.turnedL (t':=s.toks) (ch:=[e,it]) (fun b o hb e1=>eb b o (fun z=>hb (by simp [z])) e1) hf⟩
 self:=fun _ _ _ _ _ st h=>by
  obtain ⟨⟨old,he⟩,hi⟩:=st
  exact wpAny_pyIter_enum he h
inductive iEnum_1 (K:W.Frag)(R:It→Hp→Prop)(vs:List V)(H1:Hp):Prop
 | mk (a:_) (z0_:vs=[.ref a]) (z1_:(∃ xs,SqL K H1 a xs)) (z2_:R (Ite K a) H1)
def iEnum (K:W.Frag)(ta:TA):TI:=fun σ H R=>ta σ H (iEnum_1 K R)
theorem zjz {X:Cx}{a:Expr}{ta:TA}{p pos:Pos}{elts:List Expr}{kt:Nat}{tp:Pos}(hg:Gl X "enumerate")(hm:X.mg "enumerate" = none)(ha:PA X [a] ta)(hs:starEach [a] X.env=[(false,eval a X.env)]:=by rfl) :
  PI X (.Tuple elts kt tp) (.Call (.Name "enumerate" p) [a] [] pos) (iEnum X.K ta):=by
 intro pins s σ H R I h
 refine Call_ (zc6 I hg hm boot_enumerate (PyProof.Rows.callWith_type1 (thn (ha pos pins s σ H _ I h) fun us s1 hh_=>?_) hs rfl))
 obtain ⟨vs,H1,I1,r1,q1⟩:=hh_
 obtain ⟨l,e,⟨xs,hq⟩,q⟩:=q1
 subst e
 obtain ⟨u,rfl,ru⟩:=zd8 r1
 cases ru
 obtain ⟨its,rv,pl,hz⟩:=I1.list hq
 refine call_enumerate_list pl.isList fun h' he hi hsz kk=>?_
 refine wpAny_pyIter_enum he ?_
 have I2:Inv X pins σ H1 { s1 with heap:=h',toks:=s1.toks }:=I1.kept kk
 refine ⟨s1.heap.objs.size+1,[s1.heap.objs.size+1,s1.heap.objs.size],_,_,H1,rfl,I2,zjd l _ _ (Nat.succ_ne_self _),⟨⟨_,he⟩,hi⟩,fun b hb=>?_,q⟩
 rcases Xan.mp hb with z | z
 ·subst z;exact I1.fpOk (XbN _) (I1.hok.fresh (XbN _))
 ·have z:=Xad.mp z
  subst z;exact I1.fpOk (Xae _) (I1.hok.fresh (Xae _))
theorem zlG:bootBuiltins "zip" = some (.type "zip"):=by decide +kernel
section
variable {X:Cx}{CX:CXT}{k:Nat}{f:Addr}{fd:FuncData}{ps ks:List Str}{sp:Sp}{E:XK}{x:Str}{p pos:Pos}{kws:List Keyword}{tk:TA}{g:List Value→List Value→List Value}{gV:List V→List V→List V}
theorem Fun.kbinds {K:W.Frag}{x qual:Str}{st:Stmt}{f:Addr}{fd:FuncData}{ps ks:List Str}{g:List Value→List Value→List Value}{gV:List V→List V→List V}(F:Fun K x qual st f fd)
  (h:∀ (kV doc pm:Value) (an:Option Addr) (cdv ct:Value) (us ws:List Value),(g us ws).length=ps.length→bindArgs (W.fnOf x qual (zbF st) (zbc st) (zah st) .none kV doc pm an cdv ct) ⟨us,ks.zip ws⟩=pure (ps.zip (g us ws)))
  (rel:∀ {vs:List V} {us:List Value} {zs:List V} {ws:List Value},Vals vs us→Vals zs ws→Vals (gV vs zs) (g us ws)):KBinds K fd ps ks g gV:=by
 obtain ⟨oc,od,kV,doc,pm,an,cdv,ct,osl,rfl,lk,hcd⟩:=F.ex
 exact ⟨fun s us ws _ hl=>.of_eq (h kV doc pm an cdv ct us ws hl),rel⟩
end
section
variable {X:Cx}
theorem zhe (val:Nat→Int)(ns:List Int)(h:∀ i n,ns[i]? = some n→val i=n):∀ j,j≤ns.length→preSum val j=(ns.take j).sum:=by
 intro j
 induction j with
 | zero=>intro _;rfl
 | succ j ih =>
  intro hj
  have hlt:j<ns.length:=hj
  show preSum val j+val j=_
  rw [ih (Xbt hlt),h j ns[j] (by simp [hlt]),Xbk,List.sum_append]
  simp [hlt]
theorem zeY (hc:X.calm=true):zdI X (.builtin "sum") (fun xs H Q=>∃ (a:Addr) (ns:List Int),xs=[.ref a]∧SqL X.K H a (ns.map V.int)∧Q (.int ns.sum) H):=by
 intro pins s σ H xs us Q I r h
 obtain ⟨a,ns,rfl,hq,q⟩:=h
 obtain ⟨u,rfl,ru⟩:=zd8 r
 cases ru
 obtain ⟨its,rv,p,hz⟩:=I.list hq
 have hi:=ziS rv
 have hl:=hi.length
 refine call_sum_walkG (wpAny_pyIter_list p.isList ?_)
 have hne:a≠s.heap.objs.size:=by
  obtain ⟨o,ho,_⟩:=p.isList
  exact Xaz (Xao ho)
 refine ⟨s.heap.objs.size,_,_,_,_,_,fun i=>(ns[i]?).getD 0,rfl,Walks.list (A:=X.A.in1) (I.ok.hd hc) s.heap.objs.size a hne its.toArray,⟨⟨_,Xaj _ rfl,rfl,rfl⟩,p.isList.push _⟩,?_,?_,fun h' tk t' kk=>?_⟩
 ·intro b hb
  simp only [Xan,Xbh,or_false] at hb
  rw [show ({ s with heap:=s.heap.push _ }:Shared).heap.objs.size=s.heap.objs.size+1 from XaN ..]
  rcases hb with rfl | rfl
  ·exact Xbf _
  ·obtain ⟨o,ho,_⟩:=p.isList
   exact Nat.lt_succ_of_lt (Xao ho)
 ·intro i v hv
  have hv':its[i]? = some v:=by simpa using hv
  cases hn:ns[i]? with
  | none =>
   exfalso
   rw [List.getElem?_eq_none_iff,← hl] at hn
   rw [XaL hn] at hv'
   cases hv'
  | some n =>
   obtain ⟨t,ht⟩:=hi.get i n hn
   rw [ht] at hv';cases hv'
   exact ⟨t,by show Value.int n t=Value.int ((ns[i]?).getD 0) t;rw [hn];rfl⟩
 ·have e:preSum (fun i=>(ns[i]?).getD 0) its.toArray.size=ns.sum:=by
   rw [zhe _ ns (fun i n h=>by rw [h];rfl) _ (by simp;omega),XaH (by simp;omega)]
  rw [e]
  refine ⟨.int ns.sum,H,I.kept (t':=tk) fun b o e1=>kk b o (fun hb=>?_) (Xab _ e1),⟨t',rfl⟩,q⟩
  have hb:=Xad.mp hb
  exact absurd (Xao e1) (by rw [hb];exact XaU _)
theorem zkB (bs:List Bool)(tr:Nat→Bool)(h:∀ i b,bs[i]? = some b→tr i=b):(List.range bs.length).all tr=bs.all id:=by
 induction bs generalizing tr with
 | nil=>rfl
 | cons b r ih =>
  rw [Xar,List.range_succ_eq_map,List.all_cons,List.all_map,List.all_cons,h 0 b rfl]
  have:=ih (tr ∘ Nat.succ) (fun i c hi=>h (i+1) c (by simpa using hi))
  rw [this];rfl
theorem zeZ (hc:X.calm=true):zdI X (.builtin "all") (fun xs H Q=>∃ (a:Addr) (bs:List Bool),xs=[.ref a]∧SqL X.K H a (bs.map V.bl)∧Q (.bl (bs.all id)) H):=by
 intro pins s σ H xs us Q I r h
 obtain ⟨a,bs,rfl,hq,q⟩:=h
 obtain ⟨u,rfl,ru⟩:=zd8 r
 cases ru
 obtain ⟨its,rv,p,hz⟩:=I.list hq
 have hl:=rv.length
 rw [Xal] at hl
 refine call_all_walk (wpAny_pyIter_list p.isList ?_)
 have hne:a≠s.heap.objs.size:=by
  obtain ⟨o,ho,_⟩:=p.isList
  exact Xaz (Xao ho)
 refine ⟨s.heap.objs.size,_,_,_,_,_,fun i=>(bs[i]?).getD true,rfl,Walks.list (A:=X.A.in1) (I.ok.hd hc) s.heap.objs.size a hne its.toArray,⟨⟨_,Xaj _ rfl,rfl,rfl⟩,p.isList.push _⟩,?_,fun h' tk kk=>?_⟩
 ·intro i v s' Q' E' hv hq'
  have hv':its[i]? = some v:=by simpa using hv
  cases hn:bs[i]? with
  | none =>
   exfalso
   rw [List.getElem?_eq_none_iff,hl] at hn
   rw [XaL hn] at hv'
   cases hv'
  | some b =>
   obtain ⟨u',hu',ru'⟩:=rv.get (i:=i) (x:=V.bl b) (by simp [hn])
   obtain rfl:u'=Value.bool b:=ru'
   rw [hu'] at hv';cases hv'
   have hq2:Q' ((bs[i]?).getD true) s':=hq'
   rw [hn] at hq2
   exact Xa2 hq2
 ·have e:(List.range its.toArray.size).all (fun i=>(bs[i]?).getD true)=bs.all id:=by
   rw [show its.toArray.size=bs.length by simp;omega]
   exact zkB bs _ fun i b h=>by rw [h];rfl
  rw [e]
  refine ⟨.bl _,H,I.kept (t':=tk) fun b o e1=>kk b o (fun hb=>?_) (Xab _ e1),rfl,q⟩
  have hb:=Xad.mp hb
  exact absurd (Xao e1) (by rw [hb];exact XaU _)
theorem zlX:RelV (.ty "int") (.type "int"):=rfl
theorem zfC:RelV (.ty "bool") (.type "bool"):=rfl
theorem zkv:bootBuiltins "int" = some (.type "int"):=by decide +kernel
theorem zfT:bootBuiltins "bool" = some (.type "bool"):=by decide +kernel
theorem zbd:bootBuiltins "isinstance" = some (.builtin "isinstance"):=by decide +kernel
theorem zkw:bootBuiltins "all" = some (.builtin "all"):=by decide +kernel
inductive rCatS (K:W.Frag)(x:V)(y:V)(H:Hp)(Q:VK):Prop
 | mk (a:_) (b:_) (xs:_) (ys:_) (z0_:x = .ref a) (z1_:y = .ref b) (z2_:SqL K H a xs) (z3_:SqL K H b ys) (z4_:xs.length+ys.length≤sizeLine) (z5_:∀ p,H p=none→Q (.ref p) (upd H p (.lst (xs ++ ys))))
theorem zhk:OpR X (binaryOp .Add) (rCatS X.K):=by
 intro pins s σ H x y v u Q I rx ry h
 obtain ⟨a,b,xs,ys,rfl,rfl,hq,hq2,hz,q⟩:=h
 cases rx
 cases ry
 obtain ⟨its,rv,p,_⟩:=I.list hq
 obtain ⟨its2,rv2,p2,_⟩:=I.list hq2
 have e1:=rv.length
 have e2:=rv2.length
 obtain ⟨⟨cls,dd,data,sl⟩,ho,hc,n,hd⟩:=id p.isList
 obtain ⟨⟨cls2,dd2,data2,sl2⟩,ho2,hc2,n2,hd2⟩:=id p2.isList
 simp only at hc hd hc2 hd2
 subst hc hd hc2 hd2
 have ea:its.toArray ++ its2.toArray=(its ++ its2).toArray:=by simp
 refine concat_meets ⟨_,ho,rfl⟩ ⟨_,ho2,rfl⟩ noFill_list_add seq_list_add PySem.F.slot_list_add PySem.F.entry_list_add (PySem.F.args_list_add_2 _ _) (list_addW a b its.toArray its2.toArray n n2 dd dd2 sl sl2 (by rw [Xat,Xat];omega)) ⟨ho,ho2,?_⟩
 rw [ea]
 exact ⟨.ref _,_,I.lnew (t':=s.toks) (rv.append rv2) (by rw [Xay];omega),rfl,q _ I.fresh⟩
theorem zck:OpR X (binaryOp .Mult) (rI IntMulOk fun i j=>.int (i * j)):=opI fun _ _ _ _ _ _ _ hc q=>mul_int q hc
theorem zaE:OpR X (binaryOp .FloorDiv) (rI (fun _ j=>0<j∧j.natAbs.log2<9000) fun i j=>.int (i / j)):=opI fun i j _ _ _ _ _ hc q=>by
 have e:i.fdiv j=i / j:=Int.fdiv_eq_ediv_of_nonneg _ (Int.le_of_lt hc.1)
 exact floordiv_int (by have:=hc.1;omega) (by rw [e];exact q) (.inl (PyProof.noPylong_of_log2 hc.2))
end
theorem bits_script {ns:List Int}(h:W.WData.layableAll [W.WData.list (ns.map W.WData.int)]=true):∀ n∈ns,Builtin.Int.intBits n≤2 ^ 20:=by
 intro n hn
 have h1:(W.WData.list (ns.map W.WData.int)).layable=true:=by
  have:=XbA.mp h _ Xav
  exact this
 have hw:=(W.layableW_iff.mp h1).2.2
 have key:∀ l:List Int,n∈l→Builtin.Int.intBits n≤W.WData.weightAll (l.map W.WData.int):=by
  intro l
  induction l with
  | nil=>intro h;cases h
  | cons m r ih =>
   intro hm
   rw [XaJ,W.WData.weightAll]
   rcases Xan.mp hm with e | hm
   ·subst e
    have:Builtin.Int.intBits n≤(W.WData.int n).weight:=by
     simp only [W.WData.weight,Builtin.Int.intBits]
     omega
    omega
   ·have:=ih hm
    omega
 have h2:=key ns hn
 rw [W.WData.weight] at hw
 omega
end L2
namespace Att
open PySem PySem.W PyProof.Rows PySem.Calls
theorem attach_callB {l:OpenLaw}{n:Nat}{q:Program}{loose:List Str}{XP:(Str→Option Value)→Heap→Prop}{YP:World→Heap→Prop}{d:DefRec}
  (hn:l.most=some n) (hdf:d.params.defaults=[])
  (call:∀ (w:World) (s₀ s₁:Shared) (mg mb:Str→Option Value) (fa:Addr) (o:Obj) (pm cd doc:Value) (a:Addr) (vs:List Value) (ns:List Int),
   Ground q loose [] XP w s₀ mg mb s₁.heap→YP w s₁.heap →
   s₁.heap.get? fa=some o→o.data = .func (docDef d.name d.params d.body d.scope pm cd doc)→s₁.heap.CodeRec cd d.name→mg d.name=some (.ref fa) →
   s₁.heap.get? a=some { cls:=.type "list",data:=.seq vs.toArray }→IntsAre vs ns→ns.length≤n→(∀ m∈ns,Builtin.Int.intBits m≤2 ^ 20)→s₁.gens = #[] →
   codeAny (model l.prog w) callerA (.call (.ref fa) ⟨[.ref a],[]⟩) (fun r s'=>r = .ok (.ret (.bool true))∧OldK s₁.heap s'.heap∧s'.os=s₁.os∧AllBare s'.gens) s₁) :
  WalkO q loose XP YP l.row.toRowW d [] (fun f vs=>PySem.call f vs):=by
 intro w s₀ s₁ mg mb G Y fa o pm cd doc dV kV ho hd hcd hD hmg hg args vals as hpre hlay hrd hwl hlo
 obtain rfl:dV = .none:=Dflts.none hD hdf
 obtain rfl:kV = .none:=Dflts.noKw hD
 obtain ⟨a,vs,ns,rfl,rfl,hobj,hints,hlen⟩:=zjl hn hpre hwl
 refine enter_call (codeAny_mono (call w s₀ s₁ mg mb fa o pm cd doc a vs ns G Y ho (fd_plain hd) hcd hmg hobj hints hlen (L2.bits_script hlay) hg) fun r s' hq=>?_)
 obtain ⟨rfl,h2,h3,h4⟩:=hq
 exact ⟨.inl ⟨.bool true,.bool true,[],rfl,fun _=>rfl,.bool true,zjw l _,fun _=>⟨List.Pairwise.nil,fun _ hm=>(nomatch hm)⟩⟩,h2,h3,h4⟩
end Att
namespace L2
open PySem PySem.Spec PyProof.Rows
theorem walk_ofB {l:W.OpenLaw}{n k:Nat}{q:Program}{loose:List Str}{XP:(Str→Option Value)→Heap→Prop}{YP:World→Heap→Prop}{d:DefRec}{K:Params→W.Frag}{CX:World→CXT}{sp:World→Sp}{x:Str}
  (hn:l.most=some n) (hn2:n≤sizeLine) (hdf:d.params.defaults=[]) (hr:Room k callerA)
  (hY:∀ (w:World) (h:Heap),YP w h→(K w.params).In h)
  (F:∀ (w:World) (mg:Str→Option Value) (fa:Addr) (h:Heap),(K w.params).In h→h.Ns mainGlobals mg→mg d.name=some (.ref fa) →
   ∃ fd:FuncData,(∀ (s:Shared) (u:Value),BindsTo s fd ⟨[u],[]⟩ [(x,u)]) ∧
    ∀ base:Heap,(K w.params).In base→base.Ns mainGlobals mg→FnOk l.prog w (K w.params) mg base (CX w) k fa fd [x] (sp w))
  (hsp:∀ (w:World) (H:Hp) (a:Addr) (ns:List Int),ns.length≤n→(∀ m∈ns,Builtin.Int.intBits m≤2 ^ 20)→Only H→SqL (K w.params) H a (ns.map V.int)→sp w [.ref a] H (fun v _=>v = .bl true) fun _ _ _=>False)
  (hCX:∀ (w:World) (H:Hp) (s:Shared) (e:Value) (s':Shared),CX w [] H s (fun _ _ _=>False) e s'→False) :
  W.WalkO q loose XP YP l.row.toRowW d [] (fun f vs=>PySem.call f vs):=by
 refine Att.attach_callB hn hdf fun w s₀ s₁ mg mb fa o pm cd doc a vs ns G Y ho hd hcd hmg hobj hints hlen hbits hg=>?_
 have KX:=hY w _ Y
 obtain ⟨fd,hb,hF⟩:=F w mg fa _ KX G.T.g hmg
 exact zln KX G.T.g G.T.b G.T.builtins G.T.nolimit hg hobj hints (Xam hlen hn2) hr hF hb (fun H hO hS=>hsp w H a ns hlen hbits hO hS) fun H e s'=>hCX w H s₁ e s'
section
variable {K:W.Frag}{g:TG}{tf:TT}{te:TE}{Q:List V→Hp→Prop}{σ:St}{H:Hp}
theorem zfl {lo:Int}{n:Nat}(Pv:Nat→List V→St→Hp→Prop)(hn:n≤sizeLine)(h0:Pv 0 [] σ H)(hz:∀ i ys σ H,Pv i ys σ H→ys.length≤i)
  (hs:∀ i ys σ H,i<n→Pv i ys σ H→g (.int (lo+i)) σ H fun σ2 H2=>tf σ2 H2 fun b H3=>if b=true then te σ2 H3 fun y H4=>Pv (i+1) (ys ++ [y]) σ2 H4 else Pv (i+1) ys σ2 H3)
  (hd:∀ ys σ H,Pv n ys σ H→Q ys H):zgT (Itr lo n) g tf te Q σ H:=by
 refine ⟨fun i m ys σ H=>m=n - i∧i≤n∧Pv i ys σ H,⟨n,by simp,Nat.zero_le _,h0⟩,?_⟩
 rintro i m ys σ H ⟨rfl,hi,p⟩
 have hl:=hz i ys σ H p
 by_cases hlt:i<n
 ·refine .inr ⟨hlt,by omega,Pv (i+1),fun ys' σ' H' p'=>⟨n - (i+1),by omega,rfl,hlt,p'⟩,fun x H' y=>?_⟩
  obtain ⟨e,y⟩:=y
  subst e y
  exact hs i ys σ _ hlt p
 ·have e:i=n:=by omega
  subst e
  exact .inl ⟨Xae _,by omega,hd ys σ H p⟩
theorem zdc {a:Addr}{xs:List V}(Pv:Nat→List V→St→Hp→Prop)(hn:xs.length≤sizeLine)(h0:Pv 0 [] σ H)(hl:∀ i ys σ H,i≤xs.length→Pv i ys σ H→SqL K H a xs∧ys.length≤i)
  (hs:∀ i x ys σ H,xs[i]? = some x→Pv i ys σ H→g x σ H fun σ2 H2=>tf σ2 H2 fun b H3=>if b=true then te σ2 H3 fun y H4=>Pv (i+1) (ys ++ [y]) σ2 H4 else Pv (i+1) ys σ2 H3)
  (hd:∀ ys σ H,Pv xs.length ys σ H→Q ys H):zgT (Itl K a) g tf te Q σ H:=by
 refine ⟨fun i m ys σ H=>m=xs.length - i∧i≤xs.length∧Pv i ys σ H,⟨xs.length,by simp,Nat.zero_le _,h0⟩,?_⟩
 rintro i m ys σ H ⟨rfl,hi,p⟩
 obtain ⟨q,hz⟩:=hl i ys σ H hi p
 by_cases hlt:i<xs.length
 ·refine .inr ⟨⟨xs,xs[i],q,by simp [hlt]⟩,by omega,Pv (i+1),fun ys' σ' H' p'=>⟨xs.length - (i+1),by omega,rfl,hlt,p'⟩,fun x H' y=>?_⟩
  obtain ⟨e,y⟩:=y
  subst e
  exact hs i x ys σ _ (y xs q) p
 ·have e:i=xs.length:=by omega
  subst e
  exact .inl ⟨⟨xs,q,Xae _⟩,by omega,hd ys σ H p⟩
theorem zgC {a:Addr}{xs:List V}(Pv:Nat→List V→St→Hp→Prop)(hn:xs.length≤sizeLine)(h0:Pv 0 [] σ H)(hl:∀ i ys σ H,i≤xs.length→Pv i ys σ H→SqL K H a xs∧ys.length≤i)
  (hs:∀ i x T ys σ H,xs[i]? = some x→H T=none→Pv i ys σ H→g (.ref T) σ (upd H T (.tup [.int i,x])) fun σ2 H2=>tf σ2 H2 fun b H3=>if b=true then te σ2 H3 fun y H4=>Pv (i+1) (ys ++ [y]) σ2 H4 else Pv (i+1) ys σ2 H3)
  (hd:∀ ys σ H,Pv xs.length ys σ H→Q ys H):zgT (Ite K a) g tf te Q σ H:=by
 refine ⟨fun i m ys σ H=>m=xs.length - i∧i≤xs.length∧Pv i ys σ H,⟨xs.length,by simp,Nat.zero_le _,h0⟩,?_⟩
 rintro i m ys σ H ⟨rfl,hi,p⟩
 obtain ⟨q,hz⟩:=hl i ys σ H hi p
 by_cases hlt:i<xs.length
 ·refine .inr ⟨⟨xs,xs[i],q,by simp [hlt]⟩,by omega,Pv (i+1),fun ys' σ' H' p'=>⟨xs.length - (i+1),by omega,rfl,hlt,p'⟩,fun v H' y=>?_⟩
  obtain ⟨T,x,hT,rfl,rfl,y⟩:=y
  exact hs i x T ys σ _ (y xs q) hT p
 ·have e:i=xs.length:=by omega
  subst e
  exact .inl ⟨⟨xs,q,Xae _⟩,by omega,hd ys σ H p⟩
end
theorem zeW {K:W.Frag}{i j:Nat}{T:Addr}{x y:V}{σ:St}{H:Hp}{Q:St→Hp→Prop}(h:Q ((σ.set i (some x)).set j (some y)) (upd H T (.tup [x,y]))) :
  gTup K 2 (gCons (zaT i) (gCons (zaT j) gNil)) (.ref T) σ (upd H T (.tup [x,y])) Q:=
 ⟨T,[x,y],rfl,SqT.of zad,rfl,x,[y],rfl,y,[],rfl,rfl,h⟩
end L2
end
section
namespace Cb
open PySem
def zaG:Nat→Nat→List Nat
 | _,0=>[]
 | n,m+1=>(n % 2) :: zaG (n / 2) m
def num:List Nat→Nat
 | []=>0
 | b :: r=>b+2 * num r
def Bit (l:List Nat):Prop:=∀ b∈l,b≤1
theorem zaB:∀ m n,(zaG n m).length=m
 | 0,_=>rfl
 | m+1,n=>by simp [zaG,zaB m]
theorem zbW:∀ m n,Bit (zaG n m)
 | 0,_=>fun b h=>by simp [zaG] at h
 | m+1,n=>fun b h=>by
  rcases Xan.mp (show b∈(n % 2) :: zaG (n / 2) m from h) with e | h
  ·omega
  ·exact zbW m (n / 2) b h
theorem zdH:∀ k n,zaG n (k+1)=zaG n k ++ [n / 2 ^ k % 2]
 | 0,n=>by simp [zaG]
 | k+1,n=>by
  show (n % 2) :: zaG (n / 2) (k+1)=((n % 2) :: zaG (n / 2) k) ++ _
  rw [zdH k (n / 2),Nat.div_div_eq_div_mul,XaE,Xa4 (2 ^ k) 2]
  rfl
theorem zbV:∀ a b,num (a ++ b)=num a+2 ^ a.length * num b
 | [],b=>by simp [num]
 | x :: a,b=>by
  simp only [List.cons_append,num,Xar,zbV a b,XaE]
  rw [Nat.mul_add,← Nat.mul_assoc,Xa4 2 (2 ^ a.length)]
  omega
theorem zgr:∀ l,Bit l→num l<2 ^ l.length
 | [],_=>by simp [num]
 | b :: r,h=>by
  have h1:=h b Xav
  have h2:=zgr r fun x hx=>h x (Xau _ hx)
  simp only [num,Xar,XaE]
  omega
theorem zcn:∀ m n,num (zaG n m)=n % 2 ^ m
 | 0,n=>by simp [zaG,num,Nat.mod_one]
 | m+1,n=>by
  simp only [zaG,num,zcn m,XaE]
  rw [Xa4 (2 ^ m) 2,Nat.mod_mul]
theorem zgK:∀ l,Bit l→zaG (num l) l.length=l
 | [],_=>rfl
 | b :: r,h=>by
  have h1:=h b Xav
  have h2:=zgK r fun x hx=>h x (Xau _ hx)
  simp only [Xar,zaG,num]
  rw [show (b+2 * num r) % 2=b by omega,show (b+2 * num r) / 2=num r by omega,h2]
def ones:Nat→Nat
 | 0=>0
 | n+1=>(n+1) % 2+ones ((n+1) / 2)
decreasing_by omega
theorem zcS (n:Nat):ones n=n % 2+ones (n / 2):=by
 cases n with
 | zero=>simp [ones]
 | succ n=>rw [ones]
def sgl:Nat→List Nat
 | 0=>[]
 | n+1=>if (n+1) % 2=1 then 1 :: (sgl ((n+1) / 2)).map (2 * ·) else (sgl ((n+1) / 2)).map (2 * ·)
decreasing_by all_goals omega
theorem zbX:sgl 0=[]:=by simp [sgl]
theorem zcE (n:Nat):sgl (2 * n+1)=1 :: (sgl n).map (2 * ·):=by
 rw [sgl,if_pos (by omega),show (2 * n+1) / 2=n by omega]
theorem zbH (n:Nat):sgl (2 * n)=(sgl n).map (2 * ·):=by
 cases n with
 | zero=>simp [sgl]
 | succ n =>
  rw [show 2 * (n+1)=(2 * n+1)+1 by omega,sgl,if_neg (by omega),show (2 * n+1+1) / 2=n+1 by omega]
theorem zaY:∀ n,(sgl n).length=ones n:=by
 intro n
 induction n using Nat.strongRecOn with
 | _ n ih =>
  rcases XaG n with h | h
  ·by_cases h0:n=0
   ·subst h0;simp [sgl,ones]
   ·have e:n=2 * (n / 2):=by omega
    rw [zcS,h]
    conv=>lhs;rw [e]
    rw [zbH,Xal,ih _ (by omega)];omega
  ·have e:n=2 * (n / 2)+1:=by omega
   rw [zcS,h]
   conv=>lhs;rw [e]
   rw [zcE,Xar,Xal,ih _ (by omega)];omega
theorem zgt (a b:Nat):(2 * a) &&& (2 * b)=2 * (a &&& b):=by
 apply Nat.eq_of_testBit_eq;intro i
 cases i with
 | zero=>simp [XaA]
 | succ i =>
  rw [XaA,Xa6,Xa6,Xa6,show (2 * a) / 2=a by omega,show (2 * b) / 2=b by omega,show (2 * (a &&& b)) / 2=(a &&& b) by omega,XaA]
theorem zlq (a b:Nat):(2 * a+1) &&& (2 * b+1)=2 * (a &&& b)+1:=by
 apply Nat.eq_of_testBit_eq;intro i
 cases i with
 | zero=>simp [XaA]
 | succ i =>
  rw [XaA,Xa6,Xa6,Xa6,show (2 * a+1) / 2=a by omega,show (2 * b+1) / 2=b by omega,show (2 * (a &&& b)+1) / 2=(a &&& b) by omega,XaA]
theorem zfN (a b:Nat):(2 * a+1) &&& (2 * b)=2 * (a &&& b):=by
 apply Nat.eq_of_testBit_eq;intro i
 cases i with
 | zero=>simp [XaA]
 | succ i =>
  rw [XaA,Xa6,Xa6,Xa6,show (2 * a+1) / 2=a by omega,show (2 * b) / 2=b by omega,show (2 * (a &&& b)) / 2=(a &&& b) by omega,XaA]
theorem zjX (a b:Nat):(2 * a) &&& (2 * b+1)=2 * (a &&& b):=by rw [Nat.and_comm,zfN,Nat.and_comm]
theorem zkR:∀ n,0<n→(n &&& (n - 1))<n∧sgl n=(n - (n &&& (n - 1))) :: sgl (n &&& (n - 1)):=by
 intro n
 induction n using Nat.strongRecOn with
 | _ n ih =>
  intro hn
  rcases XaG n with h | h
  ·have e:n=2 * (n / 2):=by omega
   obtain ⟨h1,h2⟩:=ih (n / 2) (by omega) (by omega)
   generalize n / 2=m at *
   subst e
   have e2:2 * m - 1=2 * (m - 1)+1:=by omega
   rw [e2,zjX]
   refine ⟨by omega,?_⟩
   rw [zbH,zbH,h2,XaJ]
   congr 1
   omega
  ·have e:n=2 * (n / 2)+1:=by omega
   generalize n / 2=m at *
   subst e
   have e2:2 * m+1 - 1=2 * m:=by omega
   rw [e2,zfN,Nat.and_self]
   exact ⟨by omega,by rw [zcE,zbH];congr 1;omega⟩
theorem zb5:∀ m n,n<2 ^ m→ones n≤m
 | 0,n,h=>by simp at h;subst h;simp [ones]
 | m+1,n,h=>by
  have:=zb5 m (n / 2) (by rw [XaE] at h;omega)
  rw [zcS];omega
theorem band (a b:Nat):Builtin.bitAnd (a:Int) (b:Int)=((a &&& b:Nat):Int):=by
 unfold Builtin.bitAnd
 simp
end Cb
end
section
namespace L2
open PySem PySem.Spec PyProof.Rows
def zcY (N:List Str)(names:List (Str×NameKind)):List (Option Nat)→List Str→Bool
 | [],[]=>true
 | none :: r,_ :: s=>zcY N names r s
 | some i :: r,x :: s=>(N[i]? == some x) && (names.lookup x == some .free) && zcY N names r s
 | _,_=>false
def ndOk:List (Str×NameKind)→Bool
 | []=>true
 | x :: r=>(r.all fun y=>x.1 != y.1) && ndOk r
def zgE (N:List Str)(osc:Scope)(Nc:List Str)(src:List (Option Nat))(scope:Scope):Bool:=
 scope.kind == .function && (scope.names.all fun x=>x.2 != .cell) && ndOk scope.names &&
 (scope.names.all fun x=>x.2 != .free || osc.names.lookup x.1 == some .cell || osc.names.lookup x.1 == some .free) && zcY N scope.names src Nc
theorem zec {N:List Str}{names:List (Str×NameKind)}:∀ {src:List (Option Nat)} {Nc:List Str},zcY N names src Nc=true→src.length=Nc.length
 | [],[],_=>rfl
 | none :: r,_ :: s,h=>by simp only [Xar];rw [zec (src:=r) (Nc:=s) h]
 | some i :: r,x :: s,h=>by
  simp only [zcY,Xa5] at h
  simp only [Xar];rw [zec h.2]
 | [],_ :: _,h=>by simp [zcY] at h
 | none :: _,[],h=>by simp [zcY] at h
 | some _ :: _,[],h=>by simp [zcY] at h
theorem zeb {N:List Str}{names:List (Str×NameKind)}:∀ {src:List (Option Nat)} {Nc:List Str},zcY N names src Nc=true→∀ (j i:Nat),src[j]? = some (some i)→∃ x,Nc[j]? = some x∧N[i]? = some x∧names.lookup x=some .free
 | [],[],_,j,i,e=>by simp at e
 | none :: r,y :: s,h,0,i,e=>by simp at e
 | none :: r,y :: s,h,j+1,i,e=>by
  have:=zeb (src:=r) (Nc:=s) h j i (by simpa using e)
  simpa using this
 | some k :: r,x :: s,h,0,i,e=>by
  simp only [zcY,Xa5,beq_iff_eq] at h
  simp only [List.getElem?_cons_zero,Option.some.injEq] at e
  subst e
  exact ⟨x,rfl,h.1.1,h.1.2⟩
 | some k :: r,x :: s,h,j+1,i,e=>by
  simp only [zcY,Xa5] at h
  have:=zeb (src:=r) (Nc:=s) h.2 j i (by simpa using e)
  simpa using this
 | [],_ :: _,h,_,_,_=>by simp [zcY] at h
 | none :: _,[],h,_,_,_=>by simp [zcY] at h
 | some _ :: _,[],h,_,_,_=>by simp [zcY] at h
theorem zjP:∀ {l:List (Str×NameKind)},ndOk l=true→l.Pairwise fun x y=>x.1≠y.1
 | [],_=>.nil
 | x :: r,h=>by
  simp only [ndOk,Xa5,XbA,bne_iff_ne] at h
  exact .cons h.1 (zjP h.2)
theorem zaK {N:List Str}{osc:Scope}{Nc:List Str}{src:List (Option Nat)}{scope:Scope}(h:zgE N osc Nc src scope=true):CompOk N osc Nc src scope:=by
 simp only [zgE,Xa5,beq_iff_eq,XbA,bne_iff_ne] at h
 obtain ⟨⟨⟨⟨h1,h2⟩,h3⟩,h4⟩,h5⟩:=h
 refine ⟨h1,h2,zjP h3,fun x hx hf=>?_,zec h5,zeb h5⟩
 have:=h4 x hx
 simp only [Bool.or_eq_true,bne_iff_ne,beq_iff_eq] at this
 rcases this with (z | z) | z
 ·exact absurd hf z
 ·exact .inl z
 ·exact .inr z
structure Cal (P:Program)(w:World)(K:W.Frag)(mg:Str→Option Value)(base:Heap)(k:Nat)(x:Str)(ps:List Str)(sp:Sp):Prop where
 ex:∃ f fd,FnOk P w K mg base CX0 k f fd ps sp∧mg x=some (.ref f)∧W.keepIn K (.ref f)=true∧Binds K fd ps []
section
variable {X:Cx}{k:Nat}{ps ks:List Str}{sp:Sp}{x:Str}{p pos:Pos}{e:Expr}{es:List Expr}{t tk:TA}{kws:List Keyword}{gV:List V→List V→List V}
theorem pe_cal (C:Cal X.prog X.w X.K X.mg X.base k x ps sp)(hr:Room k X.A)(hg:Gl X x)(ha:PA X (e :: es) t)(hdb:(x == ("__debug__" : Str))=false:=by decide)
  (he:starEach (e :: es) X.env=(false,eval e X.env) :: starEach es X.env:=by rfl) (hpl:(backTo pos (starEach es X.env)).any (·.1)=false:=by rfl):PE X (.Call (.Name x p) (e :: es) [] pos) (zje sp [] E0 t):=by
 obtain ⟨f,fd,F,hm,hk,hb⟩:=C.ex
 exact zjD F hr hg hm hk hb .nil ziA ha hdb he hpl
end
end L2
namespace Cb
open PySem L2
def zlN (p:Addr)(H H':Hp):Prop:=∀ b o,b≠p→H b=some o→H' b=some o
theorem zag {H:Hp}{p:Addr}{o:HO}(h:H p=none):Same H (upd H p o):=fun b u e=>by rw [zai (zak e h)];exact e
def vN (l:List Nat):List V:=l.map fun (b:Nat)=>V.int (b:Int)
theorem zal (l:List Nat):(vN l).length=l.length:=Xal ..
theorem zbn (l:List Nat)(b:Nat):vN (l ++ [b])=vN l ++ [V.int (b:Int)]:=by simp [vN]
theorem zcX {l:List Nat}{i:Nat}{x:V}(h:(vN l)[i]? = some x):∃ b,l[i]? = some b∧x=V.int (b:Int):=by
 unfold vN at h
 rw [Xaq] at h
 cases e:l[i]? with
 | none=>rw [e] at h;cases h
 | some b=>rw [e] at h;exact ⟨b,rfl,(Option.some.inj h).symm⟩
inductive spLaw (K:W.Frag)(vs:List V)(H:Hp)(Q:VK)(u3_:XK):Prop
 | mk (a:Addr) (ns:List Int) (z0_:vs=[.ref a]) (z1_:SqL K H a (ns.map V.int)) (z2_:ns.length≤63) (z3_:(∀ m∈ns,Builtin.Int.intBits m≤2 ^ 20)) (z4_:∀ H',Q (.bl true) H')
inductive spSingles (vs:List V)(H:Hp)(Q:VK)(u3_:XK):Prop
 | mk (n:Nat) (z0_:vs=[.int (n:Int)]) (z1_:n<2 ^ 64) (z2_:∀ (p:Addr) (H':Hp),H p=none→H' p=some (.lst (vN (sgl n)))→Same H H'→Q (.ref p) H')
inductive spOnes (vs:List V)(H:Hp)(Q:VK)(u3_:XK):Prop
 | mk (n:Nat) (z0_:vs=[.int (n:Int)]) (z1_:n<2 ^ 64) (z2_:∀ H',Same H H'→Q (.int (ones n:Int)) H')
end Cb
end
section
namespace L2
open PySem PySem.Spec PyProof.Rows
section
variable {X:Cx}{K:W.Frag}
theorem zhf (n:Nat)(hK:X.K=K){es:List Expr}{k:Nat}{t:TGs}{pos:Pos}(hc:X.calm=true)(h:PGs X es t)
  (hn:(assignEach es X.env).length=n:=by rfl) (hst:(assignEach es X.env).findIdx? (·.1)=none:=by rfl):PG X (.Tuple es k pos) (gTup K n t):=by
 subst hK;exact zba hc h hn hst
theorem zga (hK:X.K=K){a:Expr}{ta:TE}(ha:PE X a ta)(he:∀ whole,isTrue a X.env whole=(do let v ← whole;standAt a.pos;holding [v] (truthy v))) :
  PT X a (fun σ H Q=>ta σ H fun x H'=>∃ k,TruV K x H' k∧Q k H'):=by
 subst hK;exact zfD ha he
theorem zfO (hK:X.K=K):IxR X (rIxL K):=by subst hK;exact zam
theorem zhF (hK:X.K=K):IxR X (rIxT K):=by subst hK;exact zaw
end
section
variable {prog:Program}{w:World}{A:Around}{E:Value→Shared→Prop}{s:Shared}
end
end L2
end
section
namespace L2
open PySem PySem.Spec PyProof.Rows Builtin
structure FunD (K:W.Frag)(x qual:Str)(st:Stmt)(dV:Value)(f:Addr)(fd:FuncData):Prop where
 ex:∃ (oc:Value) (od:Option Addr) (kV doc pm:Value) (an:Option Addr) (cdv ct:Value) (osl:Array (Option Value)),
  fd=W.fnOf x qual (zbF st) (zbc st) (zah st) dV kV doc pm an cdv ct∧K.lookup f=some ⟨oc,od,.func fd,osl⟩∧W.codeIn K cdv qual=true
 kp:W.keepIn K (.ref f)=true
section
variable {P:Program}{w:World}{K:W.Frag}{mg:Str→Option Value}{base:Heap}
theorem FunD.ok {x qual:Str}{st:Stmt}{dV:Value}{f:Addr}{fd:FuncData}{N ps:List Str}{k:Nat}{sp:Sp}(F:FunD K x qual st dV f fd)(S:FnScope N ps (zah st))(len:∀ vs H Q E,sp vs H Q E→vs.length=ps.length)
  (hbody:∀ (cdv:Value) (A:Around) (outer:List Env) (s:Shared) (H:Hp) (vs:List V) (Q:VK) (E:XK),Room k (A.deeper (envOfC qual (zah st) s.heap.objs.size f cdv))→sp vs H Q E →
   ∃ t,PSs (cxOf CX0 P w K mg base N qual (zah st) f cdv A outer s H E).nox (zbc st) t∧t { nx:=fun _ H'=>Q .non H',rt:=Q } (start N vs) H):FnOk P w K mg base CX0 (k+1) f fd ps sp:=by
 obtain ⟨oc,od,kV,doc,pm,an,cdv,ct,osl,rfl,lk,hcd⟩:=F.ex
 refine zm0 lk hcd S len fun A outer s H vs Q E hr hsp=>?_
 obtain ⟨t,h,q⟩:=hbody cdv A outer s H vs Q E hr hsp
 exact ⟨t,h.nox,q⟩
theorem zmZ {x qual:Str}{st:Stmt}{dV:Value}{f:Addr}{oc:Value}{od an:Option Addr}{osl:Array (Option Value)}{kV doc pm cdv ct:Value}(l:K.lookup f=some ⟨oc,od,.func (W.fnOf x qual (zbF st) (zbc st) (zah st) dV kV doc pm an cdv ct),osl⟩)
  (c:W.codeIn K cdv qual=true) (k:W.keepIn K (.ref f)=true):FunD K x qual st dV f (W.fnOf x qual (zbF st) (zbc st) (zah st) dV kV doc pm an cdv ct):=⟨⟨oc,od,kV,doc,pm,an,cdv,ct,osl,rfl,l,c⟩,k⟩
theorem FunD.kbinds {x qual:Str}{st:Stmt}{T:Addr}{o:Obj}{items:Array Value}{n:Nat}{f:Addr}{fd:FuncData}{ps ks:List Str}{g:List Value→List Value→List Value}{gV:List V→List V→List V}(F:FunD K x qual st (.ref T) f fd)
  (ho:K.lookup T=some o) (hs:o.data = .seq items n)
  (h:∀ (kV doc pm:Value) (an:Option Addr) (cdv ct:Value) (us ws:List Value),(g us ws).length=ps.length→∃ q,bindArgs (W.fnOf x qual (zbF st) (zbc st) (zah st) (.ref T) kV doc pm an cdv ct) ⟨us,ks.zip ws⟩=seqItems? (.ref T) >>= q∧q (some items)=pure (ps.zip (g us ws)))
  (rel:∀ {vs:List V} {us:List Value} {zs:List V} {ws:List Value},Vals vs us→Vals zs ws→Vals (gV vs zs) (g us ws)):KBinds K fd ps ks g gV:=by
 obtain ⟨oc,od,kV,doc,pm,an,cdv,ct,osl,rfl,lk,hcd⟩:=F.ex
 refine ⟨fun s us ws X hl=>?_,rel⟩
 obtain ⟨q,h1,h2⟩:=h kV doc pm an cdv ct us ws hl
 exact W.binds_K X rfl ho hs h1 h2
theorem KBinds.pos {fd:FuncData}{ps:List Str}(b:Binds K fd ps []):KBinds K fd ps [] (fun us _=>us) (fun vs _=>vs):=
 ⟨fun s us ws X hl=>by have:=b s us X (by rw [Xa1];exact hl);rw [Xa1] at this;exact this,fun r _=>r⟩
end
def swS {α:Type}(us zs:List α):List α:=match zs with
 | [a,b]=>us ++ [b,a]
 | _=>[]
structure Mth (P:Program)(w:World)(K:W.Frag)(mg:Str→Option Value)(base:Heap)(k:Nat)(C:Addr)(m:Str)(ks:List Str)(gV:List V→List V→List V)(sp:Sp):Prop where
 cls:Cls K C
 ex:∃ f fd ps g,Meth K C m f∧FnOk P w K mg base CX0 k f fd ps sp∧KBinds K fd ps ks g gV
theorem Mth.mono {P:Program}{w:World}{K:W.Frag}{mg:Str→Option Value}{base:Heap}{j k:Nat}{C:Addr}{m:Str}{ks:List Str}{gV:List V→List V→List V}{sp:Sp}(M:Mth P w K mg base j C m ks gV sp)(h:j≤k):Mth P w K mg base k C m ks gV sp:=by
 obtain ⟨c,f,fd,ps,g,a,F,b⟩:=M
 exact ⟨c,f,fd,ps,g,a,F.mono h,b⟩
inductive tMth_1 (P:Program)(w:World)(K:W.Frag)(mg:Str→Option Value)(base:Heap)(k:Nat)(m:Str)(ks:List Str)(t:TA)(tk:TA)(σ:St)(Q:VK)(x:V)(H1:Hp):Prop
 | mk (a:_) (C:_) (dx:_) (fs:_) (gV:_) (sp:_) (z0_:x = .ref a) (z1_:H1 a=some (.ins C dx fs)) (z2_:Mth P w K mg base k C m ks gV sp) (z3_:fs.lookup m=none) (z4_:t σ H1 fun vs H2=>tk σ H2 fun zs H3=>sp (gV (x :: vs) zs) H3 Q E0)
def tMth (P:Program)(w:World)(K:W.Frag)(mg:Str→Option Value)(base:Heap)(k:Nat)(m:Str)(ks:List Str)(ta:TE)(t tk:TA):TE:=fun σ H Q=>ta σ H (tMth_1 P w K mg base k m ks t tk σ Q)
section
variable {X:Cx}{k:Nat}{C:Addr}{ks:List Str}{x m:Str}{p pos apos:Pos}{e o:Expr}{es:List Expr}{kws:List Keyword}{ta:TE}{t tk:TA}
theorem za8 {P:Program}{w:World}{K:W.Frag}{mg:Str→Option Value}{base:Heap}(k:Nat)(hX:X.prog=P∧X.w=w∧X.K=K∧X.mg=mg∧X.base=base)(hr:Room k X.A){pl:Sem Bool}(he:PE X o ta)(ha:PA X (e :: es) t)
  (hst:starEach (e :: es) X.env=(false,eval e X.env) :: starEach es X.env:=by rfl) (hpl:(backTo pos (starEach es X.env)).any (·.1)=false:=by rfl)
  (ht:eval (.Call (.Attribute o m apos) (e :: es) [] pos) X.env=(do
   let ov ← eval o X.env
   standAt apos.atName
   let (f,first) ← holding [ov] (getMethod ov m pl)
   callWith pos f first (backTo pos (starEach (e :: es) X.env)) (backToKw pos (keywordEach [] X.env))):=by rfl) :
  PE X (.Call (.Attribute o m apos) (e :: es) [] pos) (tMth P w K mg base k m [] ta t tNil):=by
 obtain ⟨rfl,rfl,rfl,rfl,rfl⟩:=hX
 intro pins s σ H Q I h
 refine W.methodCall_KW (pl:=pl) (thn (he pins s σ H _ I h) fun u s1 hh_=>?_) ht
 obtain ⟨x,H1,I1,rx,a,C,dx,fs,gV,sp,ex,ea,M,l,q⟩:=hh_
 obtain ⟨c,f,fd,ps,g,hm,F,hb⟩:=M
 subst ex
 obtain rfl:u=Value.ref a:=rx
 refine zfh I1 ea c hm l ?_
 refine W.callWith_K (first:=[.ref a]) (h₀:=X.base) I.ok.mod.kin hm.kp (thn (ha pos pins s1 σ H1 _ I1 q) fun us s2 ⟨vs,H2,I2,r,q2⟩=>⟨I2.kIn,?_⟩) hst hpl
 exact zjp (us:=.ref a :: us) (vs:=.ref a :: vs) (ws:=[]) (zs:=[]) F hr hb ziA I2 (.cons rfl r) .nil q2
end
def tLenO (P:Program)(w:World)(K:W.Frag)(mg:Str→Option Value)(base:Heap)(k:Nat)(ta:TE):TE:=fun σ H Q=>ta σ H fun x H1=>∃ a C dx fs gV sp,x = .ref a∧H1 a=some (.ins C dx fs)∧Mth P w K mg base k C "__len__" [] gV sp ∧
 sp (gV [x] []) H1 (fun v H2=>∃ n:Int,v = .int n∧0≤n∧n<2 ^ 63∧Q (.int n) H2) E0
section
variable {X:Cx}{e:Expr}{p pos:Pos}{ta:TE}
def lenQ (X:Cx)(k:Nat)(Q:VK)(vs:List V)(H1:Hp):Prop:=match vs with
 | [x]=>∃ a C dx fs gV sp,x = .ref a∧H1 a=some (.ins C dx fs)∧Mth X.prog X.w X.K X.mg X.base k C "__len__" [] gV sp∧sp (gV [x] []) H1 (fun v H2=>∃ n:Int,v = .int n∧0≤n∧n<2 ^ 63∧Q (.int n) H2) E0
 | _=>False
def LenIs (Q:Value→Shared→Prop):Value→Shared→Prop
 | .int n _,s'=>0≤n∧n<2 ^ 63∧Q (.int n s'.toks) { s' with toks:=s'.toks+1 }
 | _,_=>False
theorem lenOwn {prog:Program}{w:World}{A:Around}{E:Value→Shared→Prop}{s:Shared}{K:W.Frag}{a C f:Addr}{ob:Obj}{od:Option Obj}{Q:Value→Shared→Prop}(X:K.In s.heap)(I:W.InstAt s.heap a ob C od)
  (hs:W.findIn K (.ref C) "__len__" = some (some (.ref f))) (ht:W.typeIn K (.ref f)=some (.type "function"))
  (h:wpAny (model prog w) A.in1 (call (.ref f) [.ref a]) (LenIs Q) E s):wpAny (model prog w) A (call (.builtin "len") [.ref a]) Q E s:=by
 refine Calls.call_function_entry kind_len plain_len entry_len (args_len1 _) ?_
 delta Builtin.«len»
 refine Xaa (m:=oneArg "len" _) (Xac (Xaa (m:=callSpecial? (.ref a) (Str.ofString "__len__")) (W.special_fn X I hs ht (Xax h (fun r s' hr=>?_) (fun _ _ z=>z)))))
 cases r with
 | int n t =>
  obtain ⟨h0,h1,hq⟩:=hr
  refine Xaa (Xba (Xac (Xaa (wpAny_letGo ?_))))
  have e1:¬ n<0:=by omega
  have e2:¬ n ≥ 2 ^ 63:=by omega
  dsimp only
  rw [if_neg e1,if_neg e2]
  exact Xaa (wpAny_mkInt (Xac ⟨_,rfl,hq⟩))
 | _=>exact hr.elim
theorem mtyp {K:W.Frag}{C f:Addr}{m:Str}(h:Meth K C m f):W.typeIn K (.ref f)=some (.type "function"):=beq_iff_eq.mp h.fn
theorem zjC {P:Program}{w:World}{K:PySem.W.Frag}{mg:Str→Option Value}{base:Heap}(k:Nat)(hX:X.prog=P∧X.w=w∧X.K=K∧X.mg=mg∧X.base=base)(hr:Room (k+1) X.A)(hg:Gl X "len")(hm:X.mg "len" = none)(he:PE X e ta)
  (hst:starEach [e] X.env=(false,eval e X.env) :: starEach [] X.env:=by rfl):PE X (.Call (.Name "len" p) [e] [] pos) (tLenO P w K mg base k ta):=by
 obtain ⟨rfl,rfl,rfl,rfl,rfl⟩:=hX
 intro pins s σ H Q I h
 refine XbW (zc6 I hg hm PySem.boot_len ?_ (by decide) (by decide))
 refine PyProof.Rows.callWith_builtin1 (thn (zaa (t:=tNil) he zac hst pos pins s σ H (lenQ X k Q) I h) fun us s1 hh_=>?_) hst rfl
 obtain ⟨vs,H1,I1,r1,q1⟩:=hh_
 cases r1 with
 | nil=>exact q1.elim
 | cons ra rr=>cases rr with
  | cons _ _=>exact q1.elim
  | nil =>
   obtain ⟨a,C,dx,fs,gV,sp,ex,ea,M,q⟩:=q1
   obtain ⟨c,f,fd,ps,g,hm,F,hb⟩:=M
   subst ex
   cases ra
   obtain ⟨mA,O,_⟩:=zeT I1.hok ea
   obtain ⟨od,J,_⟩:=O.look
   refine lenOwn I1.kIn J hm.at_ (mtyp hm) ?_
   have rv:Vals (gV [V.ref a] []) (g [Value.ref a] []):=hb.rel (vs:=[V.ref a]) (us:=[Value.ref a]) (zs:=[]) (ws:=[]) (.cons rfl .nil) .nil
   have hl:(g [Value.ref a] []).length=ps.length:=by rw [← rv.length];exact F.len _ _ _ _ q
   have W:wpAny (model X.prog X.w) X.A.in1 (call (.ref f) [.ref a]) (EP X pins σ (fun v H2=>∃ n:Int,v = .int n∧0≤n∧n<2 ^ 63∧Q (.int n) H2)) X.xe s1:=by
    refine wpAny_call (codeAny_mono (F.run X.A.in1 X.stack s1 H1 ⟨[.ref a],[]⟩ (g [.ref a] []) (gV [.ref a] []) _ E0 hr.in1 I1.env0.in1 (hb.to s1 [.ref a] [] I1.kIn hl) rv q) fun r s' hq=>?_)
    cases r with
    | error e=>exact ziA pins σ H1 s1 e s' I1 hq
    | ok fl =>
     cases fl with
     | ret u=>exact I1.after hq
     | next=>exact False.elim hq
     | brk=>exact False.elim hq
     | cont=>exact False.elim hq
   refine Xax W (fun u s' hu=>?_) fun _ _ z=>z
   ·obtain ⟨v,H2,I2,rv,n,rfl,h0,h1,qn⟩:=hu
    obtain ⟨t,rfl⟩:=(show ∃ t,u=Value.int n t from rv)
    exact ⟨h0,h1,⟨.int n,H2,I2.tok _,⟨_,rfl⟩,qn⟩⟩
end
structure Mak (P:Program)(w:World)(K:W.Frag)(mg:Str→Option Value)(base:Heap)(k:Nat)(x:Str)(C:Addr)(ks:List Str)(gV:List V→List V→List V)(sp:Sp):Prop where
 at_:mg x=some (.ref C)
 ex:∃ f fd ps g,Mk K C f∧FnOk P w K mg base CX0 k f fd ps sp∧KBinds K fd ps ks g gV
def tMak (C:Addr)(gV:List V→List V→List V)(sp:Sp)(t tk:TA):TE:=fun σ H Q=>t σ H fun vs H1=>tk σ H1 fun zs H2=>∀ x dx,H2 x=none→H2 dx=none→dx≠x →
 sp (gV (.ref x :: vs) zs) (upd (upd H2 dx (.own x)) x (.ins C dx [])) (fun v H3=>v = .non∧Q (.ref x) H3) E0
section
variable {X:Cx}{k:Nat}{C:Addr}{ks:List Str}{gV:List V→List V→List V}{sp:Sp}{x:Str}{p pos:Pos}{e:Expr}{es:List Expr}{kws:List Keyword}{t tk:TA}
theorem zkX {pins:List (Addr×Obj)}{σ:St}{H:Hp}{s:Shared}{Q:VK}{us ws:List Value}{vs zs:List V}(M:Mak X.prog X.w X.K X.mg X.base k x C ks gV sp)(hr:Room (k+1) X.A)(I:Inv X pins σ H s)(r:Vals vs us)(rz:Vals zs ws)
  (h:∀ y dy,H y=none→H dy=none→dy≠y→sp (gV (.ref y :: vs) zs) (upd (upd H dy (.own y)) y (.ins C dy [])) (fun v H2=>v = .non∧Q (.ref y) H2) E0) :
  wpAny (model X.prog X.w) X.A (call (.ref C) us (ks.zip ws)) (EP X pins σ Q) X.xe s:=by
 obtain ⟨hm,f,fd,ps,g,M,F,hb⟩:=M
 have hq:=h (s.heap.objs.size+1) s.heap.objs.size (I.hok.fresh (XbN _)) (I.hok.fresh (Xae _)) (Xaz (Xbf _))
 have I2:=Inv.made (C:=C) I
 have r2:Vals (gV (V.ref (s.heap.objs.size+1) :: vs) zs) (g (Value.ref (s.heap.objs.size+1) :: us) ws):=hb.rel (.cons rfl r) rz
 have hl:(g (Value.ref (s.heap.objs.size+1) :: us) ws).length=ps.length:=by rw [← r2.length];exact F.len _ _ _ _ hq
 refine wpAny_call (zlj (f:=f) I.kIn M.makes M.init (beq_iff_eq.mp M.fn) (codeAny_mono (F.run _ X.stack _ _ ⟨Value.ref (s.heap.objs.size+1) :: us,ks.zip ws⟩ _ _ _ E0 (hr.make C us (ks.zip ws))
  (I2.env0.make C us (ks.zip ws)) (hb.to _ (Value.ref (s.heap.objs.size+1) :: us) ws I2.kIn hl) r2 hq) fun r s' hq'=>?_))
 cases r with
 | error e=>exact ziA pins σ _ _ e s' I2 hq'
 | ok fl =>
  cases fl with
  | ret u =>
   obtain ⟨v,H',I3,rv,ev,q3⟩:=I2.after hq'
   subst ev
   exact ⟨rv,⟨V.ref (s.heap.objs.size+1),H',I3,rfl,q3⟩⟩
  | next=>exact False.elim hq'
  | brk=>exact False.elim hq'
  | cont=>exact False.elim hq'
theorem Mak.kp {P:Program}{w:World}{K:W.Frag}{mg:Str→Option Value}{base:Heap}(M:Mak P w K mg base k x C ks gV sp):W.keepIn K (.ref C)=true:=by
 obtain ⟨_,_,_,_,_,M,_⟩:=M
 exact M.kp
theorem zfc (M:Mak X.prog X.w X.K X.mg X.base k x C [] gV sp)(hr:Room (k+1) X.A)(hg:Gl X x)(ha:PA X (e :: es) t)(hdb:(x == ("__debug__" : Str))=false:=by decide)
  (he:starEach (e :: es) X.env=(false,eval e X.env) :: starEach es X.env:=by rfl) (hpl:(backTo pos (starEach es X.env)).any (·.1)=false:=by rfl):PE X (.Call (.Name x p) (e :: es) [] pos) (tMak C gV sp t tNil):=by
 intro pins s σ H Q I h
 refine XbW (zeP I hg M.at_ ?_ hdb)
 refine W.callWith_K (h₀:=X.base) I.ok.mod.kin M.kp (thn (ha pos pins s σ H _ I h) fun us s1 ⟨vs,H1,I1,r,q⟩=>⟨I1.kIn,?_⟩) he hpl
 exact zkX (ws:=[]) (zs:=[]) M hr I1 r .nil q
end
structure Clm (P:Program)(w:World)(K:W.Frag)(mg:Str→Option Value)(base:Heap)(k:Nat)(x m:Str)(sp:Sp):Prop where
 ex:∃ C f fd ps mc,mg x=some (.ref C)∧W.specialIn K (.ref C) "__getattribute__" = some (some (.builtin "type.__getattribute__"))∧W.readsIn K C mc=true∧W.findCls K (.ref C) mc m=some (.val (.ref f)) ∧
  W.keepIn K (.ref f)=true∧FnOk P w K mg base CX0 k f fd ps sp∧Binds K fd ps []
section
variable {X:Cx}{k:Nat}{sp:Sp}{x m:Str}{p pos apos:Pos}{e:Expr}{es:List Expr}{t:TA}
theorem zgd (M:Clm X.prog X.w X.K X.mg X.base k x m sp)(hr:Room k X.A)(hg:Gl X x){pl:Sem Bool}(ha:PA X (e :: es) t)(hdb:(x == ("__debug__" : Str))=false:=by decide)
  (hst:starEach (e :: es) X.env=(false,eval e X.env) :: starEach es X.env:=by rfl) (hpl:(backTo pos (starEach es X.env)).any (·.1)=false:=by rfl)
  (ht:eval (.Call (.Attribute (.Name x p) m apos) (e :: es) [] pos) X.env=(do
   let ov ← eval (.Name x p) X.env
   standAt apos.atName
   let (f,first) ← holding [ov] (getMethod ov m pl)
   callWith pos f first (backTo pos (starEach (e :: es) X.env)) (backToKw pos (keywordEach [] X.env))):=by rfl) :
  PE X (.Call (.Attribute (.Name x p) m apos) (e :: es) [] pos) (zje sp [] E0 t):=by
 obtain ⟨C,f,fd,ps,mc,hm,hs,hrd,hf,hk,F,hb⟩:=M
 intro pins s σ H Q I h
 refine W.methodCall_KW (pl:=pl) ?_ ht
 refine zeP I hg hm ?_ hdb
 refine W.method_cls I.kIn hs (W.cls_value I.kIn hrd hf rfl ?_)
 have I0:=I.tok (s.toks+1)
 refine W.callWith_K (first:=[]) (h₀:=X.base) I.ok.mod.kin hk (thn (ha pos pins _ σ H _ I0 h) fun us s2 ⟨vs,H2,I2,r,q2⟩=>⟨I2.kIn,?_⟩) hst hpl
 exact zlV F hr hb .nil ziA I2 r q2
end
def itC (t:Bool):String:=if t then "tuple_iterator" else "list_iterator"
def sqC (t:Bool):String:=if t then "tuple" else "list"
def IsIt (t:Bool)(h:Heap)(a l:Addr)(i:Nat):Prop:=∃ o,h.get? a=some o∧o.cls = .type (itC t)∧o.data = .fields #[.ref l,.int i 0]
def IsSq (t:Bool)(h:Heap)(a:Addr)(xs:Array Value):Prop:=∃ o,h.get? a=some o∧o.cls = .type (sqC t)∧∃ n,o.data = .seq xs n
theorem IsIt.at {t:Bool}{h h':Heap}{a l:Addr}{i:Nat}(x:IsIt t h a l i)(e:∀ o,h.get? a=some o→h'.get? a=some o):IsIt t h' a l i:=let ⟨o,ho,r⟩:=x;⟨o,e _ ho,r⟩
theorem IsSq.at {t:Bool}{h h':Heap}{a:Addr}{xs:Array Value}(x:IsSq t h a xs)(e:∀ o,h.get? a=some o→h'.get? a=some o):IsSq t h' a xs:=let ⟨o,ho,r⟩:=x;⟨o,e _ ho,r⟩
section
variable {prog:Program}{w:World}{A:Around}{E:Value→Shared→Prop}{s:Shared}
theorem zhy {t:Bool}{it l:Addr}{i:Nat}{xs:Array Value}{x:Value}{Q:Value→Shared→Prop}(hi:IsIt t s.heap it l i)(hl:IsSq t s.heap l xs)(hx:xs[i]? = some x)
  (q:∀ h',IsIt t h' it l (i+1)→Heap.SameBut it s.heap h'→Q x { s with heap:=h' }):wpAny (model prog w) A (Builtin.SmallTypes.nextOf (.ref it)) Q E s:=by
 cases t with
 | false=>exact wpAny_nextOf_list_item hi hl hx q
 | true =>
  have ht:s.TypeIs (.ref it) "tuple_iterator" := let ⟨o,ho,hc,_⟩:=hi;⟨o,ho,hc⟩
  obtain ⟨o,ho,hc,hd⟩:=id hi;obtain ⟨ol,hol,_,nl,hdl⟩:=hl
  delta Builtin.SmallTypes.nextOf
  refine Xaa (wpAny_callSpecial?_slot (name:=Str.ofString "__next__") ht F.slot_tuple_iterator_next (XaW F.slot_tuple_iterator_next ht F.entry_tuple_iterator_next ?_ (F.args_tuple_iterator_next_1 _)))
  show wpAny _ _ (field (.ref it) 0 >>= _) _ _ s;refine Xaa (XaS ho hd (x:=.ref l) rfl ?_)
  show wpAny _ _ (if (Value.ref l == Value.none)=true then _ else _) _ _ s;rw [if_neg (show ¬ ((Value.ref l == Value.none)=true) from Xap)]
  show wpAny _ _ (field (.ref it) 1 >>= _) _ _ s;refine Xaa (XaS ho hd (x:=.int i 0) rfl ?_)
  show wpAny _ _ (seqItems? (.ref l) >>= _) _ _ s;refine Xaa (Xbl hol hdl ?_);simp only [Xag,hx]
  refine Xaa (Xa3 ho hd (by simp) (Xac ⟨x,rfl,Xac (q _ ⟨_,XaT _ ho (Obj.isFreed_of_fields (Obj.data_mapFields hd _)),(Obj.cls_mapFields ..).trans hc,by rw [Obj.data_mapFields hd];simp [rawInt]⟩ (Heap.SameBut.update ..))⟩))
theorem zl1 {t:Bool}{it l:Addr}{i:Nat}{xs:Array Value}{Q:Value→Shared→Prop}(hh:A.handled=none)(hi:IsIt t s.heap it l i)(hl:IsSq t s.heap l xs)(hx:xs[i]? = none)
  (q:∀ h' e,Heap.ExtBut it s.heap h'→(∃ o,h'.get? e=some o∧o.cls = .type "StopIteration")→E (.ref e) { s with heap:=h' }):wpAny (model prog w) A (Builtin.SmallTypes.nextOf (.ref it)) Q E s:=by
 cases t with
 | false=>exact wpAny_nextOf_list_end hh hi hl hx q
 | true =>
  have ht:s.TypeIs (.ref it) "tuple_iterator" := let ⟨o,ho,hc,_⟩:=hi;⟨o,ho,hc⟩
  obtain ⟨o,ho,hc,hd⟩:=id hi;obtain ⟨ol,hol,_,nl,hdl⟩:=hl
  delta Builtin.SmallTypes.nextOf
  refine Xaa (wpAny_callSpecial?_slot (name:=Str.ofString "__next__") ht F.slot_tuple_iterator_next (XaW F.slot_tuple_iterator_next ht F.entry_tuple_iterator_next ?_ (F.args_tuple_iterator_next_1 _)))
  show wpAny _ _ (field (.ref it) 0 >>= _) _ _ s;refine Xaa (XaS ho hd (x:=.ref l) rfl ?_)
  show wpAny _ _ (if (Value.ref l == Value.none)=true then _ else _) _ _ s;rw [if_neg (show ¬ ((Value.ref l == Value.none)=true) from Xap)]
  show wpAny _ _ (field (.ref it) 1 >>= _) _ _ s;refine Xaa (XaS ho hd (x:=.int i 0) rfl ?_)
  show wpAny _ _ (seqItems? (.ref l) >>= _) _ _ s;refine Xaa (Xbl hol hdl ?_);simp only [Xag,hx]
  refine Xaa (Xbw (Xaa (Xa3 ho hd (by simp) ?_)));show wpAny _ _ (newExc (.type "StopIteration") [] >>= _) _ _ _
  refine Xaa ?_;simp only [newExc,newTuple];refine Xaa (XaR ?_ (by size_fits))
  refine Xaa (m:=firstArgMember _ _) (wpAny_of_eq (a:=Value.none) (by first | rfl | (simp only [firstArgMember];rfl)) ?_);refine XaR ?_ (by size_fits)
  simp only [raiseNew];refine Xaa (wpAny_handled ?_);rw [show A.in1.handled=none from hh];refine Xaa (Xac (wpAny_throw ?_))
  exact q _ _ (((Heap.SameBut.update ..).extBut.push _).push _) ⟨_,Xaj _ rfl,rfl⟩
theorem zl4 {t:Bool}{l:Addr}{xs:Array Value}{Q:Value→Shared→Prop}(hl:IsSq t s.heap l xs)(q:Q (.ref s.heap.objs.size) { s with heap:=s.heap.push { cls:=.type (itC t),data:=.fields #[.ref l,.int 0 0] } }):wpAny (model prog w) A (pyIter (.ref l)) Q E s:=by
 cases t with
 | false=>exact wpAny_pyIter_list hl q
 | true=>exact XbT hl q
structure Far2 (z TO i1 i2:Addr):Prop where
 oz:TO≠z
 az:i1≠z
 bz:i2≠z
 oa:TO≠i1
 ob:TO≠i2
 ab:i1≠i2
structure FarM (z TO i1 i2 l:Addr):Prop where
 z:l≠z
 o:l≠TO
 a:l≠i1
 b:l≠i2
theorem zhT {T:Addr}{a b x:Value}{k:Nat}{Q:Unit→Shared→Prop}(hT:IsPair s.heap T a b)
  (q:∀ h',h'.get? T=some { cls:=.type "tuple",data:=.seq ((#[a,b]:Array Value).setIfInBounds k x) }→Heap.SameBut T s.heap h'→Q () { s with heap:=h' }):wpAny (model prog w) A (updateSeq T (·.setIfInBounds k x)) Q E s:=
 wpAny_updateSeq hT rfl (q _ ((XaT _ hT rfl).trans (by simp [Obj.mapSeq])) (Heap.SameBut.update ..))
theorem zi8 {t:Bool}{z TI TO i1 i2 l1 l2:Addr}{k:Nat}{xs ys:Array Value}{x y a b:Value}{Q:Value→Shared→Prop}(D:Far2 z TO i1 i2)(L1:FarM z TO i1 i2 l1)(L2':FarM z TO i1 i2 l2)
  (hz:IsZip s.heap z TI TO .none) (hI:IsPair s.heap TI (.ref i1) (.ref i2)) (hO:IsPair s.heap TO a b)
  (h1:IsIt t s.heap i1 l1 k) (h2:IsIt t s.heap i2 l2 k) (g1:IsSq t s.heap l1 xs) (g2:IsSq t s.heap l2 ys) (ex:xs[k]? = some x) (ey:ys[k]? = some y)
  (q:∀ h',IsZip h' z TI TO (rawInt s.heap.objs.size)→IsPair h' TO x y→IsIt t h' i1 l1 (k+1)→IsIt t h' i2 l2 (k+1)→IsPair h' s.heap.objs.size x y→h'.objs.size=s.heap.objs.size+1 →
   (∀ d o,d≠z→d≠TO→d≠i1→d≠i2→s.heap.get? d=some o→h'.get? d=some o)→Q (.ref s.heap.objs.size) { s with heap:=h' }) :
  wpAny (model prog w) A (Builtin.«zip.__next__» ⟨[.ref z],[]⟩) (fun fin s'=>∃ v,fin = .done (.ret v)∧Q v s') E s:=by
 show wpAny _ _ (field (.ref z) 2 >>= _) _ _ _
 refine Xaa (XaS hz rfl (x:=.bool false) rfl ?_);show wpAny _ _ (field (.ref z) 3 >>= _) _ _ _
 refine Xaa (XaS hz rfl (x:=.ref TI) rfl (Xaa (Xbl hI rfl ?_)));show wpAny _ _ (Builtin.SmallTypes.ownedTupleIsFree (.ref z) >>= _) _ _ _
 refine Xaa ?_;unfold Builtin.SmallTypes.ownedTupleIsFree
 refine Xaa (XaS hz rfl (x:=.none) rfl (Xac ?_));simp only [if_true]
 refine Xaa (Xbw (Xaa (XaS hz rfl (x:=.ref TO) rfl ?_)))
 refine Xaa (XbZ hz (by simp) fun e1 z1 b1=>?_)
 replace z1:IsZip e1 z TI TO .ellipsis:=z1
 refine Xaa ?_;simp only [List.zipIdx_cons,List.zipIdx_nil,List.forIn_cons,List.forIn_nil]
 refine Xaa (Xaa (wpAny_onRaise ?_));show wpAny _ _ (Builtin.SmallTypes.nextOf (.ref i1) >>= _) _ _ _
 refine Xaa (zhy (h1.at fun o e=>b1.extBut _ _ D.az e) (g1.at fun o e=>b1.extBut _ _ L1.z e) ex fun e2 n1 b2=>Xac ?_)
 have O2:IsPair e2 TO a b:=b2.extBut _ _ D.oa (b1.extBut _ _ D.oz hO)
 refine Xaa (Xbl O2 rfl (Xaa (zhT O2 fun e3 O3 b3=>Xaa (wpAny_letGo (Xac ?_)))))
 replace O3:IsPair e3 TO x b:=O3
 have up3:∀ d o,d≠z→d≠TO→d≠i1→s.heap.get? d=some o→e3.get? d=some o:=fun d o q1 q2 q3 e=>b3.extBut _ _ q2 (b2.extBut _ _ q3 (b1.extBut _ _ q1 e))
 refine Xaa (Xaa (wpAny_onRaise ?_));show wpAny _ _ (Builtin.SmallTypes.nextOf (.ref i2) >>= _) _ _ _
 refine Xaa (zhy (h2.at fun o e=>up3 _ o D.bz D.ob.symm D.ab.symm e) (g2.at fun o e=>up3 _ o L2'.z L2'.o L2'.a e) ey fun e4 n2 b4=>Xac ?_)
 have O4:IsPair e4 TO x b:=b4.extBut _ _ D.ob O3
 refine Xaa (Xbl O4 rfl (Xaa (zhT O4 fun e5 O5 b5=>Xaa (wpAny_letGo (Xac (Xac ?_))))))
 replace O5:IsPair e5 TO x y:=O5
 have up5:∀ d o,d≠z→d≠TO→d≠i1→d≠i2→s.heap.get? d=some o→e5.get? d=some o:=fun d o q1 q2 q3 q4 e=>b5.extBut _ _ q2 (b4.extBut _ _ q4 (up3 d o q1 q2 q3 e))
 have sz:e5.objs.size=s.heap.objs.size:=by rw [b5.1,b4.1,b3.1,b2.1,b1.1]
 have z7:IsZip e5 z TI TO .ellipsis:=b5.extBut _ _ D.oz.symm (b4.extBut _ _ D.bz.symm (b3.extBut _ _ D.oz.symm (b2.extBut _ _ D.az.symm z1)))
 have m1:IsIt t e5 i1 l1 (k+1):=n1.at fun o e=>b5.extBut _ _ D.oa.symm (b4.extBut _ _ D.ab (b3.extBut _ _ D.oa.symm e))
 have m2:IsIt t e5 i2 l2 (k+1):=n2.at fun o e=>b5.extBut _ _ D.ob.symm e
 have zl:z<e5.objs.size:=Xao z7
 refine Xaa (Xbl O5 rfl (Xaa (wpAny_newTuple ?_)));show wpAny _ _ (Builtin.SmallTypes.ownedTupleHandOut (.ref z) (.ref e5.objs.size) >>= _) _ _ _
 refine Xaa ?_;unfold Builtin.SmallTypes.ownedTupleHandOut
 have z8:IsZip (e5.push { cls:=.type "tuple",data:=.seq #[x,y] }) z TI TO .ellipsis:=Xab _ z7
 refine Xaa (XbZ z8 (by simp) fun e9 z9 b9=>?_)
 replace z9:IsZip e9 z TI TO (rawInt e5.objs.size):=z9
 refine XbZ z9 (by simp) fun e0 z0 b0=>?_
 replace z0:IsZip e0 z TI TO (rawInt e5.objs.size):=z0
 have up:∀ d o,d≠z→e5.get? d=some o→e0.get? d=some o:=fun d o q1 e=>b0.extBut _ _ q1 (b9.extBut _ _ q1 (Xab _ e))
 have T0:IsPair e0 e5.objs.size x y:=b0.extBut _ _ (XbC zl) (b9.extBut _ _ (XbC zl) (Xaj _ rfl))
 have s0:e0.objs.size=e5.objs.size+1:=by rw [b0.1,b9.1,XaN]
 rw [sz] at z0 T0 s0
 refine Xac ⟨_,rfl,?_⟩;show Q (.ref e5.objs.size) _;rw [sz]
 exact q e0 z0 (up _ _ D.oz O5) (m1.at fun o e=>up _ o D.az e) (m2.at fun o e=>up _ o D.bz e) T0 s0 fun d o q1 q2 q3 q4 e=>up d o q1 (up5 d o q1 q2 q3 q4 e)
theorem zkG {t:Bool}{z TI TO i1 i2 l1:Addr}{k:Nat}{xs:Array Value}{Q:Fin→Shared→Prop}(hh:A.handled=none)(D:Far2 z TO i1 i2)(L1:FarM z TO i1 i2 l1)
  (hz:IsZip s.heap z TI TO .none) (hI:IsPair s.heap TI (.ref i1) (.ref i2)) (h1:IsIt t s.heap i1 l1 k) (g1:IsSq t s.heap l1 xs) (ex:xs[k]? = none)
  (q:∀ h' e,(∀ d o,d≠z→d≠i1→s.heap.get? d=some o→h'.get? d=some o)→(∃ o,h'.get? e=some o∧o.cls = .type "StopIteration")→E (.ref e) { s with heap:=h' }) :
  wpAny (model prog w) A (Builtin.«zip.__next__» ⟨[.ref z],[]⟩) Q E s:=by
 show wpAny _ _ (field (.ref z) 2 >>= _) _ _ _
 refine Xaa (XaS hz rfl (x:=.bool false) rfl ?_);show wpAny _ _ (field (.ref z) 3 >>= _) _ _ _
 refine Xaa (XaS hz rfl (x:=.ref TI) rfl (Xaa (Xbl hI rfl ?_)));show wpAny _ _ (Builtin.SmallTypes.ownedTupleIsFree (.ref z) >>= _) _ _ _
 refine Xaa ?_;unfold Builtin.SmallTypes.ownedTupleIsFree
 refine Xaa (XaS hz rfl (x:=.none) rfl (Xac ?_));simp only [if_true]
 refine Xaa (Xbw (Xaa (XaS hz rfl (x:=.ref TO) rfl ?_)))
 refine Xaa (XbZ hz (by simp) fun e1 z1 b1=>?_)
 replace z1:IsZip e1 z TI TO .ellipsis:=z1
 refine Xaa ?_;simp only [List.zipIdx_cons,List.zipIdx_nil,List.forIn_cons,List.forIn_nil]
 refine Xaa (Xaa (wpAny_onRaise ?_));show wpAny _ _ (Builtin.SmallTypes.nextOf (.ref i1) >>= _) _ _ _
 refine Xaa (zl1 hh (h1.at fun o e=>b1.extBut _ _ D.az e) (g1.at fun o e=>b1.extBut _ _ L1.z e) ex fun e2 e b2 he=>?_)
 obtain ⟨oe,hoe,hce⟩:=he
 have z2:IsZip e2 z TI TO .ellipsis:=b2 _ _ D.az.symm z1
 have ne:e≠z:=fun y=>by subst y;rw [z2] at hoe;cases hoe;simp at hce
 exact XbZ z2 (by simp) fun e3 _ b3=>q e3 e (fun d o q1 q2 y=>b3.extBut _ _ q1 (b2 _ _ q2 (b1.extBut _ _ q1 y))) ⟨oe,b3.extBut _ _ ne hoe,hce⟩
end
abbrev yA (t:Bool)(h:Heap)(l:Addr):Heap:=h.push { cls:=.type (itC t),data:=.fields #[.ref l,.int 0 0] }
abbrev yB (t:Bool)(h:Heap)(l1 l2:Addr):Heap:=(yA t (yA t h l1) l2).push { cls:=.type "tuple",data:=.seq #[.ref h.objs.size,.ref (yA t h l1).objs.size] }
abbrev yC (t:Bool)(h:Heap)(l1 l2:Addr):Heap:=(yB t h l1 l2).push { cls:=.type "tuple",data:=.seq #[.none,.none] }
abbrev yD (t:Bool)(h:Heap)(l1 l2:Addr):Heap:=(yC t h l1 l2).push { cls:=.type "zip",data:=.fields #[.none,.bool false,.bool false,.ref (yA t (yA t h l1) l2).objs.size,.ref (yB t h l1 l2).objs.size] }
theorem zkF (t:Bool)(l1 l2:Addr)(xs ys:Array Value) :
  Meets (Builtin.«zip.__new__» ⟨[.type "zip",.ref l1,.ref l2],[]⟩) (fun _ R s=>IsSq t s.heap l1 xs∧IsSq t s.heap l2 ys∧R (.ok (.ret (.ref (yC t s.heap l1 l2).objs.size))) { s with heap:=yD t s.heap l1 l2 }):=
 .of_wp fun prog w A R s h=>by
  obtain ⟨hp,g,d,tk,os⟩:=s;obtain ⟨hl1,hl2,h⟩:=h
  have hsub:=sub_zip
  have hA:IsSq t (Shared.heap ⟨hp,g,d,tk,os⟩) l1 xs:=hl1
  have hB:IsSq t (Shared.heap ⟨yA t hp l1,g,d,tk,os⟩) l2 ys:=hl2.at fun o e=>Xab _ e
  wp_walk using zl4 hA,zl4 hB
  exact ⟨_,rfl,h⟩
def hoX (t:Bool)(xs:List V):HO:=if t then .tup xs else .lst xs
def SqX (t:Bool)(H:Hp)(a:Addr)(xs:List V):Prop:=H a=some (hoX t xs)
theorem Inv.sqx {X:Cx}{pins:List (Addr×Obj)}{σ:St}{H:Hp}{s:Shared}(I:Inv X pins σ H s){t:Bool}{a:Addr}{xs:List V}(h:SqX t H a xs):∃ its:List Value,Vals xs its∧IsSq t s.heap a its.toArray:=by
 cases t with
 | false =>
  obtain ⟨its,r,p,_⟩:=I.list (SqL.of (xs:=xs) h)
  exact ⟨its,r,p.isList⟩
 | true =>
  obtain ⟨its,r,p,_⟩:=I.tuple (SqT.of (xs:=xs) h)
  exact ⟨its,r,p⟩
theorem zks {prog:Program}{w:World}{A:Around}{E:Value→Shared→Prop}{s:Shared}{t:Bool}{l1 l2:Addr}{xs ys:Array Value}{Q:Value→Shared→Prop}(g1:IsSq t s.heap l1 xs)(g2:IsSq t s.heap l2 ys)
  (q:∀ h' n,n=s.heap.objs.size→IsZip h' (n+4) (n+2) (n+3) .none→IsPair h' (n+2) (.ref n) (.ref (n+1))→IsPair h' (n+3) .none .none→IsIt t h' n l1 0→IsIt t h' (n+1) l2 0 →
   (∀ d o,s.heap.get? d=some o→h'.get? d=some o)→Q (.ref (n+4)) { s with heap:=h' }) :
  wpAny (model prog w) A (call (.type "zip") [.ref l1,.ref l2]) Q E s:=by
 refine callType_new F.called_zip (by decide) (F.typeCall_zip_2 _ _) (F.newCall_zip_2 _ _) (fun obj=>F.args_object_init_3 obj _ _) F.entry_zip_new (zkF t l1 l2 xs ys) ⟨g1,g2,?_⟩
 have n1:(yA t s.heap l1).objs.size=s.heap.objs.size+1:=XaN ..
 have n2:(yA t (yA t s.heap l1) l2).objs.size=s.heap.objs.size+2:=by rw [XaN,n1]
 have n3:(yB t s.heap l1 l2).objs.size=s.heap.objs.size+3:=by rw [XaN,n2]
 have n4:(yC t s.heap l1 l2).objs.size=s.heap.objs.size+4:=by rw [XaN,n3]
 have a4:(yD t s.heap l1 l2).get? (yC t s.heap l1 l2).objs.size=some _:=Xaj _ rfl
 have a3:(yD t s.heap l1 l2).get? (yB t s.heap l1 l2).objs.size=some _:=Xab _ (Xaj _ rfl)
 have a2:(yD t s.heap l1 l2).get? (yA t (yA t s.heap l1) l2).objs.size=some _:=Xab _ (Xab _ (Xaj _ rfl))
 have a1:(yD t s.heap l1 l2).get? (yA t s.heap l1).objs.size=some _:=Xab _ (Xab _ (Xab _ (Xaj _ rfl)))
 have a0:(yD t s.heap l1 l2).get? s.heap.objs.size=some _:=Xab _ (Xab _ (Xab _ (Xab _ (Xaj _ rfl))))
 show _∧_
 rw [n2,n3,n4] at a4
 rw [n3] at a3
 rw [n1,n2] at a2
 rw [n1] at a1
 rw [n4]
 exact ⟨⟨_,a4,rfl⟩,q _ _ rfl a4 a2 a3 ⟨_,a0,rfl,rfl⟩ ⟨_,a1,rfl,rfl⟩ fun d o e =>
  Xab _ (Xab _ (Xab _ (Xab _ (Xab _ e))))⟩
def Ity (t:Bool)(a b:Addr):It:=
 ⟨fun i H=>∃ xs x ys y,SqX t H a xs∧SqX t H b ys∧xs[i]? = some x∧ys[i]? = some y,
  fun i H v H'=>∃ T x y,H T=none∧v = .ref T∧H'=upd H T (.tup [x,y])∧(∀ xs,SqX t H a xs→xs[i]? = some x)∧∀ ys,SqX t H b ys→ys[i]? = some y,
  fun i H=>∃ xs,SqX t H a xs∧xs.length≤i⟩
theorem zhJ {t:Bool}{h:Heap}{z TI TO i1 i2 l k1 k2:Addr}{it:Array Value}{f0:Value}{n1 n2:Nat}(g:IsSq t h l it)(hz:IsZip h z TI TO f0)(lo:l≠TO)(h1:IsIt t h i1 k1 n1)(h2:IsIt t h i2 k2 n2):FarM z TO i1 i2 l:=by
 have ap:∀ {d:Addr} {o:Obj},h.get? d=some o→o.cls≠.type (sqC t)→l≠d:=fun {d o} e nc y=>by
  obtain ⟨o',e',c',_⟩:=g
  rw [y,e] at e';cases e';exact nc c'
 obtain ⟨_,e1,c1,_⟩:=h1
 obtain ⟨_,e2,c2,_⟩:=h2
 have ne:(Value.type (itC t))≠.type (sqC t):=by cases t <;> simp [itC,sqC]
 exact ⟨ap hz (by cases t <;> simp [sqC]),lo,ap e1 (by rw [c1];exact ne),ap e2 (by rw [c2];exact ne)⟩
theorem zjh {H:Hp}{t:Bool}{a:Addr}{xs ys:List V}(h:SqX t H a xs)(h2:SqX t H a ys):xs=ys:=by
 have e:=Option.some.inj (h.symm.trans h2)
 cases t with
 | false=>exact HO.lst.inj e
 | true=>exact HO.tup.inj e
theorem zjb {P:Program}{w:World}{K:W.Frag}{elts:List Expr}{kt:Nat}{tp:Pos}(t:Bool)(l1 l2 z TI TO i1 i2:Addr)(D:Far2 z TO i1 i2)(TIz:TI≠z)(TITO:TI≠TO)(TI1:TI≠i1)(TI2:TI≠i2) :
  Turn P w K (.Tuple elts kt tp) (Ity t l1 l2) [z,TI,TO,i1,i2] z (fun i h=>IsZip h z TI TO .none∧IsPair h TI (.ref i1) (.ref i2)∧(∃ a b,IsPair h TO a b)∧IsIt t h i1 l1 i∧IsIt t h i2 l2 i) where
 mem:=by simp
 obj:=fun i h st b hb=>by
  obtain ⟨hz,hI,⟨_,_,hO⟩,⟨o1,e1,_,d1⟩,⟨o2,e2,_,d2⟩⟩:=st
  simp only [Xan,Xbh,or_false] at hb
  rcases hb with rfl | rfl | rfl | rfl | rfl
  ·exact ⟨_,hz,fun v y=>by have y':Data.fields _=Data.cell v:=y;cases y'⟩
  ·exact ⟨_,hI,fun v y=>by have y':Data.seq _ _=Data.cell v:=y;cases y'⟩
  ·exact ⟨_,hO,fun v y=>by have y':Data.seq _ _=Data.cell v:=y;cases y'⟩
  ·exact ⟨_,e1,fun v y=>by rw [d1] at y;cases y⟩
  ·exact ⟨_,e2,fun v y=>by rw [d2] at y;cases y⟩
 keep:=fun i h h' st k=>by
  obtain ⟨hz,hI,⟨a,b,hO⟩,h1,h2⟩:=st
  exact ⟨k z (by simp) _ hz,k TI (by simp) _ hI,⟨a,b,k TO (by simp) _ hO⟩,h1.at fun o e=>k i1 (by simp) o e,h2.at fun o e=>k i2 (by simp) o e⟩
 item:=by
  intro X hP hw hK hc i pins s σ H E I hf st hg
  subst hP hw hK
  obtain ⟨xs,x,ys,y,p1,p2,e1,e2⟩:=hg
  obtain ⟨t1,r1,f1⟩:=I.sqx p1
  obtain ⟨t2,r2,f2⟩:=I.sqx p2
  obtain ⟨v1,w1,rx⟩:=r1.get e1
  obtain ⟨v2,w2,ry⟩:=r2.get e2
  obtain ⟨hz,hI,⟨a,b,hO⟩,h1,h2⟩:=st
  have nO:H TO=none:=(hf TO (by simp)).1
  have far:∀ {l:Addr} {zs:List V},SqX t H l zs→l≠TO:=fun {l zs} p e=>by rw [SqX,e,nO] at p;cases p
  have hT:s.TypeIs (.ref z) "zip" := ⟨_,hz,rfl⟩
  unfold pyNext
  refine Xaa (wpAny_attempt (wpAny_callSpecial?_slot (name:=Str.ofString "__next__") hT F.slot_zip_next (XaW F.slot_zip_next hT F.entry_zip_next
   (zi8 D (zhJ f1 hz (far p1) h1 h2) (zhJ f2 hz (far p2) h1 h2) hz hI hO h1 h2 f1 f2 (x:=v1) (y:=v2) (by simpa using w1) (by simpa using w2)
    fun h' z1 O1 m1 m2 T1 s1 kk=>Xac ⟨_,rfl,?_⟩) (F.args_zip_next_1 _))))
  refine wpAny_letOwnedTupleGo_zip z1 fun h4 z4 sb=>?_
  have fT:FpOk X pins H s.heap.objs.size:=I.fpOk (Xae _) (I.hok.fresh (Xae _))
  have k2:∀ d o,d ∉ [z,TI,TO,i1,i2]→s.heap.get? d=some o→h4.get? d=some o:=fun d o hb e=>by
   simp only [Xan,Xbh,or_false,not_or] at hb
   obtain ⟨q1,q2,q3,q4,q5⟩:=hb
   exact (sb.2 d q1).trans (kk d o q1 q3 q4 q5 e)
  have I1:Inv X pins σ H { s with heap:=h4,toks:=s.toks }:=I.turnedL (ch:=[z,TI,TO,i1,i2]) k2 hf
  have eT:h4.get? s.heap.objs.size=some { cls:=.type "tuple",data:=.seq #[v1,v2] }:=(sb.2 _ (XbC (Xao hz))).trans T1
  have I2:=I1.track (o:=.tup [x,y]) fT (Xam I.sz (Xae _)) (zgX rx ry eT)
  refine ⟨.ref s.heap.objs.size,_,I2,rfl,⟨_,x,y,fT.1,rfl,rfl,fun ys hy=>by rw [zjh hy p1];exact e1,fun ys hy=>by rw [zjh hy p2];exact e2⟩,
   ⟨z4,(sb.2 _ TIz).trans (kk _ _ TIz TITO TI1 TI2 hI),⟨_,_,sb.extBut _ _ D.oz O1⟩,m1.at fun o e=>sb.extBut _ _ D.az e,m2.at fun o e=>sb.extBut _ _ D.bz e⟩,fun d hb=>?_⟩
  have hlt:d<s.heap.objs.size:=by
   obtain ⟨_,g1,_⟩:=h1
   obtain ⟨_,g2,_⟩:=h2
   simp only [Xan,Xbh,or_false] at hb
   rcases hb with rfl | rfl | rfl | rfl | rfl
   ·exact Xao hz
   ·exact Xao hI
   ·exact Xao hO
   ·exact Xao g1
   ·exact Xao g2
  rw [zai (Xaz hlt)]
  exact (hf d hb).1
 done:=by
  intro X hP hw hK hc i pins s σ H E I hf st hg
  subst hP hw hK
  obtain ⟨xs,p1,hx⟩:=hg
  obtain ⟨t1,r1,f1⟩:=I.sqx p1
  obtain ⟨hz,hI,⟨a,b,hO⟩,h1,h2⟩:=st
  have nO:H TO=none:=(hf TO (by simp)).1
  have far:l1≠TO:=fun e=>by rw [SqX,e,nO] at p1;cases p1
  have hT:s.TypeIs (.ref z) "zip" := ⟨_,hz,rfl⟩
  have e1:=r1.length
  unfold pyNext
  refine Xaa (wpAny_attempt (wpAny_callSpecial?_slot (name:=Str.ofString "__next__") hT F.slot_zip_next (XaW F.slot_zip_next hT F.entry_zip_next
   (zkG (I.ok.hd hc) D (zhJ f1 hz far h1 h2) hz hI h1 f1 (by simp;omega) fun h' e kk he=>?_) (F.args_zip_next_1 _))))
  obtain ⟨o,ho,hcl⟩:=he
  refine Xaa (wpAny_isInstance (T := "StopIteration") (b:=true) ⟨o,ho,hcl⟩ isSubtype_stop ?_)
  refine Xac ⟨rfl,I.turnedL (t':=s.toks) (ch:=[z,TI,TO,i1,i2]) (fun d o hb e=>?_) hf⟩
  simp only [Xan,Xbh,or_false,not_or] at hb
  exact kk d o hb.1 hb.2.2.2.1 e
 self:=fun _ _ _ _ _ st h=>wpAny_pyIter_zip st.1 h
inductive iZipX_1 (R:It→Hp→Prop)(vs:List V)(H1:Hp):Prop
 | mk (t:_) (a:_) (b:_) (xs:_) (ys:_) (z0_:vs=[.ref a,.ref b]) (z1_:SqX t H1 a xs) (z2_:SqX t H1 b ys) (z3_:R (Ity t a b) H1)
def iZipX (ta:TA):TI:=fun σ H R=>ta σ H (iZipX_1 R)
theorem zmG {X:Cx}{a b:Expr}{ta:TA}{p pos:Pos}{elts:List Expr}{kt:Nat}{tp:Pos}(hg:Gl X "zip")(hm:X.mg "zip" = none)(ha:PA X [a,b] ta)(hs:starEach [a,b] X.env=(false,eval a X.env) :: starEach [b] X.env:=by rfl)(hs2:(backTo pos (starEach [b] X.env)).any (·.1)=false:=by rfl) :
  PI X (.Tuple elts kt tp) (.Call (.Name "zip" p) [a,b] [] pos) (iZipX ta):=by
 intro pins s σ H R I h
 refine Call_ (zc6 I hg hm zlG (PyProof.Rows.callWith_type1 (thn (ha pos pins s σ H _ I h) fun us s1 hh_=>?_) hs hs2))
 obtain ⟨vs,H1,I1,r1,q1⟩:=hh_
 obtain ⟨t,l1,l2,xs,ys,e,p1,p2,q⟩:=q1
 subst e
 cases r1 with
 | cons ra rr=>cases rr with
  | cons rb rr =>
   cases rr
   cases ra;cases rb
   obtain ⟨t1,v1,f1⟩:=I1.sqx p1
   obtain ⟨t2,v2,f2⟩:=I1.sqx p2
   refine zks f1 f2 fun h' n hn hz hI hO h1 h2 kk=>?_
   refine wpAny_pyIter_zip hz ?_
   have I2:Inv X pins σ H1 { s1 with heap:=h',toks:=s1.toks }:=I1.kept kk
   have ge:∀ b,n≤b→FpOk X pins H1 b:=fun b hb=>I1.fpOk (by rw [← hn];exact hb) (I1.hok.fresh (by rw [← hn];exact hb))
   have ne:∀ i j:Nat,i≠j→(n+i:Nat)≠n+j:=fun i j h=>by omega
   refine ⟨n+4,[n+4,n+2,n+3,n,n+1],_,_,H1,rfl,I2,zjb t l1 l2 (n+4) (n+2) (n+3) n (n+1) ⟨ne 3 4 (by decide),ne 0 4 (by decide),ne 1 4 (by decide),ne 3 0 (by decide),ne 3 1 (by decide),ne 0 1 (by decide)⟩
    (ne 2 4 (by decide)) (ne 2 3 (by decide)) (ne 2 0 (by decide)) (ne 2 1 (by decide)),⟨hz,hI,⟨_,_,hO⟩,h1,h2⟩,fun b hb=>ge b ?_,q⟩
   simp only [Xan,Xbh,or_false] at hb
   rcases hb with rfl | rfl | rfl | rfl | rfl
   ·exact Nat.le_add_right _ _
   ·exact Nat.le_add_right _ _
   ·exact Nat.le_add_right _ _
   ·exact Xae _
   ·exact Nat.le_add_right _ _
theorem zkn {t:Bool}{g:TG}{tf:TT}{te:TE}{Q:List V→Hp→Prop}{σ:St}{H:Hp}{a b:Addr}{xs ys:List V}(Pv:Nat→List V→St→Hp→Prop)(he:xs.length=ys.length)(hn:xs.length≤sizeLine)(h0:Pv 0 [] σ H)(hl:∀ i rs σ H,i≤xs.length→Pv i rs σ H→SqX t H a xs∧SqX t H b ys∧rs.length≤i)
  (hs:∀ i x y T rs σ H,xs[i]? = some x→ys[i]? = some y→H T=none→Pv i rs σ H→g (.ref T) σ (upd H T (.tup [x,y])) fun σ2 H2=>tf σ2 H2 fun b H3=>if b=true then te σ2 H3 fun y H4=>Pv (i+1) (rs ++ [y]) σ2 H4 else Pv (i+1) rs σ2 H3)
  (hd:∀ rs σ H,Pv xs.length rs σ H→Q rs H):zgT (Ity t a b) g tf te Q σ H:=by
 refine ⟨fun i m rs σ H=>m=xs.length - i∧i≤xs.length∧Pv i rs σ H,⟨xs.length,by simp,Nat.zero_le _,h0⟩,?_⟩
 rintro i m rs σ H ⟨rfl,hi,p⟩
 obtain ⟨q,q2,hz⟩:=hl i rs σ H hi p
 by_cases hlt:i<xs.length
 ·refine .inr ⟨⟨xs,xs[i],ys,ys[i]'(by omega),q,q2,by simp [hlt],by simp [he ▸ hlt]⟩,by omega,Pv (i+1),fun ys' σ' H' p'=>⟨xs.length - (i+1),by omega,rfl,hlt,p'⟩,fun v H' y=>?_⟩
  obtain ⟨T,x,y',hT,rfl,rfl,y1,y2⟩:=y
  exact hs i x y' T rs σ _ (y1 xs q) (y2 ys q2) hT p
 ·have e:i=xs.length:=by omega
  exact .inl ⟨⟨xs,q,by omega⟩,by omega,hd rs σ H (e ▸ p)⟩
theorem zaL (T:String){X:Cx}{K:W.Frag}(hK:X.K=K):zdI X (.builtin "isinstance") (fun xs H Q=>∃ x t b,xs=[x,.ty T]∧TyOf K H x t∧W.kitOne K t (.type T)=some b∧Q (.bl b) H):=by
 subst hK
 intro pins s σ H xs us Q I r h
 obtain ⟨x,t,b,rfl,ty,e,q⟩:=h
 obtain ⟨u,u2,rfl,rx,r2⟩:=zml r
 obtain rfl:u2=Value.type T:=r2
 exact zgw I rx ty e fun tk=>⟨.bl b,H,I.tok _,rfl,q⟩
section
variable {X:Cx}{K:W.Frag}
theorem zbh {x:Str}{n:Int}{pos:Pos}(hg:Gl X x)(h:∃ t,X.mg x=some (.int n t))(hd:(x == ("__debug__" : Str))=false:=by decide):PE X (.Name x pos) (tC (.int n)):=by
 obtain ⟨t,h⟩:=h
 exact zhg hg h ⟨_,rfl⟩ hd
end
def dP {α:Type}(ds us zs:List α):List α:=us ++ ds
theorem Vals.dP {ds:List V}{es:List Value}(d:Vals ds es){vs zs:List V}{us ws:List Value}(g:Vals vs us)(h:Vals zs ws):Vals (dP ds vs zs) (dP es us ws):=g.append d
theorem zlW:RelV (.ty "str") (.type "str"):=rfl
theorem zcu:RelV (.ty "tuple") (.type "tuple"):=rfl
theorem zhc:RelV (.ty "list") (.type "list"):=rfl
theorem zmg:bootBuiltins "str" = some (.type "str"):=by decide +kernel
theorem zbL:bootBuiltins "tuple" = some (.type "tuple"):=by decide +kernel
theorem ze0:bootBuiltins "list" = some (.type "list"):=by decide +kernel
end L2
namespace Cb
open PySem L2
structure Blt (mg:Str→Option Value):Prop where
 len:mg "len" = none
 sum:mg "sum" = none
 all:mg "all" = none
 max:mg "max" = none
 min:mg "min" = none
 int:mg "int" = none
 bool:mg "bool" = none
 isinstance:mg "isinstance" = none
 range:mg "range" = none
 enumerate:mg "enumerate" = none
 zip:mg "zip" = none
 str:mg "str" = none
 tuple:mg "tuple" = none
 list:mg "list" = none
inductive Lk (H:Hp):Nat→V→V→Prop where
 | int {n:Nat} (i:Int):Lk H n (.int i) (.int i)
 | seq {n:Nat} {t:Bool} {a b:Addr} {xs ys:List V} (ha:SqX t H a xs) (hb:SqX t H b ys) (hl:xs.length=ys.length) (hz:xs.length≤sizeLine) (h:∀ (i:Nat) (x y:V),xs[i]? = some x→ys[i]? = some y→Lk H n x y):Lk H (n+1) (.ref a) (.ref b)
theorem Lk.same {H H':Hp}{n:Nat}{v w:V}(h:Lk H n v w)(s:Same H H'):Lk H' n v w:=by
 induction h with
 | int i=>exact .int i
 | seq ha hb hl hz _ ih=>exact .seq (s _ _ ha) (s _ _ hb) hl hz ih
def NN (ext:List (Str×V)):Prop:=ext=[]∨∃ r:Int,ext=[(("room" : Str),V.int r)]
structure Ob (C:Addr)(H:Hp)(a p:Addr)(ws:List V)(ext:List (Str×V)):Prop where
 ex:∃ dx hd,H a=some (.ins C dx (("head",.str hd) :: ("held",.ref p) :: ext))
 ls:H p=some (.lst ws)
 nn:NN ext
structure ClsOk (K:W.Frag)(C:Addr):Prop where
 cl:Cls K C
 head:NoAttr K C "head"
 held:NoAttr K C "held"
 room:NoAttr K C "room"
inductive spIsNum (vs:List V)(H:Hp)(Q:VK)(u3_:XK):Prop
 | mk (a b:Int) (z0_:vs=[.int a,.int b]) (z1_:Q (.bl (decide (0≤a∧a≤b))) H)
inductive spIsWord (vs:List V)(H:Hp)(Q:VK)(u3_:XK):Prop
 | mk (a:Int) (z0_:vs=[.int a]) (z1_:Q (.bl (decide (0≤a∧a≤255))) H)
inductive spChkWord (vs:List V)(H:Hp)(Q:VK)(u3_:XK):Prop
 | mk (a:Int) (z0_:vs=[.int a]) (z1_:0≤a) (z2_:a≤255) (z3_:Q .non H)
inductive spLen (C:Addr)(L:List V→Nat)(vs:List V)(H:Hp)(Q:VK)(u3_:XK):Prop
 | mk (a:_) (p:_) (ws:_) (ext:_) (z0_:vs=[.ref a]) (z1_:Ob C H a p ws ext) (z2_:Q (.int (L ws:Int)) H)
inductive spChkC (C:Addr)(L:List V→Nat)(vs:List V)(H:Hp)(Q:VK)(u3_:XK):Prop
 | mk (a:_) (p:_) (ws:_) (ext:_) (c:Int) (z0_:vs=[.ref a,.int c]) (z1_:Ob C H a p ws ext) (z2_:0≤c) (z3_:c<L ws) (z4_:L ws≤5000) (z5_:Q .non H)
inductive spChkW (C:Addr)(L:List V→Nat)(vs:List V)(H:Hp)(Q:VK)(u3_:XK):Prop
 | mk (a:_) (p:_) (ws:_) (ext:_) (c v:Int) (z0_:vs=[.ref a,.int c,.int v]) (z1_:Ob C H a p ws ext) (z2_:0≤c) (z3_:c<L ws) (z4_:L ws≤5000) (z5_:0≤v) (z6_:v≤255) (z7_:Q .non H)
inductive spLook (C:Addr)(vs:List V)(H:Hp)(Q:VK)(u3_:XK):Prop
 | mk (a:_) (p:_) (ws:_) (ext:_) (c:Nat) (x:V) (z0_:vs=[.ref a,.int (c:Int)]) (z1_:Ob C H a p ws ext) (z2_:ws.length≤5000) (z3_:ws[c]? = some x) (z4_:Q x H)
inductive spWrite (C:Addr)(vs:List V)(H:Hp)(Q:VK)(u3_:XK):Prop
 | mk (a:_) (p:_) (ws:_) (ext:_) (c:Nat) (v:Int) (z0_:vs=[.ref a,.int (c:Int),.int v]) (z1_:Ob C H a p ws ext) (z2_:ws.length≤5000) (z3_:c<ws.length) (z4_:0≤v) (z5_:v≤255) (z6_:Q .non (upd H p (.lst (ws.set c (.int v)))))
inductive spFixW (C:Addr)(vs:List V)(H:Hp)(Q:VK)(u3_:XK):Prop
 | mk (a:_) (p:_) (ws:_) (ext:_) (c:Nat) (v:Int) (z0_:vs=[.ref a,.int (c:Int),.int v]) (z1_:Ob C H a p ws ext) (z2_:ws.length≤5000) (z3_:c<ws.length) (z4_:0≤v) (z5_:v≤255) (z6_:Q .non H)
inductive spMetR (C:Addr)(vs:List V)(H:Hp)(Q:VK)(u3_:XK):Prop
 | mk (a:_) (p:_) (ext:_) (v:Int) (z0_:vs=[.ref a,.int 0]) (z1_:Ob C H a p [.int v] ext) (z2_:Q (.int v) (upd H p (.lst [.int ((v+1) % 256)])))
inductive spInit (K:W.Frag)(vs:List V)(H:Hp)(Q:VK)(u3_:XK):Prop
 | mk (a:_) (C:_) (dx:_) (p:_) (hd:_) (z0_:vs=[.ref a,.str hd,.ref p]) (z1_:H a=some (.ins C dx [])) (z2_:ClsOk K C) (z3_:∀ H',H' a=some (.ins C dx [("head",.str hd),("held",.ref p)])→(∀ b,b≠a→H' b=H b)→Q .non H')
end Cb
end
section
namespace L2
open PySem PySem.Spec PyProof.Rows PySem.SeqAt
section
variable {X:Cx}{K:W.Frag}
inductive tFs2_1 (Q:VK)(a:Str)(y:V)(H2:Hp):Prop
 | mk (b:Str) (z0_:y = .str b) (z1_:b.length≤1000) (z2_:Q (.str (Str.empty ++ a ++ b)) H2)
inductive tFs2_2 (tb:TE)(σ:St)(Q:VK)(x:V)(H1:Hp):Prop
 | mk (a:Str) (z0_:x = .str a) (z1_:a.length≤1000) (z2_:tb σ H1 (tFs2_1 Q a))
def tFs2 (ta tb:TE):TE:=fun σ H Q=>ta σ H (tFs2_2 tb σ Q)
theorem pe_fs2 {e v:Expr}{pos p2:Pos}{ta tb:TE}(he:PE X e ta)(hv:PE X v tb)(hE:evalEach [] X.env=[]:=by rfl):PE X (.JoinedStr [e,.FormattedValue v (-1) none p2] pos) (tFs2 ta tb):=by
 intro pins s σ H Q I h
 refine JoinedStr_many ?_
 rw [hE]
 have l0:Str.empty.length=0:=rfl
 have hz:(3000:Nat)≤sizeLine:=by decide
 refine joinParts_cons (thn (he pins s σ H _ I h) fun u s1 hh_=>?_)
 obtain ⟨x,H1,I1,rx,a,ex,la,q⟩:=hh_
 subst ex
 obtain ⟨t,rfl⟩:=(show ∃ t,u=Value.str a t from rx)
 refine ⟨by rw [strLen_append];omega,?_⟩
 refine joinParts_cons (FormattedValue_plain (thn (hv pins s1 σ H1 _ I1 q) fun u2 s2 hh_=>?_))
 obtain ⟨y,H2,I2,ry,b,ey,lb,q2⟩:=hh_
 subst ey
 obtain ⟨t2,rfl⟩:=(show ∃ t,u2=Value.str b t from ry)
 refine formatField_str (fun t' tk=>⟨by rw [strLen_append,strLen_append];omega,?_⟩) (by omega)
 exact joinParts_nil ⟨.str (Str.empty ++ a ++ b),H2,(I2.tok _).tok _,⟨_,rfl⟩,q2⟩ (by rw [strLen_append,strLen_append];omega)
end
end L2
end
section
namespace L2
open PySem PySem.Spec PyProof.Rows Builtin
section
variable {prog:Program}{w:World}{A:Around}{E:Value→Shared→Prop}{s:Shared}{K:W.Frag}{x y C f:Addr}{ox oy:Obj}{od oe:Option Obj}
end
section
variable {X:Cx}
end
theorem zgs {sel:Nat→Bool}:∀ (l:List Value) (n:Nat),(∀ k,n≤k→k<n+l.length→sel k=false)→((l.zipIdx n).filterMap fun x=>if sel x.2=true then none else some x.1)=l
 | [],_,_=>rfl
 | a :: l,n,h=>by
  rw [List.zipIdx_cons,List.filterMap_cons]
  dsimp only
  rw [h n (Xae _) (by rw [Xar];omega),if_neg Xap]
  dsimp only
  rw [zgs l (n+1) fun k h1 h2=>h k (by omega) (by rw [Xar];omega)]
theorem zj6 {sel:Nat→Bool}(l:List Value)(h:∀ k,k<l.length→sel k=decide (k=0)):(l.zipIdx.filterMap fun x=>if sel x.2=true then none else some x.1)=l.drop 1:=by
 cases l with
 | nil=>rfl
 | cons a l =>
  rw [List.zipIdx_cons,List.filterMap_cons]
  dsimp only
  rw [h 0 (by simp),if_pos (by decide)]
  dsimp only
  exact zgs l (0+1) fun k h1 h2=>by rw [h k (by rw [Xar];omega)];exact Xai (by omega)
section
variable {prog:Program}{w:World}{A:Around}{E:Value→Shared→Prop}{s:Shared}
theorem ziX {l sl:Addr}{its:List Value}{n:Nat}{vu:Value}{Q:Unit→Shared→Prop}(hl:s.heap.get? l=some { cls:=.type "list",data:=.seq its.toArray n })(hs:s.heap.IsSliceOf sl .none vu .none)(pu:IsPart vu (some 1))(hsz:its.length≤sizeLine)
  (q:∀ f:Array Value→Array Value,f its.toArray=(its.drop 1).toArray→Q () { s with heap:=s.heap.update l (Obj.mapSeq f) }):wpAny (model prog w) A (delItem (.ref l) (.ref sl)) Q E s:=by
 obtain ⟨os,hos,hcs,hds⟩:=id hs
 have hT:s.TypeIs (.ref sl) "slice" := ⟨os,hos,hcs⟩
 have hL:s.TypeIs (.ref l) "list" := ⟨_,hl,rfl⟩
 refine wpAny_delItem_slot hL (by decide) F.slot_list_delitem (XaW F.slot_list_delitem hL F.entry_list_delitem ?_ (F.args_list_delitem_2 _ _))
 show wpAny _ _ (Builtin.List.listSubscript? (.ref sl) >>= _) _ _ s;refine Xaa ?_;delta Builtin.List.listSubscript?
 refine Xaa (wpAny_specialOf hT slice_no_index ?_);simp only [Option.isNone_none,if_true];refine Xac ?_
 show wpAny _ _ (typeOf (.ref sl) >>= _) _ _ s;refine Xaa (wpAny_typeOf hT ?_);rw [if_neg (by decide),listSliceParts_eq]
 refine Xaa (Xaa (XaS hos hds (x:=.none) rfl (Xaa (wpAny_listPart .none ?_))));rw [if_neg (show ¬ ((rawPart none == rawInt 0)=true) from Xap)]
 refine Xaa (XaS hos hds (x:=.none) rfl (Xaa (wpAny_listPart .none ?_)))
 refine Xaa (XaS hos hds (x:=vu) rfl (Xaa (wpAny_listPart pu (Xac ?_))))
 refine Xaa (m:=Builtin.List.listItems (.ref l)) ?_;delta Builtin.List.listItems
 refine Xaa (Xbl hl rfl (Xac (Xaa (wpAny_of_eq (sliceIndices_raw none (some 1) none its.toArray.size (by simp)) ?_))))
 refine Xaa (Xbw ?_)
 have key:∀ sel:Nat→Bool,(∀ k,k<its.length→sel k=decide (k=0))→((its.toArray.toList.zipIdx.filterMap fun x=>if sel x.2=true then none else some x.1).toArray)=(its.drop 1).toArray:=fun sel h=>by
  rw [show its.toArray.toList=its by simp,zj6 its h]
 refine Xaa (wpAny_updateSeq hl rfl ?_ (by simpa using hsz) ?_)
 ·refine Xaa (wpAny_letGo (Xac ⟨_,rfl,q _ (key _ fun k hk=>?_)⟩))
  have e:sliceBounds none (some 1) none its.toArray.size=(0,max 0 (min 1 (its.toArray.size:Int)),1):=by simp [sliceBounds]
  rw [e]
  show (if (1:Int) > 0 then (decide ((0:Int)≤(k:Int)) && decide ((k:Int)<max 0 (min 1 (its.toArray.size:Int))) && (((k:Int) - 0) % 1 == 0)) else _)=decide (k=0)
  rw [if_pos (by decide),Int.emod_one,Xah (show (0:Int)≤(k:Int) by omega),Bool.true_and,show ((0:Int) == 0)=true from rfl,Bool.and_true,Xbc,show its.toArray.size=its.length by simp]
  omega
 ·refine Nat.le_succ_of_le (Xam ?_ hsz)
  rw [Xat]
  refine Xam (List.length_filterMap_le _ _) ?_
  simp
end
section
variable {X:Cx}{o:Expr}{td:TE}{pos p1 p2 p3:Pos}{k0:Nat}
inductive sDel1_1 (D:Ends)(σ:St)(x:V)(H1:Hp):Prop
 | mk (a:_) (xs:_) (z0_:x = .ref a) (z1_:H1 a=some (.lst xs)) (z2_:D.nx σ (upd H1 a (.lst (xs.drop 1))))
def sDel1 (td:TE):TS:=fun D σ H=>td σ H (sDel1_1 D σ)
theorem zmE (ho:PE X o td):PS X (.Delete [.Subscript o (.Slice none (some (.Constant (.int 1) k0 p3)) none p2) p1] pos) (sDel1 td):=by
 intro pins s σ H D I h
 refine wpAny_Delete (wpAny_deleteEach_cons (wpAny_delete_Subscript (thn (ho pins s σ H _ I h) fun u s1 hh_=>?_)))
 obtain ⟨x,H1,I1,rx,a,xs,ex,ea,q1⟩:=hh_
 subst ex
 obtain rfl:u=Value.ref a:=rx
 refine wpAny_Slice ?_
 rw [evalPart_none]
 refine Xac (thn (za9 (X:=X) (zae (X:=X) (i:=1) (j:=k0) (pos:=p3)) pins s1 σ H1 (fun v H2=>v=some 1∧H2=H1) I1 ⟨1,rfl,rfl,rfl⟩) fun vu s2 hh_=>?_)
 obtain ⟨l,H2,I2,pu,el,eh⟩:=hh_
 subst el eh
 refine Xac ?_
 have I4:Inv X pins σ H2 { s2 with heap:=s2.heap.push { cls:=.type "slice",data:=.fields #[.none,vu,.none] } }:=I2.kept (t':=s2.toks) fun b ob q=>Xab _ q
 obtain ⟨z,its,n,r,hl,e⟩:=I4.lstM ea
 refine ziX (s:={ s2 with heap:=s2.heap.push { cls:=.type "slice",data:=.fields #[.none,vu,.none] } }) e (Heap.IsSliceOf.new ..) pu (by omega) fun f hf=>?_
 exact wpAny_deleteEach_nil ⟨σ,_,I4.lset (t':=s2.toks) ea e hf (r.drop 1) (by rw [XaV];omega),q1⟩
end
section
variable {X:Cx}{K:W.Frag}
theorem zh1 {x:Str}{z:Str}{pos:Pos}(hg:Gl X x)(h:∃ t,X.mg x=some (.str z t))(hd:(x == ("__debug__" : Str))=false:=by decide):PE X (.Name x pos) (tC (.str z)):=by
 obtain ⟨t,h⟩:=h
 exact zhg hg h ⟨_,rfl⟩ hd
theorem zk8 {x:Str}{a:Addr}{pos:Pos}(hg:Gl X x)(h:X.mg x=some (.ref a))(hd:(x == ("__debug__" : Str))=false:=by decide):PE X (.Name x pos) (tC (.ref a)):=zhg hg h rfl hd
theorem zlF (hK:X.K=K):zdI X (.builtin "isinstance") (fun xs H Q=>∃ x t D b,xs=[x,.ref D]∧TyOf K H x t∧W.kitOne K t (.ref D)=some b∧Q (.bl b) H):=by
 subst hK
 intro pins s σ H xs us Q I r h
 obtain ⟨x,t,D,b,rfl,ty,e,q⟩:=h
 obtain ⟨u,u2,rfl,rx,r2⟩:=zml r
 obtain rfl:u2=Value.ref D:=r2
 exact zgw I rx ty e fun tk=>⟨.bl b,H,I.tok _,rfl,q⟩
end
theorem zls {K:W.Frag}{t:Value}{D:Addr}(h:W.isIn K t D=true):W.kitOne K t (.ref D)=some true:=by
 unfold W.isIn at h
 unfold W.kitOne W.kitCls
 by_cases e:(t == Value.ref D)=true
 ·rw [if_pos e]
 ·rw [if_neg e]
  simp only [Bool.or_eq_true,Xa5,beq_iff_eq] at h
  rcases h with h | h
  ·exact absurd (beq_iff_eq.mpr h) e
  ·dsimp only
   rw [if_pos (by simp only [Xa5,beq_iff_eq];exact h.1.1)]
   exact h.2
section
variable {X:Cx}{e:Expr}{p pos:Pos}{ta:TE}
end
section
variable {prog:Program}{w:World}{A:Around}{E:Value→Shared→Prop}{s:Shared}
end
section
variable {X:Cx}{o:Expr}{td tv:TE}{pos p1 p2 p3:Pos}{k0:Nat}
end
end L2
end
section
namespace L2
open PySem PySem.Spec PyProof.Rows HT PySem.SeqAt
section
section
variable {prog:Program}{w:World}{A:Around}{E:Value→Shared→Prop}{s:Shared}
theorem zdD {t sl:Addr}{items:Array Value}{vl vu:Value}{lo hi:Option Int}{Q:Value→Shared→Prop}(ht:IsTup s.heap t items)(hs:s.heap.IsSliceOf sl vl vu .none)(pl:IsPart vl lo)(pu:IsPart vu hi)
  (hw:sIx items.size 0 lo=0∧sIx items.size items.size hi=items.size) (h:Q (.ref t) s):wpAny (model prog w) A (getItem (.ref t) (.ref sl)) Q E s:=by
 obtain ⟨os,hos,hcs,hds⟩:=id hs
 have hTs:s.TypeIs (.ref sl) "slice" := ⟨os,hos,hcs⟩
 unfold getItem
 try with_reducible refine Xba ?_
 first | refine Xaa (Xac ?_) | skip
 refine Xaa (wpAny_sequenceKey ht.typeIs (by decide) ?_)
 refine Xaa (wpAny_callSpecial?_slot (name:=Str.ofString "__getitem__") ht.typeIs PyProof.Rows.slot_tuple_getitem
  (XaW PyProof.Rows.slot_tuple_getitem ht.typeIs entry_tuple_getitem ?_ (args_tuple_getitem _ _)))
 show wpAny _ _ (Builtin.Tuple.tupleItemsOf (.ref t) >>= _) _ _ s
 refine Xaa (tupleItemsOf_ ht ?_)
 refine Xaa (wpAny_typeOf hTs ?_)
 rw [if_pos (by decide)]
 refine Xaa (zb8 hs pl pu ?_)
 rw [hw.1,hw.2,Nat.sub_zero]
 have hyes:((((0:Nat):Int) == 0 && (1:Int) == 1 && items.size == items.size)=true):=by simp
 show wpAny _ _ (if (((0:Nat):Int) == 0 && (1:Int) == 1 && items.size == items.size)=true then _ else _) _ _ s
 rw [if_pos hyes]
 refine Xaa (m:=Builtin.Tuple.tupleIsExact _) ?_
 unfold Builtin.Tuple.tupleIsExact
 refine Xaa (wpAny_typeOf ht.typeIs (Xac ?_))
 rw [if_pos (by decide)]
 refine Xaa (Xbw ?_)
 exact Xac ⟨_,rfl,Xac h⟩
end
end
section
variable {X:Cx}{K:W.Frag}
inductive rSlT2 (K:W.Frag)(x:V)(lo:Option Int)(hi:Option Int)(H:Hp)(Q:VK):Prop
 | mk (a:_) (xs:_) (z0_:x = .ref a) (z1_:SqT K H a xs) (z2_:(cutV xs lo hi=xs→Q (.ref a) H)) (z3_:∀ p,H p=none→Q (.ref p) (upd H p (.tup (cutV xs lo hi))))
theorem zfw (hK:X.K=K):SlR X (rSlT2 K):=by
 subst hK
 intro pins s σ H x v vl vu lo hi sl Q I rx hs pl pu h
 obtain ⟨a,xs,rfl,hx,q0,q⟩:=h
 by_cases hw:sIx xs.length 0 lo=0∧sIx xs.length xs.length hi=xs.length
 ·cases rx
  obtain ⟨its,r,ht,hz⟩:=I.tuple hx
  have hlen:its.toArray.size=xs.length:=by rw [Xat];exact r.length.symm
  refine ⟨"tuple",_,PyProof.Rows.slot_tuple_getitem.lookup,ht.typeIs,?_⟩
  refine zdD ht hs pl pu (by rw [hlen];exact hw) ?_
  exact ⟨.ref a,H,I,rfl,q0 (by unfold cutV;rw [hw.1,hw.2];simp)⟩
 ·exact sl_tup pins s σ H _ v vl vu lo hi sl Q I rx hs pl pu ⟨a,xs,rfl,hx,hw,q⟩
inductive rNeL0 (K:W.Frag)(x:V)(y:V)(H:Hp)(Q:VK):Prop
 | mk (a:_) (b:_) (xs:_) (z0_:x = .ref a) (z1_:y = .ref b) (z2_:SqL K H a xs) (z3_:SqL K H b []) (z4_:Q (.bl (!xs.isEmpty)) H)
theorem zjI (hu:X.A.units<cLine)(hK:X.K=K):OpR X (compareOp .NotEq) (rNeL0 K):=by
 subst hK
 rintro pins s σ H x y v u Q I rx ry ⟨a,b,xs,rfl,rfl,ha,hb,q⟩
 cases rx;cases ry
 obtain ⟨its,r1,p1,_⟩:=I.list ha
 obtain ⟨its2,r2,p2,_⟩:=I.list hb
 obtain rfl:=r2.nil_iff.mpr rfl
 have e:its.toArray.size=xs.length:=by rw [Xat];exact r1.length.symm
 cases xs with
 | nil =>
  refine RcNeAt.lists (e:=fun _=>true) p1.isList p2.isList (by rw [e];rfl) hu (fun j h1 h2=>absurd h2 (by simp)) _ _ _ _ ⟨.bl false,H,I,?_,q⟩
  rw [e];rfl
 | cons z zs=>exact RcNeAt.lists_lengths p1.isList p2.isList (by rw [e];exact bne_iff_ne.mpr (by simp)) hu _ _ _ _ ⟨.bl true,H,I,rfl,q⟩
theorem zfS {g:TG}{tf:TT}{te:TE}{Q:List V→Hp→Prop}{σ:St}{H:Hp}{a:Addr}{xs:List V}(Pv:Nat→List V→St→Hp→Prop)(hn:xs.length≤sizeLine)(h0:Pv 0 [] σ H)(hl:∀ i ys σ H,i≤xs.length→Pv i ys σ H→SqT K H a xs∧ys.length≤i)
  (hs:∀ i x ys σ H,xs[i]? = some x→Pv i ys σ H→g x σ H fun σ2 H2=>tf σ2 H2 fun b H3=>if b=true then te σ2 H3 fun y H4=>Pv (i+1) (ys ++ [y]) σ2 H4 else Pv (i+1) ys σ2 H3)
  (hd:∀ ys σ H,Pv xs.length ys σ H→Q ys H):zgT (Itt K a) g tf te Q σ H:=by
 refine ⟨fun i m ys σ H=>m=xs.length - i∧i≤xs.length∧Pv i ys σ H,⟨xs.length,by simp,Nat.zero_le _,h0⟩,?_⟩
 rintro i m ys σ H ⟨rfl,hi,p⟩
 obtain ⟨q,hz⟩:=hl i ys σ H hi p
 by_cases hlt:i<xs.length
 ·refine .inr ⟨⟨xs,xs[i],q,by simp [hlt]⟩,by omega,Pv (i+1),fun ys' σ' H' p'=>⟨xs.length - (i+1),by omega,rfl,hlt,p'⟩,fun x H' y=>?_⟩
  obtain ⟨e,y⟩:=y
  subst e
  exact hs i x ys σ _ (y xs q) p
 ·have e:i=xs.length:=by omega
  subst e
  exact .inl ⟨⟨xs,q,Xae _⟩,by omega,hd ys σ H p⟩
end
end L2
end
section
namespace L2
open PySem PySem.Spec PyProof.Rows HT
def Slid (fs ch:List Addr)(h h':Heap):Prop:=∀ b o,h.get? b=some o→b ∉ ch→(b ∉ fs→h'.get? b=some o)∧∃ sl,h'.get? b=some { o with slots:=sl }
theorem Slid.of {fs ch:List Addr}{h h':Heap}(k:∀ b o,h.get? b=some o→b ∉ ch→h'.get? b=some o):Slid fs ch h h':=fun b o e hc=>⟨fun _=>k b o e hc,o.slots,k b o e hc⟩
theorem Slid.trans {fs ch:List Addr}{h1 h2 h3:Heap}(x:Slid fs ch h1 h2)(y:Slid fs ch h2 h3):Slid fs ch h1 h3:=fun b o e hc=>by
 obtain ⟨x1,sl,x2⟩:=x b o e hc
 refine ⟨fun hf=>(y b o (x1 hf) hc).1 hf,?_⟩
 obtain ⟨_,sl2,y2⟩:=y b _ x2 hc
 exact ⟨sl2,y2⟩
theorem Slid.mono {fs fs' ch ch':List Addr}{h h':Heap}(x:Slid fs ch h h')(hf:∀ b∈fs,b∈fs')(hc:∀ b∈ch,b∈ch'):Slid fs' ch' h h':=fun b o e n=>⟨fun z=>(x b o e fun q=>n (hc b q)).1 fun q=>z (hf b q),(x b o e fun q=>n (hc b q)).2⟩
def XAt (h:Heap)(e T:Addr)(cls fl:Value)(od:Option Addr):Prop:=∃ oe vs oT ts,h.get? e=some oe∧(oe.cls=cls∧oe.dict=od)∧oe.data = .fields vs∧vs[1]? = some (.ref T)∧T≠e∧h.get? T=some oT∧oT.data = .fields ts∧ts[3]? = some fl
section
variable {M:Model}{A:Around}{E:Value→Shared→Prop}{s:Shared}
theorem ze9 (f:Array Value→Array Value)(o:Obj):(Obj.mapFields f o).dict=o.dict:=by
 obtain ⟨c,d,dt,sl⟩:=o
 cases dt <;> rfl
theorem zi9 {base:Heap}{env:Env}{outer:List Env}{L e:Addr}{oe:Obj}{vs:Array Value}{head:Value}{hadNext:Bool}{Q:Unit→Shared→Prop}
  (hfr:A.frames=some (env :: outer)) (hl:s.heap.FunFrames base (env :: outer)) (hf:env.frame=some L)
  (he:s.heap.get? e=some oe) (hd:oe.data = .fields vs) (hsz:1<vs.size)
  (h:∀ h' T,s.heap.get? T=none→Slid ((env :: outer).filterMap (·.frame)) [e] s.heap h'→XAt h' e T oe.cls (rawInt L) oe.dict→Q () { s with heap:=h' }) :
  wpAny M A (do let a ← frameOf env;let pl ← entryPlaceOf L hadNext;let b ← EntryCells.newEntry head a .none (rawInt L) .none pl;setField (.ref e) 1 b) Q E s:=by
 have hene:e ∉ (env :: outer).filterMap (·.frame):=fun hm=>by
  obtain ⟨_,o,ho,hnf⟩:=hl.mem hm
  rw [he] at ho;injection ho with ho;subst ho;exact hnf vs hd
 refine Xaa (wpAny_frameOf_fun hfr hl hf fun h₁ hs₁=>?_)
 refine Xaa (wpAny_entryPlaceOf fun pl hpl=>?_)
 unfold EntryCells.newEntry newFields
 refine Xaa (XaR ?_ (hpl.sizeOk5 _ _ _ _ _))
 have he₁:h₁.get? e=some oe:=(hs₁.2.1 e hene).trans he
 have he₂:=Xab (h:=h₁) { cls:=.type "traceback",dict:=none,data:=.fields ([head,.ref L,.none,rawInt L,.none] ++ (if pl.isEmpty then List.replicate 6 Value.none else pl)).toArray } he₁
 refine Xa3 he₂ hd hsz (h _ h₁.objs.size ?_ ?_ ?_)
 ·rw [hs₁.1];exact Heap.get?_none_of_le (Xae _)
 ·intro b o hb hc
  have hbe:b≠e:=fun z=>hc (by rw [z];exact List.mem_singleton_self _)
  have keep:∀ o',h₁.get? b=some o' →
    ((h₁.push { cls:=.type "traceback",dict:=none,data:=.fields ([head,.ref L,.none,rawInt L,.none] ++ (if pl.isEmpty then List.replicate 6 Value.none else pl)).toArray }).update e (Obj.mapFields (·.setIfInBounds 1 (Value.ref h₁.objs.size)))).get? b=some o':=fun o' hb=>by
   rw [XaY _ _ (Ne.symm hbe)]
   exact Xab _ hb
  refine ⟨fun hn=>keep o ((hs₁.2.1 b hn).trans hb),?_⟩
  obtain ⟨sl,hs⟩:=hs₁.2.2 b o hb
  exact ⟨sl,keep _ hs⟩
 ·have hTe:h₁.objs.size≠e:=XbC (Xao he₁)
  have hd₃:=Obj.data_mapFields hd (·.setIfInBounds 1 (Value.ref h₁.objs.size))
  have he₃:=XaT (Obj.mapFields (·.setIfInBounds 1 (Value.ref h₁.objs.size))) he₂ (Obj.isFreed_of_fields hd₃)
  have hT₃:=(XaY (h₁.push { cls:=.type "traceback",dict:=none,data:=.fields ([head,.ref L,.none,rawInt L,.none] ++ (if pl.isEmpty then List.replicate 6 Value.none else pl)).toArray })
   (Obj.mapFields (·.setIfInBounds 1 (Value.ref h₁.objs.size))) (Ne.symm hTe)).trans (Xaj h₁ rfl)
  exact ⟨_,_,_,_,he₃,⟨Obj.cls_mapFields _ _,ze9 _ _⟩,hd₃,by simp [hsz],hTe,hT₃,rfl,by first | (simp;done) | (rcases hpl with rfl | ⟨_,_,_,_,_,_,_,rfl⟩ <;> simp)⟩
theorem zfY {base:Heap}{env:Env}{outer:List Env}{L e:Addr}{oe:Obj}{vs:Array Value}{Q:Unit→Shared→Prop}(hfr:A.frames=some (env :: outer))(hl:s.heap.FunFrames base (env :: outer))(hf:env.frame=some L)
  (he:s.heap.get? e=some oe) (hd:oe.data = .fields vs) (h1:vs[1]? = some .none)
  (h:∀ h' T,s.heap.get? T=none→Slid ((env :: outer).filterMap (·.frame)) [e] s.heap h'→XAt h' e T oe.cls (rawInt L) oe.dict→Q () { s with heap:=h' }):wpAny M A (noteFrame (.ref e) env) Q E s:=by
 unfold noteFrame
 simp only [hf]
 refine Xaa (XaS he hd h1 ?_)
 rw [if_neg (by decide)]
 exact zi9 hfr hl hf he hd (XbJ.mp h1).1 h
theorem zgU {base:Heap}{env:Env}{outer:List Env}{L e T:Addr}{cls:Value}{od:Option Addr}{Q:Unit→Shared→Prop}(hfr:A.frames=some (env :: outer))(hl:s.heap.FunFrames base (env :: outer))(hf:env.frame=some L)
  (x:XAt s.heap e T cls .none od)
  (h:∀ h' T',s.heap.get? T'=none→Slid ((env :: outer).filterMap (·.frame)) [e,T] s.heap h'→XAt h' e T' cls (rawInt L) od→Q () { s with heap:=h' }):wpAny M A (noteFrame (.ref e) env) Q E s:=by
 obtain ⟨oe,vs,oT,ts,he,⟨hcls,hdn⟩,hd,h1,hTe,hT,hdT,h3⟩:=x
 subst hcls hdn
 unfold noteFrame
 simp only [hf]
 refine Xaa (XaS he hd h1 ?_)
 rw [if_pos (show (Value.ref T != Value.none)=true from by simp)]
 refine Xaa (XaS hT hdT h3 ?_)
 rw [if_neg (show ¬ ((Value.none == rawInt L)=true) from by simp [rawInt])]
 refine Xaa (Xa3 hT hdT (XbJ.mp h3).1 ?_)
 have other:∀ b,b≠T→(s.heap.update T (Obj.mapFields (·.setIfInBounds 3 Value.none))).get? b=s.heap.get? b:=fun b hb=>XaY _ _ (Ne.symm hb)
 have noRecord:∀ b o,s.heap.get? b=some o→(∀ vs,o.data≠.fields vs)→b≠T:=fun b o hb hnf q=>by
  rw [q,hT] at hb;injection hb with hb;subst hb;exact hnf ts hdT
 refine zi9 hfr (hl.of_keeps fun b o hb hnf=>⟨o,(other b (noRecord b o hb hnf)).trans hb,rfl⟩) hf ((other e (Ne.symm hTe)).trans he) hd (XbJ.mp h1).1 fun h' T' fT sl x'=>h h' T' ?_ ?_ x'
 ·by_cases z:T'=T
  ·have hd':=Obj.data_mapFields hdT (·.setIfInBounds 3 Value.none)
   have q:=XaT (Obj.mapFields (·.setIfInBounds 3 Value.none)) hT (Obj.isFreed_of_fields hd')
   rw [z,q] at fT;cases fT
  ·exact (other T' z).symm.trans fT
 ·refine Slid.trans (Slid.of fun b o e hc=>(other b fun z=>hc (by rw [z];simp)).trans e) (sl.mono (fun _ z=>z) fun b z=>by rw [Xad.mp z];simp)
theorem zhO {e T:Addr}{cls fl:Value}{od:Option Addr}{Q:Unit→Shared→Prop}(x:XAt s.heap e T cls fl od)(h:∀ h',Slid [] [T] s.heap h'→XAt h' e T cls .none od→Q () { s with heap:=h' }):wpAny M A (setFlight (.ref e) none) Q E s:=by
 obtain ⟨oe,vs,oT,ts,he,hcls,hd,h1,hTe,hT,hdT,h3⟩:=x
 have hsz:=(XbJ.mp h3).1
 refine wpAny_setFlight_none he hd h1 hT hdT hsz (h _ ?_ ?_)
 ·exact Slid.of fun b o e hc=>(XaY _ _ fun z=>hc (by rw [z];exact List.mem_singleton_self _)).trans e
 ·have hd':=Obj.data_mapFields hdT (·.setIfInBounds 3 Value.none)
  have q:=XaT (Obj.mapFields (·.setIfInBounds 3 Value.none)) hT (Obj.isFreed_of_fields hd')
  exact ⟨oe,vs,_,_,(XaY _ _ hTe).trans he,hcls,hd,h1,hTe,q,hd',by simp [hsz]⟩
theorem zfp {base:Heap}{env:Env}{outer:List Env}{L e:Addr}{oe:Obj}{vs:Array Value}{Q:Unit→Shared→Prop}(hfr:A.frames=some (env :: outer))(hl:s.heap.FunFrames base (env :: outer))(hf:env.frame=some L)
  (he:s.heap.get? e=some oe) (hd:oe.data = .fields vs) (h1:vs[1]? = some .none)
  (h:∀ h' T,s.heap.get? T=none→Slid ((env :: outer).filterMap (·.frame)) [e] s.heap h'→XAt h' e T oe.cls .none oe.dict→Q () { s with heap:=h' }):wpAny M A (leaving env (.ref e)) Q E s:=by
 unfold leaving
 refine Xaa (zfY hfr hl hf he hd h1 fun h' T fT sl x=>zhO x fun h'' sl2 x2=>h h'' T fT ?_ x2)
 intro b o e hc
 obtain ⟨s1,t1,s2⟩:=sl b o e hc
 have nT:b ∉ [T]:=fun z=>by rw [Xad.mp z,fT] at e;cases e
 refine ⟨fun hn=>(sl2 b o (s1 hn) nT).1 (by simp),?_⟩
 exact (sl2 b _ s2 nT).2
end
end L2
end
section
namespace L2
open PySem PySem.Spec PyProof.Rows HT
section
variable {P:Program}{w:World}{H H':Hp}{h h':Heap}{fs ch:List Addr}
theorem ObjOk.there {a:Addr}{o:HO}(x:ObjOk P w H h a o):∃ u,h.get? a=some u:=by
 cases o with
 | lst xs=>obtain ⟨_,_,_,_,e⟩:=x;exact ⟨_,e⟩
 | tup xs=>obtain ⟨_,_,_,p⟩:=x;obtain ⟨o,e,_⟩:=p;exact ⟨_,e⟩
 | dK kvs=>obtain ⟨_,_,_,_,o,_,_,e,_⟩:=x;exact ⟨_,e⟩
 | dT kvs=>obtain ⟨_,_,_,_,o,_,_,e,_⟩:=x;exact ⟨_,e⟩
 | set S n=>obtain ⟨o,_,_,_,e,_⟩:=x;exact ⟨_,e⟩
 | ins C dx fs=>obtain ⟨_,_,_,e,_⟩:=x;exact ⟨_,e⟩
 | own y=>obtain ⟨_,e⟩:=x;exact ⟨_,e⟩
 | xd fs=>obtain ⟨_,⟨_,_,_,e,_⟩,_⟩:=x;exact ⟨_,e⟩
 | rng lo hi=>obtain ⟨_,_,_,e⟩:=x;exact ⟨_,e⟩
 | frz ob u=>obtain ⟨e,_⟩:=x;exact ⟨_,e⟩
 | tbl ps=>exact ⟨_,x⟩
 | met f y=>exact ⟨_,x⟩
 | ext φ=>obtain ⟨_,⟨_,e⟩,_⟩:=x;exact ⟨_,e⟩
theorem HOk.none_of {a:Addr}(x:HOk P w H h)(e:h.get? a=none):H a=none:=by
 cases q:H a with
 | none=>rfl
 | some o=>obtain ⟨u,z⟩:=(x a o q).there;rw [e] at z;cases z
theorem HOk.slid (x:HOk P w H h)(sl:Slid fs ch h h')(hf:∀ b∈fs,H b=none)(hc:∀ b∈ch,H b=none):HOk P w H h':=fun a o e=>by
 refine (x a o e).stay (fun b u hb q=>?_) (fun _ z=>z) (fun _ _ z=>z)
 have hs:∃ o',H b=some o':=by
  rcases hb with rfl | z
  ·exact ⟨_,e⟩
  ·exact ⟨_,z⟩
 obtain ⟨o',hs⟩:=hs
 exact (sl b u q fun z=>by rw [hc b z] at hs;cases hs).1 fun z=>by rw [hf b z] at hs;cases hs
end
section
variable {X:Cx}{pins:List (Addr×Obj)}{σ:St}{H:Hp}{s:Shared}{h':Heap}{ch:List Addr}
theorem Inv.none_ours (I:Inv X pins σ H s){b:Addr}(hb:s.heap.get? b=none)(hx:b ∉ X.ex):X.s₀.heap.get? b=none∧b≠X.env.locals∧(∀ x c,X.env.cells.lookup x=some c→c≠b)∧∀ p∈X.pn ++ pins,p.1≠b:=by
 refine ⟨?_,fun z=>?_,fun x c e z=>?_,fun p hp z=>?_⟩
 ·cases q:X.s₀.heap.get? b with
  | none=>rfl
  | some o=>obtain ⟨o',e⟩:=I.base.there b o q hx;rw [e] at hb;cases hb
 ·obtain ⟨m,⟨o,es,ep,ho,_⟩,_⟩:=I.loc
  rw [← z,hb] at ho;cases ho
 ·obtain ⟨v,oc,hoc,_⟩:=I.cell x c e
  rw [z,hb] at hoc;cases hoc
 ·obtain ⟨e,_⟩:=I.pin p hp
  rw [z,hb] at e;cases e
end
inductive CX1 (P:Program)(w:World)(outer:List Env)(H:Hp)(s:Shared)(E:XK)(e:Value)(s':Shared):Prop
 | mk (ea:_) (T:_) (H':_) (C:_) (od:_) (z0_:e = .ref ea) (z1_:s'.os=s.os) (z2_:AllBare s'.gens) (z3_:Un (frs outer) [] H H' s.heap s'.heap) (z4_:HOk P w H' s'.heap) (z5_:XAt s'.heap ea T (.ref C) .none od) (z6_:s.heap.get? ea=none) (z7_:s.heap.get? T=none) (z8_:H' ea=none) (z9_:H' T=none) (z10_:E (.ref C) od H')
theorem zkI {P:Program}{w:World}{K:W.Frag}{mg:Str→Option Value}{base:Heap}{N:List Str}{qual:Str}{scope:Scope}{f:Addr}{cd:Value}{A:Around}{outer:List Env}{s:Shared}{H:Hp}{E:XK}
  {pins:List (Addr×Obj)} {σ:St} {H1:Hp} {s2:Shared} {h':Heap} {e C:Addr} {vs:List Value} (I:Inv (cxOf (CX1 P w) P w K mg base N qual scope f cd A outer s H E) pins σ H1 s2) (m:Heap.MadeExcOf s2.heap h' e (.ref C) vs) (hE:E (.ref C) none H1) :
  (cxOf (CX1 P w) P w K mg base N qual scope f cd A outer s H E).xe (.ref e) { s2 with heap:=h' }:=by
 have I':Inv (cxOf (CX1 P w) P w K mg base N qual scope f cd A outer s H E) pins σ H1 { s2 with heap:=h' }:=I.kept (t':=s2.toks) m.keeps
 obtain ⟨t,he,_,_⟩:=m.there
 have b1:=I.base
 refine zfp I'.ok.frames I'.stack (L:=s.heap.objs.size) rfl he rfl rfl fun h'' T fT sl x=>?_
 have ne:∀ b o,s.heap.get? b=some o→b ∉ [e]:=fun b o q z=>by
  obtain ⟨o',q'⟩:=b1.there b o q (by show b ∉ ([]:List Addr);simp)
  rw [Xad.mp z,m.new] at q';cases q'
 have nL:∀ b o,s.heap.get? b=some o→b ∉ frs outer→b ∉ ((envOfC qual scope s.heap.objs.size f cd) :: outer).filterMap (·.frame):=fun b o q hb z=>by
  rcases Xan.mp (show b∈s.heap.objs.size :: outer.filterMap (·.frame) from z) with r | r
  ·exact absurd r (Xaz (Xao q))
  ·exact hb r
 have kb:∀ b o,s2.heap.get? b=some o→h'.get? b=some o:=m.keeps
 refine ⟨e,T,H1,C,none,rfl,I.os,I.bare,⟨fun b o q n hb _=>?_,fun b o q n hb _=>?_,fun b o q n _=>b1.free b o q n (by show b ∉ ([]:List Addr);simp),fun b o q _=>?_,b1.tups,b1.frzs,b1.tbls⟩,?_,x,?_,?_,?_,?_,hE⟩
 ·exact (sl b o (kb _ _ (b1.keep b o q n hb (by show b ∉ ([]:List Addr);simp))) (ne b o q)).1 (nL b o q hb)
 ·obtain ⟨t1,e1⟩:=b1.slot b o q n hb (by show b ∉ ([]:List Addr);simp)
  obtain ⟨t2,e2⟩:=(sl b _ (kb _ _ e1) (ne b o q)).2
  exact ⟨t2,e2⟩
 ·obtain ⟨o',e1⟩:=b1.there b o q (by show b ∉ ([]:List Addr);simp)
  obtain ⟨t2,e2⟩:=(sl b _ (kb _ _ e1) (ne b o q)).2
  exact ⟨_,e2⟩
 ·refine I'.hok.slid sl (fun b hb=>I'.stkFree b hb) fun b hb=>?_
  rw [Xad.mp hb]
  exact I.hok.none_of m.new
 ·cases q:s.heap.get? e with
  | none=>rfl
  | some o=>exact absurd (List.mem_singleton_self e) (ne e o q)
 ·cases q:s.heap.get? T with
  | none=>rfl
  | some o =>
   obtain ⟨o',q'⟩:=b1.there T o q (by show T ∉ ([]:List Addr);simp)
   have:=kb _ _ q'
   rw [show h'.get? T=none from fT] at this;cases this
 ·exact I.hok.none_of m.new
 ·exact I'.hok.none_of fT
end L2
end
section
namespace L2
open PySem PySem.Spec PyProof.Rows HT
def NsK (K:W.Frag)(N:Addr):Prop:=∃ c d es ep sl,K.lookup N=some ⟨c,d,.dict es ep,sl⟩∧StrKeys es∧nsFind es "__init__" = none
def bmV:List Value:=[.type "ValueError",.type "Exception",.type "BaseException",.type "object"]
inductive TailK (K:W.Frag):List Value→Prop
 | base:TailK K bmV
 | own {A:Addr} {c0:Value} {dd:Option Addr} {cd:ClassData} {sl:Array (Option Value)} {tl:List Value}:K.lookup A=some ⟨c0,dd,.cls cd,sl⟩→NsK K cd.ns→TailK K tl→TailK K (.ref A :: tl)
structure ExcK (K:W.Frag)(C:Addr):Prop where
 ex:∃ nm q N bs bm hdct sn sub ab col dd k0 k1 k2 k3 k5,K.lookup C=some (excClassObj nm q C N bs bm hdct sn sub ab col dd k0 k1 k2 k3 k5 "ValueError.__new__")∧NsK K N∧TailK K bm
theorem NsK.ns {K:W.Frag}{N:Addr}{h:Heap}(x:NsK K N)(k:K.In h):∃ m,h.Ns N m∧m "__init__" = none:=by
 obtain ⟨c,d,es,ep,sl,e,hs,hi⟩:=x
 exact ⟨nsFind es,⟨_,es,ep,k _ _ e,rfl,hs,fun _=>rfl⟩,hi⟩
theorem TailK.tail {K:W.Frag}{bm:List Value}{h:Heap}(x:TailK K bm)(k:K.In h):OwnTail h bmV bm:=by
 induction x with
 | base=>exact .base
 | own e n _ ih =>
  obtain ⟨m,hn,hi⟩:=n.ns k
  exact .own (k _ _ e) hn hi ih
section
variable {X:Cx}{x:Str}{C:Addr}{e:Expr}{te:TE}{np cpos pos:Pos}{R:Hp→Prop}
def one1 (R:Hp→Prop):List V→Hp→Prop
 | [_],H=>R H
 | _,_=>False
theorem zld {R:Hp→Prop}{vs:List V}{H:Hp}(h:one1 R vs H):∃ v,vs=[v]∧R H:=by
 match vs,h with
 | [v],h=>exact ⟨v,rfl,h⟩
theorem zjv (hg:Gl X x)(hm:X.mg x=some (.ref C))(hk:ExcK X.K C)(hc:X.calm=true)(he:PE X e te)
  (hx:∀ (pins:List (Addr×Obj)) (σ:St) (H1:Hp) (s2:Shared) (h':Heap) (ea:Addr) (vs:List Value),Inv X pins σ H1 s2→Heap.MadeExcOf s2.heap h' ea (.ref C) vs→R H1→X.xe (.ref ea) { s2 with heap:=h' })
  (hd:(x == ("__debug__" : Str))=false:=by decide) (hst:starEach [e] X.env=(false,eval e X.env) :: starEach [] X.env:=by rfl) (hpl:(backTo cpos (starEach [] X.env)).any (·.1)=false:=by rfl) :
  PS X (.Raise (some (.Call (.Name x np) [e] [] cpos)) none pos) (fun _ σ H=>te σ H fun _ H1=>R H1):=by
 intro pins s σ H D I h
 obtain ⟨nm,q,N,bs,bm,hdct,sn,sub,ab,col,dd,k0,k1,k2,k3,k5,hC,hN,hT⟩:=hk.ex
 obtain ⟨c,d,es,ep,sl,hNl,hNs,hi⟩:=hN
 have T:=hT.tail I.kIn
 refine wpAny_Raise_call_subT (C:=C) (nm:=nm) (q:=q) (N:=N) (bs:=bs) (bm:=bm) (hdct:=hdct) (sn:=sn) (sub:=sub) (ab:=ab) (col:=col) (dd:=dd) (k0:=k0) (k1:=k1) (k2:=k2) (k3:=k3) (k5:=k5)
  PySem.F.excBase_ValueError (mN:=nsFind es) (T.hasType PySem.F.excBase_ValueError.hasBase) (I.ok.hd hc) (by rw [hst];show (false || (backTo cpos (starEach [] X.env)).any (·.1))=false;rw [hpl];rfl) hi (zeP I hg hm ⟨rfl,?_⟩ hd)
 have h2:=(zaa (t:=tNil) he zac hst) cpos pins s σ H (one1 R) I h
 rw [hst] at h2 ⊢
 refine Calls.evalArgs_plain (thn h2 fun us s2 h3=>?_)
 obtain ⟨vs,H1,I2,r,q1⟩:=h3
 obtain ⟨v,rfl,q1⟩:=zld q1
 have hl:us.length=1:=r.length.symm
 refine ⟨rfl,by show us.length≤sizeLine;rw [hl];decide,I2.kIn _ _ hC,⟨_,es,ep,I2.kIn _ _ hNl,rfl,hNs,fun _=>rfl⟩,hT.tail I2.kIn,fun h' ea hm'=>hx pins σ H1 s2 h' ea us I2 hm' q1⟩
end
end L2
end
section
namespace L2
open PySem PySem.Spec PyProof.Rows HT
theorem PS.nox {X:Cx}{st:Stmt}{t:TS}(h:PS X.nox st t):PS X st t:=fun pins s σ H D I hw =>
 Xax (h pins s σ H D (I.wish _) hw) (fun _ _ q=>q.unwish) fun _ _ z=>False.elim z
theorem Fun.okX {P:Program}{w:World}{K:W.Frag}{mg:Str→Option Value}{base:Heap}{x qual:Str}{st:Stmt}{f:Addr}{fd:FuncData}{N ps:List Str}{k:Nat}{sp:Sp}(F:Fun K x qual st f fd)(S:FnScope N ps (zah st))(len:∀ vs H Q E,sp vs H Q E→vs.length=ps.length)
  (hbody:∀ (cdv:Value) (A:Around) (outer:List Env) (s:Shared) (H:Hp) (vs:List V) (Q:VK) (E:XK),Room k (A.deeper (envOfC qual (zah st) s.heap.objs.size f cdv))→sp vs H Q E →
   ∃ t,PSs (cxOf (CX1 P w) P w K mg base N qual (zah st) f cdv A outer s H E) (zbc st) t∧t { nx:=fun _ H'=>Q .non H',rt:=Q } (start N vs) H):FnOk P w K mg base (CX1 P w) (k+1) f fd ps sp:=by
 obtain ⟨oc,od,kV,doc,pm,an,cdv,ct,osl,rfl,lk,hcd⟩:=F.ex
 exact zm0 lk hcd S len fun A outer s H vs Q E hr hsp=>hbody cdv A outer s H vs Q E hr hsp
structure CalX (P:Program)(w:World)(K:W.Frag)(mg:Str→Option Value)(base:Heap)(k:Nat)(x:Str)(ps:List Str)(sp:Sp):Prop where
 ex:∃ f fd,FnOk P w K mg base (CX1 P w) k f fd ps sp∧mg x=some (.ref f)∧W.keepIn K (.ref f)=true∧Binds K fd ps []
section
variable {X:Cx}{pins:List (Addr×Obj)}{σ:St}{H:Hp}{s:Shared}
end
end L2
end
section
namespace L2
open PySem PySem.Spec PyProof.Rows HT
section
variable {X:Cx}{k:Nat}{ps:List Str}{sp:Sp}{x fn cn n y:Str}{i j l:Nat}{Cb:Addr}{e:Expr}{t:TA}{px p1 p2 p3 p4 p5 p6 p7 p8 p9:Pos}
end
end L2
end
section
namespace L2
open PySem PySem.Spec PyProof.Rows HT PySem.W PySem.Calls
section
variable {prog:Program}{w:World}{A:Around}{E:Value→Shared→Prop}{s:Shared}{K:Frag}{x C:Addr}{ox:Obj}{oD:Option Obj}
end
section
variable {X:Cx}{K:Frag}
end
end L2
end
section
namespace L2
open PySem PySem.Spec PyProof.Rows HT
theorem FnOk.calm {P:Program}{w:World}{K:W.Frag}{mg:Str→Option Value}{base:Heap}{k:Nat}{f:Addr}{fd:FuncData}{ps:List Str}{sp:Sp}(F:FnOk P w K mg base (CX1 P w) k f fd ps sp) :
  FnOk P w K mg base CX0 k f fd ps (fun vs H Q _=>sp vs H Q fun _ _ _=>False):=
 ⟨fun vs H Q E h=>F.len vs H Q _ h,fun A outer s H args us vs Q E hr he hb hv hs=>codeAny_mono (F.run A outer s H args us vs Q _ hr he hb hv hs) fun r s' h=>by
  cases r with
  | ok fl=>cases fl <;> exact h
  | error e=>obtain ⟨_,_,_,_,_,_,_,_,_,_,_,_,_,_,_,z⟩:=h;exact z.elim⟩
section
variable {X:Cx}{K:W.Frag}
inductive tFsI_1 (Q:VK)(y:V)(H2:Hp):Prop
 | mk (b:Str) (z0_:y = .str b) (z1_:b.length≤1000) (z2_:∀ z:Str,Q (.str z) H2)
inductive tFsI_2 (tb:TE)(σ:St)(Q:VK)(x:V)(H1:Hp):Prop
 | mk (i:Int) (z0_:x = .int i) (z1_:i.natAbs<1000) (z2_:tb σ H1 (tFsI_1 Q))
def tFsI (ta tb:TE):TE:=fun σ H Q=>ta σ H (tFsI_2 tb σ Q)
theorem pe_fsI {v e:Expr}{pos p2:Pos}{ta tb:TE}(hv:PE X v ta)(he:PE X e tb)(hE:evalEach [] X.env=[]:=by rfl):PE X (.JoinedStr [.FormattedValue v (-1) none p2,e] pos) (tFsI ta tb):=by
 intro pins s σ H Q I h
 refine JoinedStr_many ?_
 rw [hE]
 refine joinParts_cons (FormattedValue_plain (thn (hv pins s σ H _ I h) fun u s1 hh_=>?_))
 obtain ⟨x,H1,I1,rx,i,ex,hi,q⟩:=hh_
 subst ex
 obtain ⟨t,rfl⟩:=(show ∃ t,u=Value.int i t from rx)
 have hlog:i.natAbs.log2<1920:=by
  by_cases z:i.natAbs=0
  ·rw [z];decide
  ·exact Xak ((Nat.log2_lt z).mpr (show i.natAbs<2 ^ 10 by omega)) (by decide)
 have hlen:(Str.ofString (toString i)).length≤1002:=by
  have:=len_str_of_int i
  omega
 have l0:Str.empty.length=0:=rfl
 have hz:(3000:Nat)≤sizeLine:=by decide
 refine formatField_int_small hlog ⟨by rw [strLen_append];omega,?_⟩
 refine joinParts_cons (thn (he pins _ σ H1 _ ((I1.tok _).tok _) q) fun u2 s2 hh_=>?_)
 obtain ⟨y,H2,I2,ry,b,ey,lb,q2⟩:=hh_
 subst ey
 obtain ⟨t2,rfl⟩:=(show ∃ t,u2=Value.str b t from ry)
 refine ⟨by rw [strLen_append,strLen_append];omega,?_⟩
 exact joinParts_nil ⟨.str _,H2,I2.tok _,⟨_,rfl⟩,q2 _⟩ (by rw [strLen_append,strLen_append];omega)
end
end L2
end
section
namespace L2
open PySem PySem.Spec PyProof.Rows HT
theorem zkH {P:Program}{w:World}{K:W.Frag}{mg:Str→Option Value}{base:Heap}{N:List Str}{qual:Str}{scope:Scope}{f:Addr}{cd:Value}{A:Around}{outer:List Env}{s:Shared}{H:Hp}{E:XK} :
  zgS (CX1 P w) (cxOf (CX1 P w) P w K mg base N qual scope f cd A outer s H E) E:=by
 intro pins σ H1 s1 ev s' I hq
 obtain ⟨ea,T,H',C,od,rfl,os,bare,un,hok,xa,f1,f2,n1,n2,hE⟩:=hq
 have J:Inv (cxOf (CX1 P w) P w K mg base N qual scope f cd A outer s H E) pins σ H' s':=I.call' (ch:=[]) os un hok bare (fun b z=>absurd z (by simp))
 have b1:=J.base
 have o1:=I.none_ours f1 (show ea ∉ ([]:List Addr) by simp)
 have o2:=I.none_ours f2 (show T ∉ ([]:List Addr) by simp)
 show wpAny _ _ (leaving _ (.ref ea)) _ _ s'
 unfold leaving
 refine Xaa (zgU J.ok.frames J.stack (L:=s.heap.objs.size) rfl xa fun h1 T2 fT2 sl x2=>zhO x2 fun h2 sl2 x3=>?_)
 have oT:s.heap.get? T2=none:=(J.none_ours fT2 (show T2 ∉ ([]:List Addr) by simp)).1
 have o1':s.heap.get? ea=none:=o1.1
 have o2':s.heap.get? T=none:=o2.1
 have nT2:∀ b o,s.heap.get? b=some o→b ∉ [T2]:=fun b o q z=>by rw [Xad.mp z,oT] at q;cases q
 have ne:∀ b o,s.heap.get? b=some o→b ∉ [ea,T]:=fun b o q z=>by
  rcases Xan.mp z with r | r
  ·rw [r,o1'] at q;cases q
  ·rw [Xad.mp r,o2'] at q;cases q
 have nL:∀ b o,s.heap.get? b=some o→b ∉ frs outer→b ∉ ((envOfC qual scope s.heap.objs.size f cd) :: outer).filterMap (·.frame):=fun b o q hb z=>by
  rcases Xan.mp (show b∈s.heap.objs.size :: outer.filterMap (·.frame) from z) with r | r
  ·exact absurd r (Xaz (Xao q))
  ·exact hb r
 have J1:HOk P w H' h1:=J.hok.slid sl (fun b hb=>J.stkFree b hb) fun b hb=>by
  rcases Xan.mp hb with rfl | hb
  ·exact n1
  ·rw [Xad.mp hb];exact n2
 have n3:H' T2=none:=J.hok.none_of fT2
 refine ⟨ea,T2,H',C,od,rfl,J.os,J.bare,⟨fun b o q n hb _=>?_,fun b o q n hb _=>?_,fun b o q n _=>b1.free b o q n (by show b ∉ ([]:List Addr);simp),fun b o q _=>?_,b1.tups,b1.frzs,b1.tbls⟩,?_,x3,o1',oT,n1,n3,hE⟩
 ·have q1:=(sl b o (b1.keep b o q n hb (by show b ∉ ([]:List Addr);simp)) (ne b o q)).1 (nL b o q hb)
  exact (sl2 b o q1 (nT2 b o q)).1 (by simp)
 ·obtain ⟨t1,e1⟩:=b1.slot b o q n hb (by show b ∉ ([]:List Addr);simp)
  obtain ⟨t2,e2⟩:=(sl b _ e1 (ne b o q)).2
  exact (sl2 b _ e2 (nT2 b o q)).2.elim fun t3 e3=>⟨t3,e3⟩
 ·obtain ⟨o',e1⟩:=b1.there b o q (by show b ∉ ([]:List Addr);simp)
  obtain ⟨t2,e2⟩:=(sl b _ e1 (ne b o q)).2
  obtain ⟨t3,e3⟩:=(sl2 b _ e2 (nT2 b o q)).2
  exact ⟨_,e3⟩
 ·exact J1.slid sl2 (fun b hb=>nomatch hb) fun b hb=>by rw [Xad.mp hb];exact n3
section
variable {P:Program}{w:World}{K:W.Frag}{mg:Str→Option Value}{base:Heap}{N:List Str}{qual:Str}{scope:Scope}{f:Addr}{cd:Value}{A:Around}{outer:List Env}{s:Shared}{H:Hp}{E:XK}
variable {k:Nat}{ps:List Str}{sp:Sp}{x:Str}{p pos:Pos}{e:Expr}{es:List Expr}{t:TA}
theorem zmK (C:CalX P w K mg base k x ps sp)(hr:Room k (cxOf (CX1 P w) P w K mg base N qual scope f cd A outer s H E).A)(hg:Gl (cxOf (CX1 P w) P w K mg base N qual scope f cd A outer s H E) x)(ha:PA (cxOf (CX1 P w) P w K mg base N qual scope f cd A outer s H E) (e :: es) t)(hdb:(x == ("__debug__" : Str))=false:=by decide)
  (he:starEach (e :: es) (cxOf (CX1 P w) P w K mg base N qual scope f cd A outer s H E).env=(false,eval e (cxOf (CX1 P w) P w K mg base N qual scope f cd A outer s H E).env) :: starEach es (cxOf (CX1 P w) P w K mg base N qual scope f cd A outer s H E).env:=by rfl) (hpl:(backTo pos (starEach es (cxOf (CX1 P w) P w K mg base N qual scope f cd A outer s H E).env)).any (·.1)=false:=by rfl):PE (cxOf (CX1 P w) P w K mg base N qual scope f cd A outer s H E) (.Call (.Name x p) (e :: es) [] pos) (zje sp [] E t):=by
 obtain ⟨f',fd,F,hm,hk,hb⟩:=C.ex
 exact zjD F hr hg hm hk hb .nil zkH ha hdb he hpl
end
inductive rBitLen (x:V)(vs:List V)(H:Hp)(Q:VK):Prop
 | mk (i:Int) (z0_:x = .int i) (z1_:vs=[]) (z2_:Q (.int (Builtin.Int.intBits i:Nat)) H)
theorem zjS {X:Cx}:MtR X "int.bit_length" rBitLen:=by
 rintro pins s σ H x vs v us Q I rx rv ⟨i,rfl,rfl,q⟩
 obtain ⟨t,rfl⟩:=(show ∃ t,v=Value.int i t from rx)
 have hus:=rv.zero
 subst hus
 exact call_int_bit_length ⟨.int (Builtin.Int.intBits i:Nat),H,I.tok _,⟨_,rfl⟩,q⟩
end L2
end
section
namespace L2
open PySem PySem.Spec PyProof.Rows HT
section
variable {X:Cx}{k:Nat}{ps:List Str}{sp:Sp}{x fn cn n y:Str}{i j l:Nat}{Cb:Addr}{e:Expr}{es:List Expr}{t:TA}{px p1 p2 p3 p4 p5 p6 p7 p8 p9:Pos}
end
end L2
end
section
namespace L2
open PySem PySem.Spec PyProof.Rows HT
theorem zgB {prog:Program}{w:World}{A:Around}(hh:A.handled=none)(it l:Addr)(hne:l≠it)(items:Array Value) :
  Draws prog w A it [it,l] items.size (fun i v=>items[i]? = some v) (fun i h=>IsIt true h it l i∧IsSq true h l items) where
 live:=fun _ _ st=>let ⟨o,ho,_⟩:=st.1;⟨o,ho⟩
 frame:=fun _ _ _ st hk=>⟨st.1.at fun o e=>hk it (by simp) o e,st.2.at fun o e=>hk l (by simp) o e⟩
 item:=fun i s Q E hi st hQ=>by
  refine zhy st.1 st.2 (x:=items[i]) (by simp [hi]) fun h' hit' hs'=>?_
  exact hQ _ h' s.toks (by simp [hi]) ⟨hit',st.2.at fun o e=>hs'.extBut l o hne e⟩ hs'
 done:=fun s Q E st hE=>zl1 hh st.1 st.2 (by simp) hE
set_option tactic.hygienic true in
theorem zcy (l:Addr)(items:Array Value)(n:Nat)(dct:Option Addr)(sl:Array (Option Value)) :
  Meets (Builtin.«enumerate.__new__» ⟨[.type "enumerate",.ref l],[]⟩) (fun _ R s=>s.heap.get? l=some { cls:=.type "tuple",dict:=dct,data:=.seq items n,slots:=sl } ∧
   R (.ok (.ret (.ref (s.heap.push { cls:=.type "tuple_iterator",data:=.fields #[.ref l,.int 0 0] }).objs.size)))
    { s with heap:=(s.heap.push { cls:=.type "tuple_iterator",data:=.fields #[.ref l,.int 0 0] }).push { cls:=.type "enumerate",data:=.fields #[.none,.bool false,.ref s.heap.objs.size,rawInt 0,.none,.none] } }):=
 .of_wp fun prog w A R s h=>by
  obtain ⟨hp,g,d,tk,os⟩:=s;obtain ⟨hl,h⟩:=h
  have hsub:=sub_enumerate
  have hL:Heap.IsTuple (Shared.heap ⟨hp,g,d,tk,os⟩) l items:=⟨_,hl,rfl,n,rfl⟩
  wp_walk using wpAny_loadPart' hl
  refine wpAny_stack_any fun st=>Xac ?_
  split
  ·rename_i c _ _ _ _ _
   cases (c == Value.type "enumerate")
   ·wp_walk using wpAny_loadPart' hl,XbT hL
    exact ⟨_,rfl,h⟩
   ·wp_walk using wpAny_loadPart' hl,XbT hL
    exact ⟨_,rfl,h⟩
  ·wp_walk using wpAny_loadPart' hl,XbT hL
   exact ⟨_,rfl,h⟩
theorem zde {prog:Program}{w:World}{A:Around}{E:Value→Shared→Prop}{s:Shared}{l:Addr}{items:Array Value}{Q:Value→Shared→Prop}(hL:IsSq true s.heap l items)
  (h:∀ h',IsEnum h' (s.heap.objs.size+1) s.heap.objs.size 0 .none→IsIt true h' s.heap.objs.size l 0→h'.objs.size=s.heap.objs.size+2 →
   (∀ b o,s.heap.get? b=some o→h'.get? b=some o)→Q (.ref (s.heap.objs.size+1)) { s with heap:=h' }) :
  wpAny (model prog w) A (call (.type "enumerate") [.ref l]) Q E s:=by
 obtain ⟨⟨c,dct,dt,sl⟩,hl,hc,n,hd⟩:=hL
 replace hc:c = .type "tuple" := hc
 replace hd:dt = .seq items n:=hd
 subst hc hd
 refine callType_new F.called_enumerate (by decide) (F.typeCall_enumerate_1 _) (F.newCall_enumerate_1 _) (fun obj=>F.args_object_init_2 obj _) F.entry_enumerate_new
  (zcy l items n dct sl) ⟨hl,?_⟩
 have hz:(s.heap.push { cls:=.type "tuple_iterator",data:=.fields #[.ref l,.int 0 0] }).objs.size=s.heap.objs.size+1:=XaN ..
 show _∧_
 rw [hz]
 have he:IsEnum ((s.heap.push { cls:=.type "tuple_iterator",data:=.fields #[.ref l,.int 0 0] }).push
   { cls:=.type "enumerate",data:=.fields #[.none,.bool false,.ref s.heap.objs.size,rawInt 0,.none,.none] }) (s.heap.objs.size+1) s.heap.objs.size 0 .none:=by
  have:=Xaj (s.heap.push { cls:=.type "tuple_iterator",data:=.fields #[.ref l,.int 0 0] })
   (o:={ cls:=.type "enumerate",data:=.fields #[.none,.bool false,.ref s.heap.objs.size,rawInt 0,.none,.none] }) rfl
  rw [hz] at this;exact this
 refine ⟨⟨_,he,rfl⟩,h _ he ⟨_,Xab _ (Xaj _ rfl),rfl,rfl⟩ (by rw [XaN,hz]) fun b o x=>Xab _ (Xab _ x)⟩
def IteT (K:W.Frag)(a:Addr):It:=
 ⟨fun i H=>∃ xs x,SqT K H a xs∧xs[i]? = some x,
  fun i H v H'=>∃ T x,H T=none∧v = .ref T∧H'=upd H T (.tup [.int i,x])∧∀ xs,SqT K H a xs→xs[i]? = some x,
  fun i H=>∃ xs,SqT K H a xs∧xs.length=i⟩
theorem zis {P:Program}{w:World}{K:W.Frag}{elts:List Expr}{kt:Nat}{tp:Pos}(a e it:Addr)(hne:e≠it) :
  Turn P w K (.Tuple elts kt tp) (IteT K a) [e,it] e (fun i h=>(∃ old,IsEnum h e it i old)∧IsIt true h it a i) where
 mem:=by simp
 obj:=fun i h st b hb=>by
  obtain ⟨⟨old,he⟩,hi⟩:=st
  rcases Xan.mp hb with z | z
  ·subst z
   exact ⟨_,he,fun v z=>by
    have z':Data.fields _=Data.cell v:=z
    cases z'⟩
  ·have z:=Xad.mp z
   subst z
   obtain ⟨o,e1,c,d⟩:=hi
   exact ⟨o,e1,fun v z=>by rw [d] at z;cases z⟩
 keep:=fun i h h' st k=>by
  obtain ⟨⟨old,he⟩,hi⟩:=st
  exact ⟨⟨old,k e (by simp) _ he⟩,hi.at fun o e1=>k it (by simp) o e1⟩
 item:=by
  intro X hP hw hK hc i pins s σ H E I hf st hg
  subst hP hw hK
  obtain ⟨xs,x,hq,hx⟩:=hg
  obtain ⟨its,rv,p,hz⟩:=I.tuple hq
  obtain ⟨u,hu,ru⟩:=rv.get hx
  obtain ⟨⟨old,he⟩,hi⟩:=st
  have hsq:IsSq true s.heap a its.toArray:=p
  have cls:∀ b o,s.heap.get? b=some o→o.cls≠.type "tuple" → a≠b:=fun b o e nc z=>by
   obtain ⟨oa,ea,ca,_⟩:=hsq
   rw [z,e] at ea;cases ea;exact nc ca
  have hai:a≠it:=by
   obtain ⟨o,e1,c,_⟩:=id hi
   exact cls it o e1 (by rw [c];decide)
  have hae:a≠e:=cls e _ he (by show Value.type "enumerate" ≠ Value.type "tuple"; decide)
  have hlt:i<its.toArray.size:=by
   have:=(Xaf.mp hu).1
   simpa using this
  refine wpAny_pyNext_enum_itemD (zgB (prog:=X.prog) (w:=X.w) (A:=X.A.in1) (show X.A.in1.handled=none from I.ok.hd hc) it a hai its.toArray) he ⟨hi,hsq⟩ hlt hne (by simp [hne,Ne.symm hae]) fun x' h' tk hx' ho st' ht hsz kk=>⟨_,rfl,?_⟩
  have ex:x'=u:=by
   have e1:its[i]? = some x':=by simpa using hx'
   rw [hu] at e1;cases e1;rfl
  subst ex
  refine wpAny_letOwnedTupleGo_enum ho fun h2 he2 sb=>?_
  have fT:FpOk X pins H s.heap.objs.size:=I.fpOk (Xae _) (I.hok.fresh (Xae _))
  have k2:∀ b o,b ∉ [e,it]→s.heap.get? b=some o→h2.get? b=some o:=fun b o hb e1=>by
   simp only [Xan,Xbh,or_false,not_or] at hb
   exact (sb.2 b hb.1).trans (kk b o hb.1 hb.2 e1)
  have I1:Inv X pins σ H { s with heap:=h2,toks:=tk+1 }:=I.turnedL (ch:=[e,it]) k2 hf
  have eT:h2.get? s.heap.objs.size=some { cls:=.type "tuple",data:=.seq #[.int i tk,x'] }:=(sb.2 _ (XbC (Xao he))).trans ht
  have I2:=I1.track (o:=.tup [.int i,x]) fT (Xam I.sz (Xae _)) (zgX ⟨_,rfl⟩ ru eT)
  refine ⟨.ref s.heap.objs.size,_,I2,rfl,⟨_,x,fT.1,rfl,rfl,fun ys hy=>by rw [I.tuple_inj hy hq];exact hx⟩,⟨⟨x',by exact_mod_cast he2⟩,st'.1.at fun o e1=>sb.extBut it o (Ne.symm hne) e1⟩,fun b hb=>?_⟩
  obtain ⟨o,eb⟩:∃ o,s.heap.get? b=some o:=by
   rcases Xan.mp hb with z | z
   ·subst z;exact ⟨_,he⟩
   ·have z:=Xad.mp z
    subst z
    obtain ⟨o,e1,_⟩:=hi
    exact ⟨o,e1⟩
  rw [zai (Xaz (Xao eb))]
  exact (hf b hb).1
 done:=by
  intro X hP hw hK hc i pins s σ H E I hf st hg
  subst hP hw hK
  obtain ⟨xs,hq,hx⟩:=hg
  obtain ⟨its,rv,p,hz⟩:=I.tuple hq
  obtain ⟨⟨old,he⟩,hi⟩:=st
  have hl:=rv.length
  have hsq:IsSq true s.heap a its.toArray:=p
  have hai:a≠it:=fun z=>by
   obtain ⟨oa,ea,ca,_⟩:=id hsq
   obtain ⟨o,e1,c,_⟩:=id hi
   rw [z,e1] at ea;cases ea
   rw [c] at ca;exact absurd ca (by decide)
  have en:its.toArray.size=i:=by rw [Xat];omega
  refine wpAny_pyNext_enum_endD (zgB (prog:=X.prog) (w:=X.w) (A:=X.A.in1) (show X.A.in1.handled=none from I.ok.hd hc) it a hai its.toArray) he (by rw [en];exact ⟨hi,hsq⟩) fun h' eb=>⟨rfl,I.turnedL (t':=s.toks) (ch:=[e,it]) (fun b o hb e1=>eb b o (fun z=>hb (by simp [z])) e1) hf⟩
 self:=fun _ _ _ _ _ st h=>by
  obtain ⟨⟨old,he⟩,hi⟩:=st
  exact wpAny_pyIter_enum he h
inductive iEnumT_1 (K:W.Frag)(R:It→Hp→Prop)(vs:List V)(H1:Hp):Prop
 | mk (a:_) (z0_:vs=[.ref a]) (z1_:(∃ xs,SqT K H1 a xs)) (z2_:R (IteT K a) H1)
def iEnumT (K:W.Frag)(ta:TA):TI:=fun σ H R=>ta σ H (iEnumT_1 K R)
theorem zd0 {X:Cx}{a:Expr}{ta:TA}{p pos:Pos}{elts:List Expr}{kt:Nat}{tp:Pos}(hg:Gl X "enumerate")(hm:X.mg "enumerate" = none)(ha:PA X [a] ta)(hs:starEach [a] X.env=[(false,eval a X.env)]:=by rfl) :
  PI X (.Tuple elts kt tp) (.Call (.Name "enumerate" p) [a] [] pos) (iEnumT X.K ta):=by
 intro pins s σ H R I h
 refine Call_ (zc6 I hg hm boot_enumerate (PyProof.Rows.callWith_type1 (thn (ha pos pins s σ H _ I h) fun us s1 hh_=>?_) hs rfl))
 obtain ⟨vs,H1,I1,r1,q1⟩:=hh_
 obtain ⟨l,e,⟨xs,hq⟩,q⟩:=q1
 subst e
 obtain ⟨u,rfl,ru⟩:=zd8 r1
 cases ru
 obtain ⟨its,rv,pl,hz⟩:=I1.tuple hq
 refine zde (items:=its.toArray) pl fun h' he hi hsz kk=>?_
 refine wpAny_pyIter_enum he ?_
 have I2:Inv X pins σ H1 { s1 with heap:=h',toks:=s1.toks }:=I1.kept kk
 refine ⟨s1.heap.objs.size+1,[s1.heap.objs.size+1,s1.heap.objs.size],_,_,H1,rfl,I2,zis l _ _ (Nat.succ_ne_self _),⟨⟨_,he⟩,hi⟩,fun b hb=>?_,q⟩
 rcases Xan.mp hb with z | z
 ·subst z;exact I1.fpOk (XbN _) (I1.hok.fresh (XbN _))
 ·have z:=Xad.mp z
  subst z;exact I1.fpOk (Xae _) (I1.hok.fresh (Xae _))
theorem zc9 {K:PySem.W.Frag}{a:Addr}{xs:List V}{g:TG}{tb:TS}{D:Ends}{σ:St}{H:Hp}(Pv:Nat→St→Hp→Prop)(h0:Pv 0 σ H)(hl:∀ i σ H,i≤xs.length→Pv i σ H→SqT K H a xs)
  (hs:∀ i x T σ H,xs[i]? = some x→H T=none→Pv i σ H→g (.ref T) σ (upd H T (.tup [.int i,x])) fun σ2 H2=>tb { D with nx:=Pv (i+1),ct:=Pv (i+1),bk:=D.nx } σ2 H2) (hd:∀ σ H,Pv xs.length σ H→D.nx σ H) :
  ∃ W:Nat→Nat→St→Hp→Prop,(∃ m,W 0 m σ H)∧∀ i m σ H,W i m σ H →
   ((IteT K a).stop i H∧D.nx σ H)∨((IteT K a).go i H∧∃ N:St→Hp→Prop,(∀ σ' H',N σ' H'→∃ m',m'<m∧W (i+1) m' σ' H')∧∀ x H',(IteT K a).yld i H x H'→g x σ H' fun σ2 H2=>tb { D with nx:=N,ct:=N,bk:=D.nx } σ2 H2):=by
 refine ⟨fun i m σ H=>m=xs.length - i∧i≤xs.length∧Pv i σ H,⟨xs.length,by simp,Nat.zero_le _,h0⟩,?_⟩
 rintro i m σ H ⟨rfl,hi,p⟩
 have q:=hl i σ H hi p
 by_cases hlt:i<xs.length
 ·refine .inr ⟨⟨xs,xs[i],q,by simp [hlt]⟩,Pv (i+1),fun σ' H' p'=>⟨xs.length - (i+1),by omega,rfl,hlt,p'⟩,fun v H' y=>?_⟩
  obtain ⟨T,x,hT,rfl,rfl,y⟩:=y
  exact hs i x T σ _ (y xs q) hT p
 ·have e:i=xs.length:=by omega
  subst e
  exact .inl ⟨⟨xs,q,rfl⟩,hd σ H p⟩
end L2
end
section
namespace L2
open PySem PySem.Spec PyProof.Rows HT
section
variable {prog:Program}{w:World}{A:Around}{E:Value→Shared→Prop}{s:Shared}
theorem zf1 {r:Addr}{Q:Value→Shared→Prop}(h:wpAny (model prog w) A.in1 (collect (.ref r)) (fun vs s1=>vs.length≤sizeLine∧wpAny (model prog w) A.in1.in1 (Builtin.«list.sort» ⟨[.ref s1.heap.objs.size],[]⟩)
   (fun fin s2=>fin = .done (.ret .none)∧Q (.ref s1.heap.objs.size) s2) E { s1 with heap:=s1.heap.push (seqObj "list" vs.toArray 0) }) E s) :
  wpAny (model prog w) A (call (.builtin "sorted") [.ref r]) Q E s:=by
 refine Calls.call_function_entry kind_sorted plain_sorted entry_sorted (args_sorted1 _) ?_
 unfold Builtin.«sorted»
 refine Xaa (m:=checkCount "sorted" 1 1 _) (Xac ?_)
 refine Xaa (Xax h (fun vs s1 ⟨hz,h⟩=>?_) fun _ _ e=>e)
 refine Xaa (wpAny_newList ?_ hz)
 refine Xaa (Xba (XaW slot_list_sort ⟨_,Xaj _ rfl,rfl⟩ entry_list_sort (Xax h (fun fin s2 ⟨e,q⟩=>?_) fun _ _ e=>e) (args_list_sort _)))
 subst e
 exact ⟨_,rfl,Xac ⟨_,rfl,q⟩⟩
end
theorem zh9:∀ {vs:List Value} {ns:List Int},vs.length=ns.length→(∀ (j:Nat) (v:Value),vs[j]? = some v→∃ n t,ns[j]? = some n∧v = .int n t)→IntsAre vs ns
 | [],[],_,_=>.nil
 | v :: vs,n :: ns,hl,h=>by
  obtain ⟨m,t,e,rfl⟩:=h 0 v rfl
  cases e
  exact .cons _ _ (zh9 (by simpa using hl) fun j v hv=>h (j+1) v hv)
 | [],_ :: _,hl,_=>by simp at hl
 | _ :: _,[],hl,_=>by simp at hl
theorem zgu {κ:Type}:∀ {kvs:List (κ×V)} {vs:List (κ×Value)},KV kvs vs→vs.length=kvs.length
 | _,_,.nil=>rfl
 | _,_,.cons _ r=>by rw [Xar,Xar,zgu r]
theorem zl3 {κ:Type}:∀ {kvs:List (κ×V)} {vs:List (κ×Value)},KV kvs vs→∀ (j:Nat) (k:κ) (x:Value),vs[j]? = some (k,x)→∃ y,kvs[j]? = some (k,y)∧RelV y x
 | _,_,.nil,j,k,x,h=>by simp at h
 | _,_,.cons (a:=a) hp r,0,k,x,h=>by
  obtain ⟨a1,a2⟩:=a
  cases h
  obtain ⟨e,rr⟩:=hp
  exact ⟨a2,by rw [show a1=k from e];rfl,rr⟩
 | _,_,.cons _ r,j+1,k,x,h=>zl3 r j k x h
section
variable {X:Cx}
theorem zgG (hc:X.calm=true):zdI X (.builtin "sorted") (fun xs H Q=>∃ (a:Addr) (kvs:List (Key×V)) (ks:List Int),xs=[.ref a]∧H a=some (.dK kvs)∧kvs.map (·.1)=ks.map Sum.inl∧ks.length<64 ∧
  ∀ (l:Addr) (ns:List Int),H l=none→ns.Perm ks→ns.Pairwise (·≤·)→Q (.ref l) (upd H l (.lst (ns.map V.int)))):=by
 intro pins s σ H xs us Q I r h
 obtain ⟨a,kvs,ks,rfl,e,hk,h64,q⟩:=h
 obtain ⟨u,rfl,r1⟩:=zd8 r
 obtain rfl:u=Value.ref a:=r1
 obtain ⟨hz,lo,vs,rel,dd⟩:=zkf I.hok e
 obtain ⟨ep,hat⟩:=dd.dictAt
 have hl:vs.length=kvs.length:=zgu rel
 have hl2:kvs.length=ks.length:=by have:=congrArg List.length hk;simpa using this
 refine zf1 (W.kdu_collect (W.kdl_dict (knd:=zaI X.prog X.w) (kvs:=vs) (ep:=ep) lo) (I.ok.hd hc) hat (by omega) fun h' tk acc kp it=>⟨by rw [Array.length_toList,it.1,hl];exact hz,?_⟩)
 have hI:IntsAre acc.toList ks:=zh9 (by rw [Array.length_toList,it.1];omega) fun j v hv=>by
  obtain ⟨k,x,hx,hkey⟩:=it.2 j v (by rw [← Xbq];exact hv)
  obtain ⟨y,hy,_⟩:=zl3 rel j k x hx
  have e1:(kvs.map (·.1))[j]? = some k:=by rw [Xaq,hy];rfl
  rw [hk,Xaq] at e1
  obtain ⟨n,hn,rfl⟩:=XaP.mp e1
  rcases zaN (show zhD (Sum.inl n) v=true from hkey) with ⟨i,t,e2,e3⟩ | ⟨_,_,e2,_⟩
  ·cases e2;exact ⟨_,t,hn,e3⟩
  ·cases e2
 refine list_sort_tree (s:={ s with heap:=h'.push (seqObj "list" acc.toList.toArray 0),toks:=tk }) (Xaj _ rfl) hI (by rw [Array.length_toList,it.1];omega) fun out ns a1 a2 a3=>⟨rfl,?_⟩
 have hsz:h'.objs.size<(h'.push (seqObj "list" acc.toList.toArray 0)).objs.size:=by rw [XaN];exact Xbf _
 have I2:Inv X pins σ H { s with heap:=h',toks:=tk }:=I.kept kp
 obtain ⟨c,hc'⟩:=sortedHeap_at (a:=h'.objs.size) (vs:=acc.toList) (out:=out) (Xaj (h:=h') (o:=seqObj "list" acc.toList.toArray 0) rfl)
 refine ⟨.ref _,_,I2.laid (t':=tk) (o:=.lst (ns.map V.int)) (fun b o eb=>?_) (Xae _) ?_,rfl,q _ ns (I2.hok.fresh (Xae _)) a2 a3⟩
 ·have hb:=Xao eb
  rw [sortedHeap_old (Xaz hb) (Nat.lt_trans hb hsz)]
  exact Xab _ eb
 ·refine ⟨?_,out.toList,_,zcW a1,by simpa [seqObj] using hc'⟩
  rw [Xal,a2.length_eq]
  exact Xam (Xbt h64) (by decide)
end
end L2
end
section
namespace L2
open PySem PySem.Spec PyProof.Rows HT
section
variable {prog:Program}{w:World}{A:Around}{E:Value→Shared→Prop}{s:Shared}
end
end L2
end
section
set_option autoImplicit false
namespace L2
open PySem PySem.Spec PyProof.Rows HT Cb
section
variable {prog:Program}{w:World}{A:Around}{E:Value→Shared→Prop}{s:Shared}
end
section
variable {X:Cx}
end
end L2
end
section
set_option autoImplicit false
namespace L2
open PySem PySem.Spec PyProof.Rows HT Cb
section
variable {prog:Program}{w:World}{A:Around}{E:Value→Shared→Prop}
end
section
variable {X:Cx}
end
section
variable {prog:Program}{w:World}{A:Around}{E:Value→Shared→Prop}{s:Shared}
end
end L2
end
section
namespace L2
open PySem PySem.Spec PyProof.Rows PySem.SeqAt
section
variable {X:Cx}{tg:Expr}
end
end L2
end
section
namespace L2
open PySem PySem.Spec PyProof.Rows PySem.SeqAt
section
variable {X:Cx}{K:W.Frag}
inductive rEqL0 (K:W.Frag)(x:V)(y:V)(H:Hp)(Q:VK):Prop
 | mk (a:_) (b:_) (xs:_) (z0_:x = .ref a) (z1_:y = .ref b) (z2_:SqL K H a xs) (z3_:SqL K H b []) (z4_:Q (.bl xs.isEmpty) H)
theorem zmL (hu:X.A.units<cLine)(hK:X.K=K):OpR X (compareOp .Eq) (rEqL0 K):=by
 subst hK
 rintro pins s σ H x y v u Q I rx ry ⟨a,b,xs,rfl,rfl,ha,hb,q⟩
 cases rx;cases ry
 obtain ⟨its,r1,p1,_⟩:=I.list ha
 obtain ⟨its2,r2,p2,_⟩:=I.list hb
 obtain rfl:=r2.nil_iff.mpr rfl
 have e:its.toArray.size=xs.length:=by rw [Xat];exact r1.length.symm
 cases xs with
 | nil =>
  refine RcAt.lists (e:=fun _=>true) p1.isList p2.isList (by rw [e];rfl) hu (fun j h1 h2=>absurd h2 (by simp)) _ _ _ _ ⟨.bl true,H,I,?_,q⟩
  rw [e];rfl
 | cons z zs=>exact RcAt.lists_lengths p1.isList p2.isList (by rw [e];simp) hu _ _ _ _ ⟨.bl false,H,I,rfl,q⟩
end
end L2
end
section
namespace L2
open PySem PySem.Spec PyProof.Rows PySem.SeqAt
section
variable {X:Cx}
end
end L2
end
section
namespace L2
open PySem PySem.Spec PyProof.Rows PySem.SeqAt
end L2
end
section
namespace L2
open PySem PySem.Spec PyProof.Rows PySem.SeqAt
section
variable {X:Cx}{K:W.Frag}
end
section
variable {X:Cx}{Nc:List Str}{src:List (Option Nat)}{scope:Scope}{elt tg iter:Expr}{ifs:List Expr}{pos:Pos}{wi:TI}{g:TG}{tf:TT}{te:TE}
end
section
variable {X:Cx}{K:W.Frag}{tg l:Expr}{tl:TE}
end
end L2
end
section
namespace L2
open PySem PySem.Spec PyProof.Rows HT
section
variable {X:Cx}{o e:Expr}{es:List Expr}{to:TE}{t:TA}{T:String}{id:String}{name:Str}{apos cpos:Pos}{r:V→List V→Hp→VK→Prop}
end
end L2
end
section
namespace L2
open PySem PySem.Spec PyProof.Rows HT
section
variable {X:Cx}{CX:CXT}{k:Nat}{f C:Addr}{fd:FuncData}{ps ks:List Str}{sp:Sp}{E:St→XK}{x m:Str}{p pos apos:Pos}{e o:Expr}{es:List Expr}{kws:List Keyword}{ta:TE}{t tk:TA}{g:List Value→List Value→List Value}{gV:List V→List V→List V}
end
section
variable {X:Cx}{k:Nat}{C:Addr}{ks:List Str}{gV:List V→List V→List V}{sp:Sp}{E:St→XK}{x:Str}{p pos:Pos}{e:Expr}{es:List Expr}{kws:List Keyword}{t tk:TA}
end
section
variable {X:Cx}{k:Nat}{C:Addr}{ks:List Str}{E:St→XK}{x m:Str}{p pos apos:Pos}{e o:Expr}{es:List Expr}{kws:List Keyword}{ta:TE}{t tk:TA}
end
section
variable {X:Cx}{pins pins2:List (Addr×Obj)}{σ:St}{H:Hp}{s:Shared}{E:St→XK}
end
section
variable {X:Cx}{cn n:Str}{j:Nat}{Cb:Addr}{body hbody:List Stmt}{b₀:Stmt}{tb:(St→XK)→TS}{th:TS}{p4 p8 p9:Pos}
end
end L2
end
section
namespace L2
open PySem PySem.Spec PyProof.Rows HT
section
variable {X:Cx}{e v:Expr}{es:List Expr}{pos p2:Pos}{ta:TE}{t:TJ}
end
end L2
end
section
namespace L2
open PySem PySem.Spec PyProof.Rows HT
section
variable {prog:Program}{w:World}{A:Around}{E:Value→Shared→Prop}{h:Heap}{g:Array GenState}{d:Drawn}{t:Nat}{os:OsState}
variable {nm q:Str}{C N:Addr}{bs bm:List Value}{hdct:Bool}{sn:List Str}{sub:List Value}{ab:Bool}{col:Option Bool}{dd:Option Addr}{k0 k1 k2 k3 k5:Option Value}{mN:Str→Option Value}{rest:List Value}{fI:Addr}{oI:Obj}
end
section
variable {M:Model}{A:Around}{E:Value→Shared→Prop}{s:Shared}{env:Env}
variable {nm q:Str}{C N:Addr}{bs bm:List Value}{hdct:Bool}{sn:List Str}{sub:List Value}{ab:Bool}{col:Option Bool}{dd:Option Addr}{k0 k1 k2 k3 k5:Option Value}
end
section
variable {prog:Program}{w:World}{A:Around}{E:Value→Shared→Prop}{s:Shared}{env:Env}
variable {nm q:Str}{C N:Addr}{bs bm:List Value}{hdct:Bool}{sn:List Str}{sub:List Value}{ab:Bool}{col:Option Bool}{dd:Option Addr}{k0 k1 k2 k3 k5:Option Value}{mN:Str→Option Value}{fI:Addr}{oI:Obj}
end
end L2
end
section
namespace L2
open PySem PySem.Spec PyProof.Rows HT
end L2
end
section
namespace L2
open PySem PySem.Spec PyProof.Rows HT PySem.W PySem.Calls PySem.NumText
end L2
end
section
namespace L2
open PySem PySem.Spec PyProof.Rows HT
end L2
end
section
namespace L2
open PySem PySem.Spec PyProof.Rows HT
section
variable {X:Cx}{x:Str}{p pos:Pos}{e:Expr}{es:List Expr}{tv:TE}{t:TA}
end
end L2
end
section
namespace L2
open PySem PySem.Spec PyProof.Rows HT PySem.W PySem.Calls
end L2
end
section
namespace L2
open PySem PySem.Spec PyProof.Rows HT
section
variable {X:Cx}{x:Str}{a:Addr}{e:Expr}{p apos cpos:Pos}{ty:TE}{kvs:List (Key×V)}
end
end L2
end
section
namespace L2
open PySem PySem.Spec PyProof.Rows HT
end L2
end
section
namespace L2
open PySem PySem.Spec PyProof.Rows PySem.SeqAt
section
variable {X:Cx}{K:W.Frag}
end
section
variable {X:Cx}
end
end L2
end
section
namespace L2
open PySem PySem.Spec PyProof.Rows Builtin
section
variable {prog:Program}{w:World}{A:Around}{E:Value→Shared→Prop}{s:Shared}{K:W.Frag}{x y C D f:Addr}{ox oy:Obj}{od oe:Option Obj}
end
section
variable {X:Cx}
end
section
variable {prog:Program}{w:World}{A:Around}{E:Value→Shared→Prop}{s:Shared}
end
structure Tab (L:Bool)(t:SetTable)(n:Nat):Prop where
 fits:t.fits n=true
 ris:t.place.toList.Pairwise (· < ·)
 led:t.led=L
theorem zmY {xs:Array Nat}{i j:Nat}(h:i<xs.size):xs.getD i j=xs.toList[i]'(by simpa using h):=by
 rw [Array.getD_eq_getD_getElem?,XaO h];simp
theorem zk1 {l:List Nat}(h:l.Pairwise (· < ·)){i k:Nat}(hk:k<l.length)(hik:i<k):l[i]'(by omega)<l[k]:=(XbK.mp h) i k (by omega) hk hik
theorem zfX {xs:Array Nat}{j:Nat}(hr:xs.toList.Pairwise (· < ·)):∀ (fuel lo hi:Nat),hi≤xs.size→lo≤hi→hi - lo≤fuel→(∀ i (h:i<xs.toList.length),i<lo→xs.toList[i]<j)→(∀ i (h:i<xs.toList.length),hi≤i→j≤xs.toList[i]) →
  SetTable.below.go xs j fuel lo hi≤xs.size∧(∀ i (h:i<xs.toList.length),i<SetTable.below.go xs j fuel lo hi→xs.toList[i]<j)∧∀ i (h:i<xs.toList.length),SetTable.below.go xs j fuel lo hi≤i→j≤xs.toList[i]
 | 0,lo,hi,h1,h2,h3,a,b=>by
  obtain rfl:lo=hi:=by omega
  exact ⟨h1,a,b⟩
 | fuel+1,lo,hi,h1,h2,h3,a,b=>by
  unfold SetTable.below.go
  by_cases hlt:lo<hi
  ·rw [if_pos hlt]
   have hm:(lo+hi) / 2<xs.size:=by omega
   have hml:(lo+hi) / 2<xs.toList.length:=by simpa using hm
   dsimp only
   rw [zmY hm]
   by_cases hc:xs.toList[(lo+hi) / 2]<j
   ·rw [if_pos hc]
    refine zfX hr fuel _ hi h1 (by omega) (by omega) (fun i h hi'=>?_) b
    rcases (show i<(lo+hi) / 2∨i=(lo+hi) / 2 by omega) with e | e
    ·exact Nat.lt_trans (zk1 hr hml e) hc
    ·subst e;exact hc
   ·rw [if_neg hc]
    refine zfX hr fuel lo _ (by omega) (by omega) (by omega) a (fun i h hi'=>?_)
    rcases (show (lo+hi) / 2<i∨i=(lo+hi) / 2 by omega) with e | e
    ·exact Xbt (XaZ (Nat.not_lt.mp hc) (zk1 hr h e))
    ·subst e;exact Nat.not_lt.mp hc
  ·rw [if_neg hlt]
   obtain rfl:lo=hi:=by omega
   exact ⟨h1,a,b⟩
theorem zd7 {xs:Array Nat}{j:Nat}(hr:xs.toList.Pairwise (· < ·)):SetTable.below xs j≤xs.size∧(∀ i (h:i<xs.toList.length),i<SetTable.below xs j→xs.toList[i]<j)∧∀ i (h:i<xs.toList.length),SetTable.below xs j≤i→j≤xs.toList[i]:=
 zfX hr xs.size 0 xs.size (Xae _) (Nat.zero_le _) (Xae _) (fun i h z=>absurd z (XbF _)) fun i h z=>absurd (show i<xs.size by simpa using h) (Nat.not_lt.mpr z)
theorem zlK {xs:Array Nat}(hr:xs.toList.Pairwise (· < ·)){i:Nat}(h:i<xs.size):SetTable.below xs xs[i]=i:=by
 obtain ⟨b1,b2,b3⟩:=zd7 (j:=xs[i]) hr
 have hl:i<xs.toList.length:=by simpa using h
 have e:xs.toList[i]=xs[i]:=by simp
 rcases Nat.lt_trichotomy (SetTable.below xs xs[i]) i with z | z | z
 ·have h2:SetTable.below xs xs[i]<xs.toList.length:=by omega
  have q1:=b3 _ h2 (Xae _)
  have q2:=zk1 hr hl z
  rw [e] at q2
  exact absurd q1 (Nat.not_le.mpr q2)
 ·exact z
 ·have q1:=b2 i hl z
  rw [e] at q1
  exact absurd q1 (XaU _)
theorem zi3 {xs:Array Nat}(hr:xs.toList.Pairwise (· < ·)){i:Nat}(h:i<xs.size):SetTable.below xs (xs[i]+1)=i+1:=by
 obtain ⟨b1,b2,b3⟩:=zd7 (j:=xs[i]+1) hr
 have hl:i<xs.toList.length:=by simpa using h
 have e:xs.toList[i]=xs[i]:=by simp
 rcases Nat.lt_trichotomy (SetTable.below xs (xs[i]+1)) (i+1) with z | z | z
 ·have q1:=b3 i hl (by omega)
  rw [e] at q1;omega
 ·exact z
 ·have hls:xs.toList.length=xs.size:=by simp
  have h2:i+1<xs.toList.length:=by omega
  have q1:=b2 (i+1) h2 z
  have q2:=zk1 hr h2 (Xbf i)
  rw [e] at q2;omega
theorem zi2 {xs:Array Nat}(hr:xs.toList.Pairwise (· < ·)):SetTable.below xs 0=0:=by
 obtain ⟨b1,b2,b3⟩:=zd7 (j:=0) hr
 rcases Nat.eq_zero_or_pos (SetTable.below xs 0) with z | z
 ·exact z
 ·have hls:xs.toList.length=xs.size:=by simp
  have h2:0<xs.toList.length:=by omega
  exact absurd (b2 0 h2 z) (XbF _)
theorem zl2 {t:SetTable}(hr:t.place.toList.Pairwise (· < ·)){j:Nat}(h:∀ i,t.slot j≠.live i):j ∉ t.place.toList:=fun hm=>by
 obtain ⟨i,hi,e⟩:=List.getElem_of_mem hm
 have hi':i<t.place.size:=by simpa using hi
 have e':t.place[i]=j:=by simpa using e
 refine h (SetTable.below t.place j) ?_
 unfold SetTable.slot
 dsimp only
 rw [if_pos]
 rw [← e',zlK hr hi',XaO hi',beq_self_eq_true]
theorem zdy {t:SetTable}{hs:Nat→Int}{h:Int}:∀ (fuel:Nat) (p:SetTable.Probe) (j:Nat) (d:Option Nat),(∀ x,p.dummy=some x→∀ i,t.slot x≠.live i)→SetTable.probe.go t hs h fuel p=some (.empty j d)→(∀ i,t.slot j≠.live i)∧∀ x,d=some x→∀ i,t.slot x≠.live i
 | 0,p,j,d,_,e=>by cases e
 | fuel+1,p,j,d,hd,e=>by
  have adv:∀ q:SetTable.Probe,(t.advance q).dummy=q.dummy:=fun q=>by unfold SetTable.advance;split <;> rfl
  unfold SetTable.probe.go at e
  cases hq:t.slot p.j with
  | empty =>
   rw [hq] at e
   have e:=Option.some.inj e
   injection e with e1 e2
   subst e1 e2
   exact ⟨fun i z=>(by rw [hq] at z;cases z),hd⟩
  | dummy =>
   rw [hq] at e
   refine zdy fuel _ j d (fun x hx i z=>?_) e
   rw [adv] at hx
   have hx:p.j=x:=Option.some.inj hx
   subst hx
   rw [hq] at z;cases z
  | live i =>
   rw [hq] at e
   dsimp only at e
   split at e
   ·cases e
   ·exact zdy fuel _ j d (fun x hx=>hd x (by rw [adv] at hx;exact hx)) e
set_option tactic.hygienic true in
theorem zgy {t:SetTable}(hr:t.place.toList.Pairwise (· < ·)){h:Int}{j:Nat}{b:Bool}(e:t.freeSlot h=some (j,b)):j ∉ t.place.toList:=by
 unfold SetTable.freeSlot at e
 split at e
 ·rename_i j' d hp
  have e:=Option.some.inj e
  injection e with e1 _
  obtain ⟨a1,a2⟩:=zdy _ _ _ _ (fun x hx=>by cases hx) hp
  cases d with
  | none=>rw [← e1];exact zl2 hr a1
  | some x=>rw [← e1];exact zl2 hr (a2 x rfl)
 ·cases e
theorem ziT {xs:Array Nat}(hr:xs.toList.Pairwise (· < ·)){j:Nat}(hj:j ∉ xs.toList):(SetTable.insertAt xs (SetTable.below xs j) j).toList.Pairwise (· < ·):=by
 obtain ⟨b1,b2,b3⟩:=zd7 (j:=j) hr
 rw [SetTable.toList_insertAt,List.pairwise_append]
 refine ⟨hr.sublist (List.take_sublist _ _),Xbg.mpr ⟨fun x hx=>?_,hr.sublist (List.drop_sublist _ _)⟩,fun x hx y hy=>?_⟩
 ·obtain ⟨i,hi,rfl⟩:=List.getElem_of_mem hx
  rw [List.getElem_drop]
  rw [XaV] at hi
  have q:=b3 (SetTable.below xs j+i) (by omega) (by omega)
  exact Nat.lt_of_le_of_ne q fun z=>hj (by rw [z];exact XbQ _)
 ·obtain ⟨i,hi,rfl⟩:=List.getElem_of_mem hx
  rw [List.getElem_take]
  rw [XaM] at hi
  have q:=b2 i (by omega) (by omega)
  rcases Xan.mp hy with rfl | hy
  ·exact q
  ·obtain ⟨k,hk,rfl⟩:=List.getElem_of_mem hy
   rw [List.getElem_drop]
   rw [XaV] at hk
   exact Xak q (b3 _ (by omega) (by omega))
theorem zbI (n:Nat):(Array.range n).toList.Pairwise (· < ·):=by
 rw [Array.toList_range]
 exact Xb3
theorem or_tab {L:Bool}{t:SetTable}(hr:t.place.toList.Pairwise (· < ·))(hl:t.led=L)(n:Nat):(t.orStandIn n).place.toList.Pairwise (· < ·)∧(t.orStandIn n).led=L:=by
 unfold SetTable.orStandIn
 by_cases h:t.fits n=true
 ·rw [if_pos h];exact ⟨hr,hl⟩
 ·rw [if_neg h];exact ⟨zbI n,hl⟩
set_option tactic.hygienic true in
theorem ziQ {L:Bool}{t:SetTable}{es:Array (Int×Value)}(T:Tab L t es.size)(h:Int)(x:Value):Tab L (layNew t es h x).2.1 (layNew t es h x).1.size:=by
 have ft:=layNew_fits t es h x
 have q:(layNew t es h x).2.1.place.toList.Pairwise (· < ·)∧(layNew t es h x).2.1.led=L:=by
  unfold layNew
  split
  ·rename_i j b e
   exact or_tab (t:=(t.put j).1) (ziT T.ris (zgy T.ris e)) T.led _
  ·exact ⟨zbI _,T.led⟩
 exact ⟨ft,q.1,q.2⟩
theorem zeQ {mask finger moves:Nat}{led plain:Bool}{hashes:Array Int}{t:SetTable}{o:Array Nat}(e:SetTable.laid mask finger moves led plain hashes=some (t,o)):t.place.toList.Pairwise (· < ·)∧t.led=led:=by
 unfold SetTable.laid at e
 obtain ⟨owner,_,e⟩:=Option.bind_eq_some_iff.mp e
 have e:=Option.some.inj e
 injection e with e1 _
 subst e1
 refine ⟨?_,rfl⟩
 show ((((List.range (mask+1)).filterMap fun j=>(owner.getD j none).map (j,·)).map (·.1)).toArray).toList.Pairwise (· < ·)
 rw [List.map_filterMap,List.toList_toArray]
 refine List.Pairwise.filterMap _ (R:=(· < ·)) (S:=(· < ·)) (fun a a' hl b hb b' hb'=>?_) Xb3
 ·cases h1:owner.getD a none with
  | none=>rw [h1] at hb;cases hb
  | some u =>
   rw [h1] at hb
   cases h2:owner.getD a' none with
   | none=>rw [h2] at hb';cases hb'
   | some v =>
    rw [h2] at hb'
    have q1:a=b:=Option.some.inj hb
    have q2:a'=b':=Option.some.inj hb'
    omega
set_option tactic.hygienic true in
theorem zjr {L:Bool}{t:SetTable}{es:Array (Int×Value)}(T:t.led=L)(n:Nat):Tab L (relayAll t es n).2.1 (relayAll t es n).1.size:=by
 refine ⟨relayAll_fits t es n,?_,?_⟩
 ·unfold relayAll
  split
  ·rename_i t' o e
   dsimp only
   split
   ·exact (zeQ e).1
   ·exact zbI _
  ·exact zbI _
 ·unfold relayAll
  split
  ·rename_i t' o e
   dsimp only
   split
   ·exact (zeQ e).2.trans T
   ·exact T
  ·exact T
def sObj (es:Array (Int×Value))(ep:Nat)(t:SetTable):Obj:={ cls:=.type "set",data:=.set es ep t }
def EOk (e:Int×Value):Prop:=∃ (n:Int) (t:Tok),e=(hashInt n,.int n t)
def eInt (e:Int×Value):Int:=match e.2 with
 | .int n _=>n
 | _=>0
def zkd (l:List (Int×Value)):List Int:=l.map eInt
def SetI (L:Bool)(h:Heap)(a:Addr)(S:List Int):Prop:=∃ es ep t,h.get? a=some (sObj es ep t)∧(∀ e∈es.toList,EOk e)∧(zkd es.toList).Perm S∧S.Nodup∧Tab L t es.size
theorem SetI.at {L:Bool}{h h':Heap}{a:Addr}{S:List Int}(x:SetI L h a S)(e:∀ o,h.get? a=some o→h'.get? a=some o):SetI L h' a S:=by
 obtain ⟨es,ep,t,g,r⟩:=x
 exact ⟨es,ep,t,e _ g,r⟩
theorem zkc {prog:Program}{w:World}{l:List (Int×Value)}(h:∀ e∈l,EOk e):ElemsOf (intKind prog w) l:=fun e he=>by
 obtain ⟨n,t,rfl⟩:=h e he
 exact ⟨⟨n,intKind_is _ _ _ _,rfl⟩,rfl⟩
theorem zl5 {prog:Program}{w:World}{e:Int×Value}(h:EOk e)(n:Int):(intKind prog w).is n e.2=decide (n=eInt e):=by
 obtain ⟨m,t,rfl⟩:=h
 show Value.isInt n (.int m t)=decide (n=m)
 unfold Value.isInt
 by_cases e:n=m
 ·subst e;simp
 ·rw [Xai e];simpa using fun z=>e z.symm
section
variable {prog:Program}{w:World}{A:Around}{E:Value→Shared→Prop}{s:Shared}
theorem zlY {h:Heap}{a:Addr}{es es':Array (Int×Value)}{ep:Nat}{t t':SetTable}(g:h.get? a=some (sObj es ep t)):(h.update a (Obj.putSet es' t')).get? a=some (sObj es' (ep+1) t'):=by
 have e:=putSet_of es' t' (show (sObj es ep t).data = .set es ep t from rfl)
 have:=XaT (Obj.putSet es' t') g (by rw [e];rfl)
 rw [e] at this;exact this
theorem zim {L:Bool}{g:Bool→Sem Unit}(hg:∀ (b:Bool) (s₁:Shared) (Q':Unit→Shared→Prop),Q' () s₁→wpAny (model prog w) A (g b) Q' E s₁){a:Addr}{es es1:Array (Int×Value)}{ep:Nat}{t t2:SetTable}(ho:s.heap.get? a=some (sObj es ep t))
  (hz:es1.size<scanBound) (T2:Tab L t2 es1.size) {wd:Bool} {R:Option Bool→Shared→Prop}
  (h:∀ h' es' ep' t',Heap.SameBut a s.heap h'→h'.get? a=some (sObj es' ep' t')→es'.toList.Perm es1.toList→Tab L t' es'.size→R (some true) { s with heap:=h' }) :
  wpAny (model prog w) A (do
   storeSet a es1 t2
   if (!wd && t2.tooFull)=true then do
    g (relayAll t2 es1 (SetTable.grown es1.size)).2.2
    storeSet a (relayAll t2 es1 (SetTable.grown es1.size)).1 (relayAll t2 es1 (SetTable.grown es1.size)).2.1
    pure (some true)
   else pure (some true)) R E s:=by
 refine Xaa (wpAny_storeSet_of ho rfl ?_ (fits_of_scanBound hz))
 have g1:=zlY (es':=es1) (t':=t2) ho
 have b1:=Heap.SameBut.update s.heap a (Obj.putSet es1 t2)
 split
 ·have pm:=relayAll_perm t2 es1 (SetTable.grown es1.size)
  have T3:=zjr (es:=es1) T2.led (SetTable.grown es1.size)
  generalize relayAll t2 es1 (SetTable.grown es1.size)=Y at pm T3 ⊢
  obtain ⟨es2,t3,gv⟩:=Y
  have sz:es2.size=es1.size:=by rw [← Array.length_toList,pm.length_eq,Array.length_toList]
  refine Xaa (hg _ _ _ (Xaa (wpAny_storeSet_of g1 rfl ?_ (fits_of_scanBound (by rw [sz];exact hz)))))
  exact Xac (h _ es2 _ t3 (b1.trans (Heap.SameBut.update _ a _)) (zlY g1) pm T3)
 ·exact Xac (h _ es1 _ t2 b1 g1 .rfl T2)
theorem zmz {L:Bool}{a:Addr}{S:List Int}{n:Int}{tok:Tok}{Q:Value→Shared→Prop}(hS:SetI L s.heap a S)(hz:S.length<1000)
  (h:∀ h',Heap.SameBut a s.heap h'→SetI L h' a (if n∈S then S else S ++ [n])→Q .none { s with heap:=h',toks:=s.toks+1 }) :
  wpAny (model prog w) A (call (.builtin "set.add") [.ref a,.int n tok]) Q E s:=by
 obtain ⟨es,ep,t,ho,hE,hP,hN,T⟩:=hS
 have hel:=zkc (prog:=prog) (w:=w) hE
 have hsz:es.size=S.length:=by rw [← Array.length_toList,← hP.length_eq];unfold zkd;rw [Xal]
 have hb:es.size<scanBound:=Nat.lt_trans (show es.size<1000 by omega) (by decide)
 have hk:(intKind prog w).is n (.int n tok)=true:=intKind_is _ _ _ _
 have hsc:(Value.int n tok).scannable=true:=rfl
 refine XaW F.slot_set_add (show s.TypeIs (.ref a) "set" from ⟨_,ho,rfl⟩) F.entry_set_add ?_ (F.args_set_add_2 _ _)
 unfold Builtin.«set.add» Builtin.Frozenset.oneOther;simp only [List.isEmpty_nil,bind_assoc]
 unfold Builtin.Frozenset.addrOf setAdd;refine Xaa (Xac ?_)
 try dsimp only
 refine Xaa (Xac (Xaa (Xba (Xaa ((intKind prog w).pyHash hk ?_)))))
 generalize hs1:({ s with toks:=s.toks+1 }:Shared)=s1
 have ho1:s1.heap.get? a=some (sObj es ep t):=by rw [← hs1];exact ho
 have fin:∀ (b:Bool) h',Heap.SameBut a s.heap h'→SetI L h' a (if n∈S then S else S ++ [n])→(fun (_:Bool) s'=>wpAny (model prog w) A.in1 (ret Value.none) (fun fin s'=>∃ v,fin = .done (.ret v)∧Q v s') E s') b { s1 with heap:=h' }:=fun b h' hb' x=>by
  have:=h h' hb' x
  rw [← hs1]
  exact Xac ⟨_,rfl,this⟩
 show wpAny (model prog w) A.in1 (setAddHashed a (.int n tok) ((intKind prog w).hash n)) (fun _ s'=>wpAny (model prog w) A.in1 (ret Value.none) (fun fin s'=>∃ v,fin = .done (.ret v)∧Q v s') E s') E s1
 unfold setAddHashed setAddHashedIn;refine Xba (Xaa (Xbe ho1 rfl T.fits ?_))
 dsimp only
 rw [byScan_of hsc hb hel,if_pos rfl]
 unfold setAddByScan;refine Xaa (Xaa (Xbw (Xaa (wpAny_setScan_of hk ho1 rfl T.fits hel ?_))))
 have s1h:s1.heap=s.heap:=by rw [← hs1]
 have mem:n∈S↔∃ e∈es.toList,(intKind prog w).is n e.2=true:=by
  rw [← hP.mem_iff]
  constructor
  ·intro hm
   obtain ⟨e,he,z⟩:=XaF.mp hm
   exact ⟨e,he,by rw [zl5 (hE e he)];exact Xah z.symm⟩
  ·rintro ⟨e,he,z⟩
   rw [zl5 (hE e he)] at z
   rw [XaD z]
   exact XaF.mpr ⟨e,he,rfl⟩
 cases hr:List.findIdx? (fun e=>(intKind prog w).is n e.2) es.toList with
 | some j =>
  obtain ⟨hj,pj,_⟩:=Xbb.mp hr
  have hm:n∈S:=mem.mpr ⟨_,XbQ hj,pj⟩
  refine Xac (Xac ?_)
  have:=fin false s.heap (Heap.SameBut.refl a s.heap) (by rw [if_pos hm];exact ⟨es,ep,t,ho,hE,hP,hN,T⟩)
  rw [← hs1] at this ⊢
  exact this
 | none =>
  have hm:n ∉ S:=fun z=>by
   obtain ⟨e,he,p⟩:=mem.mp z
   have:=XbL.mp hr e he
   rw [p] at this;cases this
  rw [if_neg hm] at fin
  have pm:=layNew_perm t es ((intKind prog w).hash n) (.int n tok)
  have T1:=ziQ T ((intKind prog w).hash n) (.int n tok)
  generalize layNew t es ((intKind prog w).hash n) (.int n tok)=Y at pm T1 ⊢
  obtain ⟨es1,t1,wd,gv⟩:=Y
  dsimp only at pm T1 ⊢
  rw [Array.toList_push] at pm
  have sz1:es1.size=es.size+1:=by rw [← Array.length_toList,pm.length_eq,Xay,Array.length_toList];rfl
  have hz1:es1.size<scanBound:=Nat.lt_trans (show es1.size<1001 by omega) (by decide)
  have last:∀ h' es' ep' t',Heap.SameBut a s1.heap h'→h'.get? a=some (sObj es' ep' t')→es'.toList.Perm es1.toList→Tab L t' es'.size→SetI L h' a (S ++ [n]):=fun h' es' ep' t' hb' g' p' T'=>by
   have p2:=p'.trans pm
   refine ⟨es',ep',t',g',fun e he=>?_,?_,?_,T'⟩
   ·rcases XaK.mp (p2.mem_iff.mp he) with z | z
    ·exact hE e z
    ·rw [Xad.mp z];exact ⟨n,tok,rfl⟩
   ·have q:=p2.map eInt
    rw [XaI] at q
    exact q.trans (hP.append_right _)
   ·exact XaX.mpr ⟨hN,XbX.mpr ⟨(fun z=>nomatch z),Xbp⟩,fun x hx y hy z=>hm (by rw [← Xad.mp hy,← z];exact hx)⟩
  refine Xaa (m:=(match gv with | true=>rule "set.scan.the-table-gave-way" | false=>pure ())) ?_
  have hgw:∀ (b:Bool) (s₁:Shared) (Q':Unit→Shared→Prop),Q' () s₁→wpAny (model prog w) A.in1 (match b with | true=>rule "set.scan.the-table-gave-way" | false=>pure ()) Q' E s₁:=fun b s₁ Q' q=>by
   cases b
   ·exact Xac q
   ·exact Xbw q
  refine hgw gv _ _ ?_
  have off:Tab L { t1 with plain:=false } es1.size:=⟨SetTable.fits_plain_off T1.fits,T1.ris,T1.led⟩
  split
  ·refine Xaa ?_
   rw [hashByValue_scannable 8 hsc]
   refine Xac (zim (L:=L) hgw ho1 hz1 ?_ fun h' es' ep' t' hb' g' p' T'=>Xac (fin true h' (by rw [← s1h];exact hb') (last h' es' ep' t' hb' g' p' T')))
   split
   ·exact T1
   ·exact off
  ·refine Xaa (Xac ?_)
   rw [if_pos rfl]
   exact zim (L:=L) hgw ho1 hz1 T1 fun h' es' ep' t' hb' g' p' T'=>Xac (fin true h' (by rw [← s1h];exact hb') (last h' es' ep' t' hb' g' p' T'))
end
theorem slot_si_next:Slot "set_iterator" "__next__" "set_iterator.__next__" :=
 .of (owner := "set_iterator") (n := "__next__") (by rw [typeLookup_type,builtinLookup_eq_fast];kernel_rfl) (by decide +kernel) (by decide +kernel) (by decide +kernel) (by first | exact .inl (by decide +kernel) | exact .inr (by decide +kernel)) (by rw [isSubtype_type];kernel_rfl)
theorem zda:entryFor table "set_iterator.__next__" = some Builtin.«set_iterator.__next__»:=entryFor_of_tree (by kernel_rfl)
theorem zh4:Manifest.owners.lookup (String.ofList ['r','o','t','a','r','e','t','i','_','t','e','s'].reverse)=some Manifest.sig_set_iterator:=by kernel_rfl
theorem zdL (a:Value):argsOk "set_iterator.__next__" ⟨[a],[]⟩:=by
 unfold argsOk;rw [signature?_of (id := "set_iterator.__next__") (n:=['_','_','t','x','e','n','_','_']) (o:=['r','o','t','a','r','e','t','i','_','t','e','s']) (by kernel_rfl) zh4];kernel_rfl
theorem zgA:entryFor table "set.__iter__" = some Builtin.«frozenset.__iter__»:=entryFor_alias (id' := "frozenset.__iter__") (by kernel_rfl) rfl (by decide +kernel) (by kernel_rfl)
theorem zdF {α:Type}:∀ {l:List α} {i:Nat} (h:i<l.length),(l[i] :: l.eraseIdx i).Perm l
 | a :: l,0,h=>.rfl
 | a :: l,i+1,h=>(List.Perm.swap _ _ _).trans ((zdF (l:=l) (i:=i) (by simpa using h)).cons a)
theorem zjy {α:Type}(next:Nat→Nat):∀ (fuel k:Nat) (left:List α) (out:Array α),left.length=fuel→(pickOrder.go next fuel k left out).toList.Perm (out.toList ++ left)
 | 0,k,left,out,h=>by rw [List.eq_nil_of_length_eq_zero h,Xa1];exact .rfl
 | fuel+1,k,left,out,h=>by
  have hl:next k % left.length<left.length:=Xbm _ (by omega)
  unfold pickOrder.go
  rw [Xaw hl]
  dsimp only
  refine (zjy next fuel (k+1) _ _ (by rw [List.length_eraseIdx_of_lt hl];omega)).trans ?_
  rw [Array.toList_push,List.append_assoc]
  exact (List.Perm.refl _).append (zdF hl)
theorem zjx {α:Type}(next:Nat→Nat)(xs:Array α):(pickOrder next xs).toList.Perm xs.toList:=by
 have:=zjy next xs.size 0 xs.toList #[] (by simp)
 simpa [pickOrder] using this
section
variable {prog:Program}{w:World}{A:Around}{E:Value→Shared→Prop}{s:Shared}
theorem zi4 {src:Source}{n:Nat}{Q:Nat→Shared→Prop}(hn:n≠0)(h:∀ i d,i<n→Q i { s with drawn:=d }):wpAny (model prog w) A (choose src n) Q E s:=fun Γ p _ =>
 ⟨hn,h _ _ (Xbm _ (Nat.pos_of_ne_zero hn))⟩
theorem zfj {α:Type}:∀ (n:Nat) (xs:List α) (s:Shared) (Q:List α→Shared→Prop),xs.length=n→(∀ ys d,ys.Perm xs→Q ys { s with drawn:=d })→wpAny (model prog w) A (drawOrder n xs) Q E s
 | 0,xs,s,Q,h,q=>by
  unfold drawOrder
  exact Xac (by have:=q [] s.drawn (by rw [List.eq_nil_of_length_eq_zero h]);exact this)
 | n+1,[],s,Q,h,q=>by cases h
 | n+1,x :: xs,s,Q,h,q=>by
  unfold drawOrder
  refine Xaa (zi4 (by simp) fun i d hi=>?_)
  rw [Xaw hi]
  dsimp only
  refine Xaa (zfj n _ _ _ (by rw [List.length_eraseIdx_of_lt hi];simp at h ⊢;exact h) fun ys d' p=>Xac (q _ d' ?_))
  exact (List.Perm.cons _ p).trans (zdF hi)
def zi7 (w:World)(a:Addr)(es:Array (Int×Value))(ep:Nat)(t:SetTable)(vs:List Value)(h:Heap)(i:Nat)(first:Value):Prop:=
 (w.params.followText "set-order" = true∧(∃ k:Nat,first = .int (k:Int) 0)∧vs=(pickOrder (w.params.setOrder a ep) es).toList.map (·.2)) ∨
 (w.params.followText "set-order" = false∧(!t.plain && decide (es.size > 1))=false∧t.led=true∧(∃ k:Nat,first = .int (k:Int) 0∧SetTable.below t.place k=i)∧vs=es.toList.map (·.2)) ∨
 (w.params.followText "set-order" = false∧∃ (T:Addr) (ps:List Nat),first = .ref T∧h.get? T=some { cls:=.type "tuple",data:=.seq (ps.map fun (p:Nat)=>Value.int (p:Int) 0).toArray }∧ps.length=es.size∧(∀ p∈ps,p<es.size)∧vs=ps.map fun p=>((es[p]?).getD (0,.none)).2)
end
def siO (first:Value)(i:Int)(a:Value)(n:Int)(ep:Int):Obj:={ cls:=.type "set_iterator",data:=.fields #[first,.int i 0,a,.int n 0,.int ep 0] }
section
variable {prog:Program}{w:World}{A:Around}{E:Value→Shared→Prop}{s:Shared}
theorem zfb {h:Heap}{I:Addr}{vs:Array Value}{j:Nat}{x:Value}(hI:h.get? I=some { cls:=.type "set_iterator",data:=.fields vs }):(h.update I (Obj.mapFields (·.setIfInBounds j x))).get? I=some { cls:=.type "set_iterator",data:=.fields (vs.setIfInBounds j x) }:=by
 have:=XaT (Obj.mapFields (·.setIfInBounds j x)) hI rfl
 exact this
theorem zmw {I a:Addr}{es:Array (Int×Value)}{ep i:Nat}{t:SetTable}{vs:List Value}{first x:Value}{Q:Option Value→Shared→Prop}(hI:s.heap.get? I=some (siO first (i:Int) (.ref a) (es.size:Int) (ep:Int)))(ha:s.heap.get? a=some (sObj es ep t))(hf:t.fits es.size=true)(hr:t.place.toList.Pairwise (· < ·))
  (m:zi7 w a es ep t vs s.heap i first) (hx:vs[i]? = some x)
  (hq:∀ h' first',Heap.SameBut I s.heap h'→h'.get? I=some (siO first' ((i+1:Nat):Int) (.ref a) (es.size:Int) (ep:Int))→zi7 w a es ep t vs h' (i+1) first'→(∀ T:Addr,first' = .ref T→first = .ref T)→Q (some x) { s with heap:=h' }):wpAny (model prog w) A (pyNext (.ref I)) Q E s:=by
 have hT:s.TypeIs (.ref I) "set_iterator" := ⟨_,hI,rfl⟩
 have ps:t.place.size=es.size:=by
  have:=hf;unfold SetTable.fits at this
  exact beq_iff_eq.mp (Xbs.mp this).1
 unfold pyNext
 refine Xaa (wpAny_attempt (wpAny_callSpecial?_slot (name:=Str.ofString "__next__") hT slot_si_next (XaW slot_si_next hT zda ?_ (zdL _))))
 delta Builtin.«set_iterator.__next__»
 refine Xaa (m:=slotArgs "__next__" 0 _) (Xac ?_)
 dsimp only
 refine Xaa (wpAny_fieldsOf hI rfl ?_)
 show wpAny _ _ (setEntries a >>= _) _ _ s
 refine Xaa (wpAny_setEntries_of ha rfl hf ?_)
 rw [if_neg (by simp)]
 have far:∀ {T:Addr} {o:Obj},s.heap.get? T=some o→o.cls = .type "tuple" → T≠I:=fun {T o} e c z=>by rw [z,hI] at e;cases e;exact absurd (show ("set_iterator" : String) = "tuple" by injection c) (by decide)
 rcases m with ⟨bt,⟨k,rfl⟩,ev⟩ | ⟨bt,dr,led,⟨k,rfl,bk⟩,ev⟩ | ⟨bt,T,pl,rfl,eT,hl,hp,ev⟩
 ·
  show wpAny _ _ (setNext a (k:Int).toNat (i:Int).toNat (ep:Int).toNat >>= _) _ _ s
  rw [Xag,Xag,Xag]
  unfold setNext setsByText setWalk
  refine Xaa (Xaa (Xbe ha rfl hf ?_))
  refine Xaa (Xaa (Xa7 (Xac ?_)))
  rw [show (model prog w).w.params.followText "set-order" = true from bt,if_pos rfl,show (ep != ep)=false by simp,if_neg Xap]
  refine Xaa (Xaa (Xbe ha rfl hf ?_))
  unfold setsByText
  refine Xaa (Xaa (Xa7 (Xac ?_)))
  rw [show (model prog w).w.params.followText "set-order" = true from bt,if_pos rfl]
  refine Xaa (Xa7 (Xac (Xac ?_)))
  have e1:(pickOrder ((model prog w).w.params.setOrder a ep) es)[i]?.map (fun e=>(e.2,k))=some (x,k):=by
   rw [ev,Xaq,Xbq] at hx
   obtain ⟨e,h1,h2⟩:=XaP.mp hx
   show (pickOrder (w.params.setOrder a ep) es)[i]?.map _=_
   rw [h1,← h2];rfl
  rw [e1]
  refine Xaa (Xa3 hI rfl (by simp) ?_)
  have h1:=zfb (j:=0) (x:=.int (k:Int) 0) hI
  refine Xaa (Xa3 h1 rfl (by simp) ?_)
  have h2:=zfb (j:=1) (x:=.int ((i:Int)+1) 0) h1
  refine Xac ⟨_,rfl,?_⟩
  refine Xac (hq _ (.int (k:Int) 0) ((Heap.SameBut.update _ _ _).trans (Heap.SameBut.update _ _ _)) h2 (.inl ⟨bt,⟨k,rfl⟩,ev⟩) fun T z=>by cases z)
 ·
  have hi:i<es.size:=by
   have:=(Xaf.mp hx).1
   rw [ev,Xal] at this;simpa using this
  have hip:i<t.place.size:=by omega
  show wpAny _ _ (setNext a (k:Int).toNat (i:Int).toNat (ep:Int).toNat >>= _) _ _ s
  rw [Xag,Xag,Xag]
  unfold setNext setsByText
  refine Xaa (Xaa (Xbe ha rfl hf ?_))
  refine Xaa (Xaa (Xa7 (Xac ?_)))
  rw [show (model prog w).w.params.followText "set-order" = false from bt,if_neg Xap]
  rw (transparency:=.default) [if_neg (fun z=>Xap (dr.symm.trans z))]
  refine Xaa ?_
  show wpAny _ _ (if (!t.led && !es.isEmpty)=true then (unsupported "set:maker-not-led" : Sem Unit) else pure ()) _ _ s
  rw [if_neg (by rw [led];exact Xap)]
  refine Xac (Xac ?_)
  have e1:es[i]? = some (es[i].1,x):=by
   rw [ev,Xaq,Xbq,XaO hi] at hx
   rw [XaO hi,← Option.some.inj hx]
  rw [bk,e1,XaO hip]
  refine Xaa (Xa3 hI rfl (by simp) ?_)
  have h1:=zfb (j:=0) (x:=.int ((t.place[i]+1:Nat):Int) 0) hI
  refine Xaa (Xa3 h1 rfl (by simp) ?_)
  have h2:=zfb (j:=1) (x:=.int ((i:Int)+1) 0) h1
  refine Xac ⟨_,rfl,?_⟩
  refine Xac (hq _ (.int ((t.place[i]+1:Nat):Int) 0) ((Heap.SameBut.update _ _ _).trans (Heap.SameBut.update _ _ _)) h2 (.inr (.inl ⟨bt,dr,led,⟨t.place[i]+1,rfl,zi3 hr hip⟩,ev⟩)) fun T z=>by cases z)
 ·
  have hip:i<pl.length:=by
   have:=(Xaf.mp hx).1
   rw [ev,Xal] at this;exact this
  have hpi:pl[i]<es.size:=hp _ (XbQ hip)
  show wpAny _ _ (seqItems? (.ref T) >>= _) _ _ s
  refine Xaa (Xbl eT rfl ?_)
  dsimp only
  rw [Xag,List.getElem?_toArray,Xaq,Xaw hip]
  show wpAny _ _ (setNextDrawn a ((pl[i]:Nat):Int).toNat (ep:Int).toNat >>= _) _ _ s
  rw [Xag,Xag]
  unfold setNextDrawn
  refine Xaa (Xaa (Xbe ha rfl hf ?_))
  dsimp only
  rw [show (ep != ep)=false by simp,if_neg Xap]
  have e1:es[pl[i]]? = some (es[pl[i]].1,x):=by
   rw [ev,Xaq,Xaw hip,Option.map_some,XaO hpi] at hx
   rw [XaO hpi,← Option.some.inj hx];rfl
  rw [e1]
  refine Xac ?_
  refine Xaa (Xa3 hI rfl (by simp) ?_)
  have h1:=zfb (j:=1) (x:=.int ((i:Int)+1) 0) hI
  refine Xac ⟨_,rfl,?_⟩
  refine Xac (hq _ (.ref T) (Heap.SameBut.update _ _ _) h1 (.inr (.inr ⟨bt,T,pl,rfl,?_,hl,hp,ev⟩)) fun T' z=>z)
  exact (Heap.SameBut.update s.heap I _).extBut T _ (far eT rfl) eT
end
theorem zdJ:Slot "set_iterator" "__iter__" "set_iterator.__iter__" :=
 .of (owner := "set_iterator") (n := "__iter__") (by rw [typeLookup_type,builtinLookup_eq_fast];kernel_rfl) (by decide +kernel) (by decide +kernel) (by decide +kernel) (by first | exact .inl (by decide +kernel) | exact .inr (by decide +kernel)) (by rw [isSubtype_type];kernel_rfl)
theorem zfQ:entryFor table "set_iterator.__iter__" = some Builtin.«dict_keyiterator.__iter__»:=entryFor_alias (id' := "dict_keyiterator.__iter__") (by kernel_rfl) rfl (by decide +kernel) (by kernel_rfl)
theorem zgP (a:Value):argsOk "set_iterator.__iter__" ⟨[a],[]⟩:=by
 unfold argsOk;rw [signature?_of (id := "set_iterator.__iter__") (n:=['_','_','r','e','t','i','_','_']) (o:=['r','o','t','a','r','e','t','i','_','t','e','s']) (by kernel_rfl) zh4];kernel_rfl
section
variable {prog:Program}{w:World}{A:Around}{E:Value→Shared→Prop}{s:Shared}
theorem zgY {α:Type}{Q:α→Shared→Prop}(hh:A.handled=none)(q:∀ e,(∃ o,(s.heap.push (seqObj "tuple" #[] 0)).push o=(s.heap.push (seqObj "tuple" #[] 0)).push o)→∀ h',Heap.ExtBut s.heap.objs.size s.heap h'→(∀ b o,s.heap.get? b=some o→h'.get? b=some o)→(∃ o,h'.get? e=some o∧o.cls = .type "StopIteration")→E (.ref e) { s with heap:=h' }) :
  wpAny (model prog w) A (do raiseNew (← newExc (.type "StopIteration") [])) Q E s:=by
 refine Xaa ?_;simp only [newExc,newTuple];refine Xaa (XaR ?_ (by size_fits))
 refine Xaa (m:=firstArgMember _ _) (wpAny_of_eq (a:=Value.none) (by first | rfl | (simp only [firstArgMember];rfl)) ?_);refine XaR ?_ (by size_fits)
 simp only [raiseNew];refine Xaa (wpAny_handled ?_);rw [hh];refine Xaa (Xac (wpAny_throw ?_))
 refine q _ ⟨default,rfl⟩ _ (fun b o _ e=>Xab _ (Xab _ e)) (fun b o e=>Xab _ (Xab _ e)) ⟨_,Xaj _ rfl,rfl⟩
theorem zmx {I a:Addr}{es:Array (Int×Value)}{ep:Nat}{t:SetTable}{vs:List Value}{first:Value}{Q:Option Value→Shared→Prop}(hh:A.handled=none)(hI:s.heap.get? I=some (siO first (vs.length:Int) (.ref a) (es.size:Int) (ep:Int)))(ha:s.heap.get? a=some (sObj es ep t))(hf:t.fits es.size=true)(hr:t.place.toList.Pairwise (· < ·))
  (m:zi7 w a es ep t vs s.heap vs.length first)
  (hq:∀ h',Heap.ExtBut I s.heap h'→Q none { s with heap:=h' }):wpAny (model prog w) A (pyNext (.ref I)) Q E s:=by
 have hT:s.TypeIs (.ref I) "set_iterator" := ⟨_,hI,rfl⟩
 unfold pyNext
 refine Xaa (wpAny_attempt (wpAny_callSpecial?_slot (name:=Str.ofString "__next__") hT slot_si_next (XaW slot_si_next hT zda ?_ (zdL _))))
 delta Builtin.«set_iterator.__next__»
 refine Xaa (m:=slotArgs "__next__" 0 _) (Xac ?_)
 dsimp only
 refine Xaa (wpAny_fieldsOf hI rfl ?_)
 show wpAny _ _ (setEntries a >>= _) _ _ s
 refine Xaa (wpAny_setEntries_of ha rfl hf ?_)
 rw [if_neg (by simp)]
 
 have last:∀ {Q':PySem.Fin→Shared→Prop} (h1:Heap),Heap.SameBut I s.heap h1→wpAny (model prog w) A.in1 (do raiseNew (← newExc (.type "StopIteration") [])) Q' (fun e s'=>wpAny (model prog w) A (do let __do_lift ← isInstance e (Value.type "StopIteration");if __do_lift=true then pure none else throw e) Q E s') { s with heap:=h1 }:=fun {Q'} h1 b1=>by
  refine zgY hh fun e _ h' _ k he=>?_
  obtain ⟨o,ho,hcl⟩:=he
  refine Xaa (wpAny_isInstance (T := "StopIteration") (b:=true) ⟨o,ho,hcl⟩ isSubtype_stop ?_)
  exact Xac (hq h' fun b o hb e=>k b o (b1.extBut b o hb e))
 rcases m with ⟨bt,⟨k,rfl⟩,ev⟩ | ⟨bt,dr,led,⟨k,rfl,bk⟩,ev⟩ | ⟨bt,T,pl,rfl,eT,hl,hp,ev⟩
 ·show wpAny _ _ (setNext a (k:Int).toNat (vs.length:Int).toNat (ep:Int).toNat >>= _) _ _ s
  rw [Xag,Xag,Xag]
  unfold setNext setsByText setWalk
  refine Xaa (Xaa (Xbe ha rfl hf ?_))
  refine Xaa (Xaa (Xa7 (Xac ?_)))
  rw [show (model prog w).w.params.followText "set-order" = true from bt,if_pos rfl,show (ep != ep)=false by simp,if_neg Xap]
  refine Xaa (Xaa (Xbe ha rfl hf ?_))
  unfold setsByText
  refine Xaa (Xaa (Xa7 (Xac ?_)))
  rw [show (model prog w).w.params.followText "set-order" = true from bt,if_pos rfl]
  refine Xaa (Xa7 (Xac (Xac ?_)))
  have e1:(pickOrder ((model prog w).w.params.setOrder a ep) es)[vs.length]? = none:=by
   rw [← Xbq,XaL]
   rw [ev,Xal];exact Xae _
  rw [e1]
  refine Xaa (Xa3 hI rfl (by simp) ?_)
  exact last _ (Heap.SameBut.update _ _ _)
 ·show wpAny _ _ (setNext a (k:Int).toNat (vs.length:Int).toNat (ep:Int).toNat >>= _) _ _ s
  rw [Xag,Xag,Xag]
  unfold setNext setsByText
  refine Xaa (Xaa (Xbe ha rfl hf ?_))
  refine Xaa (Xaa (Xa7 (Xac ?_)))
  rw [show (model prog w).w.params.followText "set-order" = false from bt,if_neg Xap]
  rw (transparency:=.default) [if_neg (fun z=>Xap (dr.symm.trans z))]
  refine Xaa ?_
  show wpAny _ _ (if (!t.led && !es.isEmpty)=true then (unsupported "set:maker-not-led" : Sem Unit) else pure ()) _ _ s
  rw [if_neg (by rw [led];exact Xap)]
  refine Xac (Xac ?_)
  have e1:es[vs.length]? = none:=by
   rw [← Xbq,XaL]
   rw [ev,Xal];exact Xae _
  rw [bk,e1]
  refine Xaa (Xa3 hI rfl (by simp) ?_)
  exact last _ (Heap.SameBut.update _ _ _)
 ·show wpAny _ _ (seqItems? (.ref T) >>= _) _ _ s
  refine Xaa (Xbl eT rfl ?_)
  dsimp only
  have e1:(pl.map fun (p:Nat)=>Value.int (p:Int) 0).toArray[vs.length]? = none:=by
   rw [List.getElem?_toArray,XaL]
   rw [ev,Xal,Xal];exact Xae _
  rw [Xag,e1]
  refine Xaa (Xa3 hI rfl (by simp) ?_)
  have h1:=zfb (j:=0) (x:=.int 0 0) hI
  refine Xaa (Xa3 h1 rfl (by simp) ?_)
  exact last _ ((Heap.SameBut.update _ _ _).trans (Heap.SameBut.update _ _ _))
theorem zkQ {I a:Addr}{es:Array (Int×Value)}{ep:Nat}{t:SetTable}{vs:List Value}{fp:List Addr}(hh:A.handled=none)(hf:t.fits es.size=true)(hr:t.place.toList.Pairwise (· < ·))(hIa:I≠a)(hI:I∈fp)(ha:a∈fp) :
  Walks prog w A I fp [I] vs.length (fun i v=>vs[i]? = some v) (fun i h=>∃ first,h.get? I=some (siO first (i:Int) (.ref a) (es.size:Int) (ep:Int))∧h.get? a=some (sObj es ep t)∧zi7 w a es ep t vs h i first∧∀ T:Addr,first = .ref T→T∈fp) where
 sub:=fun b hb=>by rw [Xad.mp hb];exact hI
 frame:=fun i h h' ⟨first,e1,e2,m,m2⟩ k=>by
  refine ⟨first,k I hI _ e1,k a ha _ e2,?_,m2⟩
  rcases m with z | z | ⟨bt,T,pl,ef,eT,r⟩
  ·exact .inl z
  ·exact .inr (.inl z)
  ·exact .inr (.inr ⟨bt,T,pl,ef,k T (m2 T ef) _ eT,r⟩)
 item:=fun i s Q E hi ⟨first,e1,e2,m,m2⟩ q=>by
  have hx:vs[i]? = some vs[i]:=Xaw hi
  refine zmw e1 e2 hf hr m hx fun h' first' b g m' mt=>?_
  have:=q vs[i] h' s.toks hx ⟨first',g,b.extBut a _ (Ne.symm hIa) e2,m',?_⟩ fun b' o hb' e=>b.extBut b' o (fun z=>hb' (by rw [z];exact Xad.mpr rfl)) e
  ·exact this
  ·exact fun T z=>m2 T (mt T z)
 done:=fun s Q E ⟨first,e1,e2,m,m2⟩ q=>zmx hh e1 e2 hf hr m fun h' k=>q h' s.toks fun b o hb e=>k b o (fun z=>hb (by rw [z];exact Xad.mpr rfl)) e
 self:=fun i s Q E ⟨first,e1,e2,m,m2⟩ q=>by
  have hT:s.TypeIs (.ref I) "set_iterator" := ⟨_,e1,rfl⟩
  refine wpAny_pyIter_slot hT zdJ (XaW zdJ hT zfQ ?_ (zgP _))
  delta Builtin.«dict_keyiterator.__iter__»
  refine Xaa (m:=slotArgs "__iter__" 0 _) (Xac ?_)
  exact Xac ⟨_,rfl,"set_iterator",_,hT,slot_si_next.lookup,q⟩
end
section
variable {prog:Program}{w:World}{A:Around}{E:Value→Shared→Prop}{s:Shared}
theorem ziw (es:Array (Int×Value)):(List.range es.size).map (fun p=>((es[p]?).getD (0,.none)).2)=es.toList.map (·.2):=by
 apply List.ext_getElem
 ·simp
 ·intro i h1 h2
  have hi:i<es.size:=by simpa using h1
  simp [XaO hi]
theorem zkS {a:Addr}{es:Array (Int×Value)}{ep:Nat}{t:SetTable}{Q:Value→Shared→Prop}(ha:s.heap.get? a=some (sObj es ep t))(Tb:Tab (!w.params.followText "set-order") t es.size)(hz:es.size≤sizeLine)
  (q:∀ (h':Heap) (d:Drawn) (I:Addr) (first:Value) (vs:List Value),(∀ b o,s.heap.get? b=some o→h'.get? b=some o)→h'.get? I=some (siO first 0 (.ref a) (es.size:Int) (ep:Int))→zi7 w a es ep t vs h' 0 first→vs.Perm (es.toList.map (·.2))→s.heap.objs.size≤I→I<h'.objs.size→(∀ T:Addr,first = .ref T→s.heap.objs.size≤T∧T<h'.objs.size)→Q (.ref I) { s with heap:=h',drawn:=d }) :
  wpAny (model prog w) A (pyIter (.ref a)) Q E s:=by
 have hT:s.TypeIs (.ref a) "set" := ⟨_,ha,rfl⟩
 refine wpAny_pyIter_slot hT F.slot_set_iter (XaW F.slot_set_iter hT zgA ?_ (F.args_set_iter_1 _))
 delta Builtin.«frozenset.__iter__»
 unfold Builtin.Frozenset.slot0
 refine Xaa (Xaa (m:=slotArgs "__iter__" 0 _) (Xac ?_))
 unfold Builtin.Frozenset.addrOf
 refine Xac ?_
 dsimp only
 unfold Builtin.Frozenset.sizeOf
 refine Xaa (Xaa (wpAny_setEntries_of ha rfl Tb.fits (Xac ?_)))
 unfold setDrawn setsByText
 refine Xaa (Xaa (Xbe ha rfl Tb.fits ?_))
 refine Xaa (Xaa (Xa7 (Xac (Xac ?_))))
 rw [show (model prog w).w.params.followText "set-order" = w.params.followText "set-order" from rfl]
 have fin:∀ (s1:Shared) (first:Value),s1.heap.get? a=some (sObj es ep t)→(Q (.ref s1.heap.objs.size) { s1 with heap:=s1.heap.push (siO first 0 (.ref a) (es.size:Int) (ep:Int)) }) →
   wpAny (model prog w) A.in1 (do let __do_lift ← setEpoch a;let __do_lift ← newFields "set_iterator" [first,rawInt 0,.ref a,rawInt (es.size:Int),rawInt (__do_lift:Int)];ret __do_lift) (fun fin s'=>∃ v,fin = .done (.ret v)∧∃ T' r,s'.TypeIs v T'∧typeLookup (.type T') (Str.ofString "__next__")=pure (some r)∧Q v s') E s1:=fun s1 first h1 hq=>by
  refine Xaa (wpAny_setEpoch_of h1 rfl Tb.fits ?_)
  refine Xaa (XaR ?_)
  exact Xac ⟨_,rfl,"set_iterator",_,⟨_,Xaj _ rfl,rfl⟩,slot_si_next.lookup,hq⟩
 have plain:∀ vs:List Value,zi7 w a es ep t vs (s.heap.push (siO (.int 0 0) 0 (.ref a) (es.size:Int) (ep:Int))) 0 (.int 0 0)→vs.Perm (es.toList.map (·.2))→Q (.ref s.heap.objs.size) { s with heap:=s.heap.push (siO (.int 0 0) 0 (.ref a) (es.size:Int) (ep:Int)) }:=fun vs m p =>
  q _ s.drawn s.heap.objs.size (.int 0 0) vs (fun b o e=>Xab _ e) (Xaj _ rfl) m p (Xae _) (by rw [XaN];exact Xbf _) (fun T z=>by cases z)
 cases bt:w.params.followText "set-order" with
 | true =>
  rw (transparency:=.default) [if_neg (show ¬ (!true && (!t.plain && decide (es.size > 1)))=true from Xap)]
  refine Xaa (Xac (fin s (rawInt 0) ha (plain _ (.inl ⟨bt,⟨0,rfl⟩,rfl⟩) ((zjx _ es).map _))))
 | false =>
  have led:t.led=true:=by have:=Tb.led;rw [bt] at this;exact this
  cases hd:(!t.plain && decide (es.size > 1)) with
  | false =>
   rw (transparency:=.default) [if_neg (show ¬ (!false && (!t.plain && decide (es.size > 1)))=true by rw [hd];exact Xap)]
   refine Xaa (Xac (fin s (rawInt 0) ha (plain _ (.inr (.inl ⟨bt,hd,led,⟨0,rfl,zi2 Tb.ris⟩,rfl⟩)) .rfl)))
  | true =>
   rw (transparency:=.default) [if_pos (show (!false && (!t.plain && decide (es.size > 1)))=true by rw [hd];rfl)]
   refine Xaa (zfj es.size (List.range es.size) s _ (by simp) fun ps d pp=>?_)
   refine Xaa (wpAny_newTuple ?_ ?_)
   ·refine fin { s with heap:=s.heap.push { cls:=.type "tuple",data:=.seq (ps.map fun (i:Nat)=>rawInt (i:Int)).toArray },drawn:=d } (.ref s.heap.objs.size) (Xab _ ha) ?_
    have hps:∀ p∈ps,p<es.size:=fun p hp=>Xbo.mp (pp.mem_iff.mp hp)
    refine q _ d _ (.ref s.heap.objs.size) (ps.map fun p=>((es[p]?).getD (0,.none)).2) (fun b o e=>Xab _ (Xab _ e)) (Xaj _ rfl) (.inr (.inr ⟨bt,s.heap.objs.size,ps,rfl,Xab _ (Xaj _ rfl),by rw [pp.length_eq,Xa9],hps,rfl⟩)) ?_ ?_ ?_ ?_
    ·rw [← ziw];exact pp.map _
    ·show s.heap.objs.size≤(s.heap.push _).objs.size
     rw [XaN];exact XbN _
    ·show (s.heap.push _).objs.size<((s.heap.push _).push _).objs.size
     simp only [XaN];exact Xbf _
    ·intro T z
     cases z
     refine ⟨Xae _,?_⟩
     show s.heap.objs.size<((s.heap.push _).push _).objs.size
     simp only [XaN];exact Nat.lt_succ_of_lt (Xbf _)
   ·rw [Xal,pp.length_eq,Xa9];exact hz
def fpOf:Value→List Addr
 | .ref T=>[T]
 | _=>[]
theorem zfu:typeLookup (.type "set") (Str.ofString "__len__")=pure (some (.builtin "set.__len__")):=F.slot_set_len.lookup
theorem zkT {a:Addr}(hT:s.TypeIs (.ref a) "set"){Q:Bool→Shared→Prop}(h:Q false s):wpAny (model prog w) A (Builtin.List.listLengthHint (.ref a)) Q E s:=by
 unfold Builtin.List.listLengthHint;refine Xaa (wpAny_specialOf hT zfu ?_)
 generalize hid:("set.__len__" : String)=id1;wp_delta
 rw [show splitId id1=some ("set","__len__") from by subst hid;decide +kernel];subst hid
 refine Xaa (wpAny_isInstance (T := "set") (b:=true) hT (by rw [isSubtype_type];kernel_rfl) ?_);refine wpAny_ite_split (fun z=>absurd z (by decide)) (fun _=>?_)
 refine wpAny_ite_split (fun _=>?_) (fun z=>absurd (by decide +kernel) z);exact Xaa (wpAny_typeOf hT (Xac h))
theorem zmk {es:List (Int×Value)}(h:∀ e∈es,EOk e):∀ {vs:List Value},vs.Perm (es.map (·.2))→∃ ns,IntsAre vs ns∧ns.Perm (zkd es):=fun {vs} p=>by
 have vI:∀ v∈vs,∃ n t,v=Value.int n t:=fun v hv=>by
  obtain ⟨e,he,rfl⟩:=XaF.mp (p.mem_iff.mp hv)
  obtain ⟨n,t,rfl⟩:=h e he
  exact ⟨n,t,rfl⟩
 have g:∀ l:List Value,(∀ v∈l,∃ n t,v=Value.int n t)→IntsAre l (l.map fun v=>eInt (0,v)):=fun l=>by
  induction l with
  | nil=>exact fun _=>.nil
  | cons v l ih =>
   intro hl
   obtain ⟨n,t,rfl⟩:=hl v (Xav ..)
   exact .cons _ _ (ih fun v hv=>hl v (Xau _ hv))
 refine ⟨vs.map fun v=>eInt (0,v),g vs vI,?_⟩
 have q:=p.map fun v=>eInt (0,v)
 rw [Xbd] at q
 exact q
theorem zg4 {a:Addr}{S:List Int}{R:List Value→Shared→Prop}(hh:A.handled=none)(hS:SetI (!w.params.followText "set-order") s.heap a S)(hz:S.length<1000)
  (h:∀ (h':Heap) (tk:Nat) (d:Drawn) (ns:List Int) (vs:List Value),(∀ b o,s.heap.get? b=some o→h'.get? b=some o)→IntsAre vs ns→ns.Perm S→R vs { s with heap:=h',toks:=tk,drawn:=d }) :
  wpAny (model prog w) A (collect (.ref a)) R E s:=by
 obtain ⟨es,ep,t,ha,hE,hP,hN,Tb⟩:=hS
 have hsz:es.size=S.length:=by rw [← Array.length_toList,← hP.length_eq];unfold zkd;rw [Xal]
 have hzl:es.size≤sizeLine:=Xam (show es.size≤1000 by omega) (by decide)
 have hal:a<s.heap.objs.size:=Xao ha
 unfold collect
 refine Xaa (wpAny_runValue (codeAny_builtin F.entry_proto_collect ?_));rw [Around.under_plainId F.plain_proto_collect _]
 show wpAny _ A.in1 (newList [] >>= fun l=>again (.builtin "list.__iadd__" ⟨[l,.ref a],[]⟩)) _ _ s;refine Xaa (XaR ?_)
 refine Xac ⟨plainId_quiet F.plain_list_iadd _,codeAny_builtin F.entry_list_iadd ?_⟩;rw [Around.under_plainId F.plain_list_iadd _]
 generalize hD:s.heap.objs.size=D
 have hg:s.heap.push { cls:=.type "list",data:=.seq ([]:List Value).toArray }=s.heap.push (seqObj "list" #[] 0):=rfl
 generalize hh1:s.heap.push { cls:=.type "list",dict:=none,data:=.seq ([]:List Value).toArray }=h1
 have k1:∀ b o,s.heap.get? b=some o→h1.get? b=some o:=fun b o e=>by rw [← hh1];exact Xab _ e
 have eD:h1.get? D=some { cls:=.type "list",data:=.seq #[] }:=by rw [← hh1,← hD];exact Xaj _ rfl
 have sz1:h1.objs.size=D+1:=by rw [← hh1,XaN,hD]
 have ha1:=k1 _ _ ha
 show wpAny _ A.in1 (Builtin.List.listExtendWith (.ref D) (.ref a) (.ref D)) _ _ { s with heap:=h1 }
 unfold Builtin.List.listExtendWith
 refine Xaa (wpAny_typeOf (show Shared.TypeIs { s with heap:=h1 } (.ref a) "set" from ⟨_,ha1,rfl⟩) ?_)
 have ns:Builtin.List.listSameRef (.ref D) (.ref a)=false:=by
  have hne:D≠a:=by rw [← hD];exact XbC hal
  simp [Builtin.List.listSameRef,hne]
 rw [if_neg (by rw [ns];decide)]
 refine Xaa (zkS (s:={ s with heap:=h1 }) ha1 Tb hzl fun h2 d I first vs k2 eI m pv hI hI2 hT=>?_)
 have k12:∀ b o,s.heap.get? b=some o→h2.get? b=some o:=fun b o e=>k2 b o (k1 b o e)
 have ha2:=k12 _ _ ha
 refine Xaa (Xba ?_)
 refine zkT (show Shared.TypeIs { s with heap:=h2,drawn:=d } (.ref a) "set" from ⟨_,ha2,rfl⟩) ?_
 have eD2:=k2 _ _ eD
 refine wpAny_ite_split (fun _=>?_) (fun z=>absurd (by decide +kernel) z)
 refine Xaa (Xbw (Xaa ?_))
 show wpAny _ A.in1 (updateSeq D (·.push .none) >>= fun _=>updateSeq D (·.pop)) _ _ { s with heap:=h2,drawn:=d }
 refine Xaa (wpAny_updateSeq eD2 rfl ?_)
 have eD3:=XaT (Obj.mapSeq (·.push Value.none)) eD2 rfl
 refine wpAny_updateSeq eD3 rfl ?_
 have eD4:=XaT (Obj.mapSeq (·.pop)) eD3 rfl
 generalize hh4:(h2.update D (Obj.mapSeq (·.push Value.none))).update D (Obj.mapSeq (·.pop))=h4 at eD4
 have k24:∀ b o,b≠D→h2.get? b=some o→h4.get? b=some o:=fun b o hb e=>by
  rw [← hh4]
  exact (XaY _ _ (Ne.symm hb)).trans ((XaY _ _ (Ne.symm hb)).trans e)
 have naD:a≠D:=by rw [← hD];exact Xaz hal
 have hI':h1.objs.size≤I:=hI
 have hT':∀ T:Addr,first = .ref T→h1.objs.size≤T:=fun T z=>(hT T z).1
 have nID:I≠D:=fun z=>by rw [z,sz1] at hI';exact absurd hI' (Nat.not_succ_le_self D)
 have nTD:∀ T:Addr,first = .ref T→T≠D:=fun T z z2=>by have q:=hT' T z;rw [z2,sz1] at q;exact absurd q (Nat.not_succ_le_self D)
 have hIa:I≠a:=fun z=>by rw [z,sz1,← hD] at hI';exact absurd (Xak hal (Xam (XbN _) hI')) (XaU _)
 have W:Walks prog w A.in1 I (I :: a :: fpOf first) [I] vs.length (fun i v=>vs[i]? = some v) _:=zkQ (es:=es) (ep:=ep) (t:=t) (vs:=vs) hh Tb.fits Tb.ris hIa (Xav ..) (Xau _ (Xav ..))
 have hSf:D ∉ I :: a :: fpOf first:=fun z=>by
  rcases Xan.mp z with z | z
  ·exact nID z.symm
  ·rcases Xan.mp z with z | z
   ·exact naD z.symm
   ·cases first with
    | ref T=>exact nTD T rfl (Xad.mp z).symm
    | _=>cases z
 refine Xac ⟨plainId_quiet F.plain_extend_loop _,codeAny_extend_loopS W.toS (by rw [pv.length_eq,Xal,Array.length_toList];exact hzl) D hSf (.ref D) vs.length 0 { s with heap:=h4,drawn:=d } _ _ rfl (Nat.zero_le _) ?_ eD4 (ItemsOf.nil _) fun s' acc' c' hm hS' hacc=>?_⟩
 ·refine ⟨first,k24 _ _ nID eI,k24 _ _ naD ha2,?_,fun T z=>?_⟩
  ·rcases m with z | z | ⟨bt,T,pl,ef,eT,r⟩
   ·exact .inl z
   ·exact .inr (.inl z)
   ·exact .inr (.inr ⟨bt,T,pl,ef,k24 _ _ (nTD T ef) eT,r⟩)
  ·subst z;exact Xau _ (Xau _ (Xad.mpr rfl))
 ·show wpAny _ A (load D >>= _) _ _ s'
  refine Xaa (wpAny_load hS' (Xac ?_))
  have ev:acc'.toList=vs:=by
   obtain ⟨z1,z2⟩:=hacc
   apply List.ext_getElem?
   intro j
   by_cases hj:j<acc'.size
   ·have e1:acc'.toList[j]? = some acc'[j]:=by rw [Xbq,XaO hj]
    rw [e1,z2 j acc'[j] (XaO hj)]
   ·rw [XaL (by rw [Array.length_toList];exact Nat.not_lt.mp hj),XaL (by rw [← z1];exact Nat.not_lt.mp hj)]
  rw [ev]
  obtain ⟨nn,hi,hp⟩:=zmk (es:=es.toList) hE pv
  have kk:∀ b o,s.heap.get? b=some o→s'.heap.get? b=some o:=fun b o e=>by
   have hb:=Xao e
   have nb:b≠D:=fun z=>by rw [z,hD] at hb;exact absurd hb (XaU _)
   refine hm.heap b o (fun z=>?_) (k24 b o nb (k12 b o e))
   rcases Xan.mp z with z | z
   ·exact nb z
   ·rw [Xad.mp z] at hb
    rw [sz1,← hD] at hI'
    exact absurd (Xak hb (Xam (XbN _) hI')) (XaU _)
  have fin:=h s'.heap s'.toks d nn vs kk hi (hp.trans hP)
  have g:s'.gens=s.gens:=hm.gens
  have dd:s'.drawn=d:=hm.drawn
  have oo:s'.os=s.os:=hm.os
  have e':s'={ s with heap:=s'.heap,toks:=s'.toks,drawn:=d }:=by
   rw [← g,← dd,← oo]
  rw [e'];exact fin
end
end L2
end
section
namespace L2
open PySem PySem.Spec PyProof.Rows HT
theorem Inv.draw {X:Cx}{pins:List (Addr×Obj)}{σ:St}{H:Hp}{s:Shared}(I:Inv X pins σ H s)(d:Drawn):Inv X pins σ H { s with drawn:=d }:=⟨I.ok,I.os,I.bare,I.base,I.loc,I.cell,I.free,I.freeC,I.pin,I.hok,I.len⟩
def stI (w:World)(a:Addr)(S:List Int):Heap→Prop:=fun h=>SetI (!w.params.followText "set-order") h a S
theorem stI_ok {P:Program}{w:World}{H:Hp}{h:Heap}{a:Addr}{S:List Int}(x:stI w a S h):ObjOk P w H h a (.ext (stI w a S)):=by
 refine ⟨x,?_,fun h1 h2 y k=>y.at k⟩
 obtain ⟨es,ep,t,g,_⟩:=x
 exact ⟨_,g⟩
theorem zgF {X:Cx}(hc:X.calm=true):zdI X (.builtin "sorted") (fun xs H Q=>∃ (a:Addr) (S:List Int),xs=[.ref a]∧H a=some (.ext (stI X.w a S))∧S.length<64 ∧
  ∀ (l:Addr) (ns:List Int),H l=none→ns.Perm S→ns.Pairwise (·≤·)→Q (.ref l) (upd H l (.lst (ns.map V.int)))):=by
 intro pins s σ H xs us Q I r h
 obtain ⟨a,S,rfl,ea,h64,q⟩:=h
 obtain ⟨u,rfl,r1⟩:=zd8 r
 obtain rfl:u=Value.ref a:=r1
 obtain ⟨hS,_,_⟩:=(show ObjOk X.prog X.w H s.heap a (.ext (stI X.w a S)) from I.hok a _ ea)
 refine zf1 (zg4 (I.ok.hd hc) hS (by omega) fun h' tk d ks vs kp hI hP=>?_)
 have hl:vs.length=ks.length:=hI.length
 have hk:ks.length<64:=by rw [hP.length_eq];exact h64
 refine ⟨Xam (show vs.length≤64 by omega) (by decide),?_⟩
 refine list_sort_tree (s:={ s with heap:=h'.push (seqObj "list" vs.toArray 0),toks:=tk,drawn:=d }) (Xaj _ rfl) hI (by omega) fun out ns a1 a2 a3=>⟨rfl,?_⟩
 have hsz:h'.objs.size<(h'.push (seqObj "list" vs.toArray 0)).objs.size:=by rw [XaN];exact Xbf _
 have I2:Inv X pins σ H { s with heap:=h',toks:=tk,drawn:=d }:=(I.kept (t':=tk) kp).draw d
 obtain ⟨c,hc'⟩:=sortedHeap_at (a:=h'.objs.size) (vs:=vs) (out:=out) (Xaj (h:=h') (o:=seqObj "list" vs.toArray 0) rfl)
 refine ⟨.ref _,_,I2.laid (t':=tk) (o:=.lst (ns.map V.int)) (fun b o eb=>?_) (Xae _) ?_,rfl,q _ ns (I2.hok.fresh (Xae _)) (a2.trans hP) a3⟩
 ·have hb:=Xao eb
  rw [sortedHeap_old (Xaz hb) (Nat.lt_trans hb hsz)];exact Xab _ eb
 ·refine ⟨?_,out.toList,_,zcW a1,by simpa [seqObj] using hc'⟩
  rw [Xal,a2.length_eq];exact Xam (Xbt hk) (by decide)
theorem zkN (elt target iter:Expr)(ifs:List Expr)(scope:Scope)(pos:Pos)(it acc:Value)(env:Env):compTurn (.SetComp elt [⟨target,iter,ifs,0⟩] scope pos) 0 it acc env=(do
   standAt iter.pos;match ← pyNext it with
   | none=>pure (.done .next)
   | some v=>do
    letOwnedTupleGo target it v;assign target env v;let mut ok:=true
    for c in ifs do if ok then ok ← isTrue c env (eval c env)
    if ok then (do let v ← eval elt env;standAt elt.pos;let _ ← call (.builtin "set.add") [acc,v])
    again (.compLoop (.SetComp elt [⟨target,iter,ifs,0⟩] scope pos) 0 it acc env)):=by rfl
section
variable {prog:Program}{w:World}{A:Around}{E:Value→Shared→Prop}{R:Result→Shared→Prop}{s:Shared}
theorem zjf {elt target iter ifs rest scope pos it acc env}
  (h0:codeAny (model prog w) A (.compLoop (.SetComp elt (⟨target,iter,ifs,0⟩ :: rest) scope pos) 0 it acc env) R s)
  (h:wpAny (model prog w) A (pyIter it) (fun it' s'=>codeAny (model prog w) A (.compLoop (.SetComp elt (⟨target,iter,ifs,0⟩ :: rest) scope pos) 0 it' acc env) R s') (notedBy (model prog w) A env fun x s'=>R (.error x) s') s) :
  codeAny (model prog w) A (.compStart (.SetComp elt (⟨target,iter,ifs,0⟩ :: rest) scope pos) 0 it acc env) R s:=by
 refine codeAny_of_tree ?_
 show wpAny _ A ((compStart (.SetComp elt (⟨target,iter,ifs,0⟩ :: rest) scope pos) 0 it acc env).onRaise (fun x=>do noteFrame x env;standAt theWindowsPlace)) _ _ s
 refine wpAny_notedAt ?_;unfold compStart;show wpAny _ A (ask >>= _) _ _ s;refine Xaa (Xa7 (wpAny_ite ?_))
 split
 ·first | exact Xaa (Xac (Xac (And.intro rfl h0))) | exact Xac (And.intro rfl h0)
 ·first | exact Xaa (Xbw (Xaa (Xbj (Xaa (Xax h (fun it' s' h'=>Xac (And.intro rfl h')) fun _ _ x=>x))))) | (refine Xaa (Xbw ?_);show wpAny _ _ (standAt iter.pos >>= _) _ _ s;exact Xaa (Xbj (Xaa (Xax h (fun it' s' h'=>Xac (And.intro rfl h')) fun _ _ x=>x))))
def EMs (prog:Program)(w:World)(A:Around)(elt:Expr)(env:Env)(D:Addr)(p:Shared→Prop)(s:Shared):Prop:=
 wpAny (model prog w) A (eval elt env) (fun v s5=>wpAny (model prog w) A (call (.builtin "set.add") [.ref D,v]) (fun _ s6=>p s6) (fun _ _=>False) s5) (fun _ _=>False) s
theorem zlk {elt target iter:Expr}{ifs:List Expr}{scope:Scope}{pos:Pos}{it:Value}:CLoop prog w A target ifs (.SetComp elt [⟨target,iter,ifs,0⟩] scope pos) it (EMs prog w A elt) where
 mono:=fun env D p q s h k=>Xax h (fun v s5 h5=>Xax h5 (fun _ s6 h6=>k s6 h6) fun _ _ e=>e) fun _ _ e=>e
 loop:=fun env D I {R} turn n s h=>by
  refine codeAny_loop rfl I (fun n s hI=>?_) n h
  show wpAny _ A ((compTurn (.SetComp elt [⟨target,iter,ifs,0⟩] scope pos) 0 it (.ref D) env).onRaise (fun x=>do noteFrame x env;theTreesLotGoes x)) _ _ s
  refine wpAny_noted ?_
  rw [zkN]
  refine Xaa (Xbj (Xaa (Xax (turn n s hI) (fun r s1 h1=>?_) fun _ _ h'=>h'.elim)))
  cases r with
  | none=>exact Xac h1
  | some v =>
   refine Xaa (Xax h1 (fun _ s2 h2=>?_) fun _ _ h'=>h'.elim)
   refine Xaa (Xax h2 (fun _ s3 h3=>Xaa (Xax h3 (fun ok s4 h4=>?_) fun _ _ h'=>h'.elim)) fun _ _ h'=>h'.elim)
   cases ok with
   | false=>exact Xac ⟨rfl,h4⟩
   | true =>
    exact Xaa (Xaa (Xax h4 (fun x s5 h5=>Xaa (Xbj (Xaa (Xax h5 (fun _ s6 h6=>Xac (Xac ⟨rfl,h6⟩)) fun _ _ h'=>h'.elim)))) fun _ _ h'=>h'.elim))
 start:=fun env D R s h0 h=>zjf h0 h
end
def dd (ys:List Int):List Int:=ys.foldl (fun S n=>if n∈S then S else S ++ [n]) []
theorem zm3 (ys:List Int)(n:Int):dd (ys ++ [n])=if n∈dd ys then dd ys else dd ys ++ [n]:=by unfold dd;rw [List.foldl_append];rfl
theorem zmb (ys:List Int):(dd ys).length≤ys.length:=by
 have g:∀ (l:List Int) (S:List Int),(l.foldl (fun S n=>if n∈S then S else S ++ [n]) S).length≤S.length+l.length:=by
  intro l
  induction l with
  | nil=>intro S;exact Xae _
  | cons a l ih =>
   intro S
   refine Xam (ih _) ?_
   dsimp only
   split
   ·rw [Xar];omega
   ·have e1:(S ++ [a]).length=S.length+1:=by rw [Xay];rfl
    have e2:(a :: l).length=l.length+1:=rfl
    omega
 have:=g ys []
 simpa [dd] using this
theorem mem_dd {ys:List Int}{n:Int}:n∈dd ys↔n∈ys:=by
 have g:∀ (l:List Int) (S:List Int),n∈(l.foldl (fun S n=>if n∈S then S else S ++ [n]) S)↔n∈S∨n∈l:=by
  intro l
  induction l with
  | nil=>intro S;simp
  | cons a l ih =>
   intro S
   rw [List.foldl_cons,ih]
   by_cases h:a∈S
   ·rw [if_pos h]
    constructor
    ·rintro (z | z)
     ·exact .inl z
     ·exact .inr (Xau _ z)
    ·rintro (z | z)
     ·exact .inl z
     ·rcases Xan.mp z with rfl | z
      ·exact .inl h
      ·exact .inr z
   ·rw [if_neg h];simp [or_assoc]
 have:=g ys []
 simpa [dd] using this
def AOs (w:World)(ys:List Int)(o:Obj):Prop:=∃ es ep t,o=sObj es ep t∧(∀ e∈es.toList,EOk e)∧(zkd es.toList).Perm (dd ys)∧(dd ys).Nodup∧Tab (!w.params.followText "set-order") t es.size
theorem AOs.at {w:World}{ys:List Int}{o:Obj}(x:AOs w ys o){h:Heap}{a:Addr}(e:h.get? a=some o):SetI (!w.params.followText "set-order") h a (dd ys):=by
 obtain ⟨es,ep,t,rfl,r⟩:=x
 exact ⟨es,ep,t,e,r⟩
def emS (te:TE):TEm Int:=fun σ H Q=>te σ H fun v H1=>∃ i,v = .int i∧Q i H1
theorem zmH {Y:Cx}{elt:Expr}{te:TE}(he:PE Y elt te)(hxe:Y.xe=fun _ _=>False):PEm 500 Y (EMs Y.prog Y.w Y.A elt) (AOs Y.w) (emS te):=by
 intro D pins s σ H Q ys o I hp ao hl h
 refine Xax (he pins s σ H _ I h) (fun v s5 hh_=>?_) fun e s' z=>by rw [hxe] at z;exact z
 obtain ⟨x,H5,I5,rx,i,ex,q⟩:=hh_
 subst ex
 obtain ⟨t,rfl⟩:=(show ∃ t,v=Value.int i t from rx)
 have g5:=(I5.pin (D,o) (XaC _ hp)).1
 refine zmz (ao.at g5) (XaZ (zmb ys) (by omega)) fun h' sb x=>?_
 rw [← zm3] at x
 obtain ⟨es,ep,t',g',r'⟩:=x
 exact ⟨i,H5,s5,h',_,_,I5,⟨es,ep,t',rfl,r'⟩,sb,g',rfl,q⟩
section
variable {X:Cx}{Nc:List Str}{src:List (Option Nat)}{scope:Scope}{elt tg iter:Expr}{ifs:List Expr}{pos:Pos}{wi:TI}{g:TG}{tf:TT}{te:TE}
theorem zme (cl:List (Str×Addr))(C:Addr)(fp:List Addr)(s2:Shared)(H2:Hp):(cxC X Nc scope cl C fp s2 H2).xe=fun _ _=>False:=rfl
def tSetC (w:World)(src:List (Option Nat))(wi:TI)(g:TG)(tf:TT)(te:TE):TE:=fun σ H Q=>wi σ H fun J H1 =>
 zfo 500 J g tf (emS te) (fun ys H2=>∀ D,H2 D=none→Q (.ref D) (upd H2 D (.ext (stI w D (dd ys))))) (zcq src σ) H1
theorem mk_set {prog:Program}{w:World}{A:Around}{E:Value→Shared→Prop}(Q:Value→Shared→Prop)(s:Shared)(q:Q (.ref s.heap.objs.size) { s with heap:=s.heap.push (sObj #[] 0 (.fresh 0 0 (!w.params.followText "set-order"))) }):wpAny (model prog w) A (newSet (.type "set")) Q E s:=by
 unfold newSet setsByText
 exact Xaa (Xaa (Xa7 (Xac (XaR q))))
theorem ev_set (elt:Expr)(gens:List Comprehension)(scope:Scope)(pos:Pos)(env:Env):eval (.SetComp elt gens scope pos) env=comprehension (.SetComp elt gens scope pos) scope env (firstIterPos gens pos) (newSet (.type "set")) (firstAsync gens) (firstIter gens env):=rfl
theorem ziz (src:List (Option Nat))(hc:X.calm=true)(S:CompOk X.N X.env.scope Nc src scope)(hi:PI X tg iter wi)
  (hg:∀ cl C fp s2 H2,PG (cxC X Nc scope cl C fp s2 H2) tg g) (hf:∀ cl C fp s2 H2,PF (cxC X Nc scope cl C fp s2 H2) ifs tf) (he:∀ cl C fp s2 H2,PE (cxC X Nc scope cl C fp s2 H2) elt te)
  (hs:∀ x,foldedSetIterable iter X.env x=pure x:=by intro _;rfl):PE X (.SetComp elt [⟨tg,iter,ifs,0⟩] scope pos) (tSetC X.w src wi g tf te):=by
 intro pins s σ H Q I h
 obtain ⟨cl,hclos,hcl1,hcl2⟩:=zbq I.ok (scope:=scope) S.free
 rw [ev_set]
 refine XbP (use:=none) rfl hs hclos S.kind (fun x hx hl=>by obtain ⟨n,k⟩:=x;cases hl;exact zbp S.nodup hx) (thn (hi pins s σ H _ I h) fun xv s1 h1=>thn h1 fun itv s2 h2=>?_)
 obtain ⟨it,fp,tn,J,H2,e,I2,T,st2,f2,hw⟩:=h2
 subst e
 refine zdG (α:=Int) (B:=500) (ho:=fun D ys=>.ext (stI X.w D (dd ys))) (AO:=AOs X.w) (RR:=fun acc C=>compPost (model X.prog X.w) X.A X.xe none (EP X pins σ Q) acc C) hc I2 S hcl1 hcl2 T st2 f2 hg hf (fun cl C fp s2 H2=>zmH (he cl C fp s2 H2) (zme cl C fp s2 H2)) mk_set rfl ?_ ?_ ?_ zlk hw ?_
 ·exact ⟨#[],0,_,rfl,(fun e he=>nomatch he),.rfl,Xbp,⟨rfl,List.Pairwise.nil,rfl⟩⟩
 ·rintro ys o v ⟨es,ep,t,rfl,_⟩ z
  have z':Data.set es ep t=Data.cell v:=z
  cases z'
 ·intro ys o H h D ao _ _ g'
  exact stI_ok (ao.at g')
 intro H4 s4 ys m C hC hD Iout hn hCn q
 refine ⟨m,hn,fun h' sb=>⟨.ref s2.heap.objs.size,_,?_,rfl,q _ hD⟩⟩
 obtain ⟨f0,f1,f3,f4,f5,f6⟩:=I2.fpOk (H':=upd H4 s2.heap.objs.size (.ext (stI X.w s2.heap.objs.size (dd ys)))) hC hCn
 exact Iout.turned (t':=s4.toks) (it:=C) (fun b o hb e=>(sb.2 b hb).trans e) f0 f1 f4 f5 f6
end
section
variable {prog:Program}{w:World}{A:Around}{E:Value→Shared→Prop}{R:Result→Shared→Prop}{s:Shared}
def EMd (prog:Program)(w:World)(A:Around)(kx vx:Expr)(env:Env)(D:Addr)(p:Shared→Prop)(s:Shared):Prop:=
 wpAny (model prog w) A (eval kx env) (fun kv s4=>wpAny (model prog w) A (eval vx env) (fun vv s5=>wpAny (model prog w) A (dictSet D kv vv) (fun _ s6=>p s6) (fun _ _=>False) s5) (fun _ _=>False) s4) (fun _ _=>False) s
theorem zjV {kx vx target iter:Expr}{ifs:List Expr}{scope:Scope}{pos:Pos}{it:Value}:CLoop prog w A target ifs (.DictComp kx vx [⟨target,iter,ifs,0⟩] scope pos) it (EMd prog w A kx vx) where
 mono:=fun env D p q s h k=>Xax h (fun v s5 h5=>Xax h5 (fun _ s6 h6=>Xax h6 (fun _ s7 h7=>k s7 h7) fun _ _ e=>e) fun _ _ e=>e) fun _ _ e=>e
 loop:=fun env D I {R} turn n s h=>by
  refine codeAny_loop rfl I (fun n s hI=>?_) n h
  show wpAny _ A ((compTurn (.DictComp kx vx [⟨target,iter,ifs,0⟩] scope pos) 0 it (.ref D) env).onRaise (fun x=>do noteFrame x env;theTreesLotGoes x)) _ _ s
  refine wpAny_noted ?_
  rw [compTurn_dict]
  refine Xaa (Xbj (Xaa (Xax (turn n s hI) (fun r s1 h1=>?_) fun _ _ h'=>h'.elim)))
  cases r with
  | none=>exact Xac h1
  | some v =>
   refine Xaa (Xax h1 (fun _ s2 h2=>?_) fun _ _ h'=>h'.elim)
   refine Xaa (Xax h2 (fun _ s3 h3=>Xaa (Xax h3 (fun ok s4 h4=>?_) fun _ _ h'=>h'.elim)) fun _ _ h'=>h'.elim)
   cases ok with
   | false=>exact Xac ⟨rfl,h4⟩
   | true =>
    exact Xaa (Xaa (Xax h4 (fun kv s5 h5=>Xaa (Xba (Xax h5 (fun vv s6 h6=>Xaa (Xbj (Xba (Xax h6 (fun _ s7 h7=>Xac ⟨rfl,h7⟩) fun _ _ h'=>h'.elim)))) fun _ _ h'=>h'.elim))) fun _ _ h'=>h'.elim))
 start:=fun env D R s h0 h=>codeAny_compStart_dict h0 h
end
def dk (ys:List (Key×V)):List (Key×V):=ys.foldl (fun kvs p=>putK kvs p.1 p.2) []
theorem zke (ys:List (Key×V))(p:Key×V):dk (ys ++ [p])=putK (dk ys) p.1 p.2:=by unfold dk;rw [List.foldl_append];rfl
theorem zhY (kvs:List (Key×V))(k:Key)(v:V):(putK kvs k v).length≤kvs.length+1:=by
 unfold putK
 split
 ·rw [Xal];exact XbN _
 ·rw [Xay];exact Xae _
theorem zl9 (ys:List (Key×V)):(dk ys).length≤ys.length:=by
 have g:∀ (l:List (Key×V)) (S:List (Key×V)),(l.foldl (fun kvs p=>putK kvs p.1 p.2) S).length≤S.length+l.length:=by
  intro l
  induction l with
  | nil=>intro S;exact Xae _
  | cons a l ih =>
   intro S
   have h1:=ih (putK S a.1 a.2)
   have h2:=zhY S a.1 a.2
   have e2:(a :: l).length=l.length+1:=rfl
   rw [List.foldl_cons]
   omega
 have:=g ys []
 simpa [dk] using this
def AOd (P:Program)(w:World)(ys:List (Key×V))(o:Obj):Prop:=(∃ es ep,o.data = .dict es ep)∧∃ vs,KV (dk ys) vs∧∀ (h:Heap) (a:Addr),h.get? a=some o→h.DictOf (zaI P w) a vs
def emD (tk tv:TE):TEm (Key×V):=fun σ H Q=>tk σ H fun x H1=>∃ k,x=kV k∧tv σ H1 fun y H2=>Q (k,y) H2
theorem zk6 {Y:Cx}{kx vx:Expr}{tk tv:TE}(hk:PE Y kx tk)(hv:PE Y vx tv)(hxe:Y.xe=fun _ _=>False):PEm 1000 Y (EMd Y.prog Y.w Y.A kx vx) (AOd Y.prog Y.w) (emD tk tv):=by
 intro D pins s σ H Q ys o I hp ao hl h
 refine Xax (hk pins s σ H _ I h) (fun kv s4 hh_=>?_) fun e s' z=>by rw [hxe] at z;exact z
 obtain ⟨x,H4,I4,rx,k,ex,q4⟩:=hh_
 subst ex
 refine Xax (hv pins s4 σ H4 _ I4 q4) (fun vv s5 hh_=>?_) fun e s' z=>by rw [hxe] at z;exact z
 obtain ⟨y,H5,I5,ry,q⟩:=hh_
 have g5:=(I5.pin (D,o) (XaC _ hp)).1
 obtain ⟨_,vs,rel,dof⟩:=ao
 have hz:vs.length≤sizeLine:=by
  have e1:=rel.length
  have e2:=zl9 ys
  exact Xam (show vs.length≤1000 by omega) (by decide)
 refine wpAny_dictSet_pairs (hsz:=hz) (zhE rx) (dof _ _ g5) fun h' dd' sb=>?_
 obtain ⟨o',es,ep,g',x1,x2,x3⟩:=dd'
 refine ⟨(k,y),H5,s5,h',o',_,I5,⟨⟨es,ep,x2⟩,stored vs k vv,?_,fun h a e=>⟨o',es,ep,e,x1,x2,x3⟩⟩,sb,g',rfl,q⟩
 rw [zke]
 exact rel.put k ry
section
variable {X:Cx}{Nc:List Str}{src:List (Option Nat)}{scope:Scope}{kx vx tg iter:Expr}{ifs:List Expr}{pos:Pos}{wi:TI}{g:TG}{tf:TT}{tk tv:TE}
def tDictC (src:List (Option Nat))(wi:TI)(g:TG)(tf:TT)(tk tv:TE):TE:=fun σ H Q=>wi σ H fun J H1 =>
 zfo 1000 J g tf (emD tk tv) (fun ys H2=>∀ D,H2 D=none→Q (.ref D) (upd H2 D (.dK (dk ys)))) (zcq src σ) H1
theorem zmO {prog:Program}{w:World}{A:Around}{E:Value→Shared→Prop}(Q:Value→Shared→Prop)(s:Shared)(q:Q (.ref s.heap.objs.size) { s with heap:=s.heap.push { cls:=.type "dict",data:=.dict #[] } }):wpAny (model prog w) A newDict Q E s:=by
 unfold newDict
 exact XaR q
theorem zm1 {prog:Program}{w:World}:AOd prog w [] ({ cls:=.type "dict",data:=.dict #[] }:Obj):=
 ⟨⟨#[],0,rfl⟩,[],.nil,fun h a e=>⟨_,#[],0,e,⟨rfl,rfl,rfl⟩,rfl,(fun e he=>by simp at he),.nil,Xbp⟩⟩
theorem zm9 {P:Program}{w:World}{ys:List (Key×V)}{o:Obj}{H:Hp}{h:Heap}{D:Addr}(ao:AOd P w ys o)(hl:ys.length≤1000)(hs:sysModules<D)(e:h.get? D=some o):ObjOk P w H h D (.dK (dk ys)):=by
 obtain ⟨_,vs,rel,dof⟩:=ao
 exact ⟨Xam (zl9 ys) (Xam hl (by decide)),beq_eq_false_iff_ne.mpr (Ne.symm (Xaz hs)),vs,rel,dof _ _ e⟩
end
section
variable {X:Cx}{Nc:List Str}{src:List (Option Nat)}{scope:Scope}{kx vx tg iter:Expr}{ifs:List Expr}{pos:Pos}{wi:TI}{g:TG}{tf:TT}{tk tv:TE}
theorem zhd {i:Nat}{y:Str}{pos' spos:Pos}(src:List (Option Nat))(hN:X.N.Nodup)(hi':X.N[i]? = some y)(hy:X.env.scope.names.lookup y=some .local)
  (hc:X.calm=true) (S:CompOk X.N X.env.scope Nc src scope) (hi:PI X tg iter wi)
  (hg:∀ cl C fp s2 H2,PG (cxC X Nc scope cl C fp s2 H2) tg g) (hf:∀ cl C fp s2 H2,PF (cxC X Nc scope cl C fp s2 H2) ifs tf) (hk:∀ cl C fp s2 H2,PE (cxC X Nc scope cl C fp s2 H2) kx tk) (hv:∀ cl C fp s2 H2,PE (cxC X Nc scope cl C fp s2 H2) vx tv)
  (hsw:swapsWith (.DictComp kx vx [⟨tg,iter,ifs,0⟩] scope pos) (some (.Name y pos')) spos.line X.env=pure true:=by rfl)
  (hs:∀ x,foldedSetIterable iter X.env x=pure x:=by intro _;rfl):PS X (.Assign [.Name y pos'] (.DictComp kx vx [⟨tg,iter,ifs,0⟩] scope pos) spos) (tAsg (tDictC src wi g tf tk tv) (zaT i)):=by
 intro pins s σ H D I h
 obtain ⟨cl,hclos,hcl1,hcl2⟩:=zbq I.ok (scope:=scope) S.free
 rw [exec_Assign_Name_used _ _ _ _ hsw]
 refine Xaa (Xbj (Xaa ?_))
 show wpAny _ X.A (do let _ ← comprehension (.DictComp kx vx [⟨tg,iter,ifs,0⟩] scope pos) scope X.env _ newDict false (eval iter X.env) (some (assign (.Name y pos') X.env))) _ _ s
 refine Xaa (Xax (XbP (use:=some (assign (.Name y pos') X.env)) (Q:=fun _ s'=>SP X pins D .next s') rfl hs hclos S.kind (fun x hx hl=>by obtain ⟨n,k⟩:=x;cases hl;exact zbp S.nodup hx)
  (thn (hi pins s σ H _ I h) fun xv s1 h1=>thn h1 fun itv s2 h2=>?_)) (fun _ s' hq=>Xac (Xac hq)) fun _ _ e=>e)
 obtain ⟨it,fp,tn,J,H2,e,I2,T,st2,f2,hw⟩:=h2
 subst e
 refine zdG (α:=Key×V) (B:=1000) (ho:=fun _ ys=>.dK (dk ys)) (AO:=AOd X.prog X.w) (RR:=fun acc C=>compPost (model X.prog X.w) X.A X.xe (some (assign (.Name y pos') X.env)) (fun _ s'=>SP X pins D .next s') acc C) hc I2 S hcl1 hcl2 T st2 f2 hg hf (fun cl C fp s2 H2=>zk6 (hk cl C fp s2 H2) (hv cl C fp s2 H2) (zme cl C fp s2 H2)) zmO rfl zm1 ?_ ?_ zjV hw ?_
 ·rintro ys o v ⟨⟨es,ep,e⟩,_⟩ z
  rw [e] at z;cases z
 ·intro ys o H h D ao hl hD g'
  exact zm9 ao hl (Xak I2.big hD) g'
 intro H4 s4 ys m C hC hD Iout hn hCn q
 show wpAny _ X.A (assign (.Name y pos') X.env (.ref s2.heap.objs.size)) _ _ _
 refine wpAny_assign_Name (zd9 (i:=i) Iout hN hi' (.inl hy) (v:=.ref s2.heap.objs.size) rfl (fun s5 I5 ch=>?_) (.inr hy))
 obtain ⟨f0,f1,f3,f4,f5,f6⟩:=I2.fpOk (H':=upd H4 s2.heap.objs.size (.dK (dk ys))) hC hCn
 obtain ⟨a,sb,ha⟩:=ch
 have hCa:C≠a:=by
  rcases ha with ha | ha
  ·rw [ha];exact f1
  ·exact fun z=>f5 _ _ ha z.symm
 refine ⟨m,hn.sameBut sb hCa,fun h' sb'=>⟨_,_,I5.turned (t':=s5.toks) (it:=C) (fun b o hb e=>(sb'.2 b hb).trans e) f0 f1 f4 f5 f6,q _ hD⟩⟩
end
section
variable {X:Cx}
def vwV (p a:Addr):Heap→Prop:=fun h=>h.IsValuesView p a
theorem zjR:MtR X "dict.values" (fun x vs H Q=>∃ (a:Addr) (kvs:List (Key×V)),x = .ref a∧vs=[]∧H a=some (.dK kvs)∧∀ p,H p=none→Q (.ref p) (upd H p (.ext (vwV p a)))):=by
 rintro pins s σ H x vs v us Q I rx rv ⟨a,kvs,rfl,rfl,e,q⟩
 obtain rfl:v=Value.ref a:=rx
 have hus:=rv.zero
 subst hus
 obtain ⟨hz,lo,vs,rel,dd⟩:=zkf I.hok e
 refine call_meetsIn PySem.F.slot_dict_values dd.typeIs PySem.F.entry_dict_values (PySem.F.args_dict_values_1 _) (meets_dict_values (zaI X.prog X.w) a lo) ⟨⟨vs,dd⟩,?_⟩
 refine ⟨.ref s.heap.objs.size,_,I.laid (t':=s.toks) (o:=.ext (vwV s.heap.objs.size a)) (fun b o eb=>Xab _ eb) (Xae _) ?_,rfl,q _ (I.hok.fresh (Xae _))⟩
 have g:(s.heap.push { cls:=.type "dict_values",data:=.fields #[.ref a] }).get? s.heap.objs.size=some { cls:=.type "dict_values",data:=.fields #[.ref a] }:=Xaj _ rfl
 exact ⟨⟨_,g,rfl,rfl⟩,⟨_,g⟩,fun h1 h2 ⟨o1,q1,q2,q3⟩ k=>⟨o1,k _ q1,q2,q3⟩⟩
inductive tForV0_1 (D:Ends)(σ:St)(x:V)(H1:Hp):Prop
 | mk (p:_) (a:_) (z0_:x = .ref p) (z1_:H1 p=some (.ext (vwV p a))) (z2_:H1 a=some (.dK [])) (z3_:D.nx σ H1)
def tForV0 (te:TE):TS:=fun D σ H=>te σ H (tForV0_1 D σ)
theorem zk3 {tg iter:Expr}{body:List Stmt}{te:TE}{pos:Pos}(hp:PassesOwn (model X.prog X.w) X.A X.env X.xe)(hc:X.calm=true)(hi:PE X iter te)
  (hs:∀ x,foldedSetIterable iter X.env x=pure x:=by intro _;rfl):PS X (.For tg iter body [] pos) (tForV0 te):=by
 intro pins s σ H D I h
 refine wpAny_For (thn (hi pins s σ H _ I h) fun v s1 hh_=>?_) hs
 obtain ⟨x,H1,I1,rx,p,a,ex,ep,ea,q⟩:=hh_
 subst ex
 obtain rfl:v=Value.ref p:=rx
 obtain ⟨hz,lo,vs,rel,dd⟩:=zkf I1.hok ea
 obtain ⟨ep',da⟩:=dd.dictAt
 have vw:s1.heap.IsValuesView p a:=(I1.hok p _ ep).1
 have hv0:vs=[]:=List.length_eq_zero_iff.mp (rel.length.symm ▸ rfl)
 subst hv0
 refine wpAny_pyIter_values vw da ?_
 refine codeAny_forLoop_any (fun n s'=>s'=_) ?_ 0 rfl
 rintro n s3 rfl
 have I2:Inv X pins σ H1 { s1 with heap:=s1.heap.push { cls:=Value.type "dict_valueiterator",data:=Data.fields #[Value.ref a,Value.int 0 0,Value.int (([]:List (Key×Value)).length:Nat) 0,Value.int (ep':Int) 0] } }:=I1.kept (t':=s1.toks) fun b o e=>Xab _ e
 obtain ⟨f0,f1,f3,f4,f5,f6⟩:=I1.fpOk (Xae _) (I1.hok.fresh (Xae _))
 refine Xbv hp (wpAny_pyNext_values_end (knd:=zaI X.prog X.w) (I1.ok.hd hc) (i:=0) (kvs:=[]) ⟨_,Xaj _ rfl,rfl,rfl⟩ (ep:=ep') ?_ rfl fun h' eb=>?_)
 ·obtain ⟨o,es,g,r⟩:=da
  exact ⟨o,es,Xab _ g,r⟩
 ·exact wpAny_execs_nil ⟨σ,H1,I2.turned (t':=s1.toks) (fun b o hb e=>eb b o hb e) f0 f1 f4 f5 f6,q⟩
inductive rSetD (x:V)(vs:List V)(H:Hp)(Q:VK):Prop
 | mk (a:Addr) (kvs:List (Key×V)) (k:Key) (y:V) (z0_:x = .ref a) (z1_:vs=[kV k,y]) (z2_:H a=some (.dK kvs)) (z3_:kvs.length<1000) (z4_:(∀ v,valV kvs k=some v→Q v H)) (z5_:(valV kvs k=none→Q y (upd H a (.dK (putK kvs k y)))))
theorem zfJ:MtR X "dict.setdefault" rSetD:=by
 rintro pins s σ H x vs v us Q I rx rv ⟨a,kvs,k,y,rfl,rfl,e,hl,q1,q2⟩
 obtain rfl:v=Value.ref a:=rx
 cases rv with
 | cons ry rr =>
  obtain ⟨u,rfl,ru⟩:=Vals.one rr
  obtain ⟨z,hd,vs,rel,dd⟩:=zkf I.hok e
  refine call_meetsIn PySem.F.slot_dict_setdefault dd.typeIs PySem.F.entry_dict_setdefault (PySem.F.args_dict_setdefault_3 _ _ _) (kt_meets_setdefault (zaI X.prog X.w) a (zhE ry) hd u) ⟨vs,dd,by rw [← rel.length];exact z,fun w' hw=>?_,fun hn h' dd' hs=>?_⟩
  ·have r:=rel.val k
   rw [hw] at r
   cases hv:valV kvs k with
   | none=>rw [hv] at r;exact r.elim
   | some v=>rw [hv] at r;exact ⟨v,H,I.tok _,r,q1 v hv⟩
  ·have r:=rel.val k
   rw [hn] at r
   have hv:valV kvs k=none:=by
    cases hv:valV kvs k with
    | none=>rfl
    | some v=>rw [hv] at r;exact r.elim
   have he:∃ q,h'.get? a=some q:=let ⟨q,_,_,hq,_⟩:=dd';⟨q,hq⟩
   exact ⟨y,_,zfR (t':=s.toks+1) I (by rw [e];exact True.intro) hs he (zl8 (Xam (zhY kvs k y) (Xam hl (by decide))) hd (rel.put k ru) dd'),ru,q2 hv⟩
end
section
variable {K:W.Frag}{α:Type}{B:Nat}{g:TG}{tf:TT}{em:TEm α}{Q:List α→Hp→Prop}{σ:St}{H:Hp}
theorem ziZ {a:Addr}{xs:List V}(Pv:Nat→List α→St→Hp→Prop)(hn:xs.length≤B)(h0:Pv 0 [] σ H)(hl:∀ i ys σ H,i≤xs.length→Pv i ys σ H→SqL K H a xs∧ys.length≤i)
  (hs:∀ i x ys σ H,xs[i]? = some x→Pv i ys σ H→g x σ H fun σ2 H2=>tf σ2 H2 fun b H3=>if b=true then em σ2 H3 fun y H4=>Pv (i+1) (ys ++ [y]) σ2 H4 else Pv (i+1) ys σ2 H3)
  (hd:∀ ys σ H,Pv xs.length ys σ H→Q ys H):zfo B (Itl K a) g tf em Q σ H:=by
 refine ⟨fun i m ys σ H=>m=xs.length - i∧i≤xs.length∧Pv i ys σ H,⟨xs.length,by simp,Nat.zero_le _,h0⟩,?_⟩
 rintro i m ys σ H ⟨rfl,hi,p⟩
 obtain ⟨q,hz⟩:=hl i ys σ H hi p
 by_cases hlt:i<xs.length
 ·refine .inr ⟨⟨xs,xs[i],q,by simp [hlt]⟩,by omega,Pv (i+1),fun ys' σ' H' p'=>⟨xs.length - (i+1),by omega,rfl,hlt,p'⟩,fun x H' y=>?_⟩
  obtain ⟨e,y⟩:=y
  subst e
  exact hs i x ys σ _ (y xs q) p
 ·have e:i=xs.length:=by omega
  subst e
  exact .inl ⟨⟨xs,q,Xae _⟩,by omega,hd ys σ H p⟩
theorem zko {a:Addr}{xs:List V}(Pv:Nat→List α→St→Hp→Prop)(hn:xs.length≤B)(h0:Pv 0 [] σ H)(hl:∀ i ys σ H,i≤xs.length→Pv i ys σ H→SqT K H a xs∧ys.length≤i)
  (hs:∀ i x ys σ H,xs[i]? = some x→Pv i ys σ H→g x σ H fun σ2 H2=>tf σ2 H2 fun b H3=>if b=true then em σ2 H3 fun y H4=>Pv (i+1) (ys ++ [y]) σ2 H4 else Pv (i+1) ys σ2 H3)
  (hd:∀ ys σ H,Pv xs.length ys σ H→Q ys H):zfo B (Itt K a) g tf em Q σ H:=by
 refine ⟨fun i m ys σ H=>m=xs.length - i∧i≤xs.length∧Pv i ys σ H,⟨xs.length,by simp,Nat.zero_le _,h0⟩,?_⟩
 rintro i m ys σ H ⟨rfl,hi,p⟩
 obtain ⟨q,hz⟩:=hl i ys σ H hi p
 by_cases hlt:i<xs.length
 ·refine .inr ⟨⟨xs,xs[i],q,by simp [hlt]⟩,by omega,Pv (i+1),fun ys' σ' H' p'=>⟨xs.length - (i+1),by omega,rfl,hlt,p'⟩,fun x H' y=>?_⟩
  obtain ⟨e,y⟩:=y
  subst e
  exact hs i x ys σ _ (y xs q) p
 ·have e:i=xs.length:=by omega
  subst e
  exact .inl ⟨⟨xs,q,Xae _⟩,by omega,hd ys σ H p⟩
end
theorem zmJ {X:Cx}{K:W.Frag}{e:Expr}{ta:TE}{f:Str}{pos:Pos}(hK:X.K=K)(he:PE X e ta)(hb:attributeBase e f X.env (eval e X.env)=eval e X.env):PE X (.Attribute e f pos) (tFld K ta f):=by subst hK;exact za5 he hb
section
variable {X:Cx}{k:Nat}{ks:List Str}{m:Str}{pos apos:Pos}{e o:Expr}{es:List Expr}{kws:List Keyword}{ta:TE}{t tk:TA}
theorem zk7 {P:Program}{w:World}{K:W.Frag}{mg:Str→Option Value}{base:Heap}(k:Nat)(hX:X.prog=P∧X.w=w∧X.K=K∧X.mg=mg∧X.base=base)(hr:Room k X.A){pl:Sem Bool}(he:PE X o ta)(ha:PA X (e :: es) t)(hkw:PK X kws tk)
  (hall:(backToKw pos (keywordEach kws X.env)).all (·.1.isSome)=true:=by rfl) (hks:(backToKw pos (keywordEach kws X.env)).filterMap (·.1)=ks:=by rfl)
  (hpl:((backTo pos (starEach (e :: es) X.env)).any (·.1) || (backToKw pos (keywordEach kws X.env)).any (·.1.isNone))=false:=by rfl)
  (hst:starEach (e :: es) X.env=(false,eval e X.env) :: starEach es X.env:=by rfl)
  (ht:eval (.Call (.Attribute o m apos) (e :: es) kws pos) X.env=(do
   let ov ← eval o X.env
   standAt apos.atName
   let (f,first) ← holding [ov] (getMethod ov m pl)
   callWith pos f first (backTo pos (starEach (e :: es) X.env)) (backToKw pos (keywordEach kws X.env))):=by rfl) :
  PE X (.Call (.Attribute o m apos) (e :: es) kws pos) (tMth P w K mg base k m ks ta t tk):=by
 obtain ⟨rfl,rfl,rfl,rfl,rfl⟩:=hX
 intro pins s σ H Q I h
 refine W.methodCall_KW (pl:=pl) (thn (he pins s σ H _ I h) fun u s1 hh_=>?_) ht
 obtain ⟨x,H1,I1,rx,a,C,dx,fs,gV,sp,ex,ea,M,l,q⟩:=hh_
 obtain ⟨c,f,fd,ps,g,hm,F,hb⟩:=M
 subst ex
 obtain rfl:u=Value.ref a:=rx
 refine zfh I1 ea c hm l ?_
 refine W.callWith_KW (first:=[.ref a]) (h₀:=X.base) I.ok.mod.kin hm.kp hall (thn (ha pos pins s1 σ H1 _ I1 q) fun us s2 hh_=>?_) hpl hst
 obtain ⟨vs,H2,I2,r,q2⟩:=hh_
 refine thn (hkw pos pins s2 σ H2 _ I2 q2) fun ws s3 ⟨zs,H3,I3,rz,q3⟩=>⟨I3.kIn,?_⟩
 rw [hks]
 exact zjp (us:=.ref a :: us) (vs:=.ref a :: vs) F hr hb ziA I3 (.cons rfl r) rz q3
end
section
variable {X:Cx}
end
end L2
end
section
namespace L2
open PySem PySem.Spec PyProof.Rows PySem.SeqAt
section
variable {X:Cx}{K:W.Frag}
end
end L2
end
section
namespace L2
open PySem PySem.Spec PyProof.Rows HT PySem.W PySem.Calls
section
variable {P:Program}{w:World}{H:Hp}{h:Heap}{e C dx:Addr}{od:Option Addr}{fs:List (Str×V)}
end
section
variable {prog:Program}{w:World}{A:Around}{E:Value→Shared→Prop}{s:Shared}{K:W.Frag}{x dx C fI:Addr}{mA:Str→Option Value}{name:Str}{v:Value}{ox:Obj}{od:Option Obj}
end
end L2
end
section
namespace L2
open PySem PySem.Spec PyProof.Rows HT PySem.W PySem.Calls
section
variable {X:Cx}{pins:List (Addr×Obj)}{σ:St}{H:Hp}{s:Shared}
end
section
variable {X:Cx}{o e value:Expr}{f:Str}{pos pos':Pos}{ta tv:TE}
end
section
variable {X:Cx}{x:Str}{p pos apos:Pos}{e e2:Expr}{t:TA}
end
section
variable {X:Cx}{x:Str}{C:Addr}{e:Expr}{es:List Expr}{t:TA}{np cpos pos:Pos}{k:Nat}{sp:Sp}{E:XK}
end
section
variable {X:Cx}{v:Expr}{es:List Expr}{p2:Pos}{ta:TE}{t:TJ}
end
end L2
end
section
namespace L2
open PySem PySem.Spec PyProof.Rows HT PySem.W PySem.Calls
section
variable {prog:Program}{w:World}{A:Around}
end
section
variable {X:Cx}
end
end L2
end
section
namespace L2
open PySem PySem.Spec PyProof.Rows PySem.SeqAt
def Itu (lo st:Int)(n:Nat):It:=⟨fun i _=>i<n,fun i H x H'=>H'=H∧x = .int (lo+i * st),fun i _=>n≤i⟩
theorem zgW {P:Program}{w:World}{K:PySem.W.Frag}{tg:Expr}(it:Addr)(lo st:Int)(n:Nat):Turn P w K tg (Itu lo st n) [it] it (fun i h=>IsRangeIter h it (lo+(i:Nat) * st) ((n:Int) - (i:Nat)) st) where
 mem:=by simp
 obj:=fun i h st b hb=>by
  have e:b=it:=by simpa using hb
  subst e
  exact ⟨_,st,fun v z=>by
   have z':Data.fields _=Data.cell v:=z
   cases z'⟩
 keep:=fun i h h' st k=>k it (by simp) _ st
 item:=by
  intro X hP hw hK hc i pins s σ H E I hf st' hg
  subst hP hw hK
  obtain ⟨f0,f1,f2,f3,f4,f5⟩:=hf it (by simp)
  have W:=Walks.range (prog:=X.prog) (w:=X.w) (I.ok.hd hc) it lo st n
  refine W.item i s _ _ hg st' fun v h' tk hv st'' kk=>?_
  obtain ⟨t,rfl⟩:=hv
  have I1:Inv X pins σ H { s with heap:=h',toks:=tk }:=I.turned (fun b o hb e=>kk b o (by simpa using hb) e) f0 f1 f3 f4 f5
  exact ⟨_,rfl,zlw (s:={ s with heap:=h',toks:=tk }) (n := "range_iterator") st'' rfl rfl (by decide) ⟨.int (lo+i * st),H,I1,⟨t,rfl⟩,⟨rfl,rfl⟩,st'',fun b hb=>(hf b hb).1⟩⟩
 done:=by
  intro X hP hw hK hc i pins s σ H E I hf st' hg
  subst hP hw hK
  obtain ⟨f0,f1,f2,f3,f4,f5⟩:=hf it (by simp)
  exact wpAny_pyNext_range_end (I.ok.hd hc) st' (by have:n≤i:=hg;omega) fun h' eb=>⟨rfl,I.turned (t':=s.toks) (fun b o hb e=>eb b o hb e) f0 f1 f3 f4 f5⟩
 self:=fun _ _ _ _ _ st h=>wpAny_pyIter_rangeiter st h
section
variable {X:Cx}{tg:Expr}
theorem zjs {pins:List (Addr×Obj)}{σ:St}{H:Hp}{s:Shared}{R:It→Hp→Prop}{E:Value→Shared→Prop}{lo hi st:Int}{n:Nat}{t u v:Tok}{tk:Nat}(I:Inv X pins σ H s)(h1:Builtin.Range.small lo hi st=true)(hn:Builtin.Range.rangeSize lo hi st=(n:Int))
  (q:R (Itu lo st n) H):wpAny (model X.prog X.w) X.A (pyIter (.ref s.heap.objs.size)) (PIE X pins σ tg R) E { s with heap:=s.heap.push { cls:=.type "range",data:=.fields #[.int lo t,.int hi u,.int st v] },toks:=tk }:=by
 refine wpAny_pyIter_range (IsRange.new ..) h1 ?_
 have I1:Inv X pins σ H { s with heap:=s.heap.push { cls:=.type "range",data:=.fields #[.int lo t,.int hi u,.int st v] },toks:=tk }:=I.kept fun b o e=>Xab _ e
 refine ⟨(s.heap.push { cls:=.type "range",data:=.fields #[.int lo t,.int hi u,.int st v] }).objs.size,[(s.heap.push { cls:=.type "range",data:=.fields #[.int lo t,.int hi u,.int st v] }).objs.size],_,_,H,rfl,
  I1.kept (t':=tk) fun b o e=>Xab _ e,zgW _ lo st n,?_,fun b hb=>?_,q⟩
 ·have e1:lo+((0:Nat):Int) * st=lo:=by simp
  have e2:(n:Int) - ((0:Nat):Int)=Builtin.Range.rangeSize lo hi st:=by rw [hn];simp
  show IsRangeIter _ _ (lo+((0:Nat):Int) * st) ((n:Int) - ((0:Nat):Int)) st
  rw [e1,e2]
  exact Xaj _ rfl
 ·have e:b=(s.heap.push { cls:=.type "range",data:=.fields #[.int lo t,.int hi u,.int st v] }).objs.size:=by simpa using hb
  subst e
  exact I1.fpOk (Xae _) (I1.hok.fresh (Xae _))
inductive iRngS_1 (R:It→Hp→Prop)(vs:List V)(H1:Hp):Prop
 | mk (i j st:Int) (n:Nat) (z0_:vs=[.int i,.int j,.int st]) (z1_:st≠0) (z2_:Builtin.Range.small i j st=true) (z3_:Builtin.divisionGoesByPylong (j - i) st=false) (z4_:Builtin.Range.rangeSize i j st=(n:Int)) (z5_:R (Itu i st n) H1)
def iRngS (ta:TA):TI:=fun σ H R=>ta σ H (iRngS_1 R)
theorem zgc {a b c:Expr}{ta:TA}{p pos:Pos}(hg:Gl X "range")(hm:X.mg "range" = none)(ha:PA X [a,b,c] ta)(hs:starEach [a,b,c] X.env=(false,eval a X.env) :: starEach [b,c] X.env:=by rfl)(hs2:(backTo pos (starEach [b,c] X.env)).any (·.1)=false:=by rfl) :
  PI X tg (.Call (.Name "range" p) [a,b,c] [] pos) (iRngS ta):=by
 intro pins s σ H R I h
 refine Call_ (zc6 I hg hm boot_range (PyProof.Rows.callWith_type1 (thn (ha pos pins s σ H _ I h) fun us s1 hh_=>?_) hs hs2))
 obtain ⟨vs,H1,I1,r1,q1⟩:=hh_
 obtain ⟨i,j,st,n,e,hne,q1,q2,q3,q⟩:=q1
 subst e
 cases r1 with
 | cons r rr =>
  cases rr with
  | cons r' rr =>
   cases rr with
   | cons r'' rr =>
    cases rr
    obtain ⟨t,rfl⟩:=r
    obtain ⟨t',rfl⟩:=r'
    obtain ⟨t'',rfl⟩:=r''
    exact call_range_3 hne (zjs I1 q1 q3 q) (.inl q2)
end
theorem zfi {lo st:Int}{n:Nat}{g:TG}{tb:TS}{D:Ends}{σ:St}{H:Hp}(Pv:Nat→St→Hp→Prop)(h0:Pv 0 σ H)
  (hs:∀ i σ H,i<n→Pv i σ H→g (.int (lo+i * st)) σ H fun σ2 H2=>tb { D with nx:=Pv (i+1),ct:=Pv (i+1),bk:=D.nx } σ2 H2) (hd:∀ σ H,Pv n σ H→D.nx σ H) :
  ∃ W:Nat→Nat→St→Hp→Prop,(∃ m,W 0 m σ H)∧∀ i m σ H,W i m σ H →
   ((Itu lo st n).stop i H∧D.nx σ H)∨((Itu lo st n).go i H∧∃ N:St→Hp→Prop,(∀ σ' H',N σ' H'→∃ m',m'<m∧W (i+1) m' σ' H')∧∀ x H',(Itu lo st n).yld i H x H'→g x σ H' fun σ2 H2=>tb { D with nx:=N,ct:=N,bk:=D.nx } σ2 H2):=by
 refine ⟨fun i m σ H=>m=n - i∧i≤n∧Pv i σ H,⟨n,by simp,Nat.zero_le _,h0⟩,?_⟩
 rintro i m σ H ⟨rfl,hi,p⟩
 by_cases hlt:i<n
 ·refine .inr ⟨hlt,Pv (i+1),fun σ' H' p'=>⟨n - (i+1),by omega,rfl,hlt,p'⟩,fun x H' y=>?_⟩
  obtain ⟨e,y⟩:=y
  subst e y
  exact hs i σ _ hlt p
 ·have e:i=n:=by omega
  subst e
  exact .inl ⟨Xae _,hd σ H p⟩
theorem zhX {j st n:Nat}(hj:j≤1000)(hs:0<st)(hs2:st≤1000)(hn:n=(j+st - 1) / st):Builtin.Range.small 0 (j:Int) (st:Int)=true∧Builtin.divisionGoesByPylong ((j:Int) - 0) (st:Int)=false∧Builtin.Range.rangeSize 0 (j:Int) (st:Int)=(n:Int):=by
 have e:Builtin.Range.rangeSize 0 (j:Int) (st:Int)=(n:Int):=by
  unfold Builtin.Range.rangeSize
  rw [if_pos (show (st:Int) > 0 by omega)]
  by_cases h:j=0
  ·subst h
   rw [if_neg (by omega),hn,show 0+st - 1=st - 1 by omega,Nat.div_eq_of_lt (by omega)];rfl
  ·rw [if_pos (by omega),hn,show (j:Int) - 0 - 1=((j - 1:Nat):Int) by omega,show j+st - 1=(j - 1)+st by omega,Nat.add_div_right _ hs]
   rfl
 have hn2:n≤2000:=by rw [hn];exact Xam (Nat.div_le_self _ _) (by omega)
 have fits:∀ k:Int,0≤k→k≤100000→Builtin.Range.rangeFitsLong k=true:=fun k h1 h2=>by unfold Builtin.Range.rangeFitsLong;simp;omega
 refine ⟨?_,PyProof.noPylong_small (by omega),e⟩
 unfold Builtin.Range.small
 simp [e,fits 0 (by omega) (by omega),fits (st:Int) (by omega) (by omega),fits (n:Int) (by omega) (by omega),fits (j:Int) (by omega) (by omega)]
 right
 rw [if_pos hs]
 exact fits _ (by omega) (by omega)
end L2
end
section
namespace L2
open PySem
section
variable {X:Cx}
end
section
variable {P:Program}{w:World}{K:W.Frag}{mg:Str→Option Value}{base:Heap}{k:Nat}{C f:Addr}{fd:FuncData}{m:Str}{ps ks:List Str}{gV:List V→List V→List V}{sp:Sp}
end
end L2
end
section
namespace L2
open PySem
section
variable {P:Program}{w:World}{K:W.Frag}{mg:Str→Option Value}{base:Heap}{k:Nat}{C f:Addr}{fd:FuncData}{m:Str}{ps ks:List Str}{g:List Value→List Value→List Value}{gV:List V→List V→List V}{sp:Sp}
end
section
variable {X:Cx}{cn n:Str}{j:Nat}{Cb:Addr}{body hbody:List Stmt}{b₀:Stmt}{tb:(St→XK)→TS}{th:TS}{tr t:THd}{p4 p8 p9:Pos}{hs:List ExceptHandler}{h0:ExceptHandler}
end
section
variable {X:Cx}{k:Nat}{ks:List Str}{x:Str}{C:Addr}{gV:List V→List V→List V}{sp:Sp}{p pos:Pos}{e:Expr}{es:List Expr}{kws:List Keyword}{t tk:TA}
end
section
variable {X:Cx}{pins:List (Addr×Obj)}{σ:St}{H:Hp}{s:Shared}{a:Addr}
end
section
variable {X:Cx}{tg:Expr}
end
section
variable {X:Cx}{K:W.Frag}
end
section
variable {X:Cx}{a b e:Expr}{ta tb te:TE}{pos pos':Pos}{x:Str}
theorem pe_x {r:R2}(hr:IxR X r)(ha:PE X a ta)(hb:PE X b tb)(hs:zkD b:=by exact fun _ _=>rfl):PE X (.Subscript a b pos) (tOp r ta tb):=pe_ix hr ha hb hs
theorem ps_L (i:Nat)(hN:X.N.Nodup)(he:PE X e te)(hi:X.N[i]? = some x:=by rfl)(hx:Loc X.env.scope x:=by exact Or.inl rfl)(hs:swapsWith e (some (.Name x pos')) pos.line X.env=pure false:=by rfl)(hf:X.fn x=true∨X.env.scope.names.lookup x=some .local:=by first | exact .inl rfl | exact .inr rfl | assumption):PS X (.Assign [.Name x pos'] e pos) (tAsg te (zaT i)):=zju hN hi hx he hs hf
theorem pg_L (i:Nat)(hN:X.N.Nodup)(hi:X.N[i]? = some x:=by rfl)(hx:Loc X.env.scope x:=by exact Or.inl rfl)(hf:X.fn x=true∨X.env.scope.names.lookup x=some .local:=by first | exact .inl rfl | exact .inr rfl | assumption):PG X (.Name x pos) (zaT i):=zjB hN hi hx hf
theorem hrm {j k:Nat}{A:Around}(r:Room k A)(h:j≤k:=by first | exact Nat.le_of_ble_eq_true rfl | omega):Room j A:=r.mono h
theorem pe_c {k:Nat}{ps:List Str}{sp:Sp}{p:Pos}{e:Expr}{es:List Expr}{t:TA}(C:Cal X.prog X.w X.K X.mg X.base k x ps sp)(ha:PA X (e :: es) t)(hr:Room k X.A:=by exact hrm (by assumption))(hg:Gl X x:=by rfl)(hdb:(x == ("__debug__" : Str))=false:=by decide)
  (he:starEach (e :: es) X.env=(false,eval e X.env) :: starEach es X.env:=by rfl) (hpl:(backTo pos (starEach es X.env)).any (·.1)=false:=by rfl):PE X (.Call (.Name x p) (e :: es) [] pos) (zje sp [] E0 t):=pe_cal C hr hg ha hdb he hpl
theorem sck {N P:List Str}{sc:Scope}(h1:sc.kind = .function)(h2:sc.isCoroutine=false)(h3:sc.isGenerator=false)(h:N.Nodup∧N.take P.length=P∧(∀ x∈P,sc.names.lookup x=some .local∨sc.names.lookup x=some .cell)∧∀ y∈sc.names,y.2≠.free):FnScope N P sc:=⟨h1,h2,h3,h.1,h.2.1,h.2.2.1,h.2.2.2⟩
end
end L2
end
section
namespace L2
open PySem PySem.Spec PyProof.Rows PySem.SeqAt
section
variable {X:Cx}{K:W.Frag}
end
section
open PySem.W PySem.Calls
variable {K:Frag}{x C:Addr}
variable {X:Cx}
end
section
variable {P:Program}{w:World}{K:W.Frag}{mg:Str→Option Value}{base:Heap}{k:Nat}{x:Str}{C:Addr}{ks:List Str}{gV:List V→List V→List V}{sp:Sp}
end
section
variable {prog:Program}{w:World}{A:Around}{E:Value→Shared→Prop}{s:Shared}
end
section
variable {X:Cx}{o:Expr}{td tv:TE}{pos p1 p2 p3:Pos}{k0:Nat}
end
end L2
end
section
namespace L2
open PySem PySem.Spec PyProof.Rows HT
section
variable {M:Model}{A:Around}{E:Value→Shared→Prop}{s:Shared}
end
section
variable {P:Program}{w:World}{K:W.Frag}{mg:Str→Option Value}{base:Heap}{N:List Str}{qual:Str}{scope:Scope}{f:Addr}{cd:Value}{A:Around}{outer:List Env}{s:Shared}{H:Hp}{E:XK}
end
section
variable {X:Cx}{tg:Expr}
end
end L2
end
section
namespace L2
open PySem PySem.Spec PyProof.Rows PySem.SeqAt
section
variable {X:Cx}
end
end L2
end
section
namespace L2
open PySem PySem.Spec PyProof.Rows PySem.SeqAt
section
variable {X:Cx}
end
end L2
end
section
namespace L2
open PySem PySem.Spec PyProof.Rows PySem.SeqAt
section
variable {X:Cx}
end
end L2
end
section
namespace L2
open PySem PySem.Spec PyProof.Rows PySem.SeqAt
section
variable {X:Cx}
end
end L2
end
section
namespace L2
open PySem PySem.Spec PyProof.Rows PySem.SeqAt PySem.W
section
variable {X:Cx}{K:W.Frag}
end
end L2
end
section
namespace L2
open PySem PySem.Spec PyProof.Rows PySem.SeqAt PySem.W
section
variable {X:Cx}
end
end L2
end
section
namespace L2
open PySem PySem.Spec PyProof.Rows PySem.SeqAt
section
variable {prog:Program}{w:World}{κ:Type}[DecidableEq κ]{knd:HeapKind prog w κ}{A:Around}{E:Value→Shared→Prop}{s:Shared}
theorem zej {d a:Addr}{xs:List (κ×Addr×Value)}{k:κ}{v:Value}{Q:Value→Shared→Prop}(hu:knd.room A)(hkey:knd.is s.heap k a)(hm:s.heap.DictOfH knd d xs)(hsz:xs.length≤sizeLine)
  (h1:∀ p,atKey xs k=some p→Q p.2 { s with toks:=s.toks+knd.draws k }) (h2:atKey xs k=none→∀ h',h'.DictOfH knd d (storedH xs k a v)→Heap.SameBut d s.heap h'→Q v { s with heap:=h',toks:=s.toks+knd.draws k }) :
  wpAny (model prog w) A (dictSetDefault d (.ref a) v) Q E s:=by
 obtain ⟨o,es,ep,ho,hc,hd,he,his,hn⟩:=hm
 unfold dictSetDefault
 try with_reducible refine Xba ?_
 refine Xaa (knd.pyHash hu hkey ?_)
 refine Xaa (wpAny_dictFind_heap (s:={ s with toks:=s.toks+knd.draws k }) hu hkey ho hd he his hn ?_ ?_)
 ·intro hno
  have hnot:k ∉ xs.map (·.1):=not_mem_keys_of_get hno
  have hno':=atKey_none_of_get hno
  refine Xaa (Xbw (Xaa (wpAny_updateDictKeys (hz:=by have e:=size_of_entries he;omega) (s:={ s with toks:=s.toks+knd.draws k }) ho hd (Xac (h2 hno' _ ⟨_,_,ep+1,XaT _ ho (Obj.isFreed_of_dict (Obj.data_mapDictKeys hd _)),
   hc.mapDictKeys _,Obj.data_mapDictKeys hd _,?_,?_,?_⟩ (Heap.SameBut.update ..))))))
  ·rw [storedH_new hno']
   simp [he,entryOfKey]
  ·rw [storedH_new hno']
   intro x hx
   rcases XaK.mp hx with hx | hx
   ·exact knd.keeps (his x hx) ho hd (Heap.SameBut.update ..)
   ·simp only [Xad] at hx
    subst hx
    exact knd.keeps hkey ho hd (Heap.SameBut.update ..)
  ·rw [storedH_new hno']
   rw [XaI,XaX]
   refine ⟨hn,by simp,?_⟩
   intro x hx y hy
   simp only [XaJ,List.map_nil,Xad] at hy
   subst hy
   exact fun e=>hnot (e ▸ hx)
 ·intro j p hj
  refine Xaa (wpAny_dictEntries (s:={ s with toks:=s.toks+knd.draws k }) ho hd ?_)
  rw [entry_at he j,hj]
  exact Xaa (Xbw (Xac (h1 p (atKey_of_get hn hj))))
theorem zdA (knd:HeapKind prog w κ){k:κ}(d a:Addr)(hd:(d == sysModules)=false)(dflt:Value) :
  MeetsIn prog w (Builtin.«dict.setdefault» ⟨[.ref d,.ref a,dflt],[]⟩) (fun A R s=>knd.room A.in1∧knd.is s.heap k a∧∃ xs,s.heap.DictOfH knd d xs∧xs.length≤sizeLine ∧
   (∀ p,atKey xs k=some p→R (.ok (.ret p.2)) { s with toks:=s.toks+knd.draws k }) ∧
   (atKey xs k=none→∀ h',h'.DictOfH knd d (storedH xs k a dflt)→Heap.SameBut d s.heap h'→R (.ok (.ret dflt)) { s with heap:=h',toks:=s.toks+knd.draws k })):=
 .of_wp fun A R s ⟨hu,hkey,xs,hm,hz,h1,h2⟩=>by
  unfold Builtin.«dict.setdefault»
  refine Xaa ?_
  unfold Builtin.Dict.keyAndDefault
  refine Xaa (wpAny_notOrdered_dict hm.typeIs ?_)
  show wpAny _ _ (pure (d,Value.ref a,some dflt)) _ _ s
  refine Xac ?_
  show wpAny _ _ (if (d == sysModules)=true then _ else (dictSetDefault d (.ref a) dflt >>= _)) _ _ s
  rw [if_neg (by rw [hd];exact Xap)]
  exact Xaa (zej hu hkey hm hz (fun p hp=>Xac ⟨p.2,rfl,h1 p hp⟩) fun hn h' hm' hs'=>Xac ⟨dflt,rfl,h2 hn h' hm' hs'⟩)
end
section
variable {X:Cx}
inductive rSetT (x:V)(vs:List V)(H:Hp)(Q:VK):Prop
 | mk (a b:Addr) (kvs:List (List Key×V)) (k:List Key) (y:V) (z0_:x = .ref a) (z1_:vs=[.ref b,y]) (z2_:H a=some (.dT kvs)) (z3_:H b=some (.tup (k.map kV))) (z4_:kvs.length<100000) (z5_:∀ v,valV kvs k=some v→Q v H) (z6_:valV kvs k=none→Q y (upd H a (.dT (putK kvs k y))))
theorem ze8 (hu:X.A.units+1<cLine):MtR X "dict.setdefault" rSetT:=by
 rintro pins s σ H x vs v us Q I rx rv ⟨a,b,kvs,k,y,rfl,rfl,e,eb,hl,q1,q2⟩
 obtain rfl:v=Value.ref a:=rx
 cases rv with
 | cons ry rr =>
  obtain ⟨u,rfl,ru⟩:=Vals.one rr
  cases ry
  obtain ⟨z,hd,xs,rel,dd⟩:=dt_of I.hok e
  refine call_meetsIn PySem.F.slot_dict_setdefault dd.typeIs PySem.F.entry_dict_setdefault (PySem.F.args_dict_setdefault_3 _ _ _) (zdA (tupleKind (zaI X.prog X.w)) (k:=k) a b hd u) ⟨tupleKind_room_in1 hu,zff I.hok eb,xs,dd,by rw [← Paired.length rel];exact z,fun p hp=>?_,fun hn h' dd' hs=>?_⟩
  ·have r:=rel.val k
   rw [hp] at r
   cases hv:valV kvs k with
   | none=>rw [hv] at r;exact r.elim
   | some v=>rw [hv] at r;exact ⟨v,H,I.tok _,r,q1 v hv⟩
  ·have r:=rel.val k
   rw [hn] at r
   have hv:valV kvs k=none:=by
    cases hv:valV kvs k with
    | none=>rfl
    | some v=>rw [hv] at r;exact r.elim
   obtain ⟨q,es,ep,hq,h2,h3,h4,_,h5⟩:=dd'
   have hl:(putK kvs k y).length≤sizeLine:=by have:=zb7 kvs k y;rw [sizeLine_eq];omega
   refine ⟨y,_,zfR (ob:=.dT (putK kvs k y)) I (by rw [e];exact True.intro) hs ⟨q,hq⟩ ⟨hl,hd,_,(rel.put k eb ru).keeps fun c ys ec=>?_,q,es,ep,hq,h2,h3,h4,h5⟩,ru,q2 hv⟩
   rw [zai (ne_of ec e (fun z=>nomatch z))]
   exact ec
end
end L2
end
local macro_rules | `(tactic| omega)=>`(tactic| lia)
set_option maxHeartbeats 8000000
namespace Cb
open PySem L2
def top (i:Nat):Stmt:=PySem.Challenge.pw_chipbus_k43_whole_every_address.main.body.getD i (.Pass ⟨0,0,0,0⟩)
set_option tactic.hygienic true in
theorem zhL {b:Int}{k:Nat}(h:b.natAbs<2 ^ k):Builtin.Int.intBits b≤k:=by
 unfold Builtin.Int.intBits
 split
 ·omega
 ·rename_i h0
  have h1:b.natAbs≠0:=by first | omega | (intro z;simp_all)
  have:=(Nat.log2_lt h1).mpr h
  omega
theorem zc5 {a b:Int}(ha:a.natAbs<2 ^ 200)(hb:b.natAbs<2 ^ 200):IntMulOk a b:=IntMulOk.of_bits (Xam (zhL ha) (by decide)) (Xam (zhL hb) (by decide))
theorem log_ok {m:Int}(h:0<m)(h2:m≤2 ^ 64):m.natAbs.log2<9000:=by
 have h1:m.natAbs≠0:=by omega
 exact Xak ((Nat.log2_lt h1).mpr (show m.natAbs<2 ^ 65 by omega)) (by decide)
local macro_rules | `(tactic| walk_at "l")=>`(tactic| (rintro _ _ _ _ ⟨⟩;subst_vars;rfl))
local macro_rules | `(tactic| walk_at "sd")=>`(tactic| first | assumption | (exact ⟨by decide,by decide,by decide⟩) | (exact ⟨by assumption,by assumption⟩) | (exact ⟨by decide,by decide +kernel⟩) | (show (0:Int)<_;decide))
local macro_rules | `(tactic| walk_at "hp")=>`(tactic| first | assumption | exact zad)
local macro_rules | `(tactic| walk_at "vc")=>`(tactic| repeat (first | refine ⟨_,rfl,?_⟩ | refine ⟨_,_,rfl,rfl,?_⟩ | refine ⟨_,_,rfl,?_⟩ | refine ⟨_,_,_,_,rfl,rfl,SqL.of (by walk_at "hp"),rfl,?_⟩ | refine ⟨_,_,_,_,rfl,rfl,(by walk_at "hp"),rfl,?_⟩ | refine And.intro (by walk_at "sd") ?_))
theorem zkU {t u:TS}{D:Ends}(S S':St→Hp→Prop)(h1:∀ σ H,S σ H→∀ N:St→Hp→Prop,(∀ σ' H',S' σ' H'→N σ' H')→t { D with nx:=N } σ H)(h2:∀ σ' H',S' σ' H'→u D σ' H'):∀ σ H,S σ H→tSeq t u D σ H:=
 fun σ H s=>h1 σ H s _ h2
theorem zaZ {t u:TS}{D:Ends}{σ:St}{H:Hp}(S':St→Hp→Prop)(h1:∀ N:St→Hp→Prop,(∀ σ' H',S' σ' H'→N σ' H')→t { D with nx:=N } σ H)(h2:∀ σ' H',S' σ' H'→u D σ' H'):tSeq t u D σ H:=h1 _ h2
theorem zkY (m:Nat)(x:Nat):((List.replicate m [V.int (x:Int)]).flatten:List V)=vN (List.replicate m x):=by
 unfold vN
 rw [List.map_replicate]
 induction m with
 | zero=>rfl
 | succ m ih=>rw [Xa8,List.flatten_cons,ih,Xa8];rfl
theorem zlJ {l:List Nat}{r:Nat}(h:Bit l)(hr:r≤1):Bit (l ++ [r]):=fun b hb=>by
 rcases XaK.mp hb with z | z
 ·exact h b z
 ·rw [Xad.mp z];exact hr
theorem vN_set (l:List Nat)(j r:Nat):(vN l).set j (.int (r:Int))=vN (l.set j r):=by unfold vN;rw [List.map_set]
theorem ln0 {α:Type}{P:List α→Prop}(us:List α)(h:us.length=0)(k:P []):P us:=by
 rw [List.eq_nil_of_length_eq_zero h];exact k
theorem lnS {α:Type}{P:List α→Prop}{n:Nat}(us:List α)(h:us.length=n+1)(k:∀ a (r:List α),r.length=n→P (a :: r)):P us:=by
 cases us with
 | nil=>cases h
 | cons a r=>exact k a r (Nat.succ.inj h)
theorem ln1 {α:Type}{P:List α→Prop}(us:List α)(h:us.length=1)(k:∀ a,P [a]):P us:=lnS us h fun a r h=>ln0 (P:=fun r=>P (a :: r)) r h (k a)
theorem ln2 {α:Type}{P:List α→Prop}(us:List α)(h:us.length=2)(k:∀ a b,P [a,b]):P us:=lnS us h fun a r h=>ln1 (P:=fun r=>P (a :: r)) r h (k a)
theorem ln3 {α:Type}{P:List α→Prop}(us:List α)(h:us.length=3)(k:∀ a b c,P [a,b,c]):P us:=lnS us h fun a r h=>ln2 (P:=fun r=>P (a :: r)) r h (k a)
theorem ln4 {α:Type}{P:List α→Prop}(us:List α)(h:us.length=4)(k:∀ a b c d,P [a,b,c,d]):P us:=lnS us h fun a r h=>ln3 (P:=fun r=>P (a :: r)) r h (k a)
theorem ln5 {α:Type}{P:List α→Prop}(us:List α)(h:us.length=5)(k:∀ a b c d e,P [a,b,c,d,e]):P us:=lnS us h fun a r h=>ln4 (P:=fun r=>P (a :: r)) r h (k a)
local macro_rules | `(tactic| walk_at "o")=>`(tactic| first | exact Or.inl rfl | exact Or.inr (Or.inl rfl) | exact Or.inr (Or.inr rfl))
local macro_rules | `(tactic| walk_at "p")=>`(tactic| first | exact .inl rfl | exact .inr rfl | assumption)
local macro_rules | `(tactic| walk_at "m")=>`(tactic| first | decide | omega)
theorem zmT {n c:Nat}(h:c<n):ixN n (c:Int)=some c:=by
 unfold ixN;rw [if_pos (by omega),if_pos (by omega)];simp
theorem zjq {α:Type}(n:Nat)(x:α):(List.replicate n [x]).flatten=List.replicate n x:=by
 induction n with
 | zero=>rfl
 | succ n ih=>rw [Xa8,List.flatten_cons,ih,Xa8];rfl
theorem ty_seq {K:W.Frag}{H:Hp}{t:Bool}{a:Addr}{xs:List V}(h:SqX t H a xs):TyOf K H (.ref a) (.type (sqC t)):=by
 cases t with
 | true=>exact .tup (xs:=xs) h
 | false=>exact .lst (xs:=xs) h
theorem zlM {l:List Nat}{r n:Nat}(h:∀ w∈l,w≤n)(hr:r≤n):∀ w∈l ++ [r],w≤n:=fun b hb=>by
 rcases XaK.mp hb with z | z
 ·exact h b z
 ·rw [Xad.mp z];exact hr
theorem zih {xs:List V}{m:Nat}(h:m≤xs.length):cutV xs none (some (m:Int))=xs.take m:=by
 unfold cutV HT.sIx
 have e:((m:Int)).toNat=m:=by omega
 simp only [List.drop_zero,Nat.sub_zero]
 split
 ·omega
 ·rw [e,Xb0 h]
theorem zmC {H:Hp}{x dx:Addr}{o1 o2:HO}(hx:H x=none)(hdx:H dx=none):Same H (upd (upd H dx o1) x o2):=fun b u e=>by
 rw [zai (zak e hx),zai (zak e hdx)];exact e
theorem zkA {P:Hp→Prop}{Hr:Hp}(R:Hp→Prop)(hr:R Hr)(h:∀ H',R H'→P H'):P Hr:=h _ hr
theorem zmn (l:List Nat)(n:Nat):(vN l).drop n=vN (l.drop n):=by unfold vN;rw [List.map_drop]
theorem zau {D:Ends}{σ:St}{H:Hp}(h:D.nx σ H):tNext D σ H:=h
theorem vN_at' {l:List Nat}{i v:Nat}(h:l[i]? = some v):(vN l)[i]? = some (V.int (v:Int)):=by unfold vN;rw [Xaq,h];rfl
def mulL:List Nat→List Nat→List Nat
 | a :: r,b :: s=>(a * b) :: mulL r s
 | _,_=>[]
structure RowBits (m:Nat)(lm lw li:List Nat):Prop where
 m0:lm.length=m
 w0:lw.length=m
 i0:li.length=m
 mb:Bit lm
 wb:Bit lw
 ib:Bit li
 wm:∀ (k a b:Nat),lm[k]? = some a→lw[k]? = some b→b≤a
 im:∀ (k a b:Nat),lm[k]? = some a→li[k]? = some b→a+b≤1
theorem zlp (n s:Nat):n &&& (2 * s)=2 * ((n / 2) &&& s):=by
 rcases XaG n with h | h
 ·rw [show n=2 * (n / 2) by omega,zgt,show 2 * (n / 2) / 2=n / 2 by omega]
 ·rw [show n=2 * (n / 2)+1 by omega,zfN,show (2 * (n / 2)+1) / 2=n / 2 by omega]
inductive spSize (vs:List V)(H:Hp)(Q:VK)(u3_:XK):Prop
 | mk (n:Nat) (z0_:vs=[.int (n:Int)]) (z1_:n≤16) (z2_:Q (.int (2 ^ n)) H)
theorem zm4 {xs:List V}{lo hi:Option Int}{x:V}(h:x∈cutV xs lo hi):x∈xs:=Xbx (List.mem_of_mem_take h)
def ptsF:List Nat→List Nat→List Nat
 | acc,[]=>acc
 | acc,s :: r=>ptsF (acc ++ acc.map (· + s)) r
theorem zey:∀ (l acc:List Nat) (s:Nat),ptsF acc (l ++ [s])=ptsF acc l ++ (ptsF acc l).map (· + s)
 | [],_,_=>rfl
 | _ :: r,acc,s=>zey r _ s
theorem zcQ:∀ (l acc:List Nat),(ptsF acc l).length=acc.length * 2 ^ l.length
 | [],acc=>by simp [ptsF]
 | s :: r,acc=>by rw [ptsF,zcQ r,Xay,Xal,Xar,XaE,← Nat.two_mul,Xa4 2,Nat.mul_assoc,Xa4 2]
theorem zeh:∀ l:List Nat,Bit l→sgl (num (l ++ [1]))=sgl (num l) ++ [2 ^ l.length]
 | [],_=>by
  show sgl (2 * 0+1)=sgl 0 ++ [1]
  rw [zcE,zbX];rfl
 | b :: l,h=>by
  have ih:=zeh l fun x hx=>h x (Xau _ hx)
  have hb:=h b Xav
  have e1:num (b :: (l ++ [1]))=b+2 * num (l ++ [1]):=rfl
  have e2:num (b :: l)=b+2 * num l:=rfl
  rw [List.cons_append,e1,e2]
  rcases (show b=0∨b=1 by omega) with rfl | rfl
  ·rw [Nat.zero_add,Nat.zero_add,zbH,zbH,ih,XaI,Xar,XaE,Xa4];rfl
  ·rw [XbO 1,XbO 1,zcE,zcE,ih,XaI,Xar,XaE,Xa4];rfl
theorem zbl:∀ l:List Nat,num (l ++ [0])=num l
 | []=>rfl
 | b :: l=>by
  have e1:num (b :: (l ++ [0]))=b+2 * num (l ++ [0]):=rfl
  rw [List.cons_append,e1,zbl l];rfl
theorem zc3:∀ l:List Nat,Bit l→ones (num l)=l.sum
 | [],_=>by simp [num,ones]
 | b :: l,h=>by
  have hb:=h b Xav
  have e1:num (b :: l)=b+2 * num l:=rfl
  rw [e1,zcS,show (b+2 * num l) % 2=b by omega,show (b+2 * num l) / 2=num l by omega,zc3 l fun x hx=>h x (Xau _ hx),List.sum_cons]
inductive spParts (C:Addr)(vs:List V)(H:Hp)(Q:VK)(E:XK):Prop
 | mk (n:Nat) (z0_:vs=[.int (n:Int)]) (z1_:n<2 ^ 64) (z2_:(ones n≤12→∀ (p:Addr) (H':Hp),H p=none→H' p=some (.lst (vN (ptsF [0] (sgl n))))→Same H H'→Q (.ref p) H')) (z3_:(12<ones n→∀ H',Same H H'→E (.ref C) none H'))
theorem strKey {v:Value}(h:(match v with | .str _ _=>true | _=>false)=true):∃ n t,v = .str n t:=by
 cases v with
 | str n t=>exact ⟨n,t,rfl⟩
 | _=>cases h
def gath:Nat→Nat→Nat
 | 0,_=>0
 | m+1,n=>if (m+1) % 2=1 then n % 2+2 * gath ((m+1) / 2) (n / 2) else gath ((m+1) / 2) (n / 2)
decreasing_by all_goals omega
def spr:Nat→Nat→Nat
 | 0,_=>0
 | m+1,n=>if (m+1) % 2=1 then n % 2+2 * spr ((m+1) / 2) (n / 2) else 2 * spr ((m+1) / 2) n
decreasing_by all_goals omega
theorem zc7 (n:Nat):gath 0 n=0:=by simp [gath]
theorem zfP (m n:Nat):gath (2 * m+1) n=n % 2+2 * gath m (n / 2):=by rw [gath,if_pos (by omega),show (2 * m+1) / 2=m by omega]
theorem zeV (m n:Nat):gath (2 * m) n=gath m (n / 2):=by
 cases m with
 | zero=>simp [gath]
 | succ m=>rw [show 2 * (m+1)=(2 * m+1)+1 by omega,gath,if_neg (by omega),show (2 * m+1+1) / 2=m+1 by omega]
theorem zct (n:Nat):spr 0 n=0:=by simp [spr]
theorem zed (m n:Nat):spr (2 * m+1) n=n % 2+2 * spr m (n / 2):=by rw [spr,if_pos (by omega),show (2 * m+1) / 2=m by omega]
theorem zdX (m n:Nat):spr (2 * m) n=2 * spr m n:=by
 cases m with
 | zero=>simp [spr]
 | succ m=>rw [show 2 * (m+1)=(2 * m+1)+1 by omega,spr,if_neg (by omega),show (2 * m+1+1) / 2=m+1 by omega]
def gsm:Nat→List Nat→Nat→Nat
 | _,[],_=>0
 | k,s :: r,n=>(if n &&& s=0 then 0 else 2 ^ k)+gsm (k+1) r n
def ssm:Nat→List Nat→Nat→Nat
 | _,[],_=>0
 | k,s :: r,n=>(if n / 2 ^ k % 2=1 then s else 0)+ssm (k+1) r n
theorem zia:∀ (l:List Nat) (k n:Nat),gsm (k+1) l n=2 * gsm k l n
 | [],_,_=>rfl
 | s :: r,k,n=>by
  simp only [gsm,zia r (k+1) n,XaE]
  split <;> omega
theorem zhH:∀ (l:List Nat) (k n:Nat),gsm k (l.map (2 * ·)) n=gsm k l (n / 2)
 | [],_,_=>rfl
 | s :: r,k,n=>by
  simp only [XaJ,gsm,zhH r (k+1) n,zlp]
  congr 1
  by_cases h:n / 2 &&& s=0
  ·rw [if_pos h,if_pos (by omega)]
  ·rw [if_neg h,if_neg (by omega)]
theorem zj8:∀ m n,gsm 0 (sgl m) n=gath m n:=by
 intro m
 induction m using Nat.strongRecOn with
 | _ m ih =>
  intro n
  by_cases h0:m=0
  ·subst h0;rw [zbX,zc7];rfl
  rcases XaG m with h | h
  ·obtain ⟨h2,e⟩:∃ h2,m=2 * h2:=⟨m / 2,by omega⟩
   subst e
   rw [zbH,zhH,ih _ (by omega),zeV]
  ·obtain ⟨h2,e⟩:∃ h2,m=2 * h2+1:=⟨m / 2,by omega⟩
   subst e
   rw [zcE,gsm,zia,zhH,ih _ (by omega),zfP]
   have:n &&& 1=n % 2:=Nat.and_one_is_mod n
   rw [this]
   rcases XaG n with h | h <;> simp [h]
theorem zhU:∀ (l:List Nat) (k n:Nat),ssm (k+1) l n=ssm k l (n / 2)
 | [],_,_=>rfl
 | s :: r,k,n=>by
  simp only [ssm,zhU r (k+1) n]
  rw [XaE,Xa4,← Nat.div_div_eq_div_mul]
theorem zg0:∀ (l:List Nat) (k n:Nat),ssm k (l.map (2 * ·)) n=2 * ssm k l n
 | [],_,_=>rfl
 | s :: r,k,n=>by
  simp only [XaJ,ssm,zg0 r (k+1) n]
  split <;> omega
theorem zmt:∀ m n,ssm 0 (sgl m) n=spr m n:=by
 intro m
 induction m using Nat.strongRecOn with
 | _ m ih =>
  intro n
  by_cases h0:m=0
  ·subst h0;rw [zbX,zct];rfl
  rcases XaG m with h | h
  ·obtain ⟨h2,e⟩:∃ h2,m=2 * h2:=⟨m / 2,by omega⟩
   subst e
   rw [zbH,zg0,ih _ (by omega),zdX]
  ·obtain ⟨h2,e⟩:∃ h2,m=2 * h2+1:=⟨m / 2,by omega⟩
   subst e
   rw [zcE,ssm,zhU,zg0,ih _ (by omega),zed]
   simp only [Nat.pow_zero,Nat.div_one]
   rcases XaG n with h | h <;> simp [h]
def sel:List Nat→List Nat→List Nat
 | b :: bs,o :: os=>if o=1 then b :: sel bs os else sel bs os
 | _,_=>[]
theorem zhW:∀ (bs os:List Nat) (b o:Nat),bs.length=os.length→sel (bs ++ [b]) (os ++ [o])=sel bs os ++ (if o=1 then [b] else [])
 | [],[],b,o,_=>by simp [sel]
 | x :: bs,y :: os,b,o,h=>by
  simp only [List.cons_append,sel,zhW bs os b o (by simpa using h)]
  split <;> simp
 | [],_ :: _,_,_,h=>by simp at h
 | _ :: _,[],_,_,h=>by simp at h
theorem zjO:∀ k m n,m<2 ^ k→num (sel (zaG n k) (zaG m k))=gath m n
 | 0,m,n,h=>by simp at h;subst h;simp [zaG,sel,num,zc7]
 | k+1,m,n,h=>by
  have ih:=zjO k (m / 2) (n / 2) (by rw [XaE] at h;omega)
  simp only [zaG,sel]
  rcases XaG m with h1 | h1
  ·rw [if_neg (by omega),ih]
   conv=>rhs;rw [show m=2 * (m / 2) by omega]
   rw [zeV]
  ·rw [if_pos h1,num,ih]
   conv=>rhs;rw [show m=2 * (m / 2)+1 by omega]
   rw [zfP]
inductive spG (g:Nat→Nat→Nat)(vs:List V)(H:Hp)(Q:VK)(u3_:XK):Prop
 | mk (m n:Nat) (z0_:vs=[.int (m:Int),.int (n:Int)]) (z1_:m<2 ^ 64) (z2_:∀ H',Same H H'→Q (.int (g m n:Int)) H')
theorem sumN (l:List Nat):(l.map (fun (b:Nat)=>(b:Int))).sum=((l.sum:Nat):Int):=by
 induction l with
 | nil=>rfl
 | cons b r ih=>rw [XaJ,List.sum_cons,List.sum_cons,ih];omega
theorem vN_sq {K:W.Frag}{H:Hp}{p:Addr}{l:List Nat}(h:SqL K H p (vN l)):SqL K H p ((l.map fun (b:Nat)=>(b:Int)).map V.int):=by
 rw [Xbd];exact h
theorem zib {l:List Nat}{i s:Nat}(n:Nat)(h:l[i]? = some s):gsm i (l.drop i) n=(if n &&& s=0 then 0 else 2 ^ i)+gsm (i+1) (l.drop (i+1)) n:=by
 rw [List.drop_eq_getElem_cons (Xaf.mp h).1,(Xaf.mp h).2];rfl
theorem zkP {l:List Nat}{i s:Nat}(n:Nat)(h:l[i]? = some s):ssm i (l.drop i) n=(if n / 2 ^ i % 2=1 then s else 0)+ssm (i+1) (l.drop (i+1)) n:=by
 rw [List.drop_eq_getElem_cons (Xaf.mp h).1,(Xaf.mp h).2];rfl
theorem zm7 {P:Nat→Prop}(h0:P 0)(he:∀ m,P m→P (2 * m))(ho:∀ m,P m→P (2 * m+1)):∀ m,P m:=by
 intro m
 induction m using Nat.strongRecOn with
 | _ m ih =>
  by_cases hz:m=0
  ·subst hz;exact h0
  rcases XaG m with h | h
  ·have:=he (m / 2) (ih _ (by omega));rwa [show 2 * (m / 2)=m by omega] at this
  ·have:=ho (m / 2) (ih _ (by omega));rwa [show 2 * (m / 2)+1=m by omega] at this
theorem zbD (m:Nat):ones (2 * m)=ones m:=by rw [zcS,show 2 * m % 2=0 by omega,show 2 * m / 2=m by omega];omega
theorem zcv (m:Nat):ones (2 * m+1)=ones m+1:=by rw [zcS,show (2 * m+1) % 2=1 by omega,show (2 * m+1) / 2=m by omega];omega
theorem zc2:ones 0=0:=by simp [ones]
theorem zhI (m:Nat):∀ n,gath m n<2 ^ ones m:=by
 refine zm7 (P:=fun m=>∀ n,gath m n<2 ^ ones m) ?_ ?_ ?_ m
 ·intro n;rw [zc7,zc2];omega
 ·intro m ih n;rw [zeV,zbD];exact ih _
 ·intro m ih n;have:=ih (n / 2);rw [zfP,zcv,XaE];omega
theorem zm2 {P:Nat→Nat→Prop}(h0:P 0 0)(hee:∀ m o,P m o→P (2 * m) (2 * o))(hoe:∀ m o,P m o→P (2 * m+1) (2 * o))(heo:∀ m o,P m o→P (2 * m) (2 * o+1)):∀ m o,m &&& o=0→P m o:=by
 have key:∀ k m o,m+o≤k→m &&& o=0→P m o:=by
  intro k
  induction k with
  | zero =>
   intro m o h _
   obtain ⟨rfl,rfl⟩:m=0∧o=0:=by omega
   exact h0
  | succ k ih =>
   intro m o hk hd
   by_cases hz:m+o=0
   ·obtain ⟨rfl,rfl⟩:m=0∧o=0:=by omega
    exact h0
   obtain ⟨x,hx⟩:∃ x,m=2 * x∨m=2 * x+1:=⟨m / 2,by omega⟩
   obtain ⟨y,hy⟩:∃ y,o=2 * y∨o=2 * y+1:=⟨o / 2,by omega⟩
   rcases hx with rfl | rfl <;> rcases hy with rfl | rfl
   ·rw [zgt] at hd;exact hee x y (ih x y (by omega) (by omega))
   ·rw [zjX] at hd;exact heo x y (ih x y (by omega) (by omega))
   ·rw [zfN] at hd;exact hoe x y (ih x y (by omega) (by omega))
   ·rw [zlq] at hd;omega
 exact fun m o h=>key _ m o (Xae _) h
theorem zlB:∀ m o,m &&& o=0→ones (m+o)=ones m+ones o:=by
 refine zm2 ?_ ?_ ?_ ?_
 ·rw [zc2]
 ·intro m o ih;rw [show 2 * m+2 * o=2 * (m+o) by omega,zbD,zbD,zbD,ih]
 ·intro m o ih;rw [show 2 * m+1+2 * o=2 * (m+o)+1 by omega,zcv,zcv,zbD,ih];omega
 ·intro m o ih;rw [show 2 * m+(2 * o+1)=2 * (m+o)+1 by omega,zcv,zcv,zbD,ih];omega
def freL:List Nat→List Nat→List Nat
 | a :: r,b :: s=>(1 - (a+b)) :: freL r s
 | _,_=>[]
def Apart:List Nat→List Nat→Prop
 | a :: r,b :: s=>a+b≤1∧Apart r s
 | _,_=>True
theorem Apart.of:∀ (l r:List Nat),(∀ (k a b:Nat),l[k]? = some a→r[k]? = some b→a+b≤1)→Apart l r
 | [],_,_=>trivial
 | _ :: _,[],_=>trivial
 | a :: l,b :: r,h=>⟨h 0 a b rfl rfl,Apart.of l r fun k x y e1 e2=>h (k+1) x y e1 e2⟩
theorem zc8:∀ (l r:List Nat) (a b:Nat),l.length=r.length→freL (l ++ [a]) (r ++ [b])=freL l r ++ [1 - (a+b)]
 | [],[],a,b,_=>rfl
 | x :: l,y :: r,a,b,h=>by simp only [List.cons_append,freL,zc8 l r a b (by simpa using h)]
 | [],_ :: _,_,_,h=>by simp at h
 | _ :: _,[],_,_,h=>by simp at h
theorem zcU:∀ (l r:List Nat),l.length=r.length→(freL l r).length=l.length
 | [],[],_=>rfl
 | x :: l,y :: r,h=>by simp only [freL,Xar,zcU l r (by simpa using h)]
 | [],_ :: _,h=>by simp at h
 | _ :: _,[],h=>by simp at h
theorem zd4:∀ (l r:List Nat),Bit (freL l r)
 | [],_=>fun _ h=>nomatch h
 | _ :: _,[]=>fun _ h=>nomatch h
 | a :: l,b :: r=>fun x hx=>by
  rcases Xan.mp hx with rfl | z
  ·omega
  ·exact zd4 l r x z
theorem zie:∀ (l r:List Nat),l.length=r.length→Apart l r→(freL l r).sum+l.sum+r.sum=l.length
 | [],[],_,_=>rfl
 | a :: l,b :: r,h,p=>by
  have ih:=zie l r (by simpa using h) p.2
  have:=p.1
  simp only [freL,List.sum_cons,Xar]
  omega
 | [],_ :: _,h,_=>by simp at h
 | _ :: _,[],h,_=>by simp at h
theorem zif:∀ (l r:List Nat),l.length=r.length→Apart l r→num (freL l r)+num l+num r+1=2 ^ l.length
 | [],[],_,_=>rfl
 | a :: l,b :: r,h,p=>by
  have ih:=zif l r (by simpa using h) p.2
  have:=p.1
  simp only [freL,num,Xar,XaE]
  omega
 | [],_ :: _,h,_=>by simp at h
 | _ :: _,[],h,_=>by simp at h
theorem zfL (a b x y:Nat)(h:a+b≤1):(a+2 * x) ||| (b+2 * y)=(a+b)+2 * (x ||| y):=by
 apply Nat.eq_of_testBit_eq
 intro i
 cases i with
 | zero =>
  rw [Nat.testBit_or]
  simp only [Nat.testBit_zero]
  rcases (show (a=0∧b=0)∨(a=1∧b=0)∨(a=0∧b=1) by omega) with ⟨rfl,rfl⟩ | ⟨rfl,rfl⟩ | ⟨rfl,rfl⟩ <;> simp [Nat.add_mod]
 | succ i =>
  rw [Nat.testBit_or]
  simp only [Xa6]
  rw [show (a+2 * x) / 2=x by omega,show (b+2 * y) / 2=y by omega,show (a+b+2 * (x ||| y)) / 2=x ||| y by omega,Nat.testBit_or]
theorem zjT:∀ (l r:List Nat),l.length=r.length→Apart l r→num l ||| num r=num l+num r
 | [],[],_,_=>rfl
 | a :: l,b :: r,h,p=>by
  have ih:=zjT l r (by simpa using h) p.2
  simp only [num]
  rw [zfL _ _ _ _ p.1,ih]
  omega
 | [],_ :: _,h,_=>by simp at h
 | _ :: _,[],h,_=>by simp at h
theorem zfM:∀ (l r:List Nat) (c:Nat),l.length=r.length→Bit r→Apart l r→num l ||| spr (num r) c=num l+spr (num r) c
 | [],[],c,_,_,_=>by simp [num,zct]
 | a :: l,b :: r,c,h,hb,p=>by
  have hb':Bit r:=fun x hx=>hb x (Xau _ hx)
  have h1:=hb b Xav
  have h':l.length=r.length:=by simpa using h
  have:=p.1
  simp only [num]
  rcases (show b=0∨b=1 by omega) with rfl | rfl
  ·rw [Nat.zero_add,zdX]
   have e:=zfL a 0 (num l) (spr (num r) c) (by omega)
   rw [Nat.zero_add] at e
   rw [e,zfM l r c h' hb' p.2];omega
  ·rw [XbO 1,zed,zfL a (c % 2) _ _ (by omega),zfM l r (c / 2) h' hb' p.2];omega
 | [],_ :: _,_,h,_,_=>by simp at h
 | _ :: _,[],_,h,_,_=>by simp at h
theorem zfs:∀ (l:List Nat) (b c:Nat),Bit l→b≤1→spr (num (l ++ [b])) c=spr (num l) c+2 ^ l.length * (b * (c / 2 ^ l.sum % 2))
 | [],b,c,_,hb=>by
  rcases (show b=0∨b=1 by omega) with rfl | rfl
  ·simp [num,zct]
  ·show spr (1+2 * 0) c=_
   rw [XbO 1,zed,zct]
   simp [num,zct]
 | o :: l,b,c,h,hb=>by
  have h1:=h o Xav
  have h':Bit l:=fun x hx=>h x (Xau _ hx)
  have e1:num ((o :: l) ++ [b])=o+2 * num (l ++ [b]):=rfl
  have e2:num (o :: l)=o+2 * num l:=rfl
  rw [e1,e2,Xar,List.sum_cons,XaE,Xa4 (2 ^ l.length) 2,Nat.mul_assoc]
  rcases (show o=0∨o=1 by omega) with rfl | rfl
  ·rw [Nat.zero_add,Nat.zero_add,Nat.zero_add,zdX,zdX,zfs l b c h' hb];omega
  ·rw [XbO 1 (2 * _),XbO 1 (2 * _),zed,zed,zfs l b (c / 2) h' hb,Nat.div_div_eq_div_mul,XbO 1 l.sum,XaE,Xa4 (2 ^ l.sum) 2];omega
theorem bor (a b:Nat):Builtin.bitOr (a:Int) (b:Int)=((a ||| b:Nat):Int):=by
 unfold Builtin.bitOr Builtin.bitAnd Builtin.bitNot
 rw [Xai (show ¬ (0:Int)≤-(a:Int) - 1 by omega),Xai (show ¬ (0:Int)≤-(b:Int) - 1 by omega)]
 show -(-((((-(-(a:Int) - 1) - 1).toNat ||| (-(-(b:Int) - 1) - 1).toNat:Nat)):Int) - 1) - 1=_
 rw [show -(-(a:Int) - 1) - 1=(a:Int) by omega,show -(-(b:Int) - 1) - 1=(b:Int) by omega,Xag,Xag]
 omega
theorem zlL (a b:Nat):Builtin.bitAnd (a:Int) (Builtin.bitNot (b:Int))=((a - (a &&& b):Nat):Int):=by
 unfold Builtin.bitAnd Builtin.bitNot
 rw [Xah (show (0:Int)≤(a:Int) by omega),Xai (show ¬ (0:Int)≤-(b:Int) - 1 by omega)]
 show (a:Int) - ((((a:Int)).toNat &&& (-(-(b:Int) - 1) - 1).toNat:Nat):Int)=_
 rw [show -(-(b:Int) - 1) - 1=(b:Int) by omega,Xag,Xag]
 have:=Nat.and_le_left (n:=a) (m:=b)
 omega
theorem zkb {m:Nat}{l r:List Nat}(hl:l.length=m)(hr:r.length=m)(bl:Bit l)(br:Bit r)(p:Apart l r) :
  Builtin.bitAnd ((2:Int) ^ m - 1) (Builtin.bitNot (Builtin.bitOr (num l:Int) (num r:Int)))=(num (freL l r):Int):=by
 have e:=zif l r (by omega) p
 rw [hl] at e
 rw [bor,zjT l r (by omega) p,show ((2:Int) ^ m - 1)=((2 ^ m - 1:Nat):Int) by have:((2 ^ m:Nat):Int)=(2:Int) ^ m:=(by norm_cast);omega,zlL,Nat.and_comm,Xby,XaQ (by omega)]
 congr 1
 omega
set_option tactic.hygienic true in
theorem zij (c s:Nat):Builtin.Int.intBits (c:Int)≤s↔c<2 ^ s:=by
 constructor
 ·intro h
  unfold Builtin.Int.intBits at h
  split at h
  ·rename_i z
   have:c=0:=by first | omega | (simp at z;omega)
   rw [this];exact Nat.pow_pos (by decide)
  ·rename_i z
   have h0:c≠0:=by first | omega | (intro q;apply z;rw [q];rfl) | (intro q;apply z;simp [q])
   rw [Int.natAbs_natCast] at h
   exact (Nat.log2_lt (k:=s) h0).mp (by omega)
 ·intro h
  exact zhL (by rwa [Int.natAbs_natCast])
def adrL (lm lw li:List Nat)(c:Nat):List Nat:=(ptsF [0] (sgl (num (freL lm li)))).map (num lw+spr (num li) c + ·)
theorem zgR {lm lw li:List Nat}{m c w:Nat}(h1:lm.length=m)(h2:lw.length=m)(h3:li.length=m)(b3:Bit li):adrL (lm ++ [1]) (lw ++ [w]) (li ++ [0]) c=(adrL lm lw li c).map (· + 2 ^ m * w):=by
 unfold adrL
 rw [zc8 _ _ _ _ (by omega),zbl,show 1 - (1+0)=0 from rfl,zbl,zbV,h2,Xbd]
 congr 1
 funext x
 simp [num];omega
theorem zgQ {lm lw li:List Nat}{m c:Nat}(h1:lm.length=m)(h2:lw.length=m)(h3:li.length=m)(b3:Bit li):adrL (lm ++ [0]) (lw ++ [0]) (li ++ [1]) c=(adrL lm lw li c).map (· + 2 ^ m * (c / 2 ^ li.sum % 2)):=by
 unfold adrL
 rw [zc8 _ _ _ _ (by omega),show 1 - (0+1)=0 from rfl,zbl,zbl,zfs li 1 c b3 (by omega),h3,Xbd]
 congr 1
 funext x
 simp;omega
theorem zil {lm lw li:List Nat}{m c:Nat}(h1:lm.length=m)(h2:lw.length=m)(h3:li.length=m)(b3:Bit li):adrL (lm ++ [0]) (lw ++ [0]) (li ++ [0]) c=adrL lm lw li c ++ (adrL lm lw li c).map (· + 2 ^ m):=by
 unfold adrL
 rw [zc8 _ _ _ _ (by omega),show 1 - (0+0)=1 from rfl,zbl,zbl,zeh _ (zd4 lm li),zcU _ _ (by omega),h1,zey,XaI,Xbd,Xbd]
 congr 1
 congr 1
 funext x
 simp;omega
def rowV (lm lw li:List Nat)(ch:Nat)(lt:V):HO:=.tup [.int (num lm:Int),.int (num lw:Int),.int (num li:Int),.int (ch:Int),lt]
inductive spAddr (C:Addr)(vs:List V)(H:Hp)(Q:VK)(E:XK):Prop
 | mk (m:Nat) (t:Addr) (lm lw li:List Nat) (ch:Nat) (lt:V) (c:Int) (z0_:vs=[.int (m:Int),.ref t,.int c]) (z1_:RowBits m lm lw li) (z2_:m≤16) (z3_:H t=some (rowV lm lw li ch lt)) (z4_:((c<0∨((2 ^ li.sum:Nat):Int)≤c)→∀ (p:Addr) (H':Hp),H p=none→H' p=some (.lst [])→Same H H'→Q (.ref p) H')) (z5_:(∀ n:Nat,c=(n:Int)→n<2 ^ li.sum→(freL lm li).sum≤12→∀ (p:Addr) (H':Hp),H p=none→H' p=some (.lst (vN (adrL lm lw li n)))→Same H H'→Q (.ref p) H')) (z6_:(∀ n:Nat,c=(n:Int)→n<2 ^ li.sum→12<(freL lm li).sum→∀ H',Same H H'→E (.ref C) none H'))
theorem zc0 {H H':Hp}{p:Addr}(s:Same H H')(h:H' p=none):H p=none:=by
 cases e:H p with
 | none=>rfl
 | some o=>rw [s _ _ e] at h;cases h
theorem zkC (n:Nat):adrL [] [] [] n=[0]:=by
 show (ptsF [0] (sgl 0)).map (0+spr 0 n + ·)=[0]
 rw [zbX,zct];rfl
theorem zfV (op:Nat→Nat→Nat)(f:Bool→Bool→Bool)(hop:∀ a b i,(op a b).testBit i=f (a.testBit i) (b.testBit i))(hf:f false false=false)(x y:Nat) :
  op x y=(f (x % 2 == 1) (y % 2 == 1)).toNat+2 * op (x / 2) (y / 2):=by
 apply Nat.eq_of_testBit_eq
 intro i
 cases i with
 | zero =>
  rw [hop]
  simp only [Nat.testBit_zero]
  cases h:f (x % 2 == 1) (y % 2 == 1) <;> simp_all [Nat.add_mod]
 | succ i =>
  rw [hop]
  simp only [Xa6]
  rw [show ((f (x % 2 == 1) (y % 2 == 1)).toNat+2 * op (x / 2) (y / 2)) / 2=op (x / 2) (y / 2) by cases f (x % 2 == 1) (y % 2 == 1) <;> simp <;> omega,hop]
theorem or_is:∀ a b:Nat,a ||| b=(a ^^^ b)+(a &&& b):=by
 intro a
 induction a using Nat.strongRecOn with
 | _ a ih =>
  intro b
  by_cases h0:a=0
  ·subst h0;simp
  have e1:a ||| b=((a % 2 == 1) || (b % 2 == 1)).toNat+2 * (a / 2 ||| b / 2):=zfV (· ||| ·) (· || ·) Nat.testBit_or rfl a b
  have e2:a ^^^ b=(Bool.xor (a % 2 == 1) (b % 2 == 1)).toNat+2 * (a / 2 ^^^ b / 2):=zfV (· ^^^ ·) Bool.xor Xb1 rfl a b
  have e3:a &&& b=((a % 2 == 1) && (b % 2 == 1)).toNat+2 * (a / 2 &&& b / 2):=zfV (· &&& ·) (· && ·) XaA rfl a b
  have e4:=ih (a / 2) (by omega) (b / 2)
  rw [e1,e2,e3,e4]
  cases (a % 2 == 1) <;> cases (b % 2 == 1) <;> simp <;> omega
theorem bxor (a b:Nat):Builtin.bitXor (a:Int) (b:Int)=((a ^^^ b:Nat):Int):=by
 unfold Builtin.bitXor
 rw [bor,band,or_is]
 omega
def agr (m w n v:Nat):Bool:=decide ((w ^^^ v) &&& m &&& n=0)
inductive spAgr (vs:List V)(H:Hp)(Q:VK)(u3_:XK):Prop
 | mk (m w n v:Nat) (z0_:vs=[.int (m:Int),.int (w:Int),.int (n:Int),.int (v:Int)]) (z1_:Q (.bl (agr m w n v)) H)
def LatV (H:Hp)(v:V):Option (Nat×Nat×Nat)→Prop
 | none=>v = .non
 | some (c,a,b)=>∃ u:Addr,v = .ref u∧H u=some (.tup [.int (c:Int),.int (a:Int),.int (b:Int)])
def latA:Option (Nat×Nat×Nat)→Option (Nat×Nat×Nat)→Bool
 | some (c,a,b),some (d,x,y)=>if c=d then agr a b x y else true
 | _,_=>true
inductive spLatA (vs:List V)(H:Hp)(Q:VK)(u3_:XK):Prop
 | mk (x:_) (y:_) (o:_) (p:_) (z0_:vs=[x,y]) (z1_:LatV H x o) (z2_:LatV H y p) (z3_:Q (.bl (latA o p)) H)
structure Rw where
 m:Nat
 w:Nat
 i:Nat
 c:Nat
 l:Option (Nat×Nat×Nat)
def RwAt (H:Hp)(t:Addr)(r:Rw):Prop:=∃ lt:V,H t=some (.tup [.int (r.m:Int),.int (r.w:Int),.int (r.i:Int),.int (r.c:Int),lt])∧LatV H lt r.l
def zbm (r q:Rw):Bool:=agr r.m r.w q.m q.w && latA r.l q.l
inductive spClash (vs:List V)(H:Hp)(Q:VK)(u3_:XK):Prop
 | mk (t:_) (u:_) (r:_) (q:_) (z0_:vs=[.ref t,.ref u]) (z1_:RwAt H t r) (z2_:RwAt H u q) (z3_:Q (.bl (zbm r q)) H)
theorem zgI:bootBuiltins "sorted" = some (.builtin "sorted"):=by decide +kernel
theorem LatV.same {H H':Hp}{v:V}{o:Option (Nat×Nat×Nat)}(h:LatV H v o)(s:Same H H'):LatV H' v o:=by
 match o,h with
 | none,h=>exact h
 | some (c,a,b),⟨u,e,eu⟩=>exact ⟨u,e,s _ _ eu⟩
theorem RwAt.same {H H':Hp}{t:Addr}{r:Rw}(h:RwAt H t r)(s:Same H H'):RwAt H' t r:=by
 obtain ⟨lt,e,hl⟩:=h
 exact ⟨lt,s _ _ e,hl.same s⟩
def LatOk:Option (Nat×Nat×Nat)→Prop
 | none=>True
 | some (c,a,b)=>c<100∧a<256∧b &&& a=b
structure RwOk (m:Nat)(r:Rw):Prop where
 m0:r.m<2 ^ m
 w0:r.w<2 ^ m
 wm:r.w &&& r.m=r.w
 i0:r.i<2 ^ m
 im:r.i &&& r.m=0
 c0:r.c<100
 l0:LatOk r.l
theorem zd6:∀ (m n k:Nat),k<m→(zaG n m)[k]? = some (n / 2 ^ k % 2)
 | 0,n,k,h=>absurd h (XbF _)
 | m+1,n,0,h=>by simp [zaG]
 | m+1,n,k+1,h=>by
  have:=zd6 m (n / 2) k (by omega)
  simp only [zaG,List.getElem?_cons_succ]
  rw [this,XaE,Xa4,Nat.div_div_eq_div_mul]
def dN (keys:List Nat)(f:Nat→V):List (Key×V):=keys.map fun (c:Nat)=>(Sum.inl (c:Int),f c)
theorem dN_len (keys:List Nat)(f:Nat→V):(dN keys f).length=keys.length:=Xal ..
theorem dN_any {keys:List Nat}{f:Nat→V}{c:Nat}:((dN keys f).any fun kv=>decide (kv.fst=Sum.inl (c:Int)))=decide (c∈keys):=by
 rw [XbV,List.any_eq_true,decide_eq_true_iff]
 constructor
 ·rintro ⟨x,hx,e⟩
  obtain ⟨k,hk,rfl⟩:=XaF.mp hx
  have e:=XaD e
  injection e with e
  rw [← Int.ofNat.inj e];exact hk
 ·intro h
  exact ⟨_,XaF.mpr ⟨c,h,rfl⟩,Xah rfl⟩
theorem ziY {keys:List Nat}{f:Nat→V}{c:Nat}{v:V}(h:c ∉ keys):putK (dN keys f) (Sum.inl (c:Int)) v=dN (keys ++ [c]) fun k=>if k=c then v else f k:=by
 unfold putK
 rw [dN_any,Xai h,if_neg (by decide)]
 unfold dN
 rw [XaI]
 congr 1
 ·refine List.map_congr_left fun k hk=>?_
  try dsimp only
  rw [if_neg (fun z:k=c=>h (z ▸ hk))]
 ·simp
theorem zmd {f:Nat→V}{c:Nat}:∀ {keys:List Nat},c∈keys→valV (dN keys f) (Sum.inl (c:Int))=some (f c)
 | [],h=>nomatch h
 | k :: keys,h=>by
  unfold valV dN
  rw [XaJ,List.find?_cons]
  by_cases z:k=c
  ·subst z;simp
  ·have e:decide ((Sum.inl (k:Int):Key)=Sum.inl (c:Int))=false:=Xai fun y=>z (by injection y with y;exact Int.ofNat.inj y)
   simp only [e]
   exact zmd (keys:=keys) ((Xan.mp h).resolve_left (fun y=>z y.symm))
theorem zlD {keys:List Nat}{f g:Nat→V}(h:∀ k∈keys,f k=g k):dN keys f=dN keys g:=List.map_congr_left fun (k:Nat) hk=>by rw [h k hk]
theorem zig {w a b x y:Nat}(h1:w &&& a=b)(h2:w &&& x=y):agr a b x y=true:=by
 subst h1 h2
 refine Xah (Nat.eq_of_testBit_eq fun i=>?_)
 simp only [XaA,Xb1,Nat.zero_testBit]
 cases w.testBit i <;> cases a.testBit i <;> cases x.testBit i <;> rfl
theorem clash_parts {r q:Rw}:zbm r q=true↔agr r.m r.w q.m q.w=true∧latA r.l q.l=true:=by unfold zbm;rw [Xa5]
def NC (r q:Rw):Prop:=zbm r q=false∧zbm q r=false
theorem zlE {xs:List V}{m:Nat}(h:m≤xs.length):cutV xs (some (m:Int)) none=xs.drop m:=by
 unfold cutV HT.sIx
 have e:((m:Int)).toNat=m:=by omega
 simp only
 split
 ·omega
 ·rw [e,Xb0 h]
  exact XaH (by rw [XaV];exact Xae _)
def RwsAt2 (m:Nat)(X:Hp)(ws:List (Addr×Rw)):Prop:=∀ z∈ws,RwAt X z.1 z.2∧RwOk m z.2
theorem RwsAt2.same {m:Nat}{X Y:Hp}{ws:List (Addr×Rw)}(h:RwsAt2 m X ws)(s:Same X Y):RwsAt2 m Y ws:=fun z hz=>⟨(h z hz).1.same s,(h z hz).2⟩
def refs {α:Type}(ws:List (Addr×α)):List V:=ws.map fun z=>.ref z.1
theorem zas {α:Type}(ws:List (Addr×α)):(refs ws).length=ws.length:=Xal ..
theorem zid {K:W.Frag}{i j:Nat}{T:Addr}{x y:V}{σ:St}{H:Hp}{Q:St→Hp→Prop}(e:H T=some (.tup [x,y]))(h:Q ((σ.set i (some x)).set j (some y)) H) :
  gTup K 2 (gCons (zaT i) (gCons (zaT j) gNil)) (.ref T) σ H Q:=
 ⟨T,[x,y],rfl,SqT.of e,rfl,x,[y],rfl,y,[],rfl,rfl,h⟩
theorem LatV.updL {X:Hp}{l:Addr}{v:V}{o:Option (Nat×Nat×Nat)}{xs ys:List V}(h:LatV X v o)(hl:X l=some (.lst xs)):LatV (upd X l (.lst ys)) v o:=by
 match o,h with
 | none,h=>exact h
 | some (c,a,b),⟨u,e,eu⟩=>exact ⟨u,e,by rw [zai (fun z=>by rw [z,hl] at eu;cases eu)];exact eu⟩
theorem RwAt.updL {X:Hp}{l t:Addr}{r:Rw}{xs ys:List V}(h:RwAt X t r)(hl:X l=some (.lst xs)):RwAt (upd X l (.lst ys)) t r:=by
 obtain ⟨lt,e,hlt⟩:=h
 exact ⟨lt,by rw [zai (fun z=>by rw [z,hl] at e;cases e)];exact e,hlt.updL hl⟩
theorem zev {α:Type}{ws:List (Addr×α)}{k:Nat}{z:Addr×α}(h:ws[k]? = some z):(refs ws)[k]? = some (.ref z.1):=by unfold refs;rw [Xaq,h];rfl
theorem zf8 {α:Type}(ws:List (Addr×α))(z:Addr×α):refs (ws ++ [z])=refs ws ++ [.ref z.1]:=by unfold refs;rw [XaI];rfl
theorem zbf {α:Type}{ws:List (Addr×α)}{k:Nat}{x:V}(h:(refs ws)[k]? = some x):∃ z,ws[k]? = some z∧x = .ref z.1:=by
 unfold refs at h
 rw [Xaq] at h
 obtain ⟨z,h1,h2⟩:=XaP.mp h
 exact ⟨z,h1,h2.symm⟩
def dV (keys:List Nat)(g:Nat→Nat):List (Key×V):=dN keys fun c=>.int (g c:Int)
def wrd (keys:List Nat)(g:Nat→Nat)(c:Nat):Nat:=if c∈keys then g c else 0
theorem zkl {f:Nat→V}{c:Nat}:∀ {keys:List Nat},c ∉ keys→valV (dN keys f) (Sum.inl (c:Int))=none
 | [],_=>rfl
 | k :: keys,h=>by
  unfold valV dN
  rw [XaJ,List.find?_cons]
  have z:¬ k=c:=fun z=>h (z ▸ Xav)
  have e:decide ((Sum.inl (k:Int):Key)=Sum.inl (c:Int))=false:=Xai fun y=>z (by injection y with y;exact Int.ofNat.inj y)
  simp only [e]
  exact zkl (keys:=keys) fun y=>h (Xau _ y)
theorem dV_get (keys:List Nat)(g:Nat→Nat)(c:Nat):(valV (dV keys g) (Sum.inl (c:Int))).getD (.int 0) = .int (wrd keys g c:Int):=by
 unfold dV wrd
 by_cases h:c∈keys
 ·rw [zmd h,if_pos h];rfl
 ·rw [zkl h,if_neg h];rfl
theorem dV_len (keys:List Nat)(g:Nat→Nat):(dV keys g).length=keys.length:=dN_len _ _
def awk (r:Rw)(W:Nat→Nat):Bool:=match r.l with
 | none=>true
 | some (c,a,b)=>decide (W c &&& a=b)
def met (r:Rw)(x:Nat):Bool:=decide (x &&& r.m=r.w)
inductive spMeet (vs:List V)(H:Hp)(Q:VK)(u3_:XK):Prop
 | mk (t:Addr) (r:Rw) (x:Nat) (z0_:vs=[.ref t,.int (x:Int)]) (z1_:RwAt H t r) (z2_:Q (.bl (met r x)) H)
inductive spAwake (vs:List V)(H:Hp)(Q:VK)(u3_:XK):Prop
 | mk (t d:Addr) (r:Rw) (keys:List Nat) (g:Nat→Nat) (z0_:vs=[.ref t,.ref d]) (z1_:RwAt H t r) (z2_:H d=some (.dK (dV keys g))) (z3_:Q (.bl (awk r (wrd keys g))) H)
def ans (r:Rw)(x:Nat)(W:Nat→Nat):Bool:=met r x && awk r W
def fstA (rs:List Rw)(x:Nat)(W:Nat→Nat):V:=match rs.findIdx? (fun r=>ans r x W) with
 | none=>.non
 | some i=>.int (i:Int)
inductive spAnsw (vs:List V)(H:Hp)(Q:VK)(u3_:XK):Prop
 | mk (p d:Addr) (x:Nat) (ws:List (Addr×Rw)) (keys:List Nat) (g:Nat→Nat) (z0_:vs=[.ref p,.int (x:Int),.ref d]) (z1_:H p=some (.tup (refs ws))) (z2_:(∀ z∈ws,RwAt H z.1 z.2)) (z3_:H d=some (.dK (dV keys g))) (z4_:∀ H',Same H H'→Q (fstA (ws.map (·.2)) x (wrd keys g)) H')
theorem awk_eq {keys:List Nat}{g:Nat→Nat}{c a b:Nat}{r:Rw}(h:r.l=some (c,a,b)):decide (V.int (Builtin.bitAnd (wrd keys g c:Int) (a:Int))=V.int (b:Int))=awk r (wrd keys g):=by
 rw [band]
 unfold awk
 rw [h]
 show _=decide (wrd keys g c &&& a=b)
 by_cases z:wrd keys g c &&& a=b
 ·rw [Xah z,z];exact Xah rfl
 ·rw [Xai z];exact Xai fun y=>z (by injection y with y;exact Int.ofNat.inj y)
theorem zka {rs:List Rw}{x:Nat}{W:Nat→Nat}(h:∀ r∈rs,ans r x W=false):fstA rs x W = .non:=by
 unfold fstA
 rw [XbL.mpr h]
theorem zgx {rs:List Rw}{x i:Nat}{W:Nat→Nat}{r:Rw}(hr:rs[i]? = some r)(h:ans r x W=true)(hb:∀ j q,j<i→rs[j]? = some q→ans q x W=false):fstA rs x W = .int (i:Int):=by
 unfold fstA
 obtain ⟨hi,e⟩:=Xaf.mp hr
 rw [Xbb.mpr ⟨hi,by rw [e];exact h,fun j hj=>by rw [hb j _ hj (Xaw (by omega))];decide⟩]
theorem zbG (x m w e:Nat):(x &&& m=w)↔(x / 2 ^ e &&& m / 2 ^ e=w / 2 ^ e∧x % 2 ^ e &&& m % 2 ^ e=w % 2 ^ e):=by
 have h1:(x &&& m) / 2 ^ e=x / 2 ^ e &&& m / 2 ^ e:=by
  apply Nat.eq_of_testBit_eq;intro i
  simp only [Nat.testBit_div_two_pow,XaA]
 have h2:(x &&& m) % 2 ^ e=x % 2 ^ e &&& m % 2 ^ e:=by
  apply Nat.eq_of_testBit_eq;intro i
  simp only [Nat.testBit_mod_two_pow,XaA]
  cases decide (i<e) <;> simp
 rw [← h1,← h2]
 constructor
 ·intro h;rw [h];exact ⟨rfl,rfl⟩
 ·rintro ⟨a,b⟩
  rw [← Nat.div_add_mod (x &&& m) (2 ^ e),← Nat.div_add_mod w (2 ^ e),a,b]
theorem zdb (p:Nat→Bool):∀ n,(List.range (2 * n)).countP p=(List.range n).countP (fun k=>p (2 * k))+(List.range n).countP (fun k=>p (2 * k+1))
 | 0=>rfl
 | n+1=>by
  rw [show 2 * (n+1)=2 * n+1+1 by omega,List.range_succ,List.range_succ,List.countP_append,List.countP_append,zdb p n,List.range_succ,List.countP_append,List.countP_append]
  simp only [List.countP_singleton]
  omega
theorem zcr {p q:Nat→Bool}{n:Nat}(h:∀ k,k<n→p k=q k):(List.range n).countP p=(List.range n).countP q:=by
 apply List.countP_congr
 intro k hk
 rw [h k (Xbo.mp hk)]
theorem zeX {p:Nat→Bool}{n:Nat}(h:∀ k,k<n→p k=false):(List.range n).countP p=0:=by
 rw [List.countP_eq_zero]
 intro k hk
 rw [h k (Xbo.mp hk)];decide
theorem zkp:∀ e m w,m<2 ^ e→w &&& m=w→(List.range (2 ^ e)).countP (fun k=>decide (k &&& m=w))=2 ^ (e - ones m)
 | 0,m,w,hm,hw=>by
  obtain rfl:m=0:=by simpa using hm
  obtain rfl:w=0:=by simpa using hw.symm
  simp
 | e+1,m,w,hm,hw=>by
  have hm2:m / 2<2 ^ e:=by rw [XaE] at hm;omega
  obtain ⟨s1,s2⟩:=(zbG w m w 1).mp hw
  have hw2:w / 2 &&& m / 2=w / 2:=by simpa using s1
  have s2:w % 2 &&& m % 2=w % 2:=by simpa using s2
  have ih:=zkp e (m / 2) (w / 2) hm2 hw2
  have ho:=zb5 e (m / 2) hm2
  have hm1:=zcS m
  have ev:∀ k,(2 * k &&& m=w)↔(k &&& m / 2=w / 2∧w % 2=0):=fun k=>by
   have:=zbG (2 * k) m w 1
   rw [show 2 * k / 2 ^ 1=k by omega,show 2 * k % 2 ^ 1=0 by omega,Nat.zero_and] at this
   rw [this];constructor <;> rintro ⟨a,b⟩ <;> exact ⟨a,by simpa using b.symm⟩
  have od:∀ k,(2 * k+1 &&& m=w)↔(k &&& m / 2=w / 2∧m % 2=w % 2):=fun k=>by
   have:=zbG (2 * k+1) m w 1
   rw [show (2 * k+1) / 2 ^ 1=k by omega,show (2 * k+1) % 2 ^ 1=1 by omega] at this
   have e1:1 &&& m % 2 ^ 1=m % 2:=by
    rcases XaG m with h | h <;> simp [h]
   rw [e1] at this
   rw [this]
  rw [show 2 ^ (e+1)=2 * 2 ^ e by rw [XaE];omega,zdb]
  have full:(List.range (2 ^ e)).countP (fun k=>decide (k &&& m / 2=w / 2))=2 ^ (e - ones (m / 2)):=ih
  rcases XaG m with h | h
  ·have w0:w % 2=0:=by rw [h] at s2;simpa using s2.symm
   rw [zcr (q:=fun k=>decide (k &&& m / 2=w / 2)) (fun k _=>by rw [Xbc,ev];exact ⟨fun z=>z.1,fun z=>⟨z,w0⟩⟩),
    zcr (q:=fun k=>decide (k &&& m / 2=w / 2)) (p:=fun k=>decide (2 * k+1 &&& m=w)) (fun k _=>by rw [Xbc,od];exact ⟨fun z=>z.1,fun z=>⟨z,by omega⟩⟩),full,hm1,h,
    show e+1 - (0+ones (m / 2))=(e - ones (m / 2))+1 by omega,XaE]
   omega
  ·have e2:e+1 - ones m=e - ones (m / 2):=by rw [hm1,h];omega
   rw [e2]
   rcases XaG w with w0 | w1
   ·rw [zcr (q:=fun k=>decide (k &&& m / 2=w / 2)) (fun k _=>by rw [Xbc,ev];exact ⟨fun z=>z.1,fun z=>⟨z,w0⟩⟩),
     zeX (p:=fun k=>decide (2 * k+1 &&& m=w)) (fun k _=>Xai fun z=>by have:=((od k).mp z).2;omega),full]
    rfl
   ·rw [zeX (p:=fun k=>decide (2 * k &&& m=w)) (fun k _=>Xai fun z=>by have:=((ev k).mp z).2;omega),
     zcr (q:=fun k=>decide (k &&& m / 2=w / 2)) (p:=fun k=>decide (2 * k+1 &&& m=w)) (fun k _=>by rw [Xbc,od];exact ⟨fun z=>z.1,fun z=>⟨z,by omega⟩⟩),full,Nat.zero_add]
def cnt (r:Rw)(s n:Nat):Nat:=(List.range n).countP fun k=>met r (s+k)
theorem zm5 {r:Rw}{m:Nat}(hr:RwOk m r)(h e:Nat):cnt r (2 ^ e * h) (2 ^ e)=if h &&& r.m / 2 ^ e=r.w / 2 ^ e then 2 ^ (e - ones (r.m % 2 ^ e)) else 0:=by
 have hp:0<2 ^ e:=Nat.pow_pos (by decide)
 have sp:∀ k,k<2 ^ e→(met r (2 ^ e * h+k)=true↔(h &&& r.m / 2 ^ e=r.w / 2 ^ e∧k &&& r.m % 2 ^ e=r.w % 2 ^ e)):=fun k hk=>by
  unfold met
  rw [decide_eq_true_iff,zbG _ _ _ e,show (2 ^ e * h+k) / 2 ^ e=h by rw [Nat.mul_add_div hp,Nat.div_eq_of_lt hk];rfl,show (2 ^ e * h+k) % 2 ^ e=k by rw [Nat.mul_add_mod];exact XaQ hk]
 have hw:=((zbG r.w r.m r.w e).mp hr.wm).2
 unfold cnt
 by_cases c:h &&& r.m / 2 ^ e=r.w / 2 ^ e
 ·rw [if_pos c,← zkp e (r.m % 2 ^ e) (r.w % 2 ^ e) (Xbm _ hp) hw]
  refine zcr fun k hk=>?_
  rw [XbV,sp k hk,decide_eq_true_iff]
  exact ⟨fun z=>z.2,fun z=>⟨c,z⟩⟩
 ·rw [if_neg c]
  exact zeX fun k hk=>by rw [Bool.eq_false_iff];intro z;exact c ((sp k hk).mp z).1
theorem zmi {h w m:Nat}(hw:w &&& m=w):(h ^^^ w) &&& m=0↔h &&& m=w:=by
 constructor
 ·intro z
  apply Nat.eq_of_testBit_eq;intro i
  have z:=congrArg (fun n=>Nat.testBit n i) z
  have y:=congrArg (fun n=>Nat.testBit n i) hw
  simp only [XaA,Xb1,Nat.zero_testBit] at z y ⊢
  revert z y
  cases h.testBit i <;> cases w.testBit i <;> cases m.testBit i <;> simp
 ·intro z
  apply Nat.eq_of_testBit_eq;intro i
  have z:=congrArg (fun n=>Nat.testBit n i) z
  simp only [XaA,Xb1,Nat.zero_testBit] at z ⊢
  revert z
  cases h.testBit i <;> cases w.testBit i <;> cases m.testBit i <;> simp
theorem zlI {r:Rw}{m:Nat}(hr:RwOk m r)(h e:Nat):(2 ^ e * h ^^^ r.w) &&& r.m<2 ^ e↔h &&& r.m / 2 ^ e=r.w / 2 ^ e:=by
 have hp:0<2 ^ e:=Nat.pow_pos (by decide)
 have h1:((2 ^ e * h ^^^ r.w) &&& r.m) / 2 ^ e=(h ^^^ r.w / 2 ^ e) &&& r.m / 2 ^ e:=by
  apply Nat.eq_of_testBit_eq;intro i
  have e1:h=2 ^ e * h / 2 ^ e:=(Nat.mul_div_cancel_left h hp).symm
  conv=>rhs;rw [e1]
  simp only [Nat.testBit_div_two_pow,XaA,Xb1]
 rw [← Nat.div_eq_zero_iff_lt hp,h1]
 exact zmi ((zbG r.w r.m r.w e).mp hr.wm).1
def hol (rs:List Rw)(s n:Nat):Nat:=(List.range n).countP fun k=>rs.all fun r=>!met r (s+k)
def Dis (rs:List Rw):Prop:=rs.Pairwise fun r q=>∀ x,¬ (met r x=true∧met q x=true)
theorem zfk {p q t:Nat→Bool}(h:∀ k,(p k).toNat=(q k).toNat+(t k).toNat):∀ l:List Nat,l.countP p=l.countP q+l.countP t
 | []=>rfl
 | a :: l=>by
  have ih:=zfk h l
  have:=h a
  rw [List.countP_cons,List.countP_cons,List.countP_cons,ih]
  revert this
  cases p a <;> cases q a <;> cases t a <;> simp <;> omega
theorem zj2 {s n:Nat}:∀ {rs:List Rw},Dis rs→hol rs s n+(rs.map fun r=>cnt r s n).sum=n
 | [],_=>by
  unfold hol
  rw [List.map_nil,List.sum_nil]
  have:(List.range n).countP (fun _=>true)=n:=by rw [List.countP_true,Xa9]
  exact this
 | r :: rs,h=>by
  obtain ⟨h1,h2⟩:=Xbg.mp h
  have ih:=zj2 (s:=s) (n:=n) h2
  have:hol rs s n=hol (r :: rs) s n+cnt r s n:=by
   refine zfk (fun k=>?_) _
   rw [List.all_cons]
   cases hm:met r (s+k) with
   | false=>simp
   | true =>
    have:(rs.all fun q=>!met q (s+k))=true:=XbA.mpr fun q hq=>by
     cases e:met q (s+k) with
     | false=>rfl
     | true=>exact absurd ⟨hm,e⟩ (h1 q hq (s+k))
    rw [this];rfl
  rw [XaJ,List.sum_cons]
  omega
theorem zj4 (rs:List Rw)(s a b:Nat):hol rs s (a+b)=hol rs s a+hol rs (s+a) b:=by
 unfold hol
 rw [List.range_add,List.countP_append,List.countP_map]
 congr 1
 apply List.countP_congr
 intro k _
 show (rs.all fun r=>!met r (s+(a+k)))=true↔(rs.all fun r=>!met r (s+a+k))=true
 rw [Nat.add_assoc]
def zbK (rs:List Rw)(x:Nat):Bool:=rs.all fun r=>!met r x
theorem zmV (rs:List Rw)(s:Nat):hol rs s 1=(zbK rs s).toNat:=by
 unfold hol zbK
 rw [show List.range 1=[0] from rfl,List.countP_singleton,Nat.add_zero]
 cases rs.all fun r=>!met r s <;> rfl
theorem zlu {rs:List Rw}{s n:Nat}(h:hol rs s n=0):∀ k,k<n→zbK rs (s+k)=false:=fun k hk=>by
 have:=List.countP_eq_zero.mp h k (Xbo.mpr hk)
 exact Bool.eq_false_iff.mpr this
theorem ze1 {W:Nat→Nat}:∀ {ws:List (Addr×Rw)},ws.Pairwise (fun a b=>NC a.2 b.2)→Dis ((ws.filter fun z=>awk z.2 W).map (·.2)):=fun {ws} h=>by
 unfold Dis
 rw [List.pairwise_map]
 refine (List.Pairwise.filter _ h).imp_of_mem ?_
 intro a b ha hb hn x ⟨h1,h2⟩
 have aa:=(Xa0.mp ha).2
 have ab:=(Xa0.mp hb).2
 have g1:agr a.2.m a.2.w b.2.m b.2.w=true:=zig (w:=x) (XaD h1) (XaD h2)
 have g2:latA a.2.l b.2.l=true:=by
  unfold awk at aa ab
  cases e1:a.2.l with
  | none=>rfl
  | some o =>
   cases e2:b.2.l with
   | none=>obtain ⟨c,u,v⟩:=o;rfl
   | some q =>
    obtain ⟨c,u,v⟩:=o
    obtain ⟨d,u',v'⟩:=q
    rw [e1] at aa
    rw [e2] at ab
    show (if c=d then agr u v u' v' else true)=true
    by_cases z:c=d
    ·subst z
     rw [if_pos rfl]
     exact zig (w:=W c) (XaD aa) (XaD ab)
    ·rw [if_neg z]
 have:=hn.1
 rw [clash_parts.mpr ⟨g1,g2⟩] at this
 cases this
inductive spHoles (vs:List V)(H:Hp)(Q:VK)(u3_:XK):Prop
 | mk (L:Addr) (h e m:Nat) (ws:List (Addr×Rw)) (z0_:vs=[.ref L,.int ((2 ^ e * h:Nat):Int),.int ((2 ^ e:Nat):Int)]) (z1_:e≤16) (z2_:m≤16) (z3_:H L=some (.lst (refs ws))) (z4_:RwsAt2 m H ws) (z5_:Dis (ws.map (·.2))) (z6_:∀ H',Same H H'→Q (.int (hol (ws.map (·.2)) (2 ^ e * h) (2 ^ e):Int)) H')
def awks (ws:List (Addr×Rw))(W:Nat→Nat):List Rw:=(ws.filter fun z=>awk z.2 W).map (·.2)
inductive spUnansw (vs:List V)(H:Hp)(Q:VK)(u3_:XK):Prop
 | mk (p d:Addr) (m:Nat) (ws:List (Addr×Rw)) (keys:List Nat) (g:Nat→Nat) (z0_:vs=[.int (m:Int),.ref p,.ref d]) (z1_:m≤16) (z2_:H p=some (.tup (refs ws))) (z3_:ws.length≤100) (z4_:RwsAt2 m H ws) (z5_:ws.Pairwise (fun a b=>NC a.2 b.2)) (z6_:H d=some (.dK (dV keys g))) (z7_:∀ H',Same H H'→Q (.int (hol (awks ws (wrd keys g)) 0 (2 ^ m):Int)) H')
inductive spLeastH (vs:List V)(H:Hp)(Q:VK)(u3_:XK):Prop
 | mk (p d:Addr) (m:Nat) (ws:List (Addr×Rw)) (keys:List Nat) (g:Nat→Nat) (z0_:vs=[.int (m:Int),.ref p,.ref d]) (z1_:m≤16) (z2_:H p=some (.tup (refs ws))) (z3_:ws.length≤100) (z4_:RwsAt2 m H ws) (z5_:ws.Pairwise (fun a b=>NC a.2 b.2)) (z6_:H d=some (.dK (dV keys g))) (z7_:(hol (awks ws (wrd keys g)) 0 (2 ^ m)=0→∀ H',Same H H'→Q .non H')) (z8_:∀ x:Nat,x<2 ^ m→zbK (awks ws (wrd keys g)) x=true→hol (awks ws (wrd keys g)) 0 x=0→∀ H',Same H H'→Q (.int (x:Int)) H')
theorem zjj:∀ (bs os:List Nat),bs.length=os.length→Bit os→(sel bs os).length=os.sum
 | [],[],_,_=>by simp [sel]
 | [],_ :: _,h,_=>by simp at h
 | _ :: _,[],h,_=>by simp at h
 | b :: bs,o :: os,h,hb=>by
  have ih:=zjj bs os (by simpa using h) fun x hx=>hb x (Xau _ hx)
  have h1:=hb o Xav
  simp only [sel,List.sum_cons]
  rcases (show o=0∨o=1 by omega) with rfl | rfl
  ·rw [if_neg (by omega),ih];omega
  ·rw [if_pos rfl,Xar,ih];omega
theorem zd3 {li:List Nat}{m:Nat}(hl:li.length=m)(hb:Bit li)(a:Nat):gath (num li) a=num (sel (zaG a m) li):=by
 have h:=zjO m (num li) a (by rw [← hl];exact zgr li hb)
 have e:zaG (num li) m=li:=by rw [← hl];exact zgK li hb
 rw [e] at h
 exact h.symm
theorem zj9 {li:List Nat}{m y:Nat}(hl:li.length=m)(hb:Bit li)(hy:y≤1)(a:Nat):gath (num (li ++ [y])) a=gath (num li) a+2 ^ li.sum * (y * (a / 2 ^ m % 2)):=by
 rw [zd3 (m:=m+1) (by simp [hl]) (zlJ hb hy),zd3 hl hb,zdH,zhW _ _ _ _ (by rw [zaB,hl]),zbV,zjj _ _ (by rw [zaB,hl]) hb]
 rcases (show y=0∨y=1 by omega) with rfl | rfl
 ·rw [if_neg (by omega)];simp [num]
 ·rw [if_pos rfl];simp [num]
theorem zky:∀ (m a:Nat),zaG (a % 2 ^ m) m=zaG a m:=fun m a=>by
 apply List.ext_getElem?
 intro k
 by_cases hk:k<m
 ·rw [zd6 _ _ _ hk,zd6 _ _ _ hk]
  have e:2 ^ m=2 ^ k * (2 * 2 ^ (m - k - 1)):=by
   rw [show m=k+(1+(m - k - 1)) by omega,Nat.pow_add,Nat.pow_add,Nat.pow_one,show k+(1+(m - k - 1)) - k - 1=m - k - 1 by omega]
  rw [e,Nat.mod_mul_right_div_self,Nat.mod_mul_right_mod]
 ·rw [XaL (by rw [zaB];omega),XaL (by rw [zaB];omega)]
theorem zly {li:List Nat}{m:Nat}(hl:li.length=m)(hb:Bit li)(a:Nat):gath (num li) (a % 2 ^ m)=gath (num li) a:=by
 rw [zd3 hl hb,zd3 hl hb,zky]
theorem zbr {α:Type}{l:List α}{m:Nat}(h:l.length=m+1):∃ (l':List α) (x:α),l=l' ++ [x]∧l'.length=m:=by
 refine ⟨l.dropLast,l.getLast (by intro e;rw [e] at h;cases h),(List.dropLast_concat_getLast _).symm,?_⟩
 rw [List.length_dropLast,h];rfl
theorem zfW {l:List Nat}{x:Nat}(h:Bit (l ++ [x])):Bit l∧x≤1:=⟨fun y hy=>h y (Xbu _ hy),h x (XaC _ Xav)⟩
theorem zd2 {α:Type}{l:List α}{x y:α}{k:Nat}(h:l[k]? = some y):(l ++ [x])[k]? = some y:=by
 rw [List.getElem?_append_left (Xaf.mp h).1];exact h
theorem zd1 {α:Type}{l:List α}{x:α}{m:Nat}(h:l.length=m):(l ++ [x])[m]? = some x:=by
 rw [List.getElem?_append_right (by omega),h];simp
theorem RowBits.init {m:Nat}{lm lw li:List Nat}{x w y:Nat}(h:RowBits (m+1) (lm ++ [x]) (lw ++ [w]) (li ++ [y])):RowBits m lm lw li∧w≤x∧x+y≤1:=by
 have l1:lm.length=m:=by have:=h.m0;simpa using this
 have l2:lw.length=m:=by have:=h.w0;simpa using this
 have l3:li.length=m:=by have:=h.i0;simpa using this
 exact ⟨⟨l1,l2,l3,(zfW h.mb).1,(zfW h.wb).1,(zfW h.ib).1,fun k a b e1 e2=>h.wm k a b (zd2 e1) (zd2 e2),fun k a b e1 e2=>h.im k a b (zd2 e1) (zd2 e2)⟩,h.wm m x w (zd1 l1) (zd1 l2),h.im m x y (zd1 l1) (zd1 l3)⟩
theorem zhN:∀ (m:Nat) (lm lw li:List Nat),RowBits m lm lw li→∀ c a,a∈adrL lm lw li c↔(a<2 ^ m∧a &&& num lm=num lw∧gath (num li) a=c % 2 ^ li.sum)
 | 0,lm,lw,li,h,c,a=>by
  have e1:=List.eq_nil_of_length_eq_zero h.m0
  have e2:=List.eq_nil_of_length_eq_zero h.w0
  have e3:=List.eq_nil_of_length_eq_zero h.i0
  subst e1 e2 e3
  rw [zkC]
  simp only [Xad,num,List.sum_nil,Nat.pow_zero,Nat.mod_one,zc7,Nat.and_zero,and_true]
  omega
 | m+1,lm,lw,li,h,c,a=>by
  obtain ⟨lm,x,rfl,h1⟩:=zbr h.m0
  obtain ⟨lw,w,rfl,h2⟩:=zbr h.w0
  obtain ⟨li,y,rfl,h3⟩:=zbr h.i0
  obtain ⟨hR,hw,hy⟩:=h.init
  have hp:0<2 ^ m:=Nat.pow_pos (by decide)
  have ih:=fun a=>zhN m lm lw li hR c a
  have nl:=zgr lm hR.mb
  have nw:=zgr lw hR.wb
  rw [h1] at nl
  rw [h2] at nw
  have es:a &&& num (lm ++ [x])=num (lw ++ [w])↔(a / 2 ^ m &&& x=w∧a % 2 ^ m &&& num lm=num lw):=by
   rw [zbG _ _ _ m,zbV,zbV,h1,h2]
   simp only [num,Xbi,Nat.add_zero]
   rw [Nat.add_mul_div_left _ _ hp,Nat.div_eq_of_lt nl,Nat.add_mul_div_left _ _ hp,Nat.div_eq_of_lt nw,XbM,XaQ nl,XbM,XaQ nw,Nat.zero_add,Nat.zero_add]
  have eg:=zj9 h3 hR.ib (show y≤1 by omega) a
  have gm:=zly h3 hR.ib a
  have lt2:a<2 ^ (m+1)↔a / 2 ^ m<2:=by rw [Nat.div_lt_iff_lt_mul hp,XaE,Xa4]
  have dm:=Nat.div_add_mod a (2 ^ m)
  have ml:=Xbm a hp
  have sh:∀ (v:Nat) (l:List Nat),(∀ z∈l,z<2 ^ m)→(a∈l.map (· + 2 ^ m * v)↔(a % 2 ^ m∈l∧a / 2 ^ m=v)):=fun v l hl=>by
   rw [XaF]
   constructor
   ·rintro ⟨z,hz,rfl⟩
    have:=hl z hz
    rw [XbM,XaQ this,Nat.add_mul_div_left _ _ hp,Nat.div_eq_of_lt this,Nat.zero_add]
    exact ⟨hz,rfl⟩
   ·rintro ⟨h1,h2⟩
    exact ⟨_,h1,by rw [← h2];omega⟩
  have hlt:∀ z∈adrL lm lw li c,z<2 ^ m:=fun z hz=>((ih z).mp hz).1
  have q0:a<2 ^ m→a / 2 ^ m=0∧a % 2 ^ m=a:=fun z=>⟨Nat.div_eq_of_lt z,XaQ z⟩
  have q1:a / 2 ^ m=0→a<2 ^ m∧a % 2 ^ m=a:=fun z=>by
   rw [z,Xbi,Nat.zero_add] at dm
   exact ⟨by omega,dm⟩
  rw [es,lt2,eg,List.sum_append,List.sum_singleton]
  clear es lt2 eg dm
  generalize a / 2 ^ m=q at *
  generalize a % 2 ^ m=s at *
  rcases (show (x=1∧y=0)∨(x=0∧w=0∧y=1)∨(x=0∧w=0∧y=0) by omega) with ⟨rfl,rfl⟩ | ⟨rfl,rfl,rfl⟩ | ⟨rfl,rfl,rfl⟩
  ·rw [zgR h1 h2 h3 hR.ib,sh w _ hlt,ih,gm,Nat.zero_mul,Xbi,Nat.add_zero,Nat.add_zero]
   constructor
   ·rintro ⟨⟨_,p2,p3⟩,rfl⟩
    refine ⟨by omega,⟨?_,p2⟩,p3⟩
    rcases (show q=0∨q=1 by omega) with z | z <;> rw [z] <;> rfl
   ·rintro ⟨p1,⟨p2,p3⟩,p4⟩
    refine ⟨⟨ml,p3,p4⟩,?_⟩
    rw [← p2]
    rcases (show q=0∨q=1 by omega) with z | z <;> rw [z] <;> rfl
  ·rw [zgQ h1 h2 h3 hR.ib,sh _ _ hlt,ih,gm,Nat.and_zero,Nat.one_mul,XaE,Nat.mod_mul]
   have g1:gath (num li) a<2 ^ li.sum:=by have:=zhI (num li) a;rw [zc3 li hR.ib] at this;exact this
   have g2:c % 2 ^ li.sum<2 ^ li.sum:=Xbm _ (Nat.pow_pos (by decide))
   constructor
   ·rintro ⟨⟨_,p2,p3⟩,p4⟩
    refine ⟨by rw [p4];exact Xbm _ (by decide),⟨rfl,p2⟩,?_⟩
    rw [p3,p4,Nat.mod_mod]
   ·rintro ⟨p1,⟨_,p3⟩,p4⟩
    have w1:gath (num li) a=c % 2 ^ li.sum:=by
     have:=congrArg (· % 2 ^ li.sum) p4
     simp only [XbM] at this
     rw [XaQ g1,XaQ g2] at this
     exact this
    have w2:q % 2=c / 2 ^ li.sum % 2:=by
     rw [w1] at p4
     exact Nat.eq_of_mul_eq_mul_left (Nat.pow_pos (n:=li.sum) (show 0<2 by decide)) (Nat.add_left_cancel p4)
    exact ⟨⟨ml,p3,w1⟩,by omega⟩
  ·rw [zil h1 h2 h3 hR.ib,XaK,ih]
   have:=sh 1 _ hlt
   rw [Nat.mul_one] at this
   rw [this,ih,gm,Nat.and_zero,Nat.zero_mul,Xbi,Nat.add_zero,Nat.add_zero]
   constructor
   ·rintro (⟨p1,p2,p3⟩ | ⟨⟨_,p2,p3⟩,p4⟩)
    ·obtain ⟨z,z2⟩:=q0 p1
     exact ⟨by omega,⟨rfl,by rw [z2];exact p2⟩,p3⟩
    ·exact ⟨by omega,⟨rfl,p2⟩,p3⟩
   ·rintro ⟨p1,⟨_,p3⟩,p4⟩
    rcases (show q=0∨q=1 by omega) with z | z
    ·obtain ⟨l0,l1⟩:=q1 z
     rw [l1] at p3
     exact .inl ⟨l0,p3,p4⟩
    ·exact .inr ⟨⟨ml,p3,p4⟩,z⟩
theorem zfn:∀ (m:Nat) (lm lw li:List Nat),RowBits m lm lw li→∀ c,(adrL lm lw li c).Pairwise (· < ·)
 | 0,lm,lw,li,h,c=>by
  have e1:=List.eq_nil_of_length_eq_zero h.m0
  have e2:=List.eq_nil_of_length_eq_zero h.w0
  have e3:=List.eq_nil_of_length_eq_zero h.i0
  subst e1 e2 e3
  rw [zkC];exact List.pairwise_singleton _ _
 | m+1,lm,lw,li,h,c=>by
  obtain ⟨lm,x,rfl,h1⟩:=zbr h.m0
  obtain ⟨lw,w,rfl,h2⟩:=zbr h.w0
  obtain ⟨li,y,rfl,h3⟩:=zbr h.i0
  obtain ⟨hR,hw,hy⟩:=h.init
  have ih:=zfn m lm lw li hR c
  have mp:∀ v,((adrL lm lw li c).map (· + v)).Pairwise (· < ·):=fun v=>by
   rw [List.pairwise_map]
   exact ih.imp fun h=>by omega
  rcases (show (x=1∧y=0)∨(x=0∧w=0∧y=1)∨(x=0∧w=0∧y=0) by omega) with ⟨rfl,rfl⟩ | ⟨rfl,rfl,rfl⟩ | ⟨rfl,rfl,rfl⟩
  ·rw [zgR h1 h2 h3 hR.ib];exact mp _
  ·rw [zgQ h1 h2 h3 hR.ib];exact mp _
  ·rw [zil h1 h2 h3 hR.ib,List.pairwise_append]
   refine ⟨ih,mp _,fun a ha b hb=>?_⟩
   obtain ⟨z,hz,rfl⟩:=XaF.mp hb
   have:=((zhN m lm lw li hR c a).mp ha).1
   show a<z+2 ^ m
   omega
theorem zgJ {n m:Nat}(h:n<2 ^ m):(zaG n m).sum=ones n:=by
 have e:=zcn m n
 rw [← zc3 _ (zbW _ _),e,XaQ h]
theorem zdY {m:Nat}{r:Rw}(h:RwOk m r):RowBits m (zaG r.m m) (zaG r.w m) (zaG r.i m):=by
 have bk:∀ n k x,(zaG n m)[k]? = some x→k<m∧x=n / 2 ^ k % 2:=fun n k x e=>by
  have hk:=(Xaf.mp e).1
  rw [zaB] at hk
  rw [zd6 _ _ _ hk] at e
  exact ⟨hk,(Option.some.inj e).symm⟩
 have tb:∀ n k:Nat,n / 2 ^ k % 2=(n.testBit k).toNat:=fun n k=>by rw [Nat.toNat_testBit]
 refine ⟨zaB ..,zaB ..,zaB ..,zbW _ _,zbW _ _,zbW _ _,fun k a b e1 e2=>?_,fun k a b e1 e2=>?_⟩
 ·obtain ⟨_,rfl⟩:=bk _ _ _ e1
  obtain ⟨_,rfl⟩:=bk _ _ _ e2
  have:=congrArg (fun n=>Nat.testBit n k) h.wm
  simp only [XaA] at this
  rw [tb,tb]
  revert this
  cases r.w.testBit k <;> cases r.m.testBit k <;> decide
 ·obtain ⟨_,rfl⟩:=bk _ _ _ e1
  obtain ⟨_,rfl⟩:=bk _ _ _ e2
  have:=congrArg (fun n=>Nat.testBit n k) h.im
  simp only [XaA,Nat.zero_testBit] at this
  rw [tb,tb]
  revert this
  cases r.i.testBit k <;> cases r.m.testBit k <;> decide
theorem zbU {n m:Nat}(h:n<2 ^ m):num (zaG n m)=n:=by rw [zcn,XaQ h]
def adR (m:Nat)(r:Rw)(c:Nat):List Nat:=adrL (zaG r.m m) (zaG r.w m) (zaG r.i m) c
theorem znb {m:Nat}{r:Rw}(h:RwOk m r){c a:Nat}(hc:c<2 ^ ones r.i):a∈adR m r c↔(a<2 ^ m∧met r a=true∧gath r.i a=c):=by
 unfold adR met
 rw [zhN m _ _ _ (zdY h),zbU h.m0,zbU h.w0,zbU h.i0,zgJ h.i0,XaQ hc,decide_eq_true_iff]
theorem zi6 {m:Nat}{r:Rw}(h:RwOk m r)(c:Nat):(adR m r c).Pairwise (· < ·):=zfn m _ _ _ (zdY h) c
inductive spCellR (vs:List V)(H:Hp)(Q:VK)(u3_:XK):Prop
 | mk (t:Addr) (r:Rw) (a:Nat) (z0_:vs=[.ref t,.int (a:Int)]) (z1_:RwAt H t r) (z2_:r.i<2 ^ 64) (z3_:∀ H',Same H H'→Q (.int (gath r.i a:Int)) H')
theorem zh7:∀ (n:Nat) (l:List Nat),l.Nodup→(∀ a∈l,a<n)→l.length≤n
 | 0,l,_,hb=>by
  cases l with
  | nil=>exact Xae _
  | cons a l=>exact absurd (hb a Xav) (XbF _)
 | n+1,l,h,hb=>by
  have ih:=zh7 n (l.erase n) (h.erase n) fun a ha=>by
   have h1:=hb a (List.mem_of_mem_erase ha)
   have h2:a≠n:=fun e=>by rw [e] at ha;exact h.not_mem_erase ha
   omega
  have:=List.length_erase (a:=n) (l:=l)
  split at this <;> omega
theorem zmc {sk:List Nat}{sg:Nat→Nat}{x v:Nat}(h:x ∉ sk):putK (dV sk sg) (Sum.inl (x:Int)) (.int (v:Int))=dV (sk ++ [x]) fun k=>if k=x then v else sg k:=by
 unfold dV
 rw [ziY h]
 exact zlD fun k _=>by by_cases z:k=x <;> simp [z]
theorem fst_is {ws:List (Addr×Rw)}{j x:Nat}{z:Addr×Rw}{W:Nat→Nat}(hnc:ws.Pairwise fun a b=>NC a.2 b.2)(hj:ws[j]? = some z)(ha:awk z.2 W=true)(hm:met z.2 x=true):fstA (ws.map (·.2)) x W = .int (j:Int):=by
 have hz:ans z.2 x W=true:=by unfold ans;rw [ha,hm];rfl
 refine zgx (r:=z.2) (by rw [Xaq,hj];rfl) hz fun i q hi hq=>?_
 rw [Xaq] at hq
 obtain ⟨y,hy,rfl⟩:=XaP.mp hq
 cases e:ans y.2 x W with
 | false=>rfl
 | true =>
  exfalso
  unfold ans at e
  rw [Xa5] at e
  obtain ⟨g1,g1'⟩:=Xaf.mp hy
  obtain ⟨g2,g2'⟩:=Xaf.mp hj
  have h2:[y,z].Pairwise fun a b=>NC a.2 b.2:=by
   have:=XbK.mp hnc i j g1 g2 hi
   rw [g1',g2'] at this
   exact Xbg.mpr ⟨fun b hb=>by rw [Xad.mp hb];exact this,List.pairwise_singleton _ _⟩
  have hd:=ze1 (W:=W) h2
  rw [List.filter_cons_of_pos (by exact e.2),List.filter_cons_of_pos (by exact ha)] at hd
  exact (Xbg.mp hd).1 z.2 (by simp) x ⟨e.1,hm⟩
theorem seen_hole {ws:List (Addr×Rw)}{W:Nat→Nat}{a:Nat}:zbK (awks ws W) a=false↔∃ (k:Nat) (z:Addr×Rw),k<ws.length∧ws[k]? = some z∧awk z.2 W=true∧met z.2 a=true:=by
 unfold zbK awks
 rw [Bool.eq_false_iff,ne_eq,XbA]
 constructor
 ·intro h
  apply Classical.byContradiction
  intro hn
  refine h fun r hr=>?_
  obtain ⟨z,hz,rfl⟩:=XaF.mp hr
  obtain ⟨h1,h2⟩:=Xa0.mp hz
  cases e:met z.2 a with
  | false=>rfl
  | true =>
   obtain ⟨k,hk⟩:=XbG.mp h1
   exact absurd ⟨k,z,(Xaf.mp hk).1,hk,h2,e⟩ hn
 ·rintro ⟨k,z,_,hk,h2,h3⟩ h
  have:=h z.2 (XaF.mpr ⟨z,Xa0.mpr ⟨Xas hk,h2⟩,rfl⟩)
  rw [h3] at this
  cases this
def hdN (l:List Nat):V:=match l with
 | []=>.non
 | i :: _=>.int (i:Int)
theorem lnB1 {α:Type}{P:List α→Prop}(k:∀ a,P [a]):∀ us:List α,us.length=1→P us:=fun us h=>ln1 us h k
theorem lnB2 {α:Type}{P:List α→Prop}(k:∀ a b,P [a,b]):∀ us:List α,us.length=2→P us:=fun us h=>ln2 us h k
theorem lnB3 {α:Type}{P:List α→Prop}(k:∀ a b c,P [a,b,c]):∀ us:List α,us.length=3→P us:=fun us h=>ln3 us h k
theorem lnB4 {α:Type}{P:List α→Prop}(k:∀ a b c d,P [a,b,c,d]):∀ us:List α,us.length=4→P us:=fun us h=>ln4 us h k
theorem lnB5 {α:Type}{P:List α→Prop}(k:∀ a b c d e,P [a,b,c,d,e]):∀ us:List α,us.length=5→P us:=fun us h=>ln5 us h k
section
variable {P:Program}{w:World}{K:W.Frag}{mg:Str→Option Value}{base:Heap}{k:Nat}{f C:Addr}{fd:FuncData}{ps ks:List Str}{sp:Sp}{x m:Str}{g:List Value→List Value→List Value}{gV:List V→List V→List V}
theorem zgH (G:FnOk P w K mg base CX0 k f fd ps sp)(a:mg x=some (.ref f))(kp:W.keepIn K (.ref f)=true)(b:Binds K fd ps []):Cal P w K mg base k x ps sp:=⟨f,fd,G,a,kp,b⟩
theorem zjQ (c:Cls K C)(a:W.findIn K (.ref C) m=some (some (.ref f)))(fn:W.isFn K (.ref f)=true)(kp:W.keepIn K (.ref f)=true)(G:FnOk P w K mg base CX0 k f fd ps sp)(b:KBinds K fd ps ks g gV):Mth P w K mg base k C m ks gV sp:=⟨c,f,fd,ps,g,⟨a,fn,kp⟩,G,b⟩
theorem mth_mk (c:Cls K C)(a:W.findIn K (.ref C) m=some (some (.ref f)))(fn:W.isFn K (.ref f)=true)(kp:W.keepIn K (.ref f)=true)(G:FnOk P w K mg base CX0 k f fd ps sp)(b:Binds K fd ps []):Mth P w K mg base k C m [] (fun vs _=>vs) sp:=zjQ c a fn kp G (.pos b)
theorem zfd (a:mg x=some (.ref C))(mk:W.makesIn K C=true)(at_:W.findIn K (.ref C) "__init__" = some (some (.ref f)))(fn:W.isFn K (.ref f)=true)(kc:W.keepIn K (.ref C)=true)(G:FnOk P w K mg base CX0 k f fd ps sp)(b:KBinds K fd ps ks g gV):Mak P w K mg base k x C ks gV sp:=⟨a,f,fd,ps,g,⟨mk,at_,fn,kc⟩,G,b⟩
end
local macro_rules | `(tactic| walk_at "bd")=>`(tactic| (refine Fun.binds (by assumption) ?_;intro _ _ _ _ _ _;first | exact lnB1 fun _=>rfl | exact lnB2 fun _ _=>rfl | exact lnB3 fun _ _ _=>rfl | exact lnB4 fun _ _ _ _=>rfl | exact lnB5 fun _ _ _ _ _=>rfl | exact lnB6 fun _ _ _ _ _ _=>rfl | exact lnB7 fun _ _ _ _ _ _ _=>rfl | exact lnB0 rfl))
structure Nums (mg:Str→Option Value):Prop where
 MOST_BITS:∃ t,mg "MOST_BITS" = some (.int 16 t)
 LAST_CHIP:∃ t,mg "LAST_CHIP" = some (.int 99 t)
 LAST_WORD:∃ t,mg "LAST_WORD" = some (.int 255 t)
 MOST_CELLS:∃ t,mg "MOST_CELLS" = some (.int 4096 t)
 MOST_ROOM:∃ t,mg "MOST_ROOM" = some (.int 255 t)
 MOST_ONES:∃ t,mg "MOST_ONES" = some (.int 12 t)
 SIXTEEN:∃ t,mg "SIXTEEN" = some (.str "0123456789abcdef" t)
 READ:∃ t,mg "READ" = some (.str "read" t)
 WRITE:∃ t,mg "WRITE" = some (.str "write" t)
 BOTH:∃ t,mg "BOTH" = some (.str "both" t)
abbrev zcb:Stmt:=top 13
theorem scsingle_ones:FnScope ["mask","singles","rest"] ["mask"] (zah zcb):=sck rfl rfl rfl (by decide +kernel)
section
variable {P:Program}{w:World}{K:W.Frag}{mg:Str→Option Value}{base:Heap}
theorem zfF {f:Addr}{fd:FuncData}(F:Fun K "single_ones" "single_ones" zcb f fd)(T:Blt mg):FnOk P w K mg base CX0 1 f fd ["mask"] spSingles:=by
 refine F.ok scsingle_ones (by walk_at "l") (fun cdv A outer s H vs Q E hr h=>?_)
 ·obtain ⟨n,rfl,hn,k⟩:=h
  refine ⟨_,(zab (ps_L 1 scsingle_ones.nd (zay zac))
   (zab (zdZ PassesOwn.never (zat zeD (pv 0) zae (zav _)) (zab (ps_L 2 scsingle_ones.nd (zaj zaP (pv 0) (zaj zbC (pv 0) zae)))
   (zab (zaz (zdz PySem.F.plainAttrs_list PySem.F.slot_list_append PySem.F.type_list_append zaW (pv 1) (zaa (zaj zbC (pv 0) (pv 2)) zac)))
   (zaf (ps_L 0 scsingle_ones.nd (pv 2))))))
   (zaf (zap (pv 1))))),?rd⟩
  refine ⟨by show 0≤sizeLine;decide,fun l hl=>?_⟩
  refine zdW (fun σ H2=>∃ (m:Nat) (r:Option V) (d:List Nat),σ=[some (.int (m:Int)),some (.ref l),r]∧m<2 ^ 64∧Same H H2∧H2 l=some (.lst (vN d))∧d ++ sgl m=sgl n) (fun σ _=>match σ with | some (.int i) :: _=>i.toNat | _=>0)
   ⟨n,none,[],rfl,hn,zag hl,zad,rfl⟩ ?_ ?_
  ·rintro σ H2 ⟨m,r,d,rfl,hm,hs,hL,hd⟩
   walk_at "vc"
   refine ite2 (fun h1=>?_) (fun h1=>?_)
   ·have h1:0<m:=by have:=XaD h1;omega
    obtain ⟨s1,s2⟩:=zkR m h1
    have e1:((m:Int) - 1)=((m - 1:Nat):Int):=by omega
    walk_at "vc"
    have hlen:(vN d).length<sizeLine:=by
     have h2:=congrArg List.length hd
     rw [Xay,zaY,zaY] at h2
     have h3:=zb5 64 n hn
     rw [zal];exact zcc (by omega)
    refine ⟨.inl ⟨rfl,_,SqL.of hL⟩,?_⟩
    walk_at "vc"
    refine ⟨l,_,_,rfl,rfl,hL,hlen,?_⟩
    walk_at "vc"
    have e2:Builtin.bitAnd (m:Int) ((m:Int) - 1)=((m &&& (m - 1):Nat):Int):=by rw [e1,band]
    have e3:(m:Int) - Builtin.bitAnd (m:Int) ((m:Int) - 1)=((m - (m &&& (m - 1)):Nat):Int):=by rw [e2];omega
    refine ⟨⟨m &&& (m - 1),some (.int ((m &&& (m - 1):Nat):Int)),d ++ [m - (m &&& (m - 1))],?_,by omega,fun b o e=>?_,?_,?_⟩,?_⟩
    ·show List.set (List.set _ _ _) _ _=_
     simp only [List.set]
     rw [e2]
    ·rw [zai (zak e hl)];exact hs b o e
    ·rw [zad,zbn,← e3]
    ·rw [← hd,s2];simp
    ·show (Builtin.bitAnd (m:Int) ((m:Int) - 1)).toNat<((m:Nat):Int).toNat
     rw [e2];simpa using s1
   ·have h1:m=0:=by have:=h1;simp at this;omega
    subst h1
    walk_at "vc"
    rw [zbX,Xa1] at hd
    subst hd
    exact k l H2 hl hL hs
  ·rintro σ H2 Q1 Q2 hq h
   obtain ⟨v,e,i,j,e1,e2,c,e3,h⟩:=h
   exact ⟨v,e,i,j,e1,e2,c,e3,hq _ _ h⟩
abbrev zft:Stmt:=top 14
theorem zjm:FnScope ["mask"] ["mask"] (zah zft):=sck rfl rfl rfl (by decide +kernel)
theorem zjK {f:Addr}{fd:FuncData}(F:Fun K "ones_of" "ones_of" zft f fd)(T:Blt mg)(Gsingle_ones:Cal P w K mg base 1 "single_ones" ["mask"] spSingles):FnOk P w K mg base CX0 2 f fd ["mask"] spOnes:=by
 refine F.ok zjm (by walk_at "l") (fun cdv A outer s H vs Q E hr h=>?_)
 ·obtain ⟨n,rfl,hn,k⟩:=h
  refine ⟨_,(zaf (zap (zao zar (by rfl) T.len PySem.boot_len (zaa (pe_c Gsingle_ones (zaa (pv 0) zac)) zac)))),?rd⟩
  refine ⟨_,rfl,n,rfl,hn,fun p H' hp hL hs=>?_⟩
  refine ⟨p,_,rfl,.inl (SqL.of hL),?_⟩
  rw [zal,zaY]
  exact k H' hs
abbrev zei:Stmt:=top 15
theorem ziu:FnScope ["mask","number"] ["mask","number"] (zah zei):=sck rfl rfl rfl (by decide +kernel)
theorem ziH {f:Addr}{fd:FuncData}(F:Fun K "gathered" "gathered" zei f fd)(T:Blt mg)(Gsingle_ones:Cal P w K mg base 1 "single_ones" ["mask"] spSingles):FnOk P w K mg base CX0 2 f fd ["mask","number"] (spG gath):=by
 refine F.ok ziu (by walk_at "l") (fun cdv A outer s H vs Q E hr h=>?_)
 ·obtain ⟨m,n,rfl,hm,k⟩:=h
  refine' ⟨_,(zaf (zap (zao (zeY rfl) (by rfl) T.sum PyProof.Rows.boot_sum (zaa ?c1 zac)))),?rd⟩
  (case c1=>exact (zb3 (Nc:=["k","single","number"]) [none,none,some 1] rfl (zaK (by rfl)) (zjz rfl T.enumerate (zaa (pe_c Gsingle_ones (zaa (pv 0) zac)) zac)) (fun _ _ _ _ _=>(zhf 2 (K:=K) rfl rfl (zan (pg_L 0 (show (["k","single","number"]:List Str).Nodup by decide +kernel)) (zan (pg_L 1 (show (["k","single","number"]:List Str).Nodup by decide +kernel)) zaM)))) (fun _ _ _ _ _=>(zeA (zga (K:=K) rfl (zaj zaP (pv 2) (pv 1)) (fun _=>rfl)))) (fun _ _ _ _ _=>(zaj zc1 zae (pv 0)))))
  refine ⟨_,rfl,m,rfl,hm,fun p H1 hp hL s1=>⟨p,rfl,⟨_,SqL.of hL⟩,?_⟩⟩
  have hz:(sgl m).length≤64:=by rw [zaY];exact zb5 64 m hm
  refine zgC (K:=K) (xs:=vN (sgl m)) (fun i ys σ H2=>∃ v1 v2 l,σ=[v1,v2,some (.int (n:Int))]∧ys=vN l∧l.length≤i∧l.sum+gsm i ((sgl m).drop i) n=gath m n∧Same H1 H2) (by rw [zal];exact Xbt (zcc (by omega))) ⟨none,none,[],rfl,rfl,Xae _,by simp [zj8],Same.refl _⟩ ?_ ?_ ?_
  ·rintro i ys σ H2 hi ⟨v1,v2,l,_,rfl,hl,_,s2⟩
   exact ⟨SqL.of (s2 _ _ hL),by rw [zal];exact hl⟩
  ·rintro i x U ys σ H2 hi hU ⟨v1,v2,l,rfl,rfl,hl,hsum,s2⟩
   obtain ⟨b,hb,rfl⟩:=zcX hi
   have hil:i<(sgl m).length:=(Xaf.mp hb).1
   refine zeW ?_
   have e1:Builtin.bitAnd (n:Int) (b:Int)=((n &&& b:Nat):Int):=band n b
   refine ⟨_,rfl,_,rfl,_,_,rfl,rfl,_,rfl,?_⟩
   rw [zib n hb] at hsum
   have st:Same H1 (upd H2 U (.tup [.int (i:Int),.int (b:Int)])):=s2.trans (zag hU)
   by_cases h0:n &&& b=0
   ·rw [if_neg (by rw [e1,h0];decide)]
    rw [if_pos h0] at hsum
    exact ⟨_,_,l,rfl,rfl,by omega,by omega,st⟩
   ·rw [if_pos (by rw [e1];simp only [bne_iff_ne,ne_eq];omega)]
    rw [if_neg h0] at hsum
    refine ⟨_,rfl,_,_,rfl,rfl,⟨by omega,by omega,by decide⟩,?_⟩
    refine ⟨_,_,l ++ [2 ^ i],rfl,?_,by simp;omega,by simp;omega,st⟩
    rw [zbn]
    have e2:((i:Int)).toNat=i:=by omega
    have e3:(1:Int) * 2 ^ ((i:Int)).toNat=((2 ^ i:Nat):Int):=by rw [e2,Int.one_mul];norm_cast
    show _=vN l ++ [V.int ((2 ^ i:Nat):Int)]
    rw [← e3]
  ·rintro ys σ H2 ⟨v1,v2,l,rfl,rfl,hl,hsum,s2⟩ D hD
   rw [zal,List.drop_length] at hsum
   refine ⟨D,l.map (fun (b:Nat)=>(b:Int)),rfl,vN_sq (SqL.of zad),?_⟩
   rw [sumN]
   have e:l.sum=gath m n:=by simpa [gsm] using hsum
   rw [e]
   exact k _ (s1.trans (s2.trans (zag hD)))
abbrev zdh:Stmt:=top 24
theorem zg5:FnScope ["thing","last"] ["thing","last"] (zah zdh):=sck rfl rfl rfl (by decide +kernel)
theorem zhm {f:Addr}{fd:FuncData}(F:Fun K "is_number" "is_number" zdh f fd)(T:Blt mg):FnOk P w K mg base CX0 1 f fd ["thing","last"] spIsNum:=by
 refine F.ok zg5 (by walk_at "l") (fun cdv A outer s H vs Q E hr h=>?_)
 ·obtain ⟨a,b,rfl,k⟩:=h
  refine ⟨_,(zaf (zap (zbB (zao (zaL "int" (K:=K) rfl) (by rfl) T.isinstance zbd (zaa (pv 0) (zaa (zaV rfl T.int zkv zlX) zac))) (zbB (zlZ (zao (zaL "bool" (K:=K) rfl) (by rfl) T.isinstance zbd (zaa (pv 0) (zaa (zaV rfl T.bool zfT zfC) zac)))) (zbz (zlb ziB ziB zae (pv 0) (pv 1))))))),?rd⟩
  refine ⟨_,rfl,_,_,_,rfl,.int a,rfl,true,rfl,iteT ?_⟩
  refine ⟨_,rfl,_,_,_,rfl,.int a,rfl,false,rfl,true,rfl,iteT ?_⟩
  refine ⟨_,rfl,_,_,rfl,rfl,_,rfl,ite2 (fun h=>?_) (fun h=>?_)⟩
  ·have h:=XaD h
   refine ⟨_,rfl,_,_,rfl,rfl,?_⟩
   rw [show decide (0≤a∧a≤b)=decide (a≤b) from Xbc.mpr ⟨fun z=>z.2,fun z=>⟨h,z⟩⟩] at k
   exact k
  ·have h:¬ 0≤a:=fun z=>h (Xah z)
   rw [show decide (0≤a∧a≤b)=false from Xai fun z=>h z.1] at k
   exact k
abbrev zfr:Stmt:=top 38
theorem zjk:FnScope ["bits"] ["bits"] (zah zfr):=sck rfl rfl rfl (by decide +kernel)
theorem zjJ {f:Addr}{fd:FuncData}(F:Fun K "size_of" "size_of" zfr f fd)(T:Blt mg):FnOk P w K mg base CX0 1 f fd ["bits"] spSize:=by
 refine F.ok zjk (by walk_at "l") (fun cdv A outer s H vs Q E hr h=>?_)
 ·obtain ⟨n,rfl,hn,k⟩:=h
  refine ⟨_,(zaf (zap (zaj zc1 zae (zao (zkt rfl) (by rfl) T.max PyProof.Rows.boot_max (zaa (pv 0) (zaa zae zac)))))),?rd⟩
  refine ⟨_,rfl,_,_,rfl,?_⟩
  refine ⟨_,_,rfl,rfl,?_,?_⟩
  ·rw [if_neg (by omega)]
   exact ⟨by omega,by omega,by decide⟩
  ·have e:(1:Int) * 2 ^ (if (0:Int) > (n:Int) then 0 else (n:Int)).toNat=2 ^ n:=by
    rw [if_neg (by omega),Int.one_mul,Xag]
   show Q (V.int ((1:Int) * 2 ^ (if (0:Int) > (n:Int) then 0 else (n:Int)).toNat)) H
   rw [e]
   exact k
abbrev zgZ:Stmt:=top 16
theorem zkV:FnScope ["mask","number"] ["mask","number"] (zah zgZ):=sck rfl rfl rfl (by decide +kernel)
theorem zle {f:Addr}{fd:FuncData}(F:Fun K "spread" "spread" zgZ f fd)(T:Blt mg)(Gsingle_ones:Cal P w K mg base 1 "single_ones" ["mask"] spSingles):FnOk P w K mg base CX0 2 f fd ["mask","number"] (spG spr):=by
 refine F.ok zkV (by walk_at "l") (fun cdv A outer s H vs Q E hr h=>?_)
 ·obtain ⟨m,n,rfl,hm,k⟩:=h
  refine' ⟨_,(zaf (zap (zao (zeY rfl) (by rfl) T.sum PyProof.Rows.boot_sum (zaa ?c1 zac)))),?rd⟩
  (case c1=>exact (zb3 (Nc:=["k","single","number"]) [none,none,some 1] rfl (zaK (by rfl)) (zjz rfl T.enumerate (zaa (pe_c Gsingle_ones (zaa (pv 0) zac)) zac)) (fun _ _ _ _ _=>(zhf 2 (K:=K) rfl rfl (zan (pg_L 0 (show (["k","single","number"]:List Str).Nodup by decide +kernel)) (zan (pg_L 1 (show (["k","single","number"]:List Str).Nodup by decide +kernel)) zaM)))) (fun _ _ _ _ _=>(zeA (zga (K:=K) rfl (zaj zaP (zaj zjG (pv 2) (pv 0)) zae) (fun _=>rfl)))) (fun _ _ _ _ _=>(pv 1))))
  refine ⟨_,rfl,m,rfl,hm,fun p H1 hp hL s1=>⟨p,rfl,⟨_,SqL.of hL⟩,?_⟩⟩
  have hz:(sgl m).length≤64:=by rw [zaY];exact zb5 64 m hm
  refine zgC (K:=K) (xs:=vN (sgl m)) (fun i ys σ H2=>∃ v1 v2 l,σ=[v1,v2,some (.int (n:Int))]∧ys=vN l∧l.length≤i∧l.sum+ssm i ((sgl m).drop i) n=spr m n∧Same H1 H2) (by rw [zal];exact Xbt (zcc (by omega))) ⟨none,none,[],rfl,rfl,Xae _,by simp [zmt],Same.refl _⟩ ?_ ?_ ?_
  ·rintro i ys σ H2 hi ⟨v1,v2,l,_,rfl,hl,_,s2⟩
   exact ⟨SqL.of (s2 _ _ hL),by rw [zal];exact hl⟩
  ·rintro i x U ys σ H2 hi hU ⟨v1,v2,l,rfl,rfl,hl,hsum,s2⟩
   obtain ⟨b,hb,rfl⟩:=zcX hi
   have hil:i<(sgl m).length:=(Xaf.mp hb).1
   refine zeW ?_
   have e0:(n:Int) / 2 ^ ((i:Int)).toNat=((n / 2 ^ i:Nat):Int):=by
    have:((i:Int)).toNat=i:=by omega
    rw [this];norm_cast
   have e1:Builtin.bitAnd ((n:Int) / 2 ^ ((i:Int)).toNat) 1=((n / 2 ^ i % 2:Nat):Int):=by
    rw [e0]
    have:=band (n / 2 ^ i) 1
    rw [Nat.and_one_is_mod] at this
    exact this
   refine ⟨_,rfl,_,rfl,_,_,rfl,rfl,by omega,_,_,rfl,rfl,_,rfl,?_⟩
   rw [zkP n hb] at hsum
   have st:Same H1 (upd H2 U (.tup [.int (i:Int),.int (b:Int)])):=s2.trans (zag hU)
   by_cases h0:n / 2 ^ i % 2=1
   ·rw [if_pos (by rw [e1,h0];decide)]
    rw [if_pos h0] at hsum
    refine ⟨_,rfl,_,_,l ++ [b],rfl,(zbn _ _).symm,by simp;omega,by simp;omega,st⟩
   ·rw [if_neg (by rw [e1,show n / 2 ^ i % 2=0 by omega];decide)]
    rw [if_neg h0] at hsum
    exact ⟨_,_,l,rfl,rfl,by omega,by omega,st⟩
  ·rintro ys σ H2 ⟨v1,v2,l,rfl,rfl,hl,hsum,s2⟩ D hD
   rw [zal,List.drop_length] at hsum
   refine ⟨D,l.map (fun (b:Nat)=>(b:Int)),rfl,vN_sq (SqL.of zad),?_⟩
   rw [sumN]
   have e:l.sum=spr m n:=by simpa [ssm] using hsum
   rw [e]
   exact k _ (s1.trans (s2.trans (zag hD)))
abbrev zee:Stmt:=top 17
theorem scparts_of:FnScope ["mask","singles","parts","single"] ["mask"] (zah zee):=sck rfl rfl rfl (by decide +kernel)
theorem ziE {f CT:Addr}{fd:FuncData}(F:Fun K "parts_of" "parts_of" zee f fd)(T:Blt mg)(N:Nums mg)(Gsingle_ones:Cal P w K mg base 1 "single_ones" ["mask"] spSingles)(GT:mg "TooMany" = some (.ref CT))(xk:ExcK K CT):FnOk P w K mg base (CX1 P w) 2 f fd ["mask"] (spParts CT):=by
 refine F.okX scparts_of (by walk_at "l") (fun cdv A outer s H vs Q E hr h=>?_)
 ·obtain ⟨n,rfl,hn,k1,k2⟩:=h
  refine' ⟨_,zab (PS.nox (ps_L 1 scparts_of.nd (pe_c Gsingle_ones (zaa (pv 0) zac)))) (zab (zax (PT.nox (zat zeD (zao zar (by rfl) T.len PySem.boot_len (zaa (pv 1) zac)) (zbh rfl N.MOST_ONES) (zav _))) (zaf (zjv (R:=fun H1=>E (.ref CT) none H1) rfl GT xk rfl (PE.nox (pe_fsI (zao zar (by rfl) T.len PySem.boot_len (zaa (pv 1) zac)) za1)) (fun pins σ H1 s2 h' ea vs I m r=>zkI I m r))) zaq) (PSs.nox (zab (ps_L 2 scparts_of.nd (zay (zaa zae zac)))
   (zab (za4 PassesOwn.never rfl (zby (pv 1)) (zjB (i:=3) scparts_of.nd rfl (Or.inr rfl))
   (zaf (ps_L 2 scparts_of.nd (zaj zhk (pv 2) ?c1))))
   (zaf (zap (pv 2))))))),?rd⟩
  (case c1=>exact (zb3 (Nc:=["part","single"]) [none,some 3] rfl (zaK (by rfl)) (zby (pv 2)) (fun _ _ _ _ _=>(pg_L 0 (show (["part","single"]:List Str).Nodup by decide +kernel))) (fun _ _ _ _ _=>zeB) (fun _ _ _ _ _=>(zaj zaS (pv 0) (pv 1)))))
  have hlen:=zaY n
  have h64:=zb5 64 n hn
  refine ⟨_,rfl,n,rfl,hn,fun l H1 hl eL s1=>?_⟩
  refine ⟨_,rfl,l,_,rfl,.inl (SqL.of eL),_,_,rfl,rfl,_,rfl,?_⟩
  rw [zal,hlen]
  refine ite2 (fun h1=>?_) (fun h1=>?_)
  ·have h1:12<ones n:=by have:=XaD h1;omega
   exact ⟨_,rfl,l,_,rfl,.inl (SqL.of eL),_,rfl,by rw [zal,hlen];omega,_,rfl,by decide,fun z=>k2 h1 H1 s1⟩
  ·have h1:ones n≤12:=by
    by_cases z:ones n≤12
    ·exact z
    ·exact absurd (Xah (show (12:Int)<(ones n:Int) by omega)) h1
   refine ⟨by show 1≤sizeLine;decide,fun q hq=>?_⟩
   have fq:H q=none:=by
    cases e:H q with
    | none=>rfl
    | some o=>rw [s1 _ _ e] at hq;cases hq
   refine ⟨_,rfl,l,rfl,⟨_,SqL.of (zag hq _ _ eL)⟩,?_⟩
   refine zcx (K:=K) (a:=l) (xs:=vN (sgl n)) (fun j σ H2=>∃ q2 v3,σ=[some (.int (n:Int)),some (.ref l),some (.ref q2),v3]∧H2 q2=some (.lst (vN (ptsF [0] ((sgl n).take j))))∧H q2=none∧Same H1 H2) ⟨q,none,rfl,zad,fq,zag hq⟩ (fun i σ H2 _ ⟨_,_,_,_,_,e⟩=>SqL.of (e _ _ eL)) ?_ ?_
   ·rintro j x σ H2 hx ⟨q2,v3,rfl,eq,fq2,s2⟩
    obtain ⟨sg,hs,rfl⟩:=zcX hx
    have hj:j<(sgl n).length:=(Xaf.mp hs).1
    have hp:(ptsF [0] ((sgl n).take j)).length≤2048:=by
     rw [zcQ,XaM,Xb0 (by omega)]
     have:2 ^ j≤2 ^ 11:=XaB (by decide) (by omega)
     simpa using this
    have et:ptsF [0] ((sgl n).take (j+1))=ptsF [0] ((sgl n).take j) ++ (ptsF [0] ((sgl n).take j)).map (· + sg):=by rw [Xbk,hs];exact zey _ _ _
    generalize ptsF [0] ((sgl n).take j)=acc at eq hp et
    refine ⟨_,rfl,_,rfl,q2,rfl,⟨_,SqL.of eq⟩,?_⟩
    refine zdc (K:=K) (a:=q2) (xs:=vN acc) (fun i ys σ H3=>∃ v0,σ=[v0,some (.int (sg:Int))]∧ys=vN ((acc.take i).map (· + sg))∧Same H2 H3) (by rw [zal];exact Xam hp (by decide)) ⟨none,rfl,rfl,Same.refl _⟩ ?_ ?_ ?_
    ·rintro i ys σ H3 hi ⟨v0,_,rfl,s3⟩
     exact ⟨SqL.of (s3 _ _ eq),by rw [zal,Xal,XaM];omega⟩
    ·rintro i y ys σ H3 hy ⟨v0,rfl,rfl,s3⟩
     obtain ⟨b,hb,rfl⟩:=zcX hy
     refine ⟨_,rfl,_,rfl,_,_,rfl,rfl,some (.int (b:Int)),rfl,?_,s3⟩
     rw [Xbk,hb,XaI]
     show _=vN ((acc.take i).map (· + sg) ++ [b+sg])
     rw [zbn]
     show _ ++ [V.int ((b:Int)+(sg:Int))]=_ ++ [V.int (((b+sg:Nat)):Int)]
     congr 2
    ·rintro ys σ H3 ⟨v0,rfl,rfl,s3⟩ Dd hD
     have e4:=zag (o:=.lst (vN ((acc.take (vN acc).length).map (· + sg)))) hD _ _ (s3 _ _ eq)
     refine ⟨q2,Dd,_,_,rfl,rfl,SqL.of e4,SqL.of zad,?_,fun q5 hq5=>?_⟩
     ·simp only [zal,Xal,XaM,Nat.min_self]
      exact Xam (show acc.length+acc.length≤4096 by omega) (by decide)
     ·have s5:Same H1 (upd (upd H3 Dd (.lst (vN ((acc.take (vN acc).length).map (· + sg))))) q5 (.lst (vN acc ++ vN ((acc.take (vN acc).length).map (· + sg))))):=s2.trans (s3.trans ((zag hD).trans (zag hq5)))
      refine ⟨q5,_,rfl,?_,?_,s5⟩
      ·rw [zad,et,zal,XaH (Xae _)]
       unfold vN
       rw [XaI]
      ·cases e:H q5 with
       | none=>rfl
       | some o=>rw [zag hD _ _ (s3 _ _ (s2 _ _ (s1 _ _ e)))] at hq5;cases hq5
   ·rintro σ H2 ⟨q2,v3,rfl,eq,fq2,s2⟩
    rw [zal,XaH (Xae _)] at eq
    exact ⟨_,rfl,k1 h1 q2 H2 fq2 eq (s1.trans s2)⟩
abbrev zbY:Stmt:=top 45
theorem scaddresses_of:FnScope ["bits","row","cell","mask","want","inner","least","free"] ["bits","row","cell"] (zah zbY):=sck rfl rfl rfl (by decide +kernel)
theorem ze5 {f CT:Addr}{fd:FuncData}(F:Fun K "addresses_of" "addresses_of" zbY f fd)(T:Blt mg)(Gones_of:Cal P w K mg base 2 "ones_of" ["mask"] spOnes)(Gspread:Cal P w K mg base 2 "spread" ["mask","number"] (spG spr))(Gsize_of:Cal P w K mg base 1 "size_of" ["bits"] spSize)(Gparts_of:CalX P w K mg base 2 "parts_of" ["mask"] (spParts CT)):FnOk P w K mg base (CX1 P w) 3 f fd ["bits","row","cell"] (spAddr CT):=by
 refine F.okX scaddresses_of (by walk_at "l") (fun cdv A outer s H vs Q E hr h=>?_)
 ·obtain ⟨m,t,lm,lw,li,ch,lt,c,rfl,hR,hm,ht,k1,k2,k3⟩:=h
  refine' ⟨_,zab (PS.nox (zbj (zbg (zfw (K:=K) rfl) (pv 1) zcR (za9 zae)) (zba rfl (zan (pg_L 3 scaddresses_of.nd) (zan (pg_L 4 scaddresses_of.nd) (zan (pg_L 5 scaddresses_of.nd) zaM)))))) (zab (PS.nox (zax (PW.pt (zb9 (zat zhj (pv 2) zae (zav _)) (zbx (zat zeD (zjE PySem.F.plainAttrs_int PySem.F.slot_int_bit_length PySem.F.type_int_bit_length zjS (pv 2)) (pe_c Gones_of (zaa (pv 5) zac)) (zav _))))) (zaf (zap (zay zac))) zaq)) (zab (PS.nox (zju (i:=6) scaddresses_of.nd rfl (Or.inr rfl) (zaj zjH (pv 4) (pe_c Gspread (zaa (pv 5) (zaa (pv 2) zac)))))) (zab (PS.nox (ps_L 7 scaddresses_of.nd (zaj zaP (zaj zbC (pe_c Gsize_of (zaa (pv 0) zac)) zae) (pe_un un_inv (zaj zjH (pv 3) (pv 5)))))) (zaf (zap ?c1))))),?rd⟩
  (case c1=>exact (zb3 (Nc:=["part","least"]) [none,some 6] rfl (zaK (by rfl)) (zby (zmK Gparts_of (hrm hr) rfl (zaa (pv 7) zac))) (fun _ _ _ _ _=>(pg_L 0 (show (["part","least"]:List Str).Nodup by decide +kernel))) (fun _ _ _ _ _=>zeB) (fun _ _ _ _ _=>(zaj zaS (pv 1) (pv 0)))))
  have hmi:lm.length=li.length:=by rw [hR.m0,hR.i0]
  have hwi:lw.length=li.length:=by rw [hR.w0,hR.i0]
  have ap:Apart lm li:=Apart.of _ _ hR.im
  have apw:Apart lw li:=Apart.of _ _ fun k a b e1 e2=>by
   obtain ⟨x,hx⟩:∃ x,lm[k]? = some x:=⟨_,Xaw (by have:=(Xaf.mp e2).1;omega)⟩
   have:=hR.wm k x a hx e1
   have:=hR.im k x b hx e2
   omega
  have hlt:∀ l:List Nat,l.length=m→Bit l→num l<2 ^ 64:=fun l h1 h2=>Xak (zgr l h2) (XaB (by decide) (by omega))
  have o1:=zc3 li hR.ib
  refine ⟨_,rfl,_,rfl,t,_,rfl,SqT.of ht,fun z=>absurd (show (3:Nat)=5 from congrArg List.length z) (by decide),fun u hu=>?_⟩
  refine ⟨u,[.int (num lm:Int),.int (num lw:Int),.int (num li:Int)],rfl,SqT.of zad,rfl,_,_,rfl,_,_,rfl,_,_,rfl,rfl,?_⟩
  have s1:Same H (upd H u (.tup (cutV [.int (num lm:Int),.int (num lw:Int),.int (num li:Int),.int (ch:Int),lt] none (some 3)))):=zag hu
  refine ⟨_,rfl,_,_,rfl,rfl,_,rfl,ite2 (fun h0=>iteT ?_) (fun h0=>?_)⟩
  ·exact ⟨by show 0≤sizeLine;decide,fun p hp=>k1 (.inl (XaD h0)) p _ (zc0 s1 hp) zad (s1.trans (zag hp))⟩
  obtain ⟨n,rfl⟩:∃ n:Nat,c=(n:Int):=⟨c.toNat,by
   have:¬ c<0:=fun z=>h0 (Xah z)
   omega⟩
  refine ⟨_,rfl,rfl,_,rfl,rfl,_,rfl,num li,rfl,hlt li hR.i0 hR.ib,fun H2 s2=>⟨_,_,rfl,rfl,_,rfl,ite2 (fun h1=>?_) (fun h1=>?_)⟩⟩
  ·refine ⟨by show 0≤sizeLine;decide,fun p hp=>k1 (.inr ?_) p _ (zc0 (s1.trans s2) hp) zad ((s1.trans s2).trans (zag hp))⟩
   have h1:=XaD h1
   have h2:¬ n<2 ^ li.sum:=fun z=>by
    have:=(zij n li.sum).mpr z
    omega
   omega
  have hn:n<2 ^ li.sum:=(zij n li.sum).mp (by
   have:¬ ((ones (num li):Nat):Int)<((Builtin.Int.intBits (n:Int):Nat):Int):=fun z=>h1 (Xah z)
   omega)
  refine ⟨_,rfl,_,rfl,_,rfl,num li,n,rfl,hlt li hR.i0 hR.ib,fun H3 s3=>⟨_,_,rfl,rfl,?_⟩⟩
  first | rw [show V.int (Builtin.bitOr (num lw:Int) (spr (num li) n:Int))=V.int ((num lw+spr (num li) n:Nat):Int) from congrArg V.int (by rw [bor,zfM lw li n hwi hR.ib apw])] | rw [show ((fun (i j:Int)=>V.int (Builtin.bitOr i j)) (num lw:Int) (spr (num li) n:Int))=V.int ((num lw+spr (num li) n:Nat):Int) from congrArg V.int (by rw [bor,zfM lw li n hwi hR.ib apw])]
  refine ⟨_,rfl,m,rfl,hm,⟨_,_,rfl,rfl,_,rfl,_,rfl,_,_,rfl,rfl,_,rfl,_,_,rfl,rfl,?_⟩⟩
  first | rw [show V.int (Builtin.bitAnd ((2:Int) ^ m - 1) (Builtin.bitNot (Builtin.bitOr (num lm:Int) (num li:Int))))=V.int (num (freL lm li):Int) from congrArg V.int (zkb hR.m0 hR.i0 hR.mb hR.ib ap)] | rw [show ((fun (i j:Int)=>V.int (Builtin.bitAnd i j)) ((2:Int) ^ m - 1) (Builtin.bitNot (Builtin.bitOr (num lm:Int) (num li:Int))))=V.int (num (freL lm li):Int) from congrArg V.int (zkb hR.m0 hR.i0 hR.mb hR.ib ap)]
  have fl:(freL lm li).length=m:=by rw [zcU lm li hmi,hR.m0]
  have fs:=zc3 _ (zd4 lm li)
  have s4:=s1.trans (s2.trans s3)
  refine ⟨_,rfl,num (freL lm li),rfl,hlt _ fl (zd4 lm li),fun h12 p H' hp eL s'=>?_,fun h12 H' s'=>k3 n rfl hn (by omega) H' (s4.trans s')⟩
  refine ⟨p,rfl,⟨_,SqL.of eL⟩,?_⟩
  have hlen:(ptsF [0] (sgl (num (freL lm li)))).length≤4096:=by
   rw [zcQ,zaY]
   have:2 ^ ones (num (freL lm li))≤2 ^ 12:=XaB (by decide) h12
   simpa using this
  have k2':=k2 n rfl hn (by omega)
  unfold adrL at k2'
  generalize ptsF [0] (sgl (num (freL lm li)))=PP at eL hlen k2'
  generalize num lw+spr (num li) n=L at k2' ⊢
  refine zdc (K:=K) (a:=p) (xs:=vN PP) (fun i ys σ H5=>∃ v0,σ=[v0,some (.int (L:Int))]∧ys=vN ((PP.take i).map (L + ·))∧Same H' H5) (by rw [zal];exact Xam hlen (by decide)) ⟨none,rfl,rfl,Same.refl _⟩ ?_ ?_ ?_
  ·rintro i ys σ H5 hi ⟨v0,_,rfl,s5⟩
   exact ⟨SqL.of (s5 _ _ eL),by rw [zal,Xal,XaM];omega⟩
  ·rintro i y ys σ H5 hy ⟨v0,rfl,rfl,s5⟩
   obtain ⟨b,hb,rfl⟩:=zcX hy
   refine ⟨_,rfl,_,rfl,_,_,rfl,rfl,some (.int (b:Int)),rfl,?_,s5⟩
   rw [Xbk,hb,XaI]
   show _=vN ((PP.take i).map (L + ·) ++ [L+b])
   rw [zbn]
   show _ ++ [V.int ((L:Int)+(b:Int))]=_ ++ [V.int (((L+b:Nat)):Int)]
   rw [Int.natCast_add]
  ·rintro ys σ H5 ⟨v0,rfl,rfl,s5⟩ D hD
   have s6:=s4.trans (s'.trans s5)
   refine k2' D _ (zc0 s6 hD) ?_ (s6.trans (zag hD))
   rw [zad,zal,XaH (Xae _)]
abbrev zdi:Stmt:=top 39
theorem zg6:FnScope ["mask","want","last"] ["mask","want","last"] (zah zdi):=sck rfl rfl rfl (by decide +kernel)
inductive spChoiceV (vs:List V)(H:Hp)(Q:VK)(u3_:XK):Prop
 | mk (m v:Nat) (l:Int) (z0_:vs=[.int (m:Int),.int (v:Int),.int l]) (z1_:(m:Int)≤l) (z2_:(v:Int)≤l) (z3_:v &&& m=v) (z4_:Q (.bl true) H)
theorem zhn {f:Addr}{fd:FuncData}(F:Fun K "is_choice" "is_choice" zdi f fd)(T:Blt mg)(Gis_number:Cal P w K mg base 1 "is_number" ["thing","last"] spIsNum):FnOk P w K mg base CX0 2 f fd ["mask","want","last"] spChoiceV:=by
 refine F.ok zg6 (by walk_at "l") (fun cdv A outer s H vs Q E hr h=>?_)
 ·obtain ⟨m,v,l,rfl,hm,hv,hw,k⟩:=h
  refine ⟨_,(zaf (zap (zbB (pe_c Gis_number (zaa (pv 0) (zaa (pv 2) zac))) (zbB (pe_c Gis_number (zaa (pv 1) (zaa (pv 2) zac))) (zbz (zbA zbk (zaj zaP (pv 1) (pv 0)) (pv 1) (zav _))))))),?rd⟩
  refine ⟨_,rfl,_,rfl,_,_,rfl,_,rfl,?_⟩
  rw [Xah (show 0≤(m:Int)∧(m:Int)≤l from ⟨XbU m,hm⟩)]
  refine iteT ⟨_,rfl,_,rfl,_,_,rfl,_,rfl,?_⟩
  rw [Xah (show 0≤(v:Int)∧(v:Int)≤l from ⟨XbU v,hv⟩)]
  refine iteT ⟨_,rfl,_,rfl,_,_,rfl,rfl,_,rfl,rfl,?_⟩
  show Q (.bl (decide (V.int (Builtin.bitAnd (v:Int) (m:Int))=V.int (v:Int)))) H
  rw [band,hw,Xah rfl]
  exact k
abbrev zef:Stmt:=top 40
theorem scis_latch:FnScope ["thing","chip","mask","want"] ["thing"] (zah zef):=sck rfl rfl rfl (by decide +kernel)
inductive spLatchV (vs:List V)(H:Hp)(Q:VK)(u3_:XK):Prop
 | mk (t:Addr) (c a b:Nat) (z0_:vs=[.ref t]) (z1_:H t=some (.tup [.int (c:Int),.int (a:Int),.int (b:Int)])) (z2_:c≤99) (z3_:a≤255) (z4_:b≤255) (z5_:b &&& a=b) (z6_:Q (.bl true) H)
theorem ziF {f:Addr}{fd:FuncData}(F:Fun K "is_latch" "is_latch" zef f fd)(T:Blt mg)(N:Nums mg)(Gis_number:Cal P w K mg base 1 "is_number" ["thing","last"] spIsNum)(Gis_choice:Cal P w K mg base 2 "is_choice" ["mask","want","last"] spChoiceV):FnOk P w K mg base CX0 3 f fd ["thing"] spLatchV:=by
 refine F.ok scis_latch (by walk_at "l") (fun cdv A outer s H vs Q E hr h=>?_)
 ·obtain ⟨t,c,a,b,rfl,e,hc,ha,hb,hw,k⟩:=h
  refine ⟨_,(zab (zax (PW.pt (zb9 (zaO (zaC (zao (zaL "tuple" (K:=K) rfl) (by rfl) T.isinstance zbd (zaa (pv 0) (zaa (zaV rfl T.tuple zbL zcu) zac))))) (zbx (zat zhi (zao zar (by rfl) T.len PySem.boot_len (zaa (pv 0) zac)) zae (zav _))))) (zaf (zap zb4)) zaq)
   (zab (zbj (pv 0) (zba rfl (zan (pg_L 1 scis_latch.nd) (zan (pg_L 2 scis_latch.nd) (zan (pg_L 3 scis_latch.nd) zaM)))))
   (zaf (zap (zbB (pe_c Gis_number (zaa (pv 1) (zaa (zbh rfl N.LAST_CHIP) zac))) (zbz (pe_c Gis_choice (zaa (pv 2) (zaa (pv 3) (zaa (zbh rfl N.LAST_WORD) zac)))))))))),?rd⟩
  refine ⟨_,rfl,_,_,_,rfl,.tup e,rfl,_,rfl,iteF ⟨_,rfl,t,_,rfl,.inr (SqT.of e),rfl,_,rfl,iteF ?_⟩⟩
  refine ⟨_,rfl,t,_,rfl,SqT.of e,rfl,_,_,rfl,_,_,rfl,_,_,rfl,rfl,?_⟩
  refine ⟨_,rfl,_,_,rfl,_,rfl,?_⟩
  rw [Xah (show 0≤(c:Int)∧(c:Int)≤99 by omega)]
  exact iteT ⟨_,rfl,_,rfl,a,b,255,rfl,by omega,by omega,hw,k⟩
abbrev zg2:Stmt:=top 41
theorem scis_row:FnScope ["bits","thing","mask","want","inner","chip","latch","last"] ["bits","thing"] (zah zg2):=sck rfl rfl rfl (by decide +kernel)
inductive spRowV (vs:List V)(H:Hp)(Q:VK)(u3_:XK):Prop
 | mk (t:Addr) (r:Rw) (n:Nat) (z0_:vs=[.int (n:Int),.ref t]) (z1_:RwAt H t r) (z2_:RwOk n r) (z3_:n≤16) (z4_:Q (.bl true) H)
theorem zlf {f:Addr}{fd:FuncData}(F:Fun K "is_row" "is_row" zg2 f fd)(T:Blt mg)(N:Nums mg)(Gis_number:Cal P w K mg base 1 "is_number" ["thing","last"] spIsNum)(Gsize_of:Cal P w K mg base 1 "size_of" ["bits"] spSize)(Gis_choice:Cal P w K mg base 2 "is_choice" ["mask","want","last"] spChoiceV)(Gis_latch:Cal P w K mg base 3 "is_latch" ["thing"] spLatchV):FnOk P w K mg base CX0 4 f fd ["bits","thing"] spRowV:=by
 refine F.ok scis_row (by walk_at "l") (fun cdv A outer s H vs Q E hr h=>?_)
 ·obtain ⟨t,r,n,rfl,⟨lt,e,hl⟩,o,hn,k⟩:=h
  have h1:∀ z:Nat,z<2 ^ n→(z:Int)≤2 ^ n - 1:=fun z hz=>by
   have:((2 ^ n:Nat):Int)=(2:Int) ^ n:=by norm_cast
   omega
  refine ⟨_,(zab (zax (PW.pt (zb9 (zaO (zaC (zao (zaL "tuple" (K:=K) rfl) (by rfl) T.isinstance zbd (zaa (pv 1) (zaa (zaV rfl T.tuple zbL zcu) zac))))) (zbx (zat zhi (zao zar (by rfl) T.len PySem.boot_len (zaa (pv 1) zac)) zae (zav _))))) (zaf (zap zb4)) zaq)
   (zab (zbj (pv 1) (zba rfl (zan (pg_L 2 scis_row.nd) (zan (pg_L 3 scis_row.nd) (zan (pg_L 4 scis_row.nd) (zan (pg_L 5 scis_row.nd) (zan (pg_L 6 scis_row.nd) zaM)))))))
   (zab (ps_L 7 scis_row.nd (zaj zbC (pe_c Gsize_of (zaa (pv 0) zac)) zae))
   (zab (zax (PW.pt (zb9 (zaO (zaC (pe_c Gis_choice (zaa (pv 2) (zaa (pv 3) (zaa (pv 7) zac)))))) (zb9 (zaO (zaC (pe_c Gis_number (zaa (pv 4) (zaa (pv 7) zac))))) (zbx (zat zhi (zaj zaP (pv 4) (pv 2)) zae (zav _)))))) (zaf (zap zb4)) zaq)
   (zaf (zap (zbB (pe_c Gis_number (zaa (pv 5) (zaa (zbh rfl N.LAST_CHIP) zac))) (zbz (zmI (zh3 (zcj (pv 6))) (zbz (pe_c Gis_latch (zaa (pv 6) zac)))))))))))),?rd⟩
  refine ⟨_,rfl,_,_,_,rfl,.tup e,rfl,_,rfl,iteF ⟨_,rfl,t,_,rfl,.inr (SqT.of e),rfl,_,rfl,iteF ?_⟩⟩
  refine ⟨_,rfl,t,_,rfl,SqT.of e,rfl,_,_,rfl,_,_,rfl,_,_,rfl,_,_,rfl,_,_,rfl,rfl,?_⟩
  refine ⟨_,rfl,n,rfl,hn,_,_,rfl,rfl,?_⟩
  refine ⟨_,rfl,_,rfl,_,rfl,r.m,r.w,_,rfl,h1 _ o.m0,h1 _ o.w0,o.wm,_,rfl,iteF ⟨_,rfl,_,rfl,_,_,rfl,_,rfl,?_⟩⟩
  rw [Xah (show 0≤(r.i:Int)∧(r.i:Int)≤2 ^ n - 1 from ⟨XbU _,h1 _ o.i0⟩)]
  refine iteF ⟨_,rfl,_,rfl,_,_,rfl,rfl,rfl,_,rfl,?_⟩
  refine ite2 (fun z=>?_) (fun _=>zau ?_)
  ·exfalso
   have z:(!decide (V.int (Builtin.bitAnd (r.i:Int) (r.m:Int))=V.int 0))=true:=z
   rw [band,o.im] at z
   cases z
  try dsimp only
  refine ⟨_,rfl,_,_,rfl,_,rfl,?_⟩
  rw [Xah (show 0≤(r.c:Int)∧(r.c:Int)≤99 by have:=o.c0;omega)]
  refine iteT ?_
  have ol:=o.l0
  cases hr':r.l with
  | none =>
   rw [hr'] at hl
   rw [show lt = .non from hl]
   exact ⟨_,rfl,_,rfl,iteT k⟩
  | some z =>
   rw [hr'] at hl ol
   obtain ⟨c,a,b⟩:=z
   obtain ⟨u,rfl,eu⟩:=hl
   exact ⟨_,rfl,_,rfl,iteF ⟨_,rfl,u,c,a,b,rfl,eu,Nat.le_of_lt_succ ol.1,Nat.le_of_lt_succ ol.2.1,Nat.le_of_lt_succ (XaZ (ol.2.2 ▸ XbR) ol.2.1),ol.2.2,k⟩⟩
abbrev zg3:Stmt:=top 42
theorem zkW:FnScope ["bits","thing"] ["bits","thing"] (zah zg3):=sck rfl rfl rfl (by decide +kernel)
inductive spMapV (vs:List V)(H:Hp)(Q:VK)(u3_:XK):Prop
 | mk (m:Nat) (R:Addr) (ws:List (Addr×Rw)) (z0_:vs=[.int (m:Int),.ref R]) (z1_:H R=some (.tup (refs ws))) (z2_:RwsAt2 m H ws) (z3_:ws.length≤300) (z4_:m≤16) (z5_:∀ H',Same H H'→Q (.bl true) H')
theorem zlg {f:Addr}{fd:FuncData}(F:Fun K "is_map" "is_map" zg3 f fd)(T:Blt mg)(Gis_row:Cal P w K mg base 4 "is_row" ["bits","thing"] spRowV):FnOk P w K mg base CX0 5 f fd ["bits","thing"] spMapV:=by
 refine F.ok zkW (by walk_at "l") (fun cdv A outer s H vs Q E hr h=>?_)
 ·obtain ⟨m,R,ws,rfl,e,hw,hl,hm,k⟩:=h
  refine' ⟨_,(zaf (zap (zbB (zao (zaL "tuple" (K:=K) rfl) (by rfl) T.isinstance zbd (zaa (pv 1) (zaa (zaV rfl T.tuple zbL zcu) zac))) (zbz (zao (zeZ rfl) (by rfl) T.all zkw (zaa ?c1 zac)))))),?rd⟩
  (case c1=>exact (zb3 (Nc:=["row","bits"]) [none,some 0] rfl (zaK (by rfl)) (zhZ (pv 1)) (fun _ _ _ _ _=>(pg_L 0 (show (["row","bits"]:List Str).Nodup by decide +kernel))) (fun _ _ _ _ _=>zeB) (fun _ _ _ _ _=>(pe_c Gis_row (zaa (pv 1) (zaa (pv 0) zac))))))
  refine ⟨_,rfl,_,_,_,rfl,.tup e,rfl,_,rfl,iteT ⟨_,rfl,R,rfl,⟨_,SqT.of e⟩,?_⟩⟩
  refine zfS (K:=K) (xs:=refs ws) (fun j rs σ H1=>∃ v0,σ=[v0,some (.int (m:Int))]∧rs=(ws.take j).map (fun _=>V.bl true)∧Same H H1) (Xam (show _≤300 by rw [zas];exact hl) (by decide)) ⟨none,rfl,rfl,Same.refl _⟩ ?_ ?_ ?_
  ·rintro j rs σ H1 hj ⟨v0,rfl,rfl,s1⟩
   exact ⟨SqT.of (s1 _ _ e),by rw [Xal,XaM];exact Nat.min_le_left _ _⟩
  ·rintro j x rs σ H1 hx ⟨v0,rfl,rfl,s1⟩
   obtain ⟨z,hz,rfl⟩:=zbf hx
   obtain ⟨z1,z2⟩:=hw z (Xas hz)
   refine ⟨_,rfl,_,rfl,z.1,z.2,m,rfl,z1.same s1,z2,hm,⟨_,rfl,?_,s1⟩⟩
   rw [Xbk,hz,XaI]
   rfl
  ·rintro rs σ H1 ⟨v0,rfl,rfl,s1⟩ Dd hD
   refine ⟨Dd,ws.map (fun _=>true),rfl,SqL.of (by rw [zas,XaH (Xae _),Xbd];exact zad),?_⟩
   have e2:(ws.map (fun _=>true)).all id=true:=by rw [List.all_map];exact XbA.mpr fun _ _=>rfl
   rw [e2]
   exact k _ (s1.trans (zag hD))
abbrev zji:Stmt:=top 43
theorem zmB:FnScope ["row","address"] ["row","address"] (zah zji):=sck rfl rfl rfl (by decide +kernel)
theorem zmM {f:Addr}{fd:FuncData}(F:Fun K "meets" "meets" zji f fd)(T:Blt mg):FnOk P w K mg base CX0 1 f fd ["row","address"] spMeet:=by
 refine F.ok zmB (by walk_at "l") (fun cdv A outer s H vs Q E hr h=>?_)
 ·obtain ⟨t,r,x,rfl,⟨lt,et,hlt⟩,k⟩:=h
  refine ⟨_,(zaf (zap (zbA zbk (zaj zaP (pv 1) (pe_x zaw (pv 0) zae)) (pe_x zaw (pv 0) zae) (zav _)))),?rd⟩
  refine ⟨_,rfl,_,rfl,t,_,_,_,rfl,rfl,SqT.of et,rfl,_,_,rfl,rfl,_,rfl,t,_,_,_,rfl,rfl,SqT.of et,rfl,rfl,?_⟩
  have e:decide (V.int (Builtin.bitAnd (x:Int) (r.m:Int))=V.int (r.w:Int))=met r x:=by
   rw [band]
   unfold met
   by_cases h:x &&& r.m=r.w
   ·rw [Xah h,h];exact Xah rfl
   ·rw [Xai h];exact Xai fun z=>h (by injection z with z;exact Int.ofNat.inj z)
  rw [← e] at k
  exact k
abbrev zfA:Stmt:=top 44
theorem zjo:FnScope ["row","address"] ["row","address"] (zah zfA):=sck rfl rfl rfl (by decide +kernel)
theorem zjM {f:Addr}{fd:FuncData}(F:Fun K "cell_at" "cell_at" zfA f fd)(T:Blt mg)(Ggathered:Cal P w K mg base 2 "gathered" ["mask","number"] (spG gath)):FnOk P w K mg base CX0 3 f fd ["row","address"] spCellR:=by
 refine F.ok zjo (by walk_at "l") (fun cdv A outer s H vs Q E hr h=>?_)
 ·obtain ⟨t,r,a,rfl,⟨lt,et,_⟩,hi,k⟩:=h
  refine ⟨_,(zaf (zap (pe_c Ggathered (zaa (pe_x zaw (pv 0) zae) (zaa (pv 1) zac))))),?rd⟩
  exact ⟨_,rfl,t,_,_,_,rfl,rfl,SqT.of et,rfl,_,rfl,r.i,a,rfl,hi,fun H' s'=>k H' s'⟩
abbrev zbN:Stmt:=top 47
theorem zem:FnScope ["mask","want","other_mask","other_want"] ["mask","want","other_mask","other_want"] (zah zbN):=sck rfl rfl rfl (by decide +kernel)
theorem zeF {f:Addr}{fd:FuncData}(F:Fun K "choices_agree" "choices_agree" zbN f fd)(T:Blt mg):FnOk P w K mg base CX0 1 f fd ["mask","want","other_mask","other_want"] spAgr:=by
 refine F.ok zem (by walk_at "l") (fun cdv A outer s H vs Q E hr h=>?_)
 ·obtain ⟨m,x,n,v,rfl,k⟩:=h
  refine ⟨_,(zaf (zap (zbA zbk (zaj zaP (zaj zaP (zaj zh5 (pv 1) (pv 3)) (pv 0)) (pv 2)) zae (zav _)))),?rd⟩
  refine ⟨_,rfl,_,rfl,_,_,rfl,rfl,_,rfl,_,_,rfl,rfl,_,rfl,_,_,rfl,rfl,rfl,?_⟩
  have e:decide (V.int (Builtin.bitAnd (Builtin.bitAnd (Builtin.bitXor (x:Int) (v:Int)) (m:Int)) (n:Int))=V.int 0)=agr m x n v:=by
   rw [bxor,band,band]
   unfold agr
   exact Xbc.mpr ⟨fun h=>by have:=V.int.inj h;omega,fun h=>by rw [h];rfl⟩
  exact Eq.mpr (congrArg (fun b=>Q (V.bl b) H) e) k
abbrev zbM:Stmt:=top 48
theorem zek:FnScope ["latch","other"] ["latch","other"] (zah zbM):=sck rfl rfl rfl (by decide +kernel)
theorem zeE {f:Addr}{fd:FuncData}(F:Fun K "latches_agree" "latches_agree" zbM f fd)(T:Blt mg)(Gchoices_agree:Cal P w K mg base 1 "choices_agree" ["mask","want","other_mask","other_want"] spAgr):FnOk P w K mg base CX0 2 f fd ["latch","other"] spLatA:=by
 refine F.ok zek (by walk_at "l") (fun cdv A outer s H vs Q E hr h=>?_)
 ·obtain ⟨x,y,o,p,rfl,hx,hy,k⟩:=h
  refine ⟨_,(zab (zax (PW.pt (zb9 (zbT (zcj (pv 0))) (zb9 (zbT (zcj (pv 1))) (zbx (zat zhi (pe_x zaw (pv 0) zae) (pe_x zaw (pv 1) zae) (zav _)))))) (zaf (zap zb4)) zaq)
   (zaf (zap (pe_c Gchoices_agree (zaa (pe_x zaw (pv 0) zae) (zaa (pe_x zaw (pv 0) zae) (zaa (pe_x zaw (pv 1) zae) (zaa (pe_x zaw (pv 1) zae) zac)))))))),?rd⟩
  cases o with
  | none =>
   obtain rfl:x = .non:=hx
   exact ⟨_,rfl,_,rfl,iteT (iteT k)⟩
  | some o =>
   obtain ⟨c,a,b⟩:=o
   obtain ⟨u,rfl,eu⟩:=hx
   refine ⟨_,rfl,_,rfl,iteF ?_⟩
   cases p with
   | none =>
    obtain rfl:y = .non:=hy
    exact ⟨_,rfl,_,rfl,iteT (iteT k)⟩
   | some p =>
    obtain ⟨d,x',y'⟩:=p
    obtain ⟨u',rfl,eu'⟩:=hy
    refine ⟨_,rfl,_,rfl,iteF ?_⟩
    refine ⟨_,rfl,u,_,_,_,rfl,rfl,SqT.of eu,rfl,_,rfl,u',_,_,_,rfl,rfl,SqT.of eu',rfl,rfl,_,rfl,?_⟩
    by_cases h:c=d
    ·subst h
     rw [show (!decide (V.int (c:Int)=V.int (c:Int)))=false by simp]
     refine iteF ?_
     refine ⟨_,rfl,u,_,_,_,rfl,rfl,SqT.of eu,rfl,_,rfl,u,_,_,_,rfl,rfl,SqT.of eu,rfl,_,rfl,u',_,_,_,rfl,rfl,SqT.of eu',rfl,_,rfl,u',_,_,_,rfl,rfl,SqT.of eu',rfl,a,b,x',y',rfl,?_⟩
     rw [show latA (some (c,a,b)) (some (c,x',y'))=agr a b x' y' from if_pos rfl] at k
     exact k
    ·rw [show (!decide (V.int (c:Int)=V.int (d:Int)))=true by simp;omega]
     rw [show latA (some (c,a,b)) (some (d,x',y'))=true from if_neg h] at k
     exact iteT k
abbrev zcC:Stmt:=top 49
theorem zf4:FnScope ["row","other"] ["row","other"] (zah zcC):=sck rfl rfl rfl (by decide +kernel)
theorem zgf {f:Addr}{fd:FuncData}(F:Fun K "rows_clash" "rows_clash" zcC f fd)(T:Blt mg)(Gchoices_agree:Cal P w K mg base 1 "choices_agree" ["mask","want","other_mask","other_want"] spAgr)(Glatches_agree:Cal P w K mg base 2 "latches_agree" ["latch","other"] spLatA):FnOk P w K mg base CX0 3 f fd ["row","other"] spClash:=by
 refine F.ok zf4 (by walk_at "l") (fun cdv A outer s H vs Q E hr h=>?_)
 ·obtain ⟨t,u,r,q,rfl,⟨lt,et,hl⟩,⟨lu,eu,hk⟩,k⟩:=h
  refine ⟨_,(zaf (zap (zbB (pe_c Gchoices_agree (zaa (pe_x zaw (pv 0) zae) (zaa (pe_x zaw (pv 0) zae) (zaa (pe_x zaw (pv 1) zae) (zaa (pe_x zaw (pv 1) zae) zac))))) (zbz (pe_c Glatches_agree (zaa (pe_x zaw (pv 0) zae) (zaa (pe_x zaw (pv 1) zae) zac))))))),?rd⟩
  refine ⟨_,rfl,t,_,_,_,rfl,rfl,SqT.of et,rfl,_,rfl,t,_,_,_,rfl,rfl,SqT.of et,rfl,_,rfl,u,_,_,_,rfl,rfl,SqT.of eu,rfl,_,rfl,u,_,_,_,rfl,rfl,SqT.of eu,rfl,r.m,r.w,q.m,q.w,rfl,_,rfl,?_⟩
  unfold zbm at k
  cases h:agr r.m r.w q.m q.w with
  | false =>
   rw [h] at k
   exact iteF k
  | true =>
   rw [h] at k
   exact iteT ⟨_,rfl,t,_,_,_,rfl,rfl,SqT.of et,rfl,_,rfl,u,_,_,_,rfl,rfl,SqT.of eu,rfl,lt,lu,r.l,q.l,rfl,hl,hk,k⟩
abbrev zel:Stmt:=top 51
theorem scclash_of:FnScope ["rows","found","second","other","first","row","address"] ["rows"] (zah zel):=sck rfl rfl rfl (by decide +kernel)
inductive spClashV (vs:List V)(H:Hp)(Q:VK)(u3_:XK):Prop
 | mk (m:Nat) (R:Addr) (ws:List (Addr×Rw)) (z0_:vs=[.ref R]) (z1_:H R=some (.tup (refs ws))) (z2_:RwsAt2 m H ws) (z3_:(ws.Pairwise fun a b=>NC a.2 b.2)) (z4_:ws.length≤300) (z5_:∀ H',Same H H'→Q .non H')
set_option tactic.hygienic true in
theorem ziI {f:Addr}{fd:FuncData}(F:Fun K "clash_of" "clash_of" zel f fd)(T:Blt mg)(Grows_clash:Cal P w K mg base 3 "rows_clash" ["row","other"] spClash):FnOk P w K mg base CX0 4 f fd ["rows"] spClashV:=by
 refine F.ok scclash_of (by walk_at "l") (fun cdv A outer s H vs Q E hr h=>?_)
 ·obtain ⟨m,p,ws,rfl,hp,hw,nc,hl,k⟩:=h
  refine ⟨_,(zab (ps_L 1 scclash_of.nd (zay zac))
   (zab (za4 PassesOwn.never rfl (zd0 rfl T.enumerate (zaa (pv 0) zac)) (zba rfl (zan (pg_L 2 scclash_of.nd) (zan (pg_L 3 scclash_of.nd) zaM)))
   (zaf (za4 PassesOwn.never rfl (zd0 rfl T.enumerate (zaa (zbg (zfw (K:=K) rfl) (pv 0) zcR (za9 (pv 2))) zac)) (zba rfl (zan (pg_L 4 scclash_of.nd) (zan (pg_L 5 scclash_of.nd) zaM)))
   (zaf (zax (zaC (pe_c Grows_clash (zaa (pv 5) (zaa (pv 3) zac)))) (zaf zaR) zaq)))))
   (zab (zax (zaO (zfD (pv 1) (fun _=>rfl))) (zaf (zap zcz)) zaq)
   (zab zaR
   (zaf zaR))))),?rd⟩
  refine ⟨by show 0≤sizeLine;decide,fun fa hfa=>?_⟩
  refine ⟨_,rfl,p,rfl,⟨_,SqT.of (zag hfa _ _ hp)⟩,?_⟩
  refine zc9 (K:=K) (a:=p) (xs:=refs ws) (fun j σ X=>∃ (v2 v3 v4 v5:Option V),σ=[some (.ref p),some (.ref fa),v2,v3,v4,v5,none]∧X fa=some (.lst [])∧Same H X)
   ⟨none,none,none,none,rfl,zad,zag hfa⟩ (fun i σ X hi ⟨_,_,_,_,_,_,s⟩=>SqT.of (s _ _ hp)) ?_ ?_
  ·rintro j x T0 σ X hx hT0 ⟨v2,v3,v4,v5,rfl,efa,sX⟩
   obtain ⟨q,hq,rfl⟩:=zbf hx
   obtain ⟨hj,ej⟩:=Xaf.mp hq
   refine zeW ?_
   have sT:Same H (upd X T0 (.tup [.int (j:Int),.ref q.1])):=sX.trans (zag hT0)
   refine ⟨_,rfl,_,rfl,_,rfl,p,_,rfl,SqT.of (sT _ _ hp),fun z=>?_,fun u hu=>?_⟩
   ·exfalso
    rw [zih (by rw [zas];omega)] at z
    have:=congrArg List.length z
    rw [XaM,zas] at this
    omega
   have ecut:cutV (refs ws) none (some (j:Int))=refs (ws.take j):=by rw [zih (by rw [zas];omega)];exact (List.map_take ..).symm
   refine ⟨u,rfl,⟨_,SqT.of zad⟩,?_⟩
   rw [ecut] at *
   have sU:Same X (upd (upd X T0 (.tup [.int (j:Int),.ref q.1])) u (.tup (refs (ws.take j)))):=(zag hT0).trans (zag hu)
   refine zc9 (K:=K) (a:=u) (xs:=refs (ws.take j)) (fun i σ Y=>∃ (v4 v5:Option V),σ=[some (.ref p),some (.ref fa),some (.int (j:Int)),some (.ref q.1),v4,v5,none]∧Y fa=some (.lst [])∧Y u=some (.tup (refs (ws.take j)))∧Same H Y)
    ⟨v4,v5,rfl,sU _ _ efa,zad,sX.trans sU⟩ (fun i σ Y hi ⟨_,_,_,_,e,_⟩=>SqT.of e) ?_ ?_
   ·rintro i y T1 σ Y hy hT1 ⟨v4,v5,rfl,efa,eu,sY⟩
    obtain ⟨r,hr',rfl⟩:=zbf hy
    rw [List.getElem?_take] at hr'
    split at hr'
    ·rename_i hij
     obtain ⟨hi,ei⟩:=Xaf.mp hr'
     have c:zbm r.2 q.2=false:=by
      have:=(XbK.mp nc i j hi hj hij).1
      rw [ei,ej] at this
      exact this
     refine zeW ?_
     have s1:Same Y (upd Y T1 (.tup [.int (i:Int),.ref r.1])):=zag hT1
     have s2:=sY.trans s1
     refine ⟨_,rfl,_,rfl,r.1,q.1,r.2,q.2,rfl,(hw r (Xas hr')).1.same s2,(hw q (Xas hq)).1.same s2,_,rfl,?_⟩
     rw [c]
     exact iteF ⟨_,_,rfl,s1 _ _ efa,s1 _ _ eu,s2⟩
    ·cases hr'
   ·rintro σ Y ⟨v4,v5,rfl,efa,eu,sY⟩
    exact ⟨_,_,_,_,rfl,efa,sY⟩
  ·rintro σ X ⟨v2,v3,v4,v5,rfl,efa,sX⟩
   exact ⟨_,rfl,_,.inl ⟨_,SqL.of efa,rfl⟩,iteT (k X sX)⟩
abbrev zeg:Stmt:=top 52
theorem scis_awake:FnScope ["row","words","latch","chip","mask","want"] ["row","words"] (zah zeg):=sck rfl rfl rfl (by decide +kernel)
theorem ziG {f:Addr}{fd:FuncData}(F:Fun K "is_awake" "is_awake" zeg f fd)(T:Blt mg):FnOk P w K mg base CX0 1 f fd ["row","words"] spAwake:=by
 refine F.ok scis_awake (by walk_at "l") (fun cdv A outer s H vs Q E hr h=>?_)
 ·obtain ⟨t,d,r,keys,g,rfl,⟨lt,et,hlt⟩,ed,k⟩:=h
  refine ⟨_,(zab (ps_L 2 scis_awake.nd (pe_x zaw (pv 0) zae))
   (zab (zax (zbT (zcj (pv 2))) (zaf (zap zb4)) zaq)
   (zab (zbj (pv 2) (zba rfl (zan (pg_L 3 scis_awake.nd) (zan (pg_L 4 scis_awake.nd) (zan (pg_L 5 scis_awake.nd) zaM)))))
   (zaf (zap (zbA zbk (zaj zaP (zh2 (zeU hr) (pv 1) (pv 3) zae ⟨rfl,rfl,rfl,rfl⟩) (pv 4)) (pv 5) (zav _))))))),?rd⟩
  refine ⟨_,rfl,t,_,_,_,rfl,rfl,SqT.of et,rfl,?_⟩
  cases hl:r.l with
  | none =>
   rw [hl] at hlt
   obtain rfl:lt = .non:=hlt
   refine ⟨_,rfl,_,rfl,iteT ?_⟩
   rw [show awk r (wrd keys g)=true by unfold awk;rw [hl]] at k
   exact k
  | some o =>
   obtain ⟨c,a,b⟩:=o
   rw [hl] at hlt
   obtain ⟨lp,rfl,elp⟩:=hlt
   refine ⟨_,rfl,_,rfl,iteF ?_⟩
   refine ⟨_,rfl,lp,_,rfl,SqT.of elp,rfl,_,_,rfl,_,_,rfl,_,_,rfl,rfl,?_⟩
   refine ⟨_,rfl,d,rfl,.inl ⟨_,.inl ed⟩,_,rfl,_,DGet.k (k:=Sum.inl (c:Int)) ed,?_⟩
   rw [dV_get]
   refine ⟨_,rfl,_,_,rfl,rfl,_,rfl,rfl,?_⟩
   rw [← awk_eq hl] at k
   exact k
abbrev zdl:Stmt:=top 53
theorem scanswering:FnScope ["rows","address","words","number","row"] ["rows","address","words"] (zah zdl):=sck rfl rfl rfl (by decide +kernel)
theorem zhp {f:Addr}{fd:FuncData}(F:Fun K "answering" "answering" zdl f fd)(T:Blt mg)(Gmeets:Cal P w K mg base 1 "meets" ["row","address"] spMeet)(Gis_awake:Cal P w K mg base 1 "is_awake" ["row","words"] spAwake):FnOk P w K mg base CX0 2 f fd ["rows","address","words"] spAnsw:=by
 refine F.ok scanswering (by walk_at "l") (fun cdv A outer s H vs Q E hr h=>?_)
 ·obtain ⟨p,d,x,ws,keys,g,rfl,hp,hws,ed,k⟩:=h
  refine ⟨_,(zab (za4 PassesOwn.never rfl (zd0 rfl T.enumerate (zaa (pv 0) zac)) (zba rfl (zan (pg_L 3 scanswering.nd) (zan (pg_L 4 scanswering.nd) zaM)))
   (zaf (zax (PW.pt (zf9 (zaC (pe_c Gmeets (zaa (pv 4) (zaa (pv 1) zac)))) (zex (zaC (pe_c Gis_awake (zaa (pv 4) (zaa (pv 2) zac))))))) (zaf (zap (pv 3))) zaq)))
   (zaf (zap zcz))),?rd⟩
  refine ⟨_,rfl,p,rfl,⟨_,SqT.of hp⟩,?_⟩
  refine zc9 (K:=K) (a:=p) (xs:=refs ws) (fun i σ X=>∃ (v3 v4:Option V),σ=[some (.ref p),some (.int (x:Int)),some (.ref d),v3,v4]∧(∀ (j:Nat) (q:Rw),j<i→(ws.map (·.2))[j]? = some q→ans q x (wrd keys g)=false)∧Same H X) ⟨_,_,rfl,(fun j q hj=>absurd hj (XbF _)),Same.refl _⟩ (fun i σ X hi ⟨_,_,_,_,s⟩=>SqT.of (s _ _ hp)) ?_ ?_
  ·rintro i y U σ X hy hU ⟨v3,v4,rfl,hb,sX⟩
   obtain ⟨z,hz,rfl⟩:=zbf hy
   have sU:=sX.trans (zag (o:=.tup [.int (i:Int),.ref z.1]) hU)
   have rwz:=(hws z (Xas hz)).same sU
   have hzi:(ws.map (·.2))[i]? = some z.2:=by rw [Xaq,hz];rfl
   have next:ans z.2 x (wrd keys g)=false→∃ (v3 v4:Option V),[some (.ref p),some (.int (x:Int)),some (.ref d),some (.int (i:Int)),some (.ref z.1)]=[some (.ref p),some (.int (x:Int)),some (.ref d),v3,v4]∧(∀ (j:Nat) (q:Rw),j<i+1→(ws.map (·.2))[j]? = some q→ans q x (wrd keys g)=false)∧Same H (upd X U (.tup [.int (i:Int),.ref z.1])):=fun hn=>⟨_,_,rfl,fun j q hj hq=>by
    rcases (show j<i∨j=i by omega) with e | e
    ·exact hb j q e hq
    ·rw [e,hzi] at hq;cases hq;exact hn,sU⟩
   refine zeW ?_
   refine ⟨_,rfl,_,rfl,z.1,z.2,x,rfl,rwz,_,rfl,ite2 (fun h1=>?_) (fun h1=>?_)⟩
   ·refine ⟨_,rfl,_,rfl,z.1,d,z.2,keys,g,rfl,rwz,sU _ _ ed,_,rfl,ite2 (fun h2=>?_) (fun h2=>?_)⟩
    ·refine ⟨_,rfl,?_⟩
     have:=k _ sU
     rw [zgx hzi (by unfold ans;rw [h1,h2];rfl) hb] at this
     exact this
    ·exact next (by unfold ans;rw [Bool.eq_false_iff.mpr h2,XbB])
   ·exact iteF (next (by unfold ans;rw [Bool.eq_false_iff.mpr h1,Bool.false_and]))
  ·rintro σ X ⟨v3,v4,rfl,hb,sX⟩
   have:=k X sX
   rw [zas] at hb
   rw [zka (fun r hr'=>by
    obtain ⟨j,hj⟩:=XbG.mp hr'
    exact hb j r (by have:=(Xaf.mp hj).1;rw [Xal] at this;exact this) hj)] at this
   exact this
abbrev zcd:Stmt:=top 54
theorem scholes_among:FnScope ["rows","start","size","met","row","mask","want"] ["rows","start","size"] (zah zcd):=sck rfl rfl rfl (by decide +kernel)
theorem zfG {f:Addr}{fd:FuncData}(F:Fun K "holes_among" "holes_among" zcd f fd)(T:Blt mg)(Gones_of:Cal P w K mg base 2 "ones_of" ["mask"] spOnes):FnOk P w K mg base CX0 3 f fd ["rows","start","size"] spHoles:=by
 refine F.ok scholes_among (by walk_at "l") (fun cdv A outer s H vs Q E hr h=>?_)
 ·obtain ⟨L,hh,e,m,ws,rfl,he,hm,eL,hws,hdis,k⟩:=h
  refine ⟨_,(zab (ps_L 3 scholes_among.nd zae)
   (zab (za4 PassesOwn.never rfl (zby (pv 0)) (pg_L 4 scholes_among.nd)
   (zab (zbj (zbg (zfw (K:=K) rfl) (pv 4) zcR (za9 zae)) (zba rfl (zan (pg_L 5 scholes_among.nd) (zan (pg_L 6 scholes_among.nd) zaM))))
   (zaf (zax (zat zhj (zaj zaP (zaj zh5 (pv 1) (pv 6)) (pv 5)) (pv 2) (zav _)) (zaf (zez (i:=3) scholes_among.nd rfl (Or.inl rfl) (zaj zjG (pv 2) (pe_c Gones_of (zaa (zaj zaP (pv 5) (zaj zbC (pv 2) zae)) zac))) zdC)) zaq))))
   (zaf (zap (zaj zbC (pv 2) (pv 3)))))),?rd⟩
  have hp:0<2 ^ e:=Nat.pow_pos (by decide)
  have hp16:2 ^ e≤65536:=XaB (n:=2) (by decide) he
  refine ⟨_,rfl,L,rfl,⟨_,SqL.of eL⟩,?_⟩
  refine zcx (K:=K) (a:=L) (xs:=refs ws) (fun i σ X=>∃ (v4 v5 v6:Option V),σ=[some (.ref L),some (.int ((2 ^ e * hh:Nat):Int)),some (.int ((2 ^ e:Nat):Int)),some (.int ((((ws.map (·.2)).take i).map fun r=>cnt r (2 ^ e * hh) (2 ^ e)).sum:Nat)),v4,v5,v6]∧Same H X) ⟨_,_,_,rfl,Same.refl _⟩ (fun i σ X hi ⟨_,_,_,_,s⟩=>SqL.of (s _ _ eL)) ?_ ?_
  ·rintro i x σ X hx ⟨v4,v5,v6,rfl,sX⟩
   obtain ⟨z,hz,rfl⟩:=zbf hx
   obtain ⟨rwz,okz⟩:=hws z (Xas hz)
   obtain ⟨lt,ez,hlt⟩:=rwz.same sX
   have hzi:(ws.map (·.2))[i]? = some z.2:=by rw [Xaq,hz];rfl
   have tk:(((ws.map (·.2)).take (i+1)).map fun r=>cnt r (2 ^ e * hh) (2 ^ e)).sum=(((ws.map (·.2)).take i).map fun r=>cnt r (2 ^ e * hh) (2 ^ e)).sum+cnt z.2 (2 ^ e * hh) (2 ^ e):=by
    rw [Xbk,hzi,XaI,List.sum_append];simp
   have hblk:=zm5 okz hh e
   have htest:=zlI okz hh e
   
   refine ⟨_,rfl,_,rfl,z.1,_,rfl,SqT.of ez,fun y=>absurd (show (2:Nat)=5 from congrArg List.length y) (by decide),fun u hu=>⟨u,_,rfl,SqT.of zad,rfl,_,_,rfl,_,_,rfl,rfl,?_⟩⟩
   have sU:=sX.trans (zag (o:=.tup [V.int (z.2.m:Int),V.int (z.2.w:Int)]) hu)
   refine ⟨_,rfl,_,rfl,_,_,rfl,rfl,_,rfl,_,_,rfl,rfl,_,rfl,_,_,rfl,rfl,_,rfl,?_⟩
   have ev:Builtin.bitAnd (Builtin.bitXor ((2 ^ e * hh:Nat):Int) (z.2.w:Int)) (z.2.m:Int)=(((2 ^ e * hh ^^^ z.2.w) &&& z.2.m:Nat):Int):=by rw [bxor,band]
   have et:decide (Builtin.bitAnd (Builtin.bitXor ((2 ^ e * hh:Nat):Int) (z.2.w:Int)) (z.2.m:Int)<((2 ^ e:Nat):Int))=decide (hh &&& z.2.m / 2 ^ e=z.2.w / 2 ^ e):=by
    rw [ev,Xbc,← htest];omega
   refine ite2 (fun h1=>?_) (fun h1=>?_)
   ·have c:hh &&& z.2.m / 2 ^ e=z.2.w / 2 ^ e:=XaD (et ▸ h1)
    rw [if_pos c] at hblk
    have hmm:z.2.m % 2 ^ e<2 ^ e:=Xbm _ hp
    have hon:=zb5 e (z.2.m % 2 ^ e) hmm
    have e1:Builtin.bitAnd (z.2.m:Int) (((2 ^ e:Nat):Int) - 1)=((z.2.m % 2 ^ e:Nat):Int):=by
     rw [show ((2 ^ e:Nat):Int) - 1=((2 ^ e - 1:Nat):Int) by omega,band,Xby]
    refine ⟨_,rfl,_,rfl,_,rfl,_,rfl,_,_,rfl,rfl,_,_,rfl,rfl,z.2.m % 2 ^ e,congrArg (fun z=>[V.int z]) e1,by omega,fun X2 s2=>?_⟩
    refine ⟨_,_,rfl,rfl,by omega,_,_,rfl,rfl,some (.ref z.1),some (.int (z.2.m:Int)),some (.int (z.2.w:Int)),?_,sU.trans s2⟩
    have e2:((2 ^ e:Nat):Int) / 2 ^ ((ones (z.2.m % 2 ^ e):Nat):Int).toNat=((2 ^ (e - ones (z.2.m % 2 ^ e)):Nat):Int):=by
     rw [Xag,show (2:Int) ^ ones (z.2.m % 2 ^ e)=((2 ^ ones (z.2.m % 2 ^ e):Nat):Int) by norm_cast,← Int.natCast_ediv,Nat.pow_div hon (by decide)]
    show List.set (List.set (List.set _ _ _) _ _) _ _=_
    simp only [List.set]
    rw [e2,tk,hblk]
    norm_cast
   ·have c:¬ hh &&& z.2.m / 2 ^ e=z.2.w / 2 ^ e:=fun y=>h1 (et ▸ Xah y)
    rw [if_neg c] at hblk
    refine ⟨some (.ref z.1),some (.int (z.2.m:Int)),some (.int (z.2.w:Int)),?_,sU⟩
    rw [tk,hblk,Nat.add_zero]
    rfl
  ·rintro σ X ⟨v4,v5,v6,rfl,sX⟩
   rw [zas,XaH (by rw [Xal];exact Xae _)]
   refine ⟨_,rfl,_,rfl,_,_,rfl,rfl,?_⟩
   have:=zj2 (s:=2 ^ e * hh) (n:=2 ^ e) hdis
   have ee:((2 ^ e:Nat):Int) - (((ws.map (·.2)).map fun r=>cnt r (2 ^ e * hh) (2 ^ e)).sum:Nat)=((hol (ws.map (·.2)) (2 ^ e * hh) (2 ^ e):Nat):Int):=by omega
   have kk:=k X sX
   rw [← ee] at kk
   exact kk
abbrev zcB:Stmt:=top 55
theorem zf3:FnScope ["bits","rows","words"] ["bits","rows","words"] (zah zcB):=sck rfl rfl rfl (by decide +kernel)
theorem zge {f:Addr}{fd:FuncData}(F:Fun K "unanswered" "unanswered" zcB f fd)(T:Blt mg)(Gis_awake:Cal P w K mg base 1 "is_awake" ["row","words"] spAwake)(Gsize_of:Cal P w K mg base 1 "size_of" ["bits"] spSize)(Gholes_among:Cal P w K mg base 3 "holes_among" ["rows","start","size"] spHoles):FnOk P w K mg base CX0 4 f fd ["bits","rows","words"] spUnansw:=by
 refine F.ok zf3 (by walk_at "l") (fun cdv A outer s H vs Q E hr h=>?_)
 ·obtain ⟨p,d,m,ws,keys,g,rfl,hm,hp,hl,hws,hnc,ed,k⟩:=h
  refine' ⟨_,(zaf (zap (pe_c Gholes_among (zaa ?c1 (zaa zae (zaa (pe_c Gsize_of (zaa (pv 0) zac)) zac)))))),?rd⟩
  (case c1=>exact (zb3 (Nc:=["row","words"]) [none,some 2] rfl (zaK (by rfl)) (zhZ (pv 1)) (fun _ _ _ _ _=>(pg_L 0 (show (["row","words"]:List Str).Nodup by decide +kernel))) (fun _ _ _ _ _=>(zeA (zaC (pe_c Gis_awake (zaa (pv 0) (zaa (pv 1) zac)))))) (fun _ _ _ _ _=>(pv 0))))
  refine ⟨_,rfl,p,rfl,⟨_,SqT.of hp⟩,?_⟩
  refine zfS (K:=K) (a:=p) (xs:=refs ws) (fun i ys σ X=>∃ v0:Option V,σ=[v0,some (.ref d)]∧ys=refs ((ws.take i).filter fun z=>awk z.2 (wrd keys g))∧X=H) (by rw [zas];exact Xam hl (by decide)) ⟨none,rfl,rfl,rfl⟩ ?_ ?_ ?_
  ·rintro i ys σ X hi ⟨v0,_,rfl,rfl⟩
   exact ⟨SqT.of hp,by rw [zas];exact Xam (XbH _ _) (by rw [XaM];omega)⟩
  ·rintro i x ys σ X hx ⟨v0,rfl,rfl,rfl⟩
   obtain ⟨z,hz,rfl⟩:=zbf hx
   have rwz:=(hws z (Xas hz)).1
   have tk:(ws.take (i+1)).filter (fun z=>awk z.2 (wrd keys g))=(ws.take i).filter (fun z=>awk z.2 (wrd keys g)) ++ (if awk z.2 (wrd keys g)=true then [z] else []):=by
    rw [Xbk,hz,List.filter_append]
    congr 1
    by_cases e:awk z.2 (wrd keys g)=true
    ·rw [if_pos e];simp [e]
    ·rw [if_neg e];simp [e]
   refine ⟨_,rfl,_,rfl,z.1,d,z.2,keys,g,rfl,rwz,ed,_,rfl,ite2 (fun h1=>?_) (fun h1=>?_)⟩
   ·exact ⟨_,rfl,_,rfl,by rw [tk,if_pos h1,zf8],rfl⟩
   ·exact ⟨_,rfl,by rw [tk,if_neg h1,Xa1],rfl⟩
  rintro ys σ X ⟨v0,_,rfl,rfl⟩ L hL
  rw [zas,XaH (Xae _)]
  have sL:=zag (o:=.lst (refs (ws.filter fun z=>awk z.2 (wrd keys g)))) hL
  refine ⟨_,rfl,m,rfl,hm,?_⟩
  refine ⟨L,0,m,m,ws.filter (fun z=>awk z.2 (wrd keys g)),?_,hm,hm,zad,fun z hz=>(hws.same sL) z (Xa0.mp hz).1,ze1 hnc,fun H' s'=>?_⟩
  ·rw [Xbi]
   exact congrArg (fun z=>[V.ref L,V.int 0,V.int z]) (show (2:Int) ^ m=((2 ^ m:Nat):Int) by norm_cast)
  ·rw [Xbi]
   exact k H' (sL.trans s')
abbrev zcD:Stmt:=top 56
theorem scleast_hole:FnScope ["bits","rows","words","awake","size","start"] ["bits","rows","words"] (zah zcD):=sck rfl rfl rfl (by decide +kernel)
theorem zgg {f:Addr}{fd:FuncData}(F:Fun K "least_hole" "least_hole" zcD f fd)(T:Blt mg)(Gis_awake:Cal P w K mg base 1 "is_awake" ["row","words"] spAwake)(Gsize_of:Cal P w K mg base 1 "size_of" ["bits"] spSize)(Gholes_among:Cal P w K mg base 3 "holes_among" ["rows","start","size"] spHoles):FnOk P w K mg base CX0 4 f fd ["bits","rows","words"] spLeastH:=by
 refine F.ok scleast_hole (by walk_at "l") (fun cdv A outer s H vs Q E hr h=>?_)
 ·obtain ⟨p,d,m,ws,keys,g,rfl,hm,hp,hl,hws,hnc,ed,kn,ky⟩:=h
  refine ⟨_,(zab (zdx (i:=3) (Nc:=["row","words"]) [none,some 2] scleast_hole.nd rfl rfl rfl (zaK (by rfl)) (zhZ (pv 1)) (fun _ _ _ _ _=>(pg_L 0 (show (["row","words"]:List Str).Nodup by decide +kernel))) (fun _ _ _ _ _=>(zeA (zaC (pe_c Gis_awake (zaa (pv 0) (zaa (pv 1) zac)))))) (fun _ _ _ _ _=>(pv 0)))
   (zab (ps_L 4 scleast_hole.nd (pe_c Gsize_of (zaa (pv 0) zac)))
   (zab (zax (zat zbk (pe_c Gholes_among (zaa (pv 3) (zaa zae (zaa (pv 4) zac)))) zae (zav _)) (zaf (zap zcz)) zaq)
   (zab (ps_L 5 scleast_hole.nd zae)
   (zab (zdZ PassesOwn.never (zat zeD (pv 4) zae (zav _)) (zab (zez (i:=4) scleast_hole.nd rfl (Or.inl rfl) zae zlt)
   (zaf (zax (zat zbk (pe_c Gholes_among (zaa (pv 3) (zaa (pv 5) (zaa (pv 4) zac)))) zae (zav _)) (zaf (zez (i:=5) scleast_hole.nd rfl (Or.inl rfl) (pv 4) zdC)) zaq))))
   (zaf (zap (pv 5)))))))),?rd⟩
  refine ⟨_,rfl,p,rfl,⟨_,SqT.of hp⟩,?_⟩
  refine zfS (K:=K) (a:=p) (xs:=refs ws) (fun i ys σ X=>∃ v0:Option V,σ=[v0,some (.ref d)]∧ys=refs ((ws.take i).filter fun z=>awk z.2 (wrd keys g))∧X=H) (by rw [zas];exact Xam hl (by decide)) ⟨none,rfl,rfl,rfl⟩ ?_ ?_ ?_
  ·rintro i ys σ X hi ⟨v0,_,rfl,rfl⟩
   exact ⟨SqT.of hp,by rw [zas];exact Xam (XbH _ _) (by rw [XaM];omega)⟩
  ·rintro i x ys σ X hx ⟨v0,rfl,rfl,rfl⟩
   obtain ⟨z,hz,rfl⟩:=zbf hx
   have rwz:=(hws z (Xas hz)).1
   have tk:(ws.take (i+1)).filter (fun z=>awk z.2 (wrd keys g))=(ws.take i).filter (fun z=>awk z.2 (wrd keys g)) ++ (if awk z.2 (wrd keys g)=true then [z] else []):=by
    rw [Xbk,hz,List.filter_append]
    congr 1
    by_cases e:awk z.2 (wrd keys g)=true
    ·rw [if_pos e];simp [e]
    ·rw [if_neg e];simp [e]
   refine ⟨_,rfl,_,rfl,z.1,d,z.2,keys,g,rfl,rwz,ed,_,rfl,ite2 (fun h1=>?_) (fun h1=>?_)⟩
   ·exact ⟨_,rfl,_,rfl,by rw [tk,if_pos h1,zf8],rfl⟩
   ·exact ⟨_,rfl,by rw [tk,if_neg h1,Xa1],rfl⟩
  rintro ys σ X ⟨v0,_,rfl,rfl⟩ L hL
  rw [zas,XaH (Xae _)]
  have hdis:=ze1 (W:=wrd keys g) hnc
  have rws:RwsAt2 m X (ws.filter fun z=>awk z.2 (wrd keys g)):=fun z hz=>hws z (Xa0.mp hz).1
  change Dis (awks ws (wrd keys g)) at hdis
  have eaw:(ws.filter fun z=>awk z.2 (wrd keys g)).map (·.2)=awks ws (wrd keys g):=rfl
  generalize ws.filter (fun z=>awk z.2 (wrd keys g))=us at rws eaw
  generalize awks ws (wrd keys g)=rs at hdis kn ky eaw
  have sL:=zag (o:=.lst (refs us)) hL
  refine ⟨_,rfl,m,rfl,hm,?_⟩
  have epow:(2:Int) ^ m=((2 ^ m:Nat):Int):=by norm_cast
  rw [epow]
  refine ⟨_,rfl,_,rfl,L,0,m,m,us,by rw [Xbi];rfl,hm,hm,zad,rws.same sL,by rw [eaw];exact hdis,fun X1 s1=>?_⟩
  rw [eaw,Xbi]
  have s01:=sL.trans s1
  refine ⟨rfl,_,rfl,ite2 (fun h1=>?_) (fun h1=>?_)⟩
  ·have z:hol rs 0 (2 ^ m)=0:=by
    have z:V.int (hol rs 0 (2 ^ m):Int)=V.int 0:=XaD h1
    injection z with z;omega
   exact kn z X1 s01
  have hpos:hol rs 0 (2 ^ m)≠0:=fun z=>h1 (by rw [z];rfl)
  try dsimp only [zaT]
  refine zdW (fun σ Y=>∃ (e h:Nat),σ=[some (.int (m:Int)),some (.ref p),some (.ref d),some (.ref L),some (.int ((2 ^ e:Nat):Int)),some (.int ((2 ^ e * h:Nat):Int))]∧e≤m∧2 ^ e * h+2 ^ e≤2 ^ m∧hol rs (2 ^ e * h) (2 ^ e)≠0∧hol rs 0 (2 ^ e * h)=0∧Same X1 Y) (fun σ _=>match σ with | [_,_,_,_,some (.int i),_]=>i.toNat | _=>0)
   ⟨m,0,by rw [Xbi];rfl,Xae _,by omega,by rw [Xbi];exact hpos,by rw [Xbi];rfl,Same.refl _⟩ ?_ ?_
  ·rintro σ Y ⟨e,h,rfl,hem,hle,hn0,hz0,sY⟩
   refine ⟨_,rfl,_,_,rfl,rfl,_,rfl,ite2 (fun h2=>?_) (fun h2=>?_)⟩
   ·have he:1<2 ^ e:=by have z:(1:Int)<((2 ^ e:Nat):Int):=XaD h2;omega
    obtain ⟨e',rfl⟩:∃ e',e=e'+1:=by
     cases e with
     | zero=>simp at he
     | succ e'=>exact ⟨e',rfl⟩
    have ep:2 ^ (e'+1)=2 * 2 ^ e':=by rw [XaE];omega
    have ehalf:((2 ^ (e'+1):Nat):Int) / 2=((2 ^ e':Nat):Int):=by rw [ep];omega
    have emul:2 ^ (e'+1) * h=2 ^ e' * (2 * h):=by rw [ep,Xa4 2 (2 ^ e'),Nat.mul_assoc]
    have emul2:2 ^ e' * (2 * h)+2 ^ e'=2 ^ e' * (2 * h+1):=by rw [Nat.mul_add,Nat.mul_one]
    refine ⟨_,rfl,_,_,rfl,rfl,⟨by decide,by decide⟩,?_⟩
    first | rw [show V.int (((2 ^ (e'+1):Nat):Int) / 2)=V.int ((2 ^ e':Nat):Int) from congrArg V.int ehalf] | rw [show ((fun (i j:Int)=>V.int (i / j)) ((2 ^ (e'+1):Nat):Int) 2)=V.int ((2 ^ e':Nat):Int) from congrArg V.int ehalf]
    rw [emul] at hle hn0 hz0 ⊢
    have sLY:=s1.trans sY
    refine ⟨_,rfl,_,rfl,_,rfl,L,2 * h,e',m,us,rfl,by omega,hm,sLY _ _ zad,(rws.same sL).same sLY,by rw [eaw];exact hdis,fun Y2 s2=>?_⟩
    rw [eaw]
    have hsp:hol rs (2 ^ e' * (2 * h)) (2 ^ (e'+1))=hol rs (2 ^ e' * (2 * h)) (2 ^ e')+hol rs (2 ^ e' * (2 * h+1)) (2 ^ e'):=by
     rw [ep,show 2 * 2 ^ e'=2 ^ e'+2 ^ e' by omega,zj4,emul2]
    have hlt:2 ^ e'<2 ^ (e'+1):=by rw [ep];omega
    refine ⟨rfl,_,rfl,ite2 (fun h3=>?_) (fun h3=>?_)⟩
    ·have z:hol rs (2 ^ e' * (2 * h)) (2 ^ e')=0:=by
      have z:V.int (hol rs (2 ^ e' * (2 * h)) (2 ^ e'):Int)=V.int 0:=XaD h3
      injection z with z;omega
     refine ⟨_,rfl,_,rfl,_,_,rfl,rfl,⟨e',2 * h+1,?_,by omega,by rw [← emul2];omega,by omega,?_,sY.trans s2⟩,?_⟩
     ·show [_,_,_,_,_,some (V.int (((2 ^ e' * (2 * h):Nat):Int)+((2 ^ e':Nat):Int)))]=_
      rw [← emul2]
      norm_cast
     ·rw [← emul2]
      have:=zj4 rs 0 (2 ^ e' * (2 * h)) (2 ^ e')
      rw [Nat.zero_add] at this
      omega
     ·show ((2 ^ e':Nat):Int).toNat<((2 ^ (e'+1):Nat):Int).toNat
      rw [Xag,Xag];exact hlt
    ·have z:hol rs (2 ^ e' * (2 * h)) (2 ^ e')≠0:=fun z=>h3 (by rw [z];rfl)
     refine ⟨⟨e',2 * h,rfl,by omega,by omega,z,hz0,sY.trans s2⟩,?_⟩
     show ((2 ^ e':Nat):Int).toNat<((2 ^ (e'+1):Nat):Int).toNat
     rw [Xag,Xag];exact hlt
   ·have he:¬ 1<2 ^ e:=fun z=>h2 (Xah (show (1:Int)<((2 ^ e:Nat):Int) by omega))
    obtain rfl:e=0:=by
     cases e with
     | zero=>rfl
     | succ e'=>exact absurd (show 1<2 ^ (e'+1) by have:0<2 ^ e':=Nat.pow_pos (by decide);rw [XaE];omega) he
    rw [show 2 ^ 0=1 from rfl,Nat.one_mul] at *
    have hh:zbK rs h=true:=by
     rw [zmV] at hn0
     cases e:zbK rs h with
     | true=>rfl
     | false=>rw [e] at hn0;exact absurd rfl hn0
    exact ⟨_,rfl,ky h (by omega) hh hz0 Y (s01.trans sY)⟩
  ·rintro σ X3 Q1 Q2 hQ ⟨v,hv,i,j,e1,e2,c,e3,h⟩
   exact ⟨v,hv,i,j,e1,e2,c,e3,hQ _ _ h⟩
abbrev zfx:Stmt:=top 25
theorem zjn:FnScope ["thing"] ["thing"] (zah zfx):=sck rfl rfl rfl (by decide +kernel)
theorem zjL {f:Addr}{fd:FuncData}(F:Fun K "is_word" "is_word" zfx f fd)(T:Blt mg)(N:Nums mg)(Gis_number:Cal P w K mg base 1 "is_number" ["thing","last"] spIsNum):FnOk P w K mg base CX0 2 f fd ["thing"] spIsWord:=by
 refine F.ok zjn (by walk_at "l") (fun cdv A outer s H vs Q E hr h=>?_)
 ·obtain ⟨a,rfl,k⟩:=h
  refine ⟨_,(zaf (zap (pe_c Gis_number (zaa (pv 0) (zaa (zbh rfl N.LAST_WORD) zac))))),?rd⟩
  exact ⟨_,rfl,a,255,rfl,k⟩
abbrev zcF:Stmt:=top 26
theorem zf5:FnScope ["word"] ["word"] (zah zcF):=sck rfl rfl rfl (by decide +kernel)
theorem zgh {f:Addr}{fd:FuncData}(F:Fun K "check_word" "check_word" zcF f fd)(T:Blt mg)(Gis_word:Cal P w K mg base 2 "is_word" ["thing"] spIsWord):FnOk P w K mg base CX0 3 f fd ["word"] spChkWord:=by
 refine F.ok zf5 (by walk_at "l") (fun cdv A outer s H vs Q E hr h=>?_)
 ·obtain ⟨a,rfl,h0,h1,k⟩:=h
  refine ⟨_,(zaf (zax (zaO (zaC (pe_c Gis_word (zaa (pv 0) zac)))) (zaf zaR) zaq)),?rd⟩
  refine ⟨_,rfl,a,rfl,_,rfl,zhG ⟨h0,h1⟩ k⟩
abbrev zbQ:Stmt:=zaF (top 30) 0
theorem zeo:FnScope ["self","head","held"] ["self","head","held"] (zah zbQ):=sck rfl rfl rfl (by decide +kernel)
theorem zeJ {f:Addr}{fd:FuncData}(F:Fun K "__init__" "Chip.__init__" zbQ f fd)(T:Blt mg):FnOk P w K mg base CX0 1 f fd ["self","head","held"] (spInit K):=by
 refine F.ok zeo (by walk_at "l") (fun cdv A outer s H vs Q E hr h=>?_)
 ·obtain ⟨a,C,dx,p,hd,rfl,ha,c,k⟩:=h
  refine ⟨_,(zab (zch (pv 0) (pv 1) rfl)
   (zaf (zch (pv 0) (pv 2) rfl))),?rd⟩
  refine ⟨_,rfl,_,rfl,a,C,dx,_,rfl,ha,c.cl,c.head,by show 0<1000;decide,?_⟩
  refine ⟨_,rfl,_,rfl,a,C,dx,_,rfl,zad,c.cl,c.held,by show 1<1000;decide,?_⟩
  exact k _ zad fun b hb=>by rw [zai hb,zai hb]
abbrev zcG:Stmt:=top 20
theorem scby_figures:FnScope ["number","many","text","place"] ["number","many"] (zah zcG):=sck rfl rfl rfl (by decide +kernel)
def FIG:Str := "0123456789abcdef"
def figc (k:Nat):Nat:=(FIG.cps.toList[k]?).getD 0
def fig2 (n:Nat):Str:=(⟨#[figc (n / 16)]⟩:Str) ++ (⟨#[figc (n % 16)]⟩:Str)
def phead (r:Nat):Str:=Str.empty ++ ("pipe " : Str) ++ fig2 r
theorem zl7 {k:Nat}(h:k<16):atI FIG.cps.toList (k:Int)=some (figc k):=by
 have e:FIG.cps.toList.length=16:=by decide
 refine zaA ?_
 unfold figc
 rw [Xaw (by omega)]
 rfl
structure ObP (C:Addr)(H:Hp)(a p:Addr)(r:Nat)(ws:List Nat):Prop where
 ex:∃ dx,H a=some (.ins C dx [("head",.str (phead r)),("held",.ref p),("room",.int (r:Int))])
 ls:H p=some (.lst (vN ws))
theorem ObP.ob {C:Addr}{H:Hp}{a p:Addr}{r:Nat}{ws:List Nat}(o:ObP C H a p r ws):Ob C H a p (vN ws) [("room",.int (r:Int))]:=by
 obtain ⟨⟨dx,e⟩,l⟩:=o
 exact ⟨⟨dx,_,e⟩,l,.inr ⟨_,rfl⟩⟩
def two (_:List V):Nat:=2
inductive sp2fig (vs:List V)(H:Hp)(Q:VK)(u3_:XK):Prop
 | mk (n:Nat) (z0_:vs=[.int (n:Int)]) (z1_:n≤255) (z2_:Q (.str (fig2 n)) H)
inductive spMkP (C:Addr)(vs:List V)(H:Hp)(Q:VK)(u3_:XK):Prop
 | mk (a:_) (dx:_) (r:Nat) (z0_:vs=[.ref a,.int (r:Int)]) (z1_:1≤r) (z2_:r≤255) (z3_:H a=some (.ins C dx [])) (z4_:∀ (p:Addr) (H':Hp),H p=none→ObP C H' a p r []→zlN a H H'→Q .non H')
inductive spPLook (C:Addr)(vs:List V)(H:Hp)(Q:VK)(u3_:XK):Prop
 | mk (a:_) (p:_) (r:Nat) (ws:List Nat) (c:Int) (z0_:vs=[.ref a,.int c]) (z1_:ObP C H a p r ws) (z2_:((c=0∧Q (.int ((ws.headD 0:Nat):Int)) H)∨(c=1∧Q (.int (ws.length:Int)) H)))
inductive spPRead (C:Addr)(vs:List V)(H:Hp)(Q:VK)(u3_:XK):Prop
 | mk (a:_) (p:_) (r:Nat) (ws:List Nat) (c:Int) (z0_:vs=[.ref a,.int c]) (z1_:ObP C H a p r ws) (z2_:((c=0∧Q (.int ((ws.headD 0:Nat):Int)) (upd H p (.lst (vN (ws.drop 1)))))∨(c=1∧Q (.int (ws.length:Int)) H)))
inductive spPWrite (C:Addr)(vs:List V)(H:Hp)(Q:VK)(u3_:XK):Prop
 | mk (a:_) (p:_) (r:Nat) (ws:List Nat) (c:Int) (v:Nat) (z0_:vs=[.ref a,.int c,.int (v:Int)]) (z1_:ObP C H a p r ws) (z2_:v≤255) (z3_:ws.length≤1000) (z4_:((c=0∧((ws.length<r∧Q .non (upd H p (.lst (vN (ws ++ [v])))))∨(¬ ws.length<r∧Q .non H)))∨(c=1∧Q .non (upd H p (.lst (vN []))))))
inductive spByFig (vs:List V)(H:Hp)(Q:VK)(u3_:XK):Prop
 | mk (n:Nat) (z0_:vs=[.int (n:Int),.int 2]) (z1_:n≤255) (z2_:Q (.str (fig2 n)) H)
def figs (n:Nat):Nat→Str
 | 0=>("" : Str)
 | 1=>(⟨#[figc (n % 16)]⟩:Str) ++ ("" : Str)
 | _=>(⟨#[figc (n / 16)]⟩:Str) ++ ((⟨#[figc (n % 16)]⟩:Str) ++ ("" : Str))
theorem and15 (n:Nat):n &&& 15=n % 16:=Xby n 4
theorem zgi {f:Addr}{fd:FuncData}(F:Fun K "by_figures" "by_figures" zcG f fd)(T:Blt mg)(N:Nums mg):FnOk P w K mg base CX0 1 f fd ["number","many"] spByFig:=by
 refine F.ok scby_figures (by walk_at "l") (fun cdv A outer s H vs Q E hr h=>?_)
 ·obtain ⟨n,rfl,hn,k⟩:=h
  refine ⟨_,(zab (ps_L 2 scby_figures.nd za1)
   (zab (za4 PassesOwn.never rfl (zaU rfl T.range (zaa (pv 1) zac)) (pg_L 3 scby_figures.nd)
   (zaf (ps_L 2 scby_figures.nd (zaj ziC (pe_x ix_str (zh1 rfl N.SIXTEEN) (zaj zaP (zaj zjG (pv 0) (zaj zck zae (pv 3))) zae)) (pv 2)))))
   (zaf (zap (pv 2))))),?rd⟩
  refine ⟨_,rfl,2,rfl,by decide,by decide,?_⟩
  refine zbb (n:=2) (fun i σ H2=>∃ v3,σ=[some (.int (n:Int)),some (.int 2),some (.str (figs n i)),v3]∧H2=H) ⟨none,rfl,rfl⟩ ?_ ?_
  ·rintro i σ H2 hi ⟨v3,rfl,rfl⟩
   rcases (show i=0∨i=1 by omega) with rfl | rfl
   ·refine ⟨_,rfl,_,rfl,_,_,rfl,rfl,zc5 (by decide) (by decide),_,_,rfl,rfl,(show (0:Int)≤4 * (0+((0:Nat):Int)) by decide),_,_,rfl,rfl,FIG,((n % 16:Nat):Int),_,rfl,congrArg V.int ?_,by decide,zl7 (by omega),?_⟩
    ·show Builtin.bitAnd ((n:Int) / 1) ((15:Nat):Int)=_
     rw [Int.ediv_one,band,and15]
    ·exact ⟨_,rfl,_,_,rfl,rfl,by show 1+0≤sizeLine;decide,⟨_,rfl,rfl⟩⟩
   ·refine ⟨_,rfl,_,rfl,_,_,rfl,rfl,zc5 (by decide) (by decide),_,_,rfl,rfl,(show (0:Int)≤4 * (0+((1:Nat):Int)) by decide),_,_,rfl,rfl,FIG,((n / 16:Nat):Int),_,rfl,congrArg V.int ?_,by decide,zl7 (by omega),?_⟩
    ·have e:(n:Int) / 2 ^ (4 * (0+((1:Nat):Int))).toNat=((n / 16:Nat):Int):=by
      show (n:Int) / 16=_
      omega
     show Builtin.bitAnd ((n:Int) / 2 ^ (4 * (0+((1:Nat):Int))).toNat) ((15:Nat):Int)=_
     rw [e,band,and15,XaQ (by omega)]
    ·exact ⟨_,rfl,_,_,rfl,rfl,by show 1+1≤sizeLine;decide,⟨_,rfl,rfl⟩⟩
  ·rintro σ H2 ⟨v3,rfl,rfl⟩
   exact ⟨_,rfl,k⟩
abbrev zca:Stmt:=top 21
theorem zfz:FnScope ["word"] ["word"] (zah zca):=sck rfl rfl rfl (by decide +kernel)
theorem zfE {f:Addr}{fd:FuncData}(F:Fun K "two_figures" "two_figures" zca f fd)(T:Blt mg)(Gby_figures:Cal P w K mg base 1 "by_figures" ["number","many"] spByFig):FnOk P w K mg base CX0 2 f fd ["word"] sp2fig:=by
 refine F.ok zfz (by walk_at "l") (fun cdv A outer s H vs Q E hr h=>?_)
 ·obtain ⟨n,rfl,hn,k⟩:=h
  refine ⟨_,(zaf (zap (pe_c Gby_figures (zaa (pv 0) (zaa zae zac))))),?rd⟩
  exact ⟨_,rfl,n,rfl,hn,k⟩
def zkE (C:Addr)(H:Hp)(a:Addr)(ws:List V)(hd:Str)(Q:VK):Prop:=∀ (p:Addr) (H':Hp),H p=none→(∃ dx,H' a=some (.ins C dx [("head",.str hd),("held",.ref p)]))→H' p=some (.lst ws)→zlN a H H'→Q .non H'
inductive spMk1H (C:Addr)(hd:Str)(vs:List V)(H:Hp)(Q:VK)(u3_:XK):Prop
 | mk (a:_) (dx:_) (v:Int) (z0_:vs=[.ref a,.int v]) (z1_:0≤v) (z2_:v≤255) (z3_:H a=some (.ins C dx [])) (z4_:zkE C H a [.int v] hd Q)
inductive spMkSH (C:Addr)(vs:List V)(H:Hp)(Q:VK)(u3_:XK):Prop
 | mk (a:_) (dx:_) (n:Nat) (v:Int) (z0_:vs=[.ref a,.int (n:Int),.int v]) (z1_:1≤n) (z2_:n≤4096) (z3_:0≤v) (z4_:v≤255) (z5_:H a=some (.ins C dx [])) (z6_:zkE C H a (List.replicate n (.int v)) "store" Q)
inductive spMkFH (C:Addr)(vs:List V)(H:Hp)(Q:VK)(u3_:XK):Prop
 | mk (a:_) (dx:_) (l:_) (ws:List Nat) (z0_:vs=[.ref a,.ref l]) (z1_:H l=some (.lst (vN ws))) (z2_:1≤ws.length) (z3_:ws.length≤4096) (z4_:(∀ w∈ws,w≤255)) (z5_:H a=some (.ins C dx [])) (z6_:zkE C H a (vN ws) "fixed" Q)
def zbE:Nat→Str
 | 0 => "store"
 | 1 => "fixed"
 | 2 => "latch"
 | 3 => "meter"
 | _ => "pipe"
def khead (kd n:Nat):Str:=if kd=4 then phead n else zbE kd
def kext (kd n:Nat):List (Str×V):=if kd=4 then [("room",.int (n:Int))] else []
def ksize (kd:Nat)(ws:List Nat):Nat:=if kd=4 then 2 else ws.length
def kwr (kd n:Nat)(ws:List Nat)(c v:Nat):List Nat:=if kd=4 then (if c=1 then [] else if ws.length<n then ws ++ [v] else ws) else if kd=1 then ws else ws.set c v
def krd (kd:Nat)(ws:List Nat)(c:Nat):List Nat:=if kd=3 then [(ws.headD 0+1) % 256] else if kd=4∧c=0 then ws.drop 1 else ws
def klk (kd:Nat)(ws:List Nat)(c:Nat):Nat:=if kd=4 then (if c=1 then ws.length else ws.headD 0) else ws.getD c 0
structure Kd (kd n:Nat)(ws:List Nat):Prop where
 k5:kd<5
 w5:∀ v∈ws,v≤255
 ln:ws.length≤4096
 l1:kd≠4→1≤ws.length
 l3:kd=3→ws.length=1
 pi:kd=4→ws.length≤n∧1≤n
 n2:n≤255
set_option tactic.hygienic true in
theorem Kd.wr {kd n c v:Nat}{ws:List Nat}(k:Kd kd n ws)(hv:v≤255):Kd kd n (kwr kd n ws c v):=by
 unfold kwr
 split
 ·rename_i e
  split
  ·exact ⟨k.k5,fun _ h=>(nomatch h),Nat.zero_le _,fun h=>absurd e h,fun h=>by omega,fun h=>⟨Nat.zero_le _,(k.pi h).2⟩,k.n2⟩
  ·split
   ·refine ⟨k.k5,zlM k.w5 hv,?_,fun h=>absurd e h,fun h=>by omega,fun h=>⟨?_,(k.pi h).2⟩,k.n2⟩
    ·rw [Xay];have:=k.n2;show ws.length+1≤4096;omega
    ·rw [Xay];show ws.length+1≤n;omega
   ·exact k
 ·split
  ·exact k
  ·refine ⟨k.k5,fun b hb=>?_,by rw [XbY];exact k.ln,fun h=>by rw [XbY];exact k.l1 h,fun h=>by rw [XbY];exact k.l3 h,fun h=>by rw [XbY];exact k.pi h,k.n2⟩
   rcases List.mem_or_eq_of_mem_set hb with z | z
   ·exact k.w5 b z
   ·rw [z];exact hv
set_option tactic.hygienic true in
theorem Kd.rd {kd n c:Nat}{ws:List Nat}(k:Kd kd n ws):Kd kd n (krd kd ws c):=by
 unfold krd
 split
 ·rename_i e
  exact ⟨k.k5,fun b hb=>by rw [Xad.mp hb];omega,by show 1≤4096;decide,fun _=>Xae _,fun _=>rfl,fun h=>by omega,k.n2⟩
 ·split
  ·rename_i e
   refine ⟨k.k5,fun b hb=>k.w5 b (Xbx hb),by rw [XaV];have:=k.ln;omega,fun h=>absurd e.1 h,fun h=>by omega,fun h=>⟨by rw [XaV];have:=(k.pi h).1;omega,(k.pi h).2⟩,k.n2⟩
  ·exact k
structure Chp (cs:Nat→Addr)(H:Hp)(x p:Addr)(kd n:Nat)(ws:List Nat):Prop where
 ex:∃ dx,H x=some (.ins (cs kd) dx (("head",.str (khead kd n)) :: ("held",.ref p) :: kext kd n))
 ls:H p=some (.lst (vN ws))
theorem Chp.same {cs:Nat→Addr}{H H':Hp}{x p:Addr}{kd n:Nat}{ws:List Nat}(o:Chp cs H x p kd n ws)(s:Same H H'):Chp cs H' x p kd n ws:=by
 obtain ⟨⟨dx,e⟩,l⟩:=o
 exact ⟨⟨dx,s _ _ e⟩,s _ _ l⟩
theorem zbJ {kd j:Nat}(h:kd<5)(hj:j<5):decide (V.str (zbE kd)=V.str (zbE j))=decide (kd=j):=by
 rcases (show kd=0∨kd=1∨kd=2∨kd=3∨kd=4 by omega) with rfl | rfl | rfl | rfl | rfl <;> rcases (show j=0∨j=1∨j=2∨j=3∨j=4 by omega) with rfl | rfl | rfl | rfl | rfl <;> decide
inductive spW25 (cs:Nat→Addr)(kd:Nat)(vs:List V)(H:Hp)(Q:VK)(u3_:XK):Prop
 | mk (x:_) (p:_) (n c v:Nat) (ws:List Nat) (z0_:vs=[.ref x,.int (c:Int),.int (v:Int)]) (z1_:Chp cs H x p kd n ws) (z2_:Kd kd n ws) (z3_:c<ksize kd ws) (z4_:v≤255) (z5_:∀ H',H' p=some (.lst (vN (kwr kd n ws c v)))→(∀ b,b≠p→H' b=H b)→Q .non H')
def csOf (a b c d e:Addr):Nat→Addr
 | 0=>a
 | 1=>b
 | 2=>c
 | 3=>d
 | _=>e
theorem za3 {P:Program}{w:World}{K:W.Frag}{mg:Str→Option Value}{base:Heap}{k:Nat}{C:Addr}{m:Str}{ks:List Str}{gV:List V→List V→List V}{sp sp':Sp}(M:Mth P w K mg base k C m ks gV sp)(h:∀ vs H Q E,sp' vs H Q E→sp vs H Q E):Mth P w K mg base k C m ks gV sp':=by
 obtain ⟨c,f,fd,ps,g,a,F,b⟩:=M
 exact ⟨c,f,fd,ps,g,a,F.imp h,b⟩
theorem zgV {cs:Nat→Addr}{kd:Nat}(hk:kd=0∨kd=2∨kd=3):∀ vs H Q E,spW25 cs kd vs H Q E→spWrite (cs kd) vs H Q E:=by
 rintro vs H Q E ⟨x,p,n,c,v,ws,rfl,o,kk,hc,hv,q⟩
 obtain ⟨dx,e⟩:=o.ex
 have h4:kd≠4:=by omega
 have h1:kd≠1:=by omega
 unfold ksize at hc
 unfold kwr at q
 rw [if_neg h4] at hc
 rw [if_neg h4,if_neg h1] at q
 unfold kext at e
 rw [if_neg h4] at e
 exact ⟨x,p,vN ws,[],c,(v:Int),rfl,⟨⟨dx,_,e⟩,o.ls,.inl rfl⟩,by rw [zal];have:=kk.ln;omega,by rw [zal];exact hc,by omega,by omega,q _ (by rw [← vN_set];exact zad) fun b hb=>zai hb⟩
theorem zmj {cs:Nat→Addr}:∀ vs H Q E,spW25 cs 1 vs H Q E→spFixW (cs 1) vs H Q E:=by
 rintro vs H Q E ⟨x,p,n,c,v,ws,rfl,o,kk,hc,hv,q⟩
 obtain ⟨dx,e⟩:=o.ex
 exact ⟨x,p,vN ws,[],c,(v:Int),rfl,⟨⟨dx,_,e⟩,o.ls,.inl rfl⟩,by rw [zal];have:=kk.ln;omega,by rw [zal];exact hc,by omega,by omega,q _ o.ls fun b hb=>rfl⟩
theorem w_pipe {cs:Nat→Addr}:∀ vs H Q E,spW25 cs 4 vs H Q E→spPWrite (cs 4) vs H Q E:=by
 rintro vs H Q E ⟨x,p,n,c,v,ws,rfl,o,kk,hc,hv,q⟩
 have hl:=(kk.pi rfl).1
 have hn:=kk.n2
 refine ⟨x,p,n,ws,(c:Int),v,rfl,⟨o.ex,o.ls⟩,hv,by omega,?_⟩
 unfold kwr at q
 rw [if_pos rfl] at q
 have hc:c<2:=hc
 rcases (show c=0∨c=1 by omega) with rfl | rfl
 ·refine .inl ⟨rfl,?_⟩
  rw [if_neg (by decide)] at q
  by_cases h:ws.length<n
  ·rw [if_pos h] at q
   exact .inl ⟨h,q _ zad fun b hb=>zai hb⟩
  ·rw [if_neg h] at q
   exact .inr ⟨h,q _ o.ls fun b hb=>rfl⟩
 ·exact .inr ⟨rfl,q _ zad fun b hb=>zai hb⟩
abbrev zb0:Stmt:=zaF (top 30) 1
theorem ze3:FnScope ["self"] ["self"] (zah zb0):=sck rfl rfl rfl (by decide +kernel)
theorem zbi {f C:Addr}{fd:FuncData}(F:Fun K "__len__" "Chip.__len__" zb0 f fd)(T:Blt mg)(c:ClsOk K C):FnOk P w K mg base CX0 1 f fd ["self"] (spLen C List.length):=by
 refine F.ok ze3 (by walk_at "l") (fun cdv A outer s H vs Q E hr h=>?_)
 ·obtain ⟨a,p,ws,ext,rfl,o,k⟩:=h
  refine ⟨_,(zaf (zap (zao zar (by rfl) T.len PySem.boot_len (zaa (za5 (pv 0) rfl) zac)))),?rd⟩
  obtain ⟨⟨dx,hd,e⟩,l,nn⟩:=o
  exact ⟨_,rfl,a,C,dx,_,_,rfl,e,c.cl,c.held,rfl,p,ws,rfl,.inl (SqL.of l),k⟩
abbrev zbo:Stmt:=zaF (top 30) 5
theorem zdk:FnScope ["self","cell"] ["self","cell"] (zah zbo):=sck rfl rfl rfl (by decide +kernel)
theorem zaQ {f C:Addr}{fd:FuncData}(F:Fun K "check_cell" "Chip.check_cell" zbo f fd){L:List V→Nat}(T:Blt mg)(Gis_number:Cal P w K mg base 1 "is_number" ["thing","last"] spIsNum)(M:Mth P w K mg base 1 C "__len__" [] (fun vs _=>vs) (spLen C L)):FnOk P w K mg base CX0 3 f fd ["self","cell"] (spChkC C L):=by
 refine F.ok zdk (by walk_at "l") (fun cdv A outer s H vs Q E hr h=>?_)
 ·obtain ⟨a,p,ws,ext,c,rfl,o,h0,h1,h2,k⟩:=h
  refine ⟨_,(zaf (zax (zaO (zaC (pe_c Gis_number (zaa (pv 1) (zaa (zaj zbC (zjC 1 ⟨rfl,rfl,rfl,rfl,rfl⟩ (hrm hr) rfl T.len (pv 0)) zae) zac))))) (zaf zaR) zaq)),?rd⟩
  have o':=o
  obtain ⟨⟨dx,hd,e⟩,l,nn⟩:=o
  refine ⟨_,rfl,_,rfl,a,C,dx,_,_,_,rfl,e,M,a,p,ws,ext,rfl,o',_,rfl,by omega,by omega,_,_,rfl,rfl,?_⟩
  exact ⟨c,_,rfl,_,rfl,zhG ⟨h0,by omega⟩ k⟩
abbrev zbe:Stmt:=zaF (top 30) 6
theorem zcZ:FnScope ["self","cell","word"] ["self","cell","word"] (zah zbe):=sck rfl rfl rfl (by decide +kernel)
theorem zaJ {f C:Addr}{fd:FuncData}(F:Fun K "check_write" "Chip.check_write" zbe f fd){L:List V→Nat}(T:Blt mg)(Gcheck_word:Cal P w K mg base 3 "check_word" ["word"] spChkWord)(M:Mth P w K mg base 3 C "check_cell" [] (fun vs _=>vs) (spChkC C L)):FnOk P w K mg base CX0 4 f fd ["self","cell","word"] (spChkW C L):=by
 refine F.ok zcZ (by walk_at "l") (fun cdv A outer s H vs Q E hr h=>?_)
 ·obtain ⟨a,p,ws,ext,c,v,rfl,o,h0,h1,h2,h3,h4,k⟩:=h
  refine ⟨_,(zab (zaz (za8 3 ⟨rfl,rfl,rfl,rfl,rfl⟩ (hrm hr) (pv 0) (zaa (pv 1) zac)))
   (zaf (zaz (pe_c Gcheck_word (zaa (pv 2) zac))))),?rd⟩
  have o':=o
  obtain ⟨⟨dx,hd,e⟩,l,nn⟩:=o
  refine ⟨_,rfl,a,C,dx,_,_,_,rfl,e,M,by rcases nn with rfl | ⟨r,rfl⟩ <;> rfl,_,rfl,a,p,ws,ext,c,rfl,o',h0,h1,h2,?_⟩
  exact ⟨_,rfl,v,rfl,h3,h4,k⟩
abbrev zdv:Stmt:=zaF (top 30) 7
theorem zhb:FnScope ["self","cell"] ["self","cell"] (zah zdv):=sck rfl rfl rfl (by decide +kernel)
theorem zb6 {f C:Addr}{fd:FuncData}(F:Fun K "look" "Chip.look" zdv f fd)(T:Blt mg)(c_:ClsOk K C)(M:Mth P w K mg base 3 C "check_cell" [] (fun vs _=>vs) (spChkC C List.length)):FnOk P w K mg base CX0 4 f fd ["self","cell"] (spLook C):=by
 refine F.ok zhb (by walk_at "l") (fun cdv A outer s H vs Q E hr h=>?_)
 ·obtain ⟨a,p,ws,ext,c,x,rfl,o,h0,h1,k⟩:=h
  refine ⟨_,(zab (zaz (za8 3 ⟨rfl,rfl,rfl,rfl,rfl⟩ (hrm hr) (pv 0) (zaa (pv 1) zac)))
   (zaf (zap (pe_x zam (za5 (pv 0) rfl) (pv 1))))),?rd⟩
  have o':=o
  obtain ⟨⟨dx,hd,e⟩,l,nn⟩:=o
  have hc:c<ws.length:=(Xaf.mp h1).1
  refine ⟨_,rfl,a,C,dx,_,_,_,rfl,e,M,by rcases nn with rfl | ⟨r,rfl⟩ <;> rfl,_,rfl,a,p,ws,ext,_,rfl,o',by omega,by omega,h0,?_⟩
  exact ⟨_,rfl,a,C,dx,_,_,rfl,e,c_.cl,c_.held,rfl,_,rfl,p,_,_,_,rfl,rfl,SqL.of l,zaA h1,k⟩
abbrev zdu:Stmt:=zaF (top 30) 8
theorem zha:FnScope ["self","cell"] ["self","cell"] (zah zdu):=sck rfl rfl rfl (by decide +kernel)
theorem zcT {f C:Addr}{fd:FuncData}(F:Fun K "read" "Chip.read" zdu f fd)(T:Blt mg)(M:Mth P w K mg base 4 C "look" [] (fun vs _=>vs) (spLook C)):FnOk P w K mg base CX0 5 f fd ["self","cell"] (spLook C):=by
 refine F.ok zha (by walk_at "l") (fun cdv A outer s H vs Q E hr h=>?_)
 ·obtain ⟨a,p,ws,ext,c,x,rfl,o,h0,h1,k⟩:=h
  refine ⟨_,(zaf (zap (za8 4 ⟨rfl,rfl,rfl,rfl,rfl⟩ (hrm hr) (pv 0) (zaa (pv 1) zac)))),?rd⟩
  have o':=o
  obtain ⟨⟨dx,hd,e⟩,l,nn⟩:=o
  exact ⟨_,rfl,a,C,dx,_,_,_,rfl,e,M,by rcases nn with rfl | ⟨r,rfl⟩ <;> rfl,_,rfl,a,p,ws,ext,c,x,rfl,o',h0,h1,k⟩
abbrev zcO:Stmt:=zaF (top 30) 9
theorem zf7:FnScope ["self","cell","word"] ["self","cell","word"] (zah zcO):=sck rfl rfl rfl (by decide +kernel)
theorem zcl {f C:Addr}{fd:FuncData}(F:Fun K "write" "Chip.write" zcO f fd)(T:Blt mg)(c_:ClsOk K C)(M:Mth P w K mg base 4 C "check_write" [] (fun vs _=>vs) (spChkW C List.length)):FnOk P w K mg base CX0 5 f fd ["self","cell","word"] (spWrite C):=by
 refine F.ok zf7 (by walk_at "l") (fun cdv A outer s H vs Q E hr h=>?_)
 ·obtain ⟨a,p,ws,ext,c,v,rfl,o,h0,h1,h2,h3,k⟩:=h
  refine ⟨_,(zab (zaz (za8 4 ⟨rfl,rfl,rfl,rfl,rfl⟩ (hrm hr) (pv 0) (zaa (pv 1) (zaa (pv 2) zac))))
   (zaf (zbj (pv 2) (zjA (za5 (pv 0) rfl) (pv 1) zfy)))),?rd⟩
  have o':=o
  obtain ⟨⟨dx,hd,e⟩,l,nn⟩:=o
  refine ⟨_,rfl,a,C,dx,_,_,_,rfl,e,M,by rcases nn with rfl | ⟨r,rfl⟩ <;> rfl,_,rfl,_,rfl,a,p,ws,ext,_,v,rfl,o',by omega,by omega,h0,h2,h3,?_⟩
  refine ⟨_,rfl,_,rfl,a,C,dx,_,_,rfl,e,c_.cl,c_.held,rfl,_,rfl,p,_,_,c,rfl,rfl,l,?_,k⟩
  exact zmT h1
abbrev zcg:Stmt:=zaF (top 32) 1
theorem zfB:FnScope ["self","cell","word"] ["self","cell","word"] (zah zcg):=sck rfl rfl rfl (by decide +kernel)
theorem zfI {f C:Addr}{fd:FuncData}(F:Fun K "write" "Fixed.write" zcg f fd)(T:Blt mg)(M:Mth P w K mg base 4 C "check_write" [] (fun vs _=>vs) (spChkW C List.length)):FnOk P w K mg base CX0 5 f fd ["self","cell","word"] (spFixW C):=by
 refine F.ok zfB (by walk_at "l") (fun cdv A outer s H vs Q E hr h=>?_)
 ·obtain ⟨a,p,ws,ext,c,v,rfl,o,h0,h1,h2,h3,k⟩:=h
  refine ⟨_,(zaf (zaz (za8 4 ⟨rfl,rfl,rfl,rfl,rfl⟩ (hrm hr) (pv 0) (zaa (pv 1) (zaa (pv 2) zac))))),?rd⟩
  have o':=o
  obtain ⟨⟨dx,hd,e⟩,l,nn⟩:=o
  exact ⟨_,rfl,a,C,dx,_,_,_,rfl,e,M,by rcases nn with rfl | ⟨r,rfl⟩ <;> rfl,_,rfl,_,rfl,a,p,ws,ext,_,v,rfl,o',by omega,by omega,h0,h2,h3,k⟩
abbrev zcN:Stmt:=zaF (top 34) 1
theorem scMeter_read:FnScope ["self","cell","word"] ["self","cell"] (zah zcN):=sck rfl rfl rfl (by decide +kernel)
theorem zgp {f C:Addr}{fd:FuncData}(F:Fun K "read" "Meter.read" zcN f fd)(T:Blt mg)(N:Nums mg)(c:ClsOk K C)(M:Mth P w K mg base 4 C "look" [] (fun vs _=>vs) (spLook C)):FnOk P w K mg base CX0 5 f fd ["self","cell"] (spMetR C):=by
 refine F.ok scMeter_read (by walk_at "l") (fun cdv A outer s H vs Q E hr h=>?_)
 ·obtain ⟨a,p,ext,v,rfl,o,k⟩:=h
  refine ⟨_,(zab (ps_L 2 scMeter_read.nd (za8 4 ⟨rfl,rfl,rfl,rfl,rfl⟩ (hrm hr) (pv 0) (zaa (pv 1) zac)))
   (zab (zbj (zaj zaD (zaj zaS (pv 2) zae) (zaj zaS (zbh rfl N.LAST_WORD) zae)) (zjA (za5 (pv 0) rfl) (pv 1) zfy))
   (zaf (zap (pv 2))))),?rd⟩
  have o':=o
  obtain ⟨⟨dx,hd,e⟩,l,nn⟩:=o
  refine ⟨_,rfl,a,C,dx,_,_,_,rfl,e,M,by rcases nn with rfl | ⟨r,rfl⟩ <;> rfl,_,rfl,a,p,_,ext,0,_,rfl,o',by show 1≤5000;decide,rfl,?_⟩
  refine ⟨_,rfl,_,_,rfl,rfl,_,_,rfl,rfl,_,_,rfl,rfl,(show (0:Int)<255+1 by decide),?_⟩
  refine ⟨_,rfl,a,C,dx,_,_,rfl,e,c.cl,c.held,rfl,_,rfl,p,_,_,0,rfl,rfl,l,rfl,?_⟩
  exact ⟨_,rfl,k⟩
abbrev zbZ:Stmt:=zaF (top 35) 1
theorem ze2:FnScope ["self"] ["self"] (zah zbZ):=sck rfl rfl rfl (by decide +kernel)
theorem ze6 {f C:Addr}{fd:FuncData}(F:Fun K "__len__" "Pipe.__len__" zbZ f fd)(T:Blt mg)(c:ClsOk K C):FnOk P w K mg base CX0 1 f fd ["self"] (spLen C two):=by
 refine F.ok ze2 (by walk_at "l") (fun cdv A outer s H vs Q E hr h=>?_)
 ·obtain ⟨a,p,ws,ext,rfl,o,k⟩:=h
  refine ⟨_,(zaf (zap zae)),?rd⟩
  exact k
abbrev zdt:Stmt:=zaF (top 35) 2
theorem zg9:FnScope ["self","cell"] ["self","cell"] (zah zdt):=sck rfl rfl rfl (by decide +kernel)
theorem zhw {f C:Addr}{fd:FuncData}(F:Fun K "look" "Pipe.look" zdt f fd)(T:Blt mg)(c:ClsOk K C)(M:Mth P w K mg base 3 C "check_cell" [] (fun vs _=>vs) (spChkC C two)):FnOk P w K mg base CX0 4 f fd ["self","cell"] (spPLook C):=by
 refine F.ok zg9 (by walk_at "l") (fun cdv A outer s H vs Q E hr h=>?_)
 ·obtain ⟨a,p,r,ws,cc,rfl,o,k⟩:=h
  refine ⟨_,(zab (zaz (za8 3 ⟨rfl,rfl,rfl,rfl,rfl⟩ (hrm hr) (pv 0) (zaa (pv 1) zac)))
   (zab (zax (zat zbk (pv 1) zae (zav _)) (zaf (zap (zao zar (by rfl) T.len PySem.boot_len (zaa (za5 (pv 0) rfl) zac)))) zaq)
   (zaf (zap (zh0 (zfD (za5 (pv 0) rfl) (fun _=>rfl)) (pe_x zam (za5 (pv 0) rfl) zae) zae))))),?rd⟩
  have o':=o.ob
  obtain ⟨⟨dx,e⟩,l⟩:=o
  have hc:0≤cc∧cc<2:=by rcases k with ⟨rfl,_⟩ | ⟨rfl,_⟩ <;> decide
  refine ⟨_,rfl,a,C,dx,_,_,_,rfl,e,M,rfl,_,rfl,a,p,_,_,cc,rfl,o',hc.1,by show cc<((2:Nat):Int);omega,by show 2≤5000;decide,?_⟩
  rcases k with ⟨rfl,k⟩ | ⟨rfl,k⟩
  ·refine ⟨_,rfl,rfl,_,rfl,iteF ?_⟩
   refine ⟨_,rfl,a,C,dx,_,_,rfl,e,c.cl,c.held,rfl,?_⟩
   refine ⟨_,.inl ⟨_,SqL.of l,rfl⟩,?_⟩
   cases ws with
   | nil=>exact iteF k
   | cons w0 ws=>exact iteT ⟨_,rfl,a,C,dx,_,_,rfl,e,c.cl,c.held,rfl,p,_,_,_,rfl,rfl,SqL.of l,(zaA (j:=0) rfl:atI (vN (w0 :: ws)) ((0:Nat):Int)=_),k⟩
  ·refine ⟨_,rfl,rfl,_,rfl,iteT ?_⟩
   refine ⟨_,rfl,a,C,dx,_,_,rfl,e,c.cl,c.held,rfl,p,_,rfl,.inl (SqL.of l),?_⟩
   rw [zal];exact k
abbrev zds:Stmt:=zaF (top 35) 3
theorem scPipe_read:FnScope ["self","cell","word"] ["self","cell"] (zah zds):=sck rfl rfl rfl (by decide +kernel)
theorem zhv {f C:Addr}{fd:FuncData}(F:Fun K "read" "Pipe.read" zds f fd)(T:Blt mg)(c:ClsOk K C)(M:Mth P w K mg base 4 C "look" [] (fun vs _=>vs) (spPLook C)):FnOk P w K mg base CX0 5 f fd ["self","cell"] (spPRead C):=by
 refine F.ok scPipe_read (by walk_at "l") (fun cdv A outer s H vs Q E hr h=>?_)
 ·obtain ⟨a,p,r,ws,cc,rfl,o,k⟩:=h
  refine ⟨_,(zab (ps_L 2 scPipe_read.nd (za8 4 ⟨rfl,rfl,rfl,rfl,rfl⟩ (hrm hr) (pv 0) (zaa (pv 1) zac)))
   (zab (zax (zat zbk (pv 1) zae (zav _)) (zaf (zmE (za5 (pv 0) rfl))) zaq)
   (zaf (zap (pv 2))))),?rd⟩
  have o':=o
  obtain ⟨⟨dx,e⟩,l⟩:=o
  rcases k with ⟨rfl,k⟩ | ⟨rfl,k⟩
  ·refine ⟨_,rfl,a,C,dx,_,_,_,rfl,e,M,rfl,_,rfl,a,p,r,ws,0,rfl,o',.inl ⟨rfl,?_⟩⟩
   refine ⟨_,rfl,rfl,_,rfl,iteT ?_⟩
   refine ⟨_,rfl,a,C,dx,_,_,rfl,e,c.cl,c.held,rfl,p,_,rfl,l,?_⟩
   refine ⟨_,rfl,?_⟩
   rw [← zmn] at k
   exact k
  ·refine ⟨_,rfl,a,C,dx,_,_,_,rfl,e,M,rfl,_,rfl,a,p,r,ws,1,rfl,o',.inr ⟨rfl,?_⟩⟩
   exact ⟨_,rfl,rfl,_,rfl,iteF ⟨_,rfl,k⟩⟩
abbrev zcM:Stmt:=zaF (top 35) 4
theorem zf6:FnScope ["self","cell","word"] ["self","cell","word"] (zah zcM):=sck rfl rfl rfl (by decide +kernel)
theorem zgo {f C:Addr}{fd:FuncData}(F:Fun K "write" "Pipe.write" zcM f fd)(T:Blt mg)(c:ClsOk K C)(M:Mth P w K mg base 4 C "check_write" [] (fun vs _=>vs) (spChkW C two)):FnOk P w K mg base CX0 5 f fd ["self","cell","word"] (spPWrite C):=by
 refine F.ok zf6 (by walk_at "l") (fun cdv A outer s H vs Q E hr h=>?_)
 ·obtain ⟨a,p,r,ws,cc,v,rfl,o,hv,hz,k⟩:=h
  refine ⟨_,(zab (zaz (za8 4 ⟨rfl,rfl,rfl,rfl,rfl⟩ (hrm hr) (pv 0) (zaa (pv 1) (zaa (pv 2) zac))))
   (zaf (zax (zat zbk (pv 1) zae (zav _)) (zaf (zaz (zjE PySem.F.plainAttrs_list PySem.F.slot_list_clear PySem.F.type_list_clear zli (za5 (pv 0) rfl)))) (zaf (zax (zat zhj (zao zar (by rfl) T.len PySem.boot_len (zaa (za5 (pv 0) rfl) zac)) (za5 (pv 0) rfl) (zav _)) (zaf (zaz (zdz PySem.F.plainAttrs_list PySem.F.slot_list_append PySem.F.type_list_append zaW (za5 (pv 0) rfl) (zaa (pv 2) zac)))) zaq))))),?rd⟩
  have o':=o.ob
  obtain ⟨⟨dx,e⟩,l⟩:=o
  have hc:0≤cc∧cc<2:=by rcases k with ⟨rfl,_⟩ | ⟨rfl,_⟩ <;> decide
  refine ⟨_,rfl,a,C,dx,_,_,_,rfl,e,M,rfl,_,rfl,_,rfl,a,p,_,_,cc,(v:Int),rfl,o',hc.1,by show cc<((2:Nat):Int);omega,by show 2≤5000;decide,by omega,by omega,?_⟩
  rcases k with ⟨rfl,k⟩ | ⟨rfl,k⟩
  ·refine ⟨_,rfl,rfl,_,rfl,iteF ?_⟩
   refine ⟨_,rfl,a,C,dx,_,_,rfl,e,c.cl,c.held,rfl,p,_,rfl,.inl (SqL.of l),?_⟩
   refine ⟨_,rfl,a,C,dx,_,_,rfl,e,c.cl,c.room,rfl,_,_,rfl,rfl,_,rfl,?_⟩
   rw [zal]
   rcases k with ⟨h1,k⟩ | ⟨h1,k⟩
   ·rw [Xah (show (ws.length:Int)<(r:Int) by omega)]
    refine iteT ?_
    refine ⟨_,rfl,a,C,dx,_,_,rfl,e,c.cl,c.held,rfl,.inl ⟨rfl,_,SqL.of l⟩,_,rfl,p,_,_,rfl,rfl,l,?_,?_⟩
    ·rw [zal];exact XaZ hz (by decide)
    ·rw [zbn] at k;exact k
   ·rw [Xai (show ¬ (ws.length:Int)<(r:Int) by omega)]
    exact iteF k
  ·refine ⟨_,rfl,rfl,_,rfl,iteT ?_⟩
   exact ⟨_,rfl,a,C,dx,_,_,rfl,e,c.cl,c.held,rfl,.inl ⟨rfl,_,SqL.of l⟩,p,_,rfl,rfl,l,k⟩
abbrev zbs:Stmt:=zaF (top 31) 0
theorem zdM:FnScope ["self","cells","word"] ["self","cells","word"] (zah zbs):=sck rfl rfl rfl (by decide +kernel)
theorem zdQ {f C:Addr}{fd:FuncData}{dV:Value}(F:FunD K "__init__" "Store.__init__" zbs dV f fd)(T:Blt mg)(N:Nums mg)(c:ClsOk K C)(Gis_number:Cal P w K mg base 1 "is_number" ["thing","last"] spIsNum)(Gis_word:Cal P w K mg base 2 "is_word" ["thing"] spIsWord)(GCChip___init__:Clm P w K mg base 1 "Chip" "__init__" (spInit K)):FnOk P w K mg base CX0 3 f fd ["self","cells","word"] (spMkSH C):=by
 refine F.ok zdM (by walk_at "l") (fun cdv A outer s H vs Q E hr h=>?_)
 ·obtain ⟨a,dx,n,v,rfl,h0,h1,h2,h3,ha,k⟩:=h
  refine ⟨_,(zab (zax (PW.pt (zb9 (zaO (zaC (pe_c Gis_number (zaa (pv 1) (zaa (zbh rfl N.MOST_CELLS) zac))))) (zb9 (zat zhj (pv 1) zae (zav _)) (zbx (zaO (zaC (pe_c Gis_word (zaa (pv 2) zac)))))))) (zaf zaR) zaq)
   (zaf (zaz (zgd GCChip___init__ (hrm hr) rfl (zaa (pv 0) (zaa za1 (zaa (zaj zl0 (zay (zaa (pv 2) zac)) (pv 1)) zac))))))),?rd⟩
  refine ⟨_,rfl,(n:Int),4096,rfl,_,rfl,?_⟩
  rw [Xah (show (0:Int)≤(n:Int)∧(n:Int)≤4096 by omega)]
  refine iteF ⟨_,rfl,_,_,rfl,rfl,_,rfl,?_⟩
  rw [Xai (show ¬ (n:Int)<1 by omega)]
  refine iteF ⟨_,rfl,v,rfl,_,rfl,zhG ⟨h2,h3⟩ ?_⟩
  refine ⟨_,rfl,_,rfl,by show 1≤sizeLine;decide,fun l hl=>?_⟩
  have en:((n:Int)).toNat=n:=by omega
  refine ⟨_,rfl,l,_,_,rfl,rfl,zad,by omega,by omega,?_,fun p hp=>?_⟩
  ·rw [en];show 1 * n≤sizeLine;exact Xam (by omega) (show 4096≤sizeLine by decide)
  rw [en,show (List.replicate n [V.int v]).flatten=List.replicate n (V.int v) from zjq n _]
  have nl:l≠a:=fun z=>by rw [z,ha] at hl;cases hl
  have hpl:p≠l:=fun z=>by rw [z,zad] at hp;cases hp
  have hp0:H p=none:=by rw [zai hpl] at hp;exact hp
  have ne:p≠a:=fun z=>by rw [z,ha] at hp0;cases hp0
  refine ⟨a,C,dx,p,_,rfl,by rw [zai (Ne.symm ne),zai (Ne.symm nl)];exact ha,c,fun H' e1 e2=>?_⟩
  refine k p H' hp0 ⟨dx,e1⟩ (by rw [e2 p ne];exact zad) fun b o hb e=>?_
  rw [e2 b hb,zai (zak e hp0),zai (zak e hl)];exact e
abbrev zbv:Stmt:=zaF (top 32) 0
theorem scFixed___init__:FnScope ["self","words","held"] ["self","words"] (zah zbv):=sck rfl rfl rfl (by decide +kernel)
theorem zdT {f C:Addr}{fd:FuncData}(F:Fun K "__init__" "Fixed.__init__" zbv f fd)(T:Blt mg)(N:Nums mg)(c:ClsOk K C)(Gis_word:Cal P w K mg base 2 "is_word" ["thing"] spIsWord)(GCChip___init__:Clm P w K mg base 1 "Chip" "__init__" (spInit K)):FnOk P w K mg base CX0 3 f fd ["self","words"] (spMkFH C):=by
 refine F.ok scFixed___init__ (by walk_at "l") (fun cdv A outer s H vs Q E hr h=>?_)
 ·obtain ⟨a,dx,l,ws,rfl,hl,h1,h2,h3,ha,k⟩:=h
  refine' ⟨_,(zab (ps_L 2 scFixed___init__.nd (zci zdK (by rfl) T.list ze0 (zaa (pv 1) zac)))
   (zab (zax (PW.pt (zb9 (zaO (zk2 ziB ziB zae (zao zar (by rfl) T.len PySem.boot_len (zaa (pv 2) zac)) (zbh rfl N.MOST_CELLS))) (zbx (zaO (zaC (zao (zeZ rfl) (by rfl) T.all zkw (zaa ?c1 zac))))))) (zaf zaR) zaq)
   (zaf (zaz (zgd GCChip___init__ (hrm hr) rfl (zaa (pv 0) (zaa za1 (zaa (pv 2) zac)))))))),?rd⟩
  (case c1=>exact (zb3 (Nc:=["word"]) [none] rfl (zaK (by rfl)) (zby (pv 2)) (fun _ _ _ _ _=>(pg_L 0 (show (["word"]:List Str).Nodup by decide +kernel))) (fun _ _ _ _ _=>zeB) (fun _ _ _ _ _=>(pe_c Gis_word (zaa (pv 0) zac)))))
  refine ⟨_,rfl,l,_,rfl,.inl (SqL.of hl),fun p hp=>?_⟩
  have nl:p≠a:=fun z=>by rw [z,ha] at hp;cases hp
  refine ⟨_,rfl,p,_,rfl,.inl (SqL.of zad),_,_,rfl,rfl,_,rfl,?_⟩
  rw [zal,Xah (show (1:Int)≤(ws.length:Int) by omega)]
  refine iteT ⟨_,_,rfl,rfl,_,rfl,?_⟩
  rw [Xah (show (ws.length:Int)≤4096 by omega)]
  refine iteF ⟨_,rfl,p,rfl,⟨_,SqL.of zad⟩,?_⟩
  refine zdc (K:=K) (a:=p) (xs:=vN ws) (fun j rs σ H1=>∃ v1,σ=[v1]∧rs=List.replicate j (V.bl true)∧H1=upd H p (.lst (vN ws))) (by rw [zal];exact Xam h2 (by decide)) ⟨none,rfl,rfl,rfl⟩ ?_ ?_ ?_
  ·rintro j rs σ H1 hj ⟨v1,rfl,rfl,rfl⟩
   exact ⟨SqL.of zad,by rw [XbD];exact Xae _⟩
  ·rintro j x rs σ H1 ex ⟨v1,rfl,rfl,rfl⟩
   obtain ⟨b,hb,rfl⟩:=zcX ex
   have:=h3 b (Xas hb)
   refine ⟨_,rfl,(b:Int),rfl,?_⟩
   rw [Xah (show (0:Int)≤(b:Int)∧(b:Int)≤255 by omega)]
   exact ⟨_,rfl,List.replicate_succ'.symm,rfl⟩
  ·rintro rs σ H1 ⟨v1,rfl,rfl,rfl⟩ D hD
   refine ⟨D,List.replicate (vN ws).length true,rfl,SqL.of (by rw [List.map_replicate];exact zad),_,rfl,?_⟩
   rw [show (List.replicate (vN ws).length true).all id=true by simp]
   refine iteF ⟨_,rfl,_,rfl,a,C,dx,p,_,rfl,?_,c,fun H' e1 e2=>?_⟩
   ·exact zag hD _ _ (zag hp _ _ ha)
   ·refine k p H' hp ⟨dx,e1⟩ (by rw [e2 p nl];exact zag hD _ _ zad) fun b o hb e=>?_
    rw [e2 b hb];exact zag hD _ _ (zag hp _ _ e)
abbrev zbu:Stmt:=zaF (top 33) 0
theorem zdO:FnScope ["self","word"] ["self","word"] (zah zbu):=sck rfl rfl rfl (by decide +kernel)
theorem zdS {f C:Addr}{fd:FuncData}{dV:Value}(F:FunD K "__init__" "Latch.__init__" zbu dV f fd)(T:Blt mg)(c:ClsOk K C)(Gis_word:Cal P w K mg base 2 "is_word" ["thing"] spIsWord)(GCChip___init__:Clm P w K mg base 1 "Chip" "__init__" (spInit K)):FnOk P w K mg base CX0 3 f fd ["self","word"] (spMk1H C "latch"):=by
 refine F.ok zdO (by walk_at "l") (fun cdv A outer s H vs Q E hr h=>?_)
 ·obtain ⟨a,dx,v,rfl,h0,h1,ha,k⟩:=h
  refine ⟨_,(zab (zax (zaO (zaC (pe_c Gis_word (zaa (pv 1) zac)))) (zaf zaR) zaq)
   (zaf (zaz (zgd GCChip___init__ (hrm hr) rfl (zaa (pv 0) (zaa za1 (zaa (zay (zaa (pv 1) zac)) zac))))))),?rd⟩
  refine ⟨_,rfl,v,rfl,_,rfl,zhG ⟨h0,h1⟩ ?_⟩
  refine ⟨_,rfl,_,rfl,by show 1≤sizeLine;decide,fun p hp=>?_⟩
  have ne:p≠a:=fun z=>by rw [z,ha] at hp;cases hp
  refine ⟨a,C,dx,p,_,rfl,by rw [zai (Ne.symm ne)];exact ha,c,fun H' e1 e2=>?_⟩
  refine k p H' hp ⟨dx,e1⟩ (by rw [e2 p ne];exact zad) fun b o hb e=>?_
  rw [e2 b hb,zai (zak e hp)];exact e
abbrev zbt:Stmt:=zaF (top 34) 0
theorem zdN:FnScope ["self","word"] ["self","word"] (zah zbt):=sck rfl rfl rfl (by decide +kernel)
theorem zdR {f C:Addr}{fd:FuncData}{dV:Value}(F:FunD K "__init__" "Meter.__init__" zbt dV f fd)(T:Blt mg)(c:ClsOk K C)(Gis_word:Cal P w K mg base 2 "is_word" ["thing"] spIsWord)(GCChip___init__:Clm P w K mg base 1 "Chip" "__init__" (spInit K)):FnOk P w K mg base CX0 3 f fd ["self","word"] (spMk1H C "meter"):=by
 refine F.ok zdN (by walk_at "l") (fun cdv A outer s H vs Q E hr h=>?_)
 ·obtain ⟨a,dx,v,rfl,h0,h1,ha,k⟩:=h
  refine ⟨_,(zab (zax (zaO (zaC (pe_c Gis_word (zaa (pv 1) zac)))) (zaf zaR) zaq)
   (zaf (zaz (zgd GCChip___init__ (hrm hr) rfl (zaa (pv 0) (zaa za1 (zaa (zay (zaa (pv 1) zac)) zac))))))),?rd⟩
  refine ⟨_,rfl,v,rfl,_,rfl,zhG ⟨h0,h1⟩ ?_⟩
  refine ⟨_,rfl,_,rfl,by show 1≤sizeLine;decide,fun p hp=>?_⟩
  have ne:p≠a:=fun z=>by rw [z,ha] at hp;cases hp
  refine ⟨a,C,dx,p,_,rfl,by rw [zai (Ne.symm ne)];exact ha,c,fun H' e1 e2=>?_⟩
  refine k p H' hp ⟨dx,e1⟩ (by rw [e2 p ne];exact zad) fun b o hb e=>?_
  rw [e2 b hb,zai (zak e hp)];exact e
abbrev zbP:Stmt:=zaF (top 35) 0
theorem zen:FnScope ["self","room"] ["self","room"] (zah zbP):=sck rfl rfl rfl (by decide +kernel)
theorem zeI {f C:Addr}{fd:FuncData}{dV:Value}(F:FunD K "__init__" "Pipe.__init__" zbP dV f fd)(T:Blt mg)(N:Nums mg)(c:ClsOk K C)(Gis_number:Cal P w K mg base 1 "is_number" ["thing","last"] spIsNum)(Gtwo_figures:Cal P w K mg base 2 "two_figures" ["word"] sp2fig)(GCChip___init__:Clm P w K mg base 1 "Chip" "__init__" (spInit K)):FnOk P w K mg base CX0 3 f fd ["self","room"] (spMkP C):=by
 refine F.ok zen (by walk_at "l") (fun cdv A outer s H vs Q E hr h=>?_)
 ·obtain ⟨a,dx,r,rfl,h0,h1,ha,k⟩:=h
  refine ⟨_,(zab (zax (PW.pt (zb9 (zaO (zaC (pe_c Gis_number (zaa (pv 1) (zaa (zbh rfl N.MOST_ROOM) zac))))) (zbx (zat zhj (pv 1) zae (zav _))))) (zaf zaR) zaq)
   (zab (zaz (zgd GCChip___init__ (hrm hr) rfl (zaa (pv 0) (zaa (pe_fs2 za1 (pe_c Gtwo_figures (zaa (pv 1) zac))) (zaa (zay zac) zac)))))
   (zaf (zch (pv 0) (pv 1) rfl)))),?rd⟩
  refine ⟨_,rfl,(r:Int),255,rfl,_,rfl,?_⟩
  rw [Xah (show (0:Int)≤(r:Int)∧(r:Int)≤255 by omega)]
  refine iteF ⟨_,rfl,_,_,rfl,rfl,_,rfl,?_⟩
  rw [Xai (show ¬ (r:Int)<1 by omega)]
  refine iteF ⟨_,rfl,_,rfl,by show 5≤1000;decide,_,rfl,r,rfl,h1,_,rfl,by show 1+1≤1000;decide,?_⟩
  refine ⟨by show 0≤sizeLine;decide,fun p hp=>?_⟩
  have ne:p≠a:=fun z=>by rw [z,ha] at hp;cases hp
  refine ⟨a,C,dx,p,_,rfl,by rw [zai (Ne.symm ne)];exact ha,c,fun H' e1 e2=>?_⟩
  refine ⟨_,rfl,_,rfl,a,C,dx,_,rfl,e1,c.cl,c.room,by show 2<1000;decide,?_⟩
  refine k p _ hp ⟨⟨dx,zad⟩,by rw [zai ne,e2 p ne];exact zad⟩ fun b o hb e=>?_
  rw [zai hb,e2 b hb,zai (zak e hp)];exact e
abbrev zea:Stmt:=top 62
theorem scrow_fits:FnScope ["row","chips","inner","chip","latch"] ["row","chips"] (zah zea):=sck rfl rfl rfl (by decide +kernel)
def lenK (kd:Nat):List V→Nat:=if kd=4 then two else List.length
theorem Chp.ob {cs:Nat→Addr}{H:Hp}{x p:Addr}{kd n:Nat}{ws:List Nat}(o:Chp cs H x p kd n ws):Ob (cs kd) H x p (vN ws) (kext kd n):=by
 obtain ⟨dx,e⟩:=o.ex
 refine ⟨⟨dx,_,e⟩,o.ls,?_⟩
 unfold kext
 split
 ·exact .inr ⟨_,rfl⟩
 ·exact .inl rfl
inductive spR26 (cs:Nat→Addr)(kd:Nat)(vs:List V)(H:Hp)(Q:VK)(u3_:XK):Prop
 | mk (x:_) (p:_) (n c:Nat) (ws:List Nat) (z0_:vs=[.ref x,.int (c:Int)]) (z1_:Chp cs H x p kd n ws) (z2_:Kd kd n ws) (z3_:c<ksize kd ws) (z4_:∀ H',H' p=some (.lst (vN (krd kd ws c)))→(∀ b,b≠p→H' b=H b)→Q (.int (klk kd ws c:Int)) H')
inductive spL26 (cs:Nat→Addr)(kd:Nat)(vs:List V)(H:Hp)(Q:VK)(u3_:XK):Prop
 | mk (x:_) (p:_) (n c:Nat) (ws:List Nat) (z0_:vs=[.ref x,.int (c:Int)]) (z1_:Chp cs H x p kd n ws) (z2_:Kd kd n ws) (z3_:c<ksize kd ws) (z4_:Q (.int (klk kd ws c:Int)) H)
theorem zcp {cs:Nat→Addr}{kd:Nat}(hk:kd≠4):∀ vs H Q E,spL26 cs kd vs H Q E→spLook (cs kd) vs H Q E:=by
 rintro vs H Q E ⟨x,p,n,c,ws,rfl,o,kk,hc,q⟩
 obtain ⟨dx,e⟩:=o.ex
 unfold ksize at hc
 unfold klk at q
 rw [if_neg hk] at hc q
 unfold kext at e
 rw [if_neg hk] at e
 have hg:ws[c]? = some (ws.getD c 0):=by rw [Xbn,Xaw hc];rfl
 exact ⟨x,p,vN ws,[],c,_,rfl,⟨⟨dx,_,e⟩,o.ls,.inl rfl⟩,by rw [zal];have:=kk.ln;omega,vN_at' hg,q⟩
theorem zlr {cs:Nat→Addr}:∀ vs H Q E,spL26 cs 4 vs H Q E→spPLook (cs 4) vs H Q E:=by
 rintro vs H Q E ⟨x,p,n,c,ws,rfl,o,kk,hc,q⟩
 refine ⟨x,p,n,ws,(c:Int),rfl,⟨o.ex,o.ls⟩,?_⟩
 have hc:c<2:=hc
 rcases (show c=0∨c=1 by omega) with rfl | rfl
 ·exact .inl ⟨rfl,q⟩
 ·exact .inr ⟨rfl,q⟩
theorem zew {cs:Nat→Addr}{kd:Nat}(hk:kd=0∨kd=1∨kd=2):∀ vs H Q E,spR26 cs kd vs H Q E→spLook (cs kd) vs H Q E:=by
 rintro vs H Q E ⟨x,p,n,c,ws,rfl,o,kk,hc,q⟩
 refine zcp (by omega) _ H Q E ⟨x,p,n,c,ws,rfl,o,kk,hc,q H ?_ fun b hb=>rfl⟩
 rw [o.ls]
 unfold krd
 rw [if_neg (by omega),if_neg (fun z=>by omega)]
theorem zjt {cs:Nat→Addr}:∀ vs H Q E,spR26 cs 3 vs H Q E→spMetR (cs 3) vs H Q E:=by
 rintro vs H Q E ⟨x,p,n,c,ws,rfl,o,kk,hc,q⟩
 obtain ⟨dx,e⟩:=o.ex
 obtain ⟨v,rfl⟩:∃ v,ws=[v]:=by
  have:=kk.l3 rfl
  cases ws with
  | nil=>cases this
  | cons a b=>cases b with | nil=>exact ⟨a,rfl⟩ | cons _ _=>cases this
 obtain rfl:c=0:=by have:c<1:=hc;omega
 refine ⟨x,p,[],(v:Int),rfl,⟨⟨dx,_,e⟩,o.ls,.inl rfl⟩,q _ ?_ fun b hb=>zai hb⟩
 rw [show ((v:Int)+1) % 256=(((v+1) % 256:Nat):Int) by omega]
 exact zad
theorem zk0 {cs:Nat→Addr}:∀ vs H Q E,spR26 cs 4 vs H Q E→spPRead (cs 4) vs H Q E:=by
 rintro vs H Q E ⟨x,p,n,c,ws,rfl,o,kk,hc,q⟩
 refine ⟨x,p,n,ws,(c:Int),rfl,⟨o.ex,o.ls⟩,?_⟩
 have hc:c<2:=hc
 rcases (show c=0∨c=1 by omega) with rfl | rfl
 ·exact .inl ⟨rfl,q _ zad fun b hb=>zai hb⟩
 ·exact .inr ⟨rfl,q _ o.ls fun b hb=>rfl⟩
structure Dt where
 m:Nat
 x:Nat→Addr
 p:Nat→Addr
 kd:Nat→Nat
 n:Nat→Nat
 sz:Nat→Nat
structure Chs (cs:Nat→Addr)(D:Dt)(Y:Hp)(us:Nat→List Nat):Prop where
 o:∀ i,i<D.m→Chp cs Y (D.x i) (D.p i) (D.kd i) (D.n i) (us i)
 k:∀ i,i<D.m→Kd (D.kd i) (D.n i) (us i)
 h1:∀ i,i<D.m→D.kd i=2∨D.kd i=3→(us i).length=1
 z:∀ i,i<D.m→ksize (D.kd i) (us i)=D.sz i
 inj:∀ i j,i<D.m→j<D.m→D.p i=D.p j→i=j
 m1:D.m≤200
theorem Chs.same {cs:Nat→Addr}{D:Dt}{Y Z:Hp}{us:Nat→List Nat}(S:Chs cs D Y us)(s:Same Y Z):Chs cs D Z us:=⟨fun i h=>(S.o i h).same s,S.k,S.h1,S.z,S.inj,S.m1⟩
theorem kz_wr {kd n:Nat}(us:List Nat)(c v:Nat):ksize kd (kwr kd n us c v)=ksize kd us:=by
 unfold ksize kwr
 split
 ·rfl
 ·split
  ·rfl
  ·rw [XbY]
set_option tactic.hygienic true in
theorem kz_rd {kd n:Nat}(us:List Nat)(c:Nat)(ku:Kd kd n us):ksize kd (krd kd us c)=ksize kd us:=by
 unfold ksize krd
 split
 ·rfl
 ·split
  ·rename_i e;exact (ku.l3 e).symm
  ·split
   ·rename_i e1 _ e2;exact absurd e2.1 e1
   ·rfl
theorem k1_of {kd:Nat}{us vs:List Nat}(h:kd=2∨kd=3→us.length=1)(z:ksize kd vs=ksize kd us):kd=2∨kd=3→vs.length=1:=fun e=>by
 have h':=h e
 unfold ksize at z
 rw [if_neg (by omega),if_neg (by omega)] at z
 omega
def wset (us:Nat→List Nat)(i:Nat)(vs:List Nat):Nat→List Nat:=fun j=>if j=i then vs else us j
theorem Chs.put {cs:Nat→Addr}{D:Dt}{i:Nat}{Y Z:Hp}{us:Nat→List Nat}{vs:List Nat}(S:Chs cs D Y us)(hi:i<D.m)(kv:Kd (D.kd i) (D.n i) vs)(hz:ksize (D.kd i) vs=ksize (D.kd i) (us i))(e:Z (D.p i)=some (.lst (vN vs)))(k:∀ b,b≠D.p i→Z b=Y b):Chs cs D Z (wset us i vs):=by
 refine ⟨fun j h=>?_,fun j h=>?_,fun j h=>?_,fun j h=>?_,S.inj,S.m1⟩
 ·obtain ⟨d,ed⟩:=(S.o j h).ex
  refine ⟨⟨d,?_⟩,?_⟩
  ·rw [k _ fun z=>by have:=(S.o i hi).ls;rw [← z,ed] at this;cases this];exact ed
  ·unfold wset
   by_cases ej:j=i
   ·subst ej;rw [if_pos rfl];exact e
   ·rw [if_neg ej,k _ fun z=>ej (S.inj j i h hi z)];exact (S.o j h).ls
 all_goals
  unfold wset
  by_cases ej:j=i
  ·subst ej
   rw [if_pos rfl]
   first | exact kv | exact k1_of (S.h1 j h) hz | exact hz.trans (S.z j h)
  ·rw [if_neg ej]
   first | exact S.k j h | exact S.h1 j h | exact S.z j h
def chL (D:Dt):List V:=(List.range D.m).map fun i=>.ref (D.x i)
theorem zkr (D:Dt):(chL D).length=D.m:=by unfold chL;rw [Xal,Xa9]
theorem zfm {D:Dt}{i:Nat}(h:i<D.m):(chL D)[i]? = some (.ref (D.x i)):=by unfold chL;rw [Xaq,List.getElem?_range h];rfl
def Fit (D:Dt)(r:Rw):Prop:=r.c<D.m∧2 ^ ones r.i≤D.sz r.c∧∀ c a b,r.l=some (c,a,b)→c<D.m∧D.kd c=2
inductive spFits (cs:Nat→Addr)(vs:List V)(H:Hp)(Q:VK)(u3_:XK):Prop
 | mk (t L:Addr) (r:Rw) (D:Dt) (us:Nat→List Nat) (z0_:vs=[.ref t,.ref L]) (z1_:RwAt H t r) (z2_:r.i<2 ^ 16) (z3_:H L=some (.lst (chL D))) (z4_:Chs cs D H us) (z5_:Fit D r) (z6_:∀ H',Same H H'→Q (.bl true) H')
theorem lkn {p:Addr}{kd n:Nat}{z:Str}(nm:Str)(h1:nm ≠ "head" := by decide)(h2:nm ≠ "held" := by decide)(h3:nm ≠ "room" := by decide):(("head",V.str z) :: ("held",V.ref p) :: kext kd n:List (Str×V)).lookup nm=none:=by
 unfold kext
 have e1:(nm == "head")=false:=beq_eq_false_iff_ne.mpr h1
 have e2:(nm == "held")=false:=beq_eq_false_iff_ne.mpr h2
 have e3:(nm == "room")=false:=beq_eq_false_iff_ne.mpr h3
 split <;> simp [List.lookup_cons,e1,e2,e3]
theorem ziD {f:Addr}{cs:Nat→Addr}{fd:FuncData}(F:Fun K "row_fits" "row_fits" zea f fd)(T:Blt mg)(Gones_of:Cal P w K mg base 2 "ones_of" ["mask"] spOnes)(GLatch:mg "Latch" = some (.ref (cs 2)))(kk:W.kitOne K (.ref (cs 2)) (.ref (cs 2))=some true)(TL:∀ {H:Hp} {a dx:Addr} {fs:List (Str×V)},H a=some (.ins (cs 2) dx fs)→TyOf K H (.ref a) (.ref (cs 2)))
  (ML:∀ kd,kd<5→Mth P w K mg base 1 (cs kd) "__len__" [] (fun vs _=>vs) (spLen (cs kd) (lenK kd))):FnOk P w K mg base CX0 3 f fd ["row","chips"] (spFits cs):=by
 refine F.ok scrow_fits (by walk_at "l") (fun cdv A outer s H vs Q E hr h=>?_)
 ·obtain ⟨t,L,r,D,us,rfl,⟨lt,et,hlt⟩,hi,eL,S,⟨f1,f2,f3⟩,k⟩:=h
  refine ⟨_,(zab (zbj (zbg (zfw (K:=K) rfl) (pv 0) (za9 zae) zcR) (zba rfl (zan (pg_L 2 scrow_fits.nd) (zan (pg_L 3 scrow_fits.nd) (zan (pg_L 4 scrow_fits.nd) zaM)))))
   (zab (zax (PW.pt (zb9 (zat op_ge (pv 3) (zao zar (by rfl) T.len PySem.boot_len (zaa (pv 1) zac)) (zav _)) (zbx (zat zeD (zaj zc1 zae (pe_c Gones_of (zaa (pv 2) zac))) (zjC 1 ⟨rfl,rfl,rfl,rfl,rfl⟩ (hrm hr) rfl T.len (pe_x zam (pv 1) (pv 3))) (zav _))))) (zaf (zap zb4)) zaq)
   (zaf (zap (zmI (zh3 (zcj (pv 4))) (zbz (zbB (zbA zhj (pe_x zaw (pv 4) zae) (zao zar (by rfl) T.len PySem.boot_len (zaa (pv 1) zac)) (zav _)) (zbz (zao (zlF (K:=K) rfl) (by rfl) T.isinstance zbd (zaa (pe_x zam (pv 1) (pe_x zaw (pv 4) zae)) (zaa (zk8 rfl GLatch) zac))))))))))),?rd⟩
  have ec:cutV [V.int (r.m:Int),.int (r.w:Int),.int (r.i:Int),.int (r.c:Int),lt] (some 2) none=[.int (r.i:Int),.int (r.c:Int),lt]:=rfl
  have hsz:∀ i,i<D.m→D.sz i≤5000:=fun i h=>by
   rw [← S.z i h]
   unfold ksize
   split
   ·decide
   ·have:=(S.k i h).ln;omega
  refine ⟨_,rfl,2,rfl,t,_,rfl,SqT.of et,(fun e=>absurd (congrArg List.length e) (by rw [ec];simp)),fun tp htp=>?_⟩
  rw [ec]
  have s1:=zag (H:=H) (o:=HO.tup [.int (r.i:Int),.int (r.c:Int),lt]) htp
  refine ⟨tp,_,rfl,SqT.of zad,rfl,_,_,rfl,_,_,rfl,_,_,rfl,rfl,?_⟩
  refine ⟨_,rfl,_,rfl,L,_,rfl,.inl (SqL.of (s1 _ _ eL)),_,_,rfl,rfl,_,rfl,?_⟩
  rw [zkr,Xai (show ¬ (D.m:Int)≤(r.c:Int) by omega)]
  refine iteF ⟨_,rfl,r.i,rfl,Xak hi (by decide),fun H2 s2=>?_⟩
  have S2:=S.same (s1.trans s2)
  have h64:ones r.i≤64:=by
   have:=hsz _ f1
   by_cases hc:ones r.i≤64
   ·exact hc
   ·have:2 ^ 64≤2 ^ ones r.i:=XaB (by decide) (by omega)
    have:(5000:Nat)<2 ^ 64:=by decide
    omega
  obtain ⟨dx,ex⟩:=(S2.o _ f1).ex
  have k5:=(S2.k _ f1).k5
  have hlen:lenK (D.kd r.c) (vN (us r.c))=D.sz r.c:=by
   rw [← S.z _ f1]
   unfold lenK ksize
   split
   ·rfl
   ·exact zal _
  refine ⟨_,_,rfl,rfl,⟨by omega,by omega,by decide⟩,_,rfl,_,rfl,L,_,_,_,rfl,rfl,SqL.of (s2 _ _ (s1 _ _ eL)),zaA (zfm f1),?_⟩
  refine ⟨_,cs (D.kd r.c),dx,_,_,_,rfl,ex,ML _ k5,_,_,_,_,rfl,(S2.o _ f1).ob,?_⟩
  rw [hlen]
  have hz:=hsz _ f1
  refine ⟨_,rfl,by omega,by omega,_,_,rfl,rfl,_,rfl,?_⟩
  have e1:(1:Int) * 2 ^ ((ones r.i:Nat):Int).toNat=((2 ^ ones r.i:Nat):Int):=by rw [Int.one_mul,Xag];norm_cast
  rw [Xai (show ¬ ((D.sz r.c:Nat):Int)<(1:Int) * 2 ^ ((ones r.i:Nat):Int).toNat by rw [e1];omega)]
  refine iteF ?_
  refine zau ?_
  try dsimp only
  have k:=k H2 (s1.trans s2)
  cases hl:r.l with
  | none =>
   rw [hl] at hlt
   obtain rfl:lt = .non:=hlt
   exact ⟨_,rfl,_,rfl,iteT k⟩
  | some o =>
   obtain ⟨c,a,b⟩:=o
   rw [hl] at hlt
   obtain ⟨u,rfl,eu⟩:=hlt
   obtain ⟨g1,g2⟩:=f3 c a b hl
   have eu2:=s2 _ _ (s1 _ _ eu)
   have eL2:=s2 _ _ (s1 _ _ eL)
   obtain ⟨dy,ey⟩:=(S2.o _ g1).ex
   rw [g2] at ey
   refine ⟨_,rfl,_,rfl,iteF ⟨_,rfl,u,_,_,_,rfl,rfl,SqT.of eu2,rfl,_,rfl,L,_,rfl,.inl (SqL.of eL2),_,_,rfl,rfl,_,rfl,?_⟩⟩
   rw [zkr,Xah (show (c:Int)<(D.m:Int) by omega)]
   refine iteT ⟨_,rfl,_,rfl,u,_,_,_,rfl,rfl,SqT.of eu2,rfl,L,_,_,_,rfl,rfl,SqL.of eL2,zaA (zfm g1),_,_,_,true,rfl,TL ey,kk,k⟩
structure Bd where
 b:Addr
 bits:Nat
 R:Addr
 ws:List (Addr×Rw)
 L:Addr
 la:Addr
 keys:List Nat
 W:Addr
def bdF (B:Bd)(f:Nat):List (Str×V):=[("bits",.int (B.bits:Int)),("rows",.ref B.R),("chips",.ref B.L),("floating",.int (f:Int)),("latches",.ref B.la),("watches",.ref B.W),("next_watch",.int 0)]
structure RwsFor (D:Dt)(m:Nat)(Y:Hp)(R:Addr)(ws:List (Addr×Rw)):Prop where
 e:Y R=some (.tup (refs ws))
 r:RwsAt2 m Y ws
 f:∀ z∈ws,Fit D z.2
 nc:ws.Pairwise fun a b=>NC a.2 b.2
 ln:ws.length≤60
theorem RwsFor.same {D:Dt}{m:Nat}{Y Z:Hp}{R:Addr}{ws:List (Addr×Rw)}(h:RwsFor D m Y R ws)(s:Same Y Z):RwsFor D m Z R ws:=⟨s _ _ h.e,h.r.same s,h.f,h.nc,h.ln⟩
structure BdAt (C:Addr)(B:Bd)(D:Dt)(Y:Hp)(f:Nat):Prop where
 e:∃ db,Y B.b=some (.ins C db (bdF B f))
 b1:1≤B.bits
 b2:B.bits≤16
 rf:RwsFor D B.bits Y B.R B.ws
 ch:Y B.L=some (.lst (chL D))
 la:Y B.la=some (.lst (vN B.keys))
 kl:∀ z∈B.ws,∀ c a b,z.2.l=some (c,a,b)→c∈B.keys
 ks:∀ k∈B.keys,k<D.m∧D.kd k=2
 kn:B.keys.Nodup
 w0:Y B.W=some (.dK [])
 f0:f≤255
 nl:∀ i,i<D.m→B.L≠D.p i∧B.la≠D.p i
theorem BdAt.same {C:Addr}{B:Bd}{D:Dt}{Y Z:Hp}{f:Nat}(h:BdAt C B D Y f)(s:Same Y Z):BdAt C B D Z f:=by
 obtain ⟨db,e⟩:=h.e
 exact ⟨⟨db,s _ _ e⟩,h.b1,h.b2,h.rf.same s,s _ _ h.ch,s _ _ h.la,h.kl,h.ks,h.kn,s _ _ h.w0,h.f0,h.nl⟩
structure ClsBd (K:W.Frag)(C:Addr):Prop where
 cls:Cls K C
 bits:NoAttr K C "bits"
 rows:NoAttr K C "rows"
 chips:NoAttr K C "chips"
 floating:NoAttr K C "floating"
 latches:NoAttr K C "latches"
 watches:NoAttr K C "watches"
 next_watch:NoAttr K C "next_watch"
theorem BdAt.fl {C:Addr}{B:Bd}{D:Dt}{Y:Hp}{f v:Nat}{db:Addr}(h:BdAt C B D Y f)(hv:v≤255):BdAt C B D (upd Y B.b (.ins C db (bdF B v))) v:=by
 obtain ⟨d0,e⟩:=h.e
 have ne:∀ {a:Addr} {o:HO},Y a=some o→(∀ x y z,o≠.ins x y z)→upd Y B.b (.ins C db (bdF B v)) a=some o:=fun {a o} ea ho=>by
  rw [zai (fun z=>by rw [z,e] at ea;exact ho _ _ _ (Option.some.inj ea).symm)];exact ea
 refine ⟨⟨db,zad⟩,h.b1,h.b2,⟨ne h.rf.e (by intros;exact (fun z=>by cases z)),(fun z hz=>?_),h.rf.f,h.rf.nc,h.rf.ln⟩,ne h.ch (by intros;exact (fun z=>by cases z)),ne h.la (by intros;exact (fun z=>by cases z)),h.kl,h.ks,h.kn,ne h.w0 (by intros;exact (fun z=>by cases z)),hv,h.nl⟩
 obtain ⟨⟨lt,et,hlt⟩,ok⟩:=h.rf.r z hz
 refine ⟨⟨lt,ne et (by intros;exact (fun z=>by cases z)),?_⟩,ok⟩
 cases hl:z.2.l with
 | none=>rw [hl] at hlt;exact hlt
 | some o =>
  rw [hl] at hlt
  obtain ⟨u,eu,hu⟩:=hlt
  exact ⟨u,eu,ne hu (by intros;exact (fun z=>by cases z))⟩
def hld (us:Nat→List Nat)(c:Nat):Nat:=(us c).getD 0 0
def whoI (B:Bd)(us:Nat→List Nat)(x:Nat):Option Nat:=(B.ws.map (·.2)).findIdx? fun r=>ans r x (wrd B.keys (hld us))
inductive spInBits (C:Addr)(vs:List V)(H:Hp)(Q:VK)(u3_:XK):Prop
 | mk (B:Bd) (D:Dt) (f:Nat) (x:Nat) (z0_:vs=[.ref B.b,.int (x:Int)]) (z1_:BdAt C B D H f) (z2_:Q (.bl (decide (x<2 ^ B.bits))) H)
inductive spChkAd (C:Addr)(vs:List V)(H:Hp)(Q:VK)(u3_:XK):Prop
 | mk (B:Bd) (D:Dt) (f:Nat) (x:Nat) (z0_:vs=[.ref B.b,.int (x:Int)]) (z1_:BdAt C B D H f) (z2_:x<2 ^ B.bits) (z3_:Q .non H)
inductive spChipOf (C:Addr)(vs:List V)(H:Hp)(Q:VK)(u3_:XK):Prop
 | mk (B:Bd) (D:Dt) (f i:Nat) (z:Addr×Rw) (z0_:vs=[.ref B.b,.int (i:Int)]) (z1_:BdAt C B D H f) (z2_:B.ws[i]? = some z) (z3_:Q (.ref (D.x z.2.c)) H)
inductive spFinish (C:Addr)(vs:List V)(H:Hp)(Q:VK)(u3_:XK):Prop
 | mk (B:Bd) (D:Dt) (f:Nat) (kind:Str) (x v:Nat) (z0_:vs=[.ref B.b,.str kind,.int (x:Int),.int (v:Int)]) (z1_:BdAt C B D H f) (z2_:v≤255) (z3_:∀ H',BdAt C B D H' v→(∀ a o,a≠B.b→H a=some o→H' a=some o)→Q .non H')
inductive spWho (C:Addr)(cs:Nat→Addr)(vs:List V)(H:Hp)(Q:VK)(u3_:XK):Prop
 | mk (B:Bd) (D:Dt) (us:Nat→List Nat) (f x:Nat) (z0_:vs=[.ref B.b,.int (x:Int)]) (z1_:BdAt C B D H f) (z2_:Chs cs D H us) (z3_:x<2 ^ B.bits) (z4_:(whoI B us x=none→∀ H',Same H H'→Q .non H')) (z5_:∀ (i:Nat) (z:Addr×Rw),whoI B us x=some i→B.ws[i]? = some z→∀ (t:Addr) (H':Hp),H t=none→H' t=some (.tup [.int (i:Int),.int (gath z.2.i x:Int)])→Same H H'→Q (.ref t) H')
abbrev zdj:Stmt:=top 63
theorem sccheck_map:FnScope ["bits","rows","chips","number","row"] ["bits","rows","chips"] (zah zdj):=sck rfl rfl rfl (by decide +kernel)
inductive spChkMap (cs:Nat→Addr)(vs:List V)(H:Hp)(Q:VK)(u3_:XK):Prop
 | mk (m:Nat) (R L:Addr) (D:Dt) (us:Nat→List Nat) (ws:List (Addr×Rw)) (z0_:vs=[.int (m:Int),.ref R,.ref L]) (z1_:1≤m) (z2_:m≤16) (z3_:RwsFor D m H R ws) (z4_:H L=some (.lst (chL D))) (z5_:Chs cs D H us) (z6_:∀ H',Same H H'→Q .non H')
theorem zho {f:Addr}{cs:Nat→Addr}{fd:FuncData}(F:Fun K "check_map" "check_map" zdj f fd)(T:Blt mg)(N:Nums mg)(Gis_number:Cal P w K mg base 1 "is_number" ["thing","last"] spIsNum)(Gis_map:Cal P w K mg base 5 "is_map" ["bits","thing"] spMapV)(Grow_fits:Cal P w K mg base 3 "row_fits" ["row","chips"] (spFits cs)):FnOk P w K mg base CX0 6 f fd ["bits","rows","chips"] (spChkMap cs):=by
 refine F.ok sccheck_map (by walk_at "l") (fun cdv A outer s H vs Q E hr h=>?_)
 ·obtain ⟨m,R,L,D,us,ws,rfl,h1,h2,hR,eL,S,k⟩:=h
  refine ⟨_,(zab (zax (PW.pt (zb9 (zaO (zaC (pe_c Gis_number (zaa (pv 0) (zaa (zbh rfl N.MOST_BITS) zac))))) (zbx (zat zhj (pv 0) zae (zav _))))) (zaf zaR) zaq)
   (zab (zax (zaO (zaC (pe_c Gis_map (zaa (pv 0) (zaa (pv 1) zac))))) (zaf zaR) zaq)
   (zaf (za4 PassesOwn.never rfl (zd0 rfl T.enumerate (zaa (pv 1) zac)) (zba rfl (zan (pg_L 3 sccheck_map.nd) (zan (pg_L 4 sccheck_map.nd) zaM)))
   (zaf (zax (zaO (zaC (pe_c Grow_fits (zaa (pv 4) (zaa (pv 2) zac))))) (zaf zaR) zaq)))))),?rd⟩
  refine ⟨_,rfl,_,_,rfl,_,rfl,?_⟩
  rw [Xah (show 0≤(m:Int)∧(m:Int)≤16 by omega)]
  refine iteF ⟨_,rfl,_,_,rfl,rfl,_,rfl,?_⟩
  rw [Xai (show ¬ (m:Int)<1 by omega)]
  refine iteF (zau ?_)
  try dsimp only
  refine ⟨_,rfl,_,rfl,m,R,ws,rfl,hR.e,hR.r,Xam hR.ln (by decide),h2,fun H1 s1=>⟨_,rfl,iteF (zau ?_)⟩⟩
  try dsimp only
  refine ⟨_,rfl,R,rfl,⟨_,SqT.of (s1 _ _ hR.e)⟩,?_⟩
  refine zc9 (K:=K) (a:=R) (xs:=refs ws) (fun i σ X=>∃ (v3 v4:Option V),σ=[some (.int (m:Int)),some (.ref R),some (.ref L),v3,v4]∧Same H X) ⟨_,_,rfl,s1⟩ ?_ ?_ ?_
  ·rintro i σ X _ ⟨_,_,_,sX⟩
   exact SqT.of (sX _ _ hR.e)
  ·rintro i y U σ X hy hU ⟨v3,v4,rfl,sX⟩
   obtain ⟨z,hz,rfl⟩:=zbf hy
   have hm:=Xas hz
   have sU:=sX.trans (zag (o:=.tup [.int (i:Int),.ref z.1]) hU)
   refine zeW ?_
   refine ⟨_,rfl,_,rfl,z.1,L,z.2,D,us,rfl,(hR.r z hm).1.same sU,Xak (hR.r z hm).2.i0 (XaB (by decide) h2),sU _ _ eL,S.same sU,hR.f z hm,fun H2 s2=>⟨_,rfl,iteF ⟨_,_,rfl,sU.trans s2⟩⟩⟩
  ·rintro σ X ⟨_,_,_,sX⟩
   exact k X sX
abbrev zce:Stmt:=top 64
theorem sccheck_clash:FnScope ["rows","clash","address","first","second","words"] ["rows"] (zah zce):=sck rfl rfl rfl (by decide +kernel)
inductive spChkCl (vs:List V)(H:Hp)(Q:VK)(u3_:XK):Prop
 | mk (m:Nat) (R:Addr) (D:Dt) (ws:List (Addr×Rw)) (z0_:vs=[.ref R]) (z1_:RwsFor D m H R ws) (z2_:∀ H',Same H H'→Q .non H')
theorem zfH {f:Addr}{fd:FuncData}(F:Fun K "check_clash" "check_clash" zce f fd)(T:Blt mg)(Gclash_of:Cal P w K mg base 4 "clash_of" ["rows"] spClashV):FnOk P w K mg base CX0 5 f fd ["rows"] spChkCl:=by
 refine F.ok sccheck_clash (by walk_at "l") (fun cdv A outer s H vs Q E hr h=>?_)
 ·obtain ⟨m,R,D,ws,rfl,hR,k⟩:=h
  refine ⟨_,(zab (ps_L 1 sccheck_clash.nd (pe_c Gclash_of (zaa (pv 0) zac)))
   (zaf (zax (zbT (zeC (pv 1))) (zab (zbj (pv 1) (zba rfl (zan (pg_L 2 sccheck_clash.nd) (zan (pg_L 3 sccheck_clash.nd) (zan (pg_L 4 sccheck_clash.nd) (zan (pg_L 5 sccheck_clash.nd) zaM))))))
   (zaf zaR)) zaq))),?rd⟩
  exact ⟨_,rfl,m,R,ws,rfl,hR.e,hR.r,hR.nc,Xam hR.ln (by decide),fun H1 s1=>⟨_,rfl,_,rfl,iteF (k H1 s1)⟩⟩
abbrev zbw:Stmt:=zaF (top 66) 0
theorem zdP:FnScope ["self","bits","rows","chips","floating"] ["self","bits","rows","chips","floating"] (zah zbw):=sck rfl rfl rfl (by decide +kernel)
def lcs (ws:List (Addr×Rw)):List Nat:=ws.filterMap fun z=>z.2.l.map (·.1)
set_option tactic.hygienic true in
theorem zlC (ys:List Int):(dd ys).Nodup:=by
 have g:∀ (l S:List Int),S.Nodup→(l.foldl (fun S n=>if n∈S then S else S ++ [n]) S).Nodup:=by
  intro l
  induction l with
  | nil=>intro S h;exact h
  | cons a l ih =>
   intro S h
   rw [List.foldl_cons]
   refine ih _ ?_
   split
   ·exact h
   ·rename_i ha
    rw [XaX]
    exact ⟨h,by simp,fun x hx y hy=>by rw [Xad] at hy;subst hy;exact fun z=>ha (z ▸ hx)⟩
 exact g ys [] Xbp
theorem zlm {ws:List (Addr×Rw)}{j:Nat}{z:Addr×Rw}(h:ws[j]? = some z):lcs (ws.take (j+1))=lcs (ws.take j) ++ (z.2.l.map (·.1)).toList:=by
 unfold lcs
 rw [Xbk,h,List.filterMap_append]
 congr 1
theorem lcs_mem {ws:List (Addr×Rw)}{c:Nat}:c∈lcs ws↔∃ z∈ws,∃ a b,z.2.l=some (c,a,b):=by
 unfold lcs
 rw [List.mem_filterMap]
 constructor
 ·rintro ⟨z,hz,e⟩
  obtain ⟨o,ho,rfl⟩:=XaP.mp e
  exact ⟨z,hz,o.2.1,o.2.2,ho⟩
 ·rintro ⟨z,hz,a,b,e⟩
  exact ⟨z,hz,by rw [e];rfl⟩
inductive spInitB (C:Addr)(cs:Nat→Addr)(vs:List V)(H:Hp)(Q:VK)(u3_:XK):Prop
 | mk (b db R L:Addr) (m fl:Nat) (D:Dt) (us:Nat→List Nat) (ws:List (Addr×Rw)) (z0_:vs=[.ref b,.int (m:Int),.ref R,.ref L,.int (fl:Int)]) (z1_:H b=some (.ins C db [])) (z2_:1≤m) (z3_:m≤16) (z4_:fl≤255) (z5_:RwsFor D m H R ws) (z6_:H L=some (.lst (chL D))) (z7_:Chs cs D H us) (z8_:∀ (B:Bd) (H':Hp),B.b=b→B.bits=m→B.R=R→B.ws=ws→H B.L=none→H B.la=none→H B.W=none→BdAt C B D H' fl→(∀ a o,a≠b→H a=some o→H' a=some o)→Q .non H')
theorem zdU {f:Addr}{C:Addr}{cs:Nat→Addr}{fd:FuncData}{dV:Value}(F:FunD K "__init__" "Board.__init__" zbw dV f fd)(T:Blt mg)(GBsorted:mg "sorted" = none)(cl:ClsBd K C)(Gcheck_map:Cal P w K mg base 6 "check_map" ["bits","rows","chips"] (spChkMap cs))(Gcheck_clash:Cal P w K mg base 5 "check_clash" ["rows"] spChkCl)(Gcheck_word:Cal P w K mg base 3 "check_word" ["word"] spChkWord):FnOk P w K mg base CX0 7 f fd ["self","bits","rows","chips","floating"] (spInitB C cs):=by
 refine F.ok zdP (by walk_at "l") (fun cdv A outer s H vs Q E hr h=>?_)
 ·obtain ⟨b,db,R,L,m,fl,D,us,ws,rfl,eb,h1,h2,hf,hR,eL,S,k⟩:=h
  refine' ⟨_,(zab (zaz (pe_c Gcheck_map (zaa (pv 1) (zaa (pv 2) (zaa (pv 3) zac)))))
   (zab (zaz (pe_c Gcheck_clash (zaa (pv 2) zac)))
   (zab (zaz (pe_c Gcheck_word (zaa (pv 4) zac)))
   (zab (zch (pv 0) (pv 1) rfl)
   (zab (zch (pv 0) (pv 2) rfl)
   (zab (zch (pv 0) (zci zdK (by rfl) T.list ze0 (zaa (pv 3) zac)) rfl)
   (zab (zch (pv 0) (pv 4) rfl)
   (zab (zch (pv 0) (zao (zgF rfl) (by rfl) GBsorted zgI (zaa ?c1 zac)) rfl)
   (zab (zch (pv 0) zb2 rfl)
   (zaf (zch (pv 0) zae rfl))))))))))),?rd⟩
  (case c1=>exact (ziz (Nc:=["row"]) [none] rfl (zaK (by rfl)) (zhZ (pv 2)) (fun _ _ _ _ _=>(pg_L 0 (show (["row"]:List Str).Nodup by decide +kernel))) (fun _ _ _ _ _=>(zeA (zbT (zeC (pe_x (zhF (K:=K) rfl) (pv 0) zae))))) (fun _ _ _ _ _=>(pe_x (zhF (K:=K) rfl) (pe_x (zhF (K:=K) rfl) (pv 0) zae) zae))))
  refine ⟨_,rfl,_,rfl,_,rfl,m,R,L,D,us,ws,rfl,h1,h2,hR,eL,S,fun H1 s1=>?_⟩
  refine ⟨_,rfl,m,R,D,ws,rfl,hR.same s1,fun H2 s2=>?_⟩
  have s12:=s1.trans s2
  refine ⟨_,rfl,(fl:Int),rfl,by omega,by omega,?_⟩
  refine ⟨_,rfl,_,rfl,b,C,db,_,rfl,s12 _ _ eb,cl.cls,cl.bits,by show 0<1000;decide,?_⟩
  refine ⟨_,rfl,_,rfl,b,C,db,_,rfl,zad,cl.cls,cl.rows,by show 1<1000;decide,?_⟩
  have nLb:L≠b:=fun z=>by rw [z,eb] at eL;cases eL
  refine ⟨_,rfl,L,chL D,rfl,.inl (SqL.of (by rw [zai nLb,zai nLb];exact s12 _ _ eL)),fun l hl=>?_⟩
  have nlb:l≠b:=fun z=>by rw [z,zad] at hl;cases hl
  refine ⟨_,rfl,b,C,db,_,rfl,by rw [zai (Ne.symm nlb)];exact zad,cl.cls,cl.chips,by show 2<1000;decide,?_⟩
  refine ⟨_,rfl,_,rfl,b,C,db,_,rfl,zad,cl.cls,cl.floating,by show 3<1000;decide,?_⟩
  have hl2:H2 l=none:=by rw [zai nlb,zai nlb] at hl;exact hl
  refine zkA (fun Y=>Y b=some (.ins C db [("bits",.int (m:Int)),("rows",.ref R),("chips",.ref l),("floating",.int (fl:Int))])∧Y l=some (.lst (chL D))∧∀ a o,a≠b→H2 a=some o→Y a=some o) ⟨zad,by rw [zai nlb,zai nlb];exact zad,fun a o ha ea=>by rw [zai ha,zai ha,zai (zak ea hl2),zai ha,zai ha];exact ea⟩ ?_
  rintro Y ⟨yb,yl,fr⟩
  have nRb:R≠b:=fun z=>by have:=hR.e;rw [z,eb] at this;cases this
  have yR:=fr _ _ nRb (s12 _ _ hR.e)
  refine ⟨_,rfl,R,rfl,⟨_,SqT.of yR⟩,?_⟩
  refine zko (K:=K) (xs:=refs ws) (fun j ys σ H1=>∃ v0,σ=[v0]∧ys=(lcs (ws.take j)).map (fun (n:Nat)=>(n:Int))∧ys.length≤j∧H1=Y) (by rw [zas];have:=hR.ln;omega) ⟨none,rfl,rfl,Xae _,rfl⟩ ?_ ?_ ?_
  ·rintro j ys σ H1 hj ⟨v0,rfl,_,hl',rfl⟩
   exact ⟨SqT.of yR,hl'⟩
  ·rintro j y ys σ H1 hy ⟨v0,rfl,hys,hl',rfl⟩
   obtain ⟨z,hz,rfl⟩:=zbf hy
   have hm:=Xas hz
   obtain ⟨lt,et,hlt⟩:=(hR.r z hm).1
   have yt:=fr _ _ (fun e=>by rw [e,eb] at et;cases et) (s12 _ _ et)
   rw [zlm hz]
   cases hl:z.2.l with
   | none =>
    rw [hl] at hlt
    obtain rfl:lt = .non:=hlt
    exact ⟨_,rfl,z.1,_,_,_,rfl,rfl,SqT.of yt,rfl,_,rfl,iteF ⟨_,rfl,by rw [hys];simp,by omega,rfl⟩⟩
   | some o =>
    obtain ⟨c,a,b'⟩:=o
    rw [hl] at hlt
    obtain ⟨u,rfl,eu⟩:=hlt
    have yu:=fr _ _ (fun e=>by rw [e,eb] at eu;cases eu) (s12 _ _ eu)
    refine ⟨_,rfl,z.1,_,_,_,rfl,rfl,SqT.of yt,rfl,_,rfl,iteT ⟨_,rfl,z.1,_,_,_,rfl,rfl,SqT.of yt,rfl,u,_,_,_,rfl,rfl,SqT.of yu,rfl,(c:Int),rfl,_,rfl,by rw [hys];simp,by rw [Xay];simp;omega,rfl⟩⟩
  ·rintro ys σ H1 ⟨v0,rfl,hys,hl',rfl⟩ d hd
   rw [zas,XaH (Xae _)] at hys
   have hln:=hR.ln
   have hdl:=zmb ys
   rw [zas] at hl'
   have ndb:d≠b:=fun e=>by rw [e,yb] at hd;cases hd
   refine ⟨d,dd ys,rfl,zad,by omega,fun la ns hla pm _=>?_⟩
   have hns:∀ n∈ns,∃ c:Nat,n=(c:Int)∧c∈lcs ws:=fun n hn=>by
    have:=mem_dd.mp (pm.mem_iff.mp hn)
    rw [hys,XaF] at this
    obtain ⟨c,hc,e⟩:=this
    exact ⟨c,e.symm,hc⟩
   obtain ⟨keys,hk⟩:∃ keys:List Nat,ns=keys.map fun (n:Nat)=>(n:Int):=⟨ns.map Int.toNat,by
    rw [Xbd]
    conv=>lhs;rw [← List.map_id ns]
    refine List.map_congr_left fun n hn=>?_
    obtain ⟨c,e,_⟩:=hns n hn
    show n=((n.toNat:Nat):Int)
    omega⟩
   have knd:keys.Nodup:=by
    have h1:ns.Nodup:=pm.nodup_iff.mpr (zlC ys)
    rw [hk] at h1
    exact (List.pairwise_map.mp h1).imp fun h e=>h (by rw [e])
   have kmem:∀ c,c∈keys↔c∈lcs ws:=fun c=>by
    constructor
    ·intro hc
     obtain ⟨c',e,hc'⟩:=hns (c:Int) (by rw [hk];exact List.mem_map_of_mem hc)
     rw [show c=c' by omega];exact hc'
    ·intro hc
     have:(c:Int)∈ns:=pm.mem_iff.mpr (mem_dd.mpr (by rw [hys];exact List.mem_map_of_mem hc))
     rw [hk,XaF] at this
     obtain ⟨c',hc',e⟩:=this
     rw [show c=c' by omega];exact hc'
   have nlab:la≠b:=fun e=>by rw [e,zai (Ne.symm ndb),yb] at hla;cases hla
   have nlad:la≠d:=fun e=>by rw [e,zad] at hla;cases hla
   have yla:H1 la=none:=by rw [zai nlad] at hla;exact hla
   have eV:ns.map V.int=vN keys:=by rw [hk,Xbd];rfl
   rw [eV]
   refine ⟨_,rfl,b,C,db,_,rfl,by rw [zai (Ne.symm nlab),zai (Ne.symm ndb)];exact yb,cl.cls,cl.latches,by show 4<1000;decide,?_⟩
   refine zkA (fun Z=>Z b=some (.ins C db [("bits",.int (m:Int)),("rows",.ref R),("chips",.ref l),("floating",.int (fl:Int)),("latches",.ref la)])∧Z la=some (.lst (vN keys))∧∀ a o,a≠b→H1 a=some o→Z a=some o) ⟨zad,by rw [zai nlab];exact zad,fun a o ha ea=>by rw [zai ha,zai (zak ea yla),zai (zak ea hd)];exact ea⟩ ?_
   rintro Z ⟨zb,zla,frZ⟩ wd hwd
   have nwb:wd≠b:=fun e=>by rw [e,zb] at hwd;cases hwd
   refine ⟨_,rfl,b,C,db,_,rfl,by rw [zai (Ne.symm nwb)];exact zb,cl.cls,cl.watches,by show 5<1000;decide,?_⟩
   refine ⟨_,rfl,b,C,db,_,rfl,zad,cl.cls,cl.next_watch,by show 6<1000;decide,?_⟩
   have frV:∀ a o,a≠b→Z a=some o→upd (upd (upd Z wd (.dK [])) b (.ins C db [("bits",.int (m:Int)),("rows",.ref R),("chips",.ref l),("floating",.int (fl:Int)),("latches",.ref la),("watches",.ref wd)])) b (.ins C db (bdF ⟨b,m,R,ws,l,la,keys,wd⟩ fl)) a=some o:=fun a o ha ea=>by rw [zai ha,zai ha,zai (zak ea hwd)];exact ea
   have frH:∀ a o,a≠b→H a=some o→upd (upd (upd Z wd (.dK [])) b (.ins C db [("bits",.int (m:Int)),("rows",.ref R),("chips",.ref l),("floating",.int (fl:Int)),("latches",.ref la),("watches",.ref wd)])) b (.ins C db (bdF ⟨b,m,R,ws,l,la,keys,wd⟩ fl)) a=some o:=fun a o ha ea=>frV a o ha (frZ a o ha (fr a o ha (s12 _ _ ea)))
   have hlaH:H la=none:=by
    cases h:H la with
    | none=>rfl
    | some o=>have:=fr la o nlab (s12 _ _ h);rw [yla] at this;cases this
   have hwdH:H wd=none:=by
    cases h:H wd with
    | none=>rfl
    | some o=>have:=frZ wd o nwb (fr wd o nwb (s12 _ _ h));rw [hwd] at this;cases this
   refine k ⟨b,m,R,ws,l,la,keys,wd⟩ _ rfl rfl rfl rfl (s12.free hl2) hlaH hwdH ⟨⟨db,zad⟩,h1,h2,⟨frH _ _ nRb hR.e,fun z hz=>?_,hR.f,hR.nc,hR.ln⟩,frV _ _ nlb (frZ _ _ nlb yl),frV _ _ nlab zla,fun z hz c a b' e=>(kmem c).mpr (lcs_mem.mpr ⟨z,hz,a,b',e⟩),fun c hc=>?_,knd,by rw [zai nwb,zai nwb];exact zad,hf,fun i hi=>⟨fun e=>?_,fun e=>?_⟩⟩ frH
   ·obtain ⟨⟨lt,et,hlt⟩,ok⟩:=hR.r z hz
    refine ⟨⟨lt,frH _ _ (fun e=>by rw [e,eb] at et;cases et) et,?_⟩,ok⟩
    cases hl:z.2.l with
    | none=>rw [hl] at hlt;exact hlt
    | some o =>
     rw [hl] at hlt
     obtain ⟨u,eu,hu⟩:=hlt
     exact ⟨u,eu,frH _ _ (fun e=>by rw [e,eb] at hu;cases hu) hu⟩
   ·obtain ⟨z,hz,a,b',e⟩:=lcs_mem.mp ((kmem c).mp hc)
    exact (hR.f z hz).2.2 c a b' e
   ·have:=s12 _ _ (S.o i hi).ls
    rw [← show l=D.p i from e,hl2] at this
    cases this
   ·have hls:=(S.o i hi).ls
    have:=fr _ _ (fun e=>by rw [e,eb] at hls;cases hls) (s12 _ _ hls)
    rw [← show la=D.p i from e,yla] at this
    cases this
abbrev zbR:Stmt:=zaF (top 66) 5
theorem zep:FnScope ["self","number"] ["self","number"] (zah zbR):=sck rfl rfl rfl (by decide +kernel)
inductive spInBitsI (C:Addr)(vs:List V)(H:Hp)(Q:VK)(u3_:XK):Prop
 | mk (B:Bd) (D:Dt) (f:Nat) (x:Int) (z0_:vs=[.ref B.b,.int x]) (z1_:BdAt C B D H f) (z2_:Q (.bl (decide (0≤x∧x<((2 ^ B.bits:Nat):Int)))) H)
theorem zeK {f:Addr}{C:Addr}{fd:FuncData}(F:Fun K "in_bits" "Board.in_bits" zbR f fd)(T:Blt mg)(cl:ClsBd K C)(Gis_number:Cal P w K mg base 1 "is_number" ["thing","last"] spIsNum)(Gsize_of:Cal P w K mg base 1 "size_of" ["bits"] spSize):FnOk P w K mg base CX0 2 f fd ["self","number"] (spInBitsI C):=by
 refine F.ok zep (by walk_at "l") (fun cdv A outer s H vs Q E hr h=>?_)
 ·obtain ⟨B,D,f0,x,rfl,hB,k⟩:=h
  refine ⟨_,(zaf (zap (pe_c Gis_number (zaa (pv 1) (zaa (zaj zbC (pe_c Gsize_of (zaa (za5 (pv 0) rfl) zac)) zae) zac))))),?rd⟩
  obtain ⟨db,e⟩:=hB.e
  refine ⟨_,rfl,_,rfl,B.b,C,db,_,_,rfl,e,cl.cls,cl.bits,rfl,B.bits,rfl,hB.b2,_,_,rfl,rfl,_,_,rfl,?_⟩
  have e2:((2 ^ B.bits:Nat):Int)=(2:Int) ^ B.bits:=by norm_cast
  rw [show decide (0≤x∧x<((2 ^ B.bits:Nat):Int))=decide (0≤x∧x≤(2:Int) ^ B.bits - 1) from Xbc.mpr ⟨fun z=>⟨by omega,by omega⟩,fun z=>by omega⟩] at k
  exact k
theorem zmU {C:Addr}:∀ vs H Q E,spInBits C vs H Q E→spInBitsI C vs H Q E:=by
 rintro vs H Q E ⟨B,D,f,x,rfl,h,q⟩
 refine ⟨B,D,f,(x:Int),rfl,h,?_⟩
 rw [show decide (0≤(x:Int)∧(x:Int)<((2 ^ B.bits:Nat):Int))=decide (x<2 ^ B.bits) from Xbc.mpr ⟨fun h=>Int.ofNat_lt.mp h.2,fun h=>⟨XbU _,Int.ofNat_lt.mpr h⟩⟩]
 exact q
abbrev za2:Stmt:=zaF (top 66) 6
theorem zcf:FnScope ["self","address"] ["self","address"] (zah za2):=sck rfl rfl rfl (by decide +kernel)
theorem zcm {f:Addr}{C:Addr}{fd:FuncData}(F:Fun K "check_address" "Board.check_address" za2 f fd)(T:Blt mg)(M_in_bits:Mth P w K mg base 2 C "in_bits" [] (fun vs _=>vs) (spInBits C)):FnOk P w K mg base CX0 3 f fd ["self","address"] (spChkAd C):=by
 refine F.ok zcf (by walk_at "l") (fun cdv A outer s H vs Q E hr h=>?_)
 ·obtain ⟨B,D,f0,x,rfl,hB,hx,k⟩:=h
  refine ⟨_,(zaf (zax (zaO (zaC (za8 2 ⟨rfl,rfl,rfl,rfl,rfl⟩ (hrm hr) (pv 0) (zaa (pv 1) zac)))) (zaf zaR) zaq)),?rd⟩
  obtain ⟨db,e⟩:=hB.e
  refine ⟨_,rfl,B.b,C,db,_,_,_,rfl,e,M_in_bits,rfl,_,rfl,B,D,f0,x,rfl,hB,_,rfl,?_⟩
  rw [Xah hx]
  exact iteF k
abbrev zbS:Stmt:=zaF (top 66) 7
theorem zeq:FnScope ["self","number"] ["self","number"] (zah zbS):=sck rfl rfl rfl (by decide +kernel)
theorem zeL {f:Addr}{C:Addr}{fd:FuncData}(F:Fun K "chip_of" "Board.chip_of" zbS f fd)(T:Blt mg)(cl:ClsBd K C):FnOk P w K mg base CX0 1 f fd ["self","number"] (spChipOf C):=by
 refine F.ok zeq (by walk_at "l") (fun cdv A outer s H vs Q E hr h=>?_)
 ·obtain ⟨B,D,f0,i,z,rfl,hB,hz,k⟩:=h
  refine ⟨_,(zaf (zap (pe_x zam (za5 (pv 0) rfl) (pe_x zaw (pe_x zaw (za5 (pv 0) rfl) (pv 1)) zae)))),?rd⟩
  obtain ⟨db,e⟩:=hB.e
  have hm:=Xas hz
  obtain ⟨lt,et,_⟩:=(hB.rf.r z hm).1
  exact ⟨_,rfl,B.b,C,db,_,_,rfl,e,cl.cls,cl.chips,rfl,_,rfl,B.b,C,db,_,_,rfl,e,cl.cls,cl.rows,rfl,_,rfl,B.R,_,_,_,rfl,rfl,SqT.of hB.rf.e,zaA (zev hz),z.1,_,_,_,rfl,rfl,SqT.of et,rfl,B.L,_,_,_,rfl,rfl,SqL.of hB.ch,zaA (zfm (hB.rf.f z hm).1),k⟩
abbrev zb1:Stmt:=zaF (top 66) 4
theorem ze4:FnScope ["self","kind","address","word","watch"] ["self","kind","address","word"] (zah zb1):=sck rfl rfl rfl (by decide +kernel)
theorem ze7 {f:Addr}{C:Addr}{fd:FuncData}(F:Fun K "finish" "Board.finish" zb1 f fd)(T:Blt mg)(cl:ClsBd K C):FnOk P w K mg base CX0 1 f fd ["self","kind","address","word"] (spFinish C):=by
 refine F.ok ze4 (by walk_at "l") (fun cdv A outer s H vs Q E hr h=>?_)
 ·obtain ⟨B,D,f0,kind,x,v,rfl,hB,hv,k⟩:=h
  refine ⟨_,(zab (zch (pv 0) (pv 3) rfl)
   (zaf (zk3 PassesOwn.never rfl (zjE PySem.F.plainAttrs_dict PySem.F.slot_dict_values PySem.F.type_dict_values zjR (za5 (pv 0) rfl))))),?rd⟩
  obtain ⟨db,e⟩:=hB.e
  refine ⟨_,rfl,_,rfl,B.b,C,db,_,rfl,e,cl.cls,cl.floating,(by unfold bdF;simp),?_⟩
  have h1:BdAt C B D (upd H B.b (.ins C db (bdF B v))) v:=hB.fl hv
  obtain ⟨d1,e1⟩:=h1.e
  refine ⟨_,rfl,B.b,C,db,_,_,rfl,zad,cl.cls,cl.watches,rfl,.inr (.inr (.inl ⟨rfl,.inl ⟨_,h1.w0⟩⟩)),B.W,_,rfl,rfl,h1.w0,fun p hp=>⟨p,B.W,rfl,zad,?_,?_⟩⟩
  ·exact zag hp _ _ h1.w0
  ·refine k _ (h1.same (zag hp)) fun a o ha ea=>zag hp _ _ ?_
   show upd H B.b _ a=some o
   rw [zai ha];exact ea
abbrev zdw:Stmt:=zaF (top 66) 1
theorem scBoard_who:FnScope ["self","address","words","number"] ["self","address"] (zah zdw):=sck rfl rfl rfl (by decide +kernel)
theorem zkO {l:List Nat}{j c:Nat}(hn:l.Nodup)(h:l[j]? = some c):c ∉ l.take j:=fun hm=>by
 obtain ⟨i,hi⟩:=XbG.mp hm
 have hj:i<j:=by
  have:=(Xaf.mp hi).1
  rw [XaM] at this
  omega
 rw [List.getElem?_take_of_lt hj] at hi
 obtain ⟨a1,e1⟩:=Xaf.mp hi
 obtain ⟨a2,e2⟩:=Xaf.mp h
 exact (XbK.mp hn) i j a1 a2 hj (e1.trans e2.symm)
theorem zhx {f:Addr}{C:Addr}{cs:Nat→Addr}{fd:FuncData}(F:Fun K "who" "Board.who" zdw f fd)(T:Blt mg)(cl:ClsBd K C)(Ganswering:Cal P w K mg base 2 "answering" ["rows","address","words"] spAnsw)(Gcell_at:Cal P w K mg base 3 "cell_at" ["row","address"] spCellR)
  (M_check_address:Mth P w K mg base 3 C "check_address" [] (fun vs _=>vs) (spChkAd C)) (MK:∀ kd,kd<5→Mth P w K mg base 5 (cs kd) "look" [] (fun vs _=>vs) (spL26 cs kd)):FnOk P w K mg base CX0 6 f fd ["self","address"] (spWho C cs):=by
 refine F.ok scBoard_who (by walk_at "l") (fun cdv A outer s H vs Q E hr h=>?_)
 ·obtain ⟨B,D,us,f0,x,rfl,hB,S,hx,k1,k2⟩:=h
  refine ⟨_,(zab (zaz (za8 3 ⟨rfl,rfl,rfl,rfl,rfl⟩ (hrm hr) (pv 0) (zaa (pv 1) zac)))
   (zab (zhd (i:=2) (Nc:=["chip","self"]) [none,some 0] scBoard_who.nd rfl rfl rfl (zaK (by rfl)) (zby (za5 (pv 0) rfl)) (fun _ _ _ _ _=>(pg_L 0 (show (["chip","self"]:List Str).Nodup by decide +kernel))) (fun _ _ _ _ _=>zeB) (fun _ _ _ _ _=>(pv 0)) (fun _ _ _ _ _=>(za8 5 ⟨rfl,rfl,rfl,rfl,rfl⟩ (hrm hr) (pe_x (zfO (K:=K) rfl) (zmJ (K:=K) rfl (pv 1) rfl) (pv 0)) (zaa zae zac))))
   (zab (ps_L 3 scBoard_who.nd (pe_c Ganswering (zaa (za5 (pv 0) rfl) (zaa (pv 1) (zaa (pv 2) zac)))))
   (zab (zax (zbT (zcj (pv 3))) (zaf (zap zcz)) zaq)
   (zaf (zap (za0 (zaa (pv 3) (zaa (pe_c Gcell_at (zaa (pe_x zaw (za5 (pv 0) rfl) (pv 3)) (zaa (pv 1) zac))) zac))))))))),?rd⟩
  obtain ⟨db,e⟩:=hB.e
  have hln:B.keys.length≤1000:=by
   have:=zh7 D.m B.keys hB.kn fun a ha=>(hB.ks a ha).1
   have:=S.m1
   omega
  refine ⟨_,rfl,B.b,C,db,_,_,_,rfl,e,M_check_address,rfl,_,rfl,B,D,f0,x,rfl,hB,hx,?_⟩
  refine ⟨_,rfl,B.b,C,db,_,_,rfl,e,cl.cls,cl.latches,rfl,B.la,rfl,⟨_,SqL.of hB.la⟩,?_⟩
  refine ziZ (K:=K) (xs:=vN B.keys) (fun j ys σ H1=>∃ v0,σ=[v0,some (.ref B.b)]∧ys.length=j∧dk ys=dV (B.keys.take j) (hld us)∧H1=H) (by rw [zal];exact hln) ⟨none,rfl,rfl,rfl,rfl⟩ ?_ ?_ ?_
  ·rintro j ys σ H1 hj ⟨v0,rfl,hl,_,rfl⟩
   exact ⟨SqL.of hB.la,by omega⟩
  ·rintro j y ys σ H1 hy ⟨v0,rfl,hl,hd,rfl⟩
   obtain ⟨c,hc,rfl⟩:=zcX hy
   have hcm:=hB.ks c (Xas hc)
   obtain ⟨dx,ex⟩:=(S.o c hcm.1).ex
   have kk:=S.k c hcm.1
   have h1:=S.h1 c hcm.1 (.inl hcm.2)
   rw [hcm.2] at ex
   have oc:=S.o c hcm.1
   rw [hcm.2] at oc kk
   have hv:klk 2 (us c) 0=hld us c:=rfl
   refine ⟨_,rfl,Sum.inl (c:Int),rfl,_,rfl,B.b,C,db,_,_,rfl,e,cl.cls,cl.chips,rfl,_,rfl,B.L,_,_,_,rfl,rfl,SqL.of hB.ch,zaA (zfm hcm.1),D.x c,cs 2,dx,_,_,_,rfl,ex,MK 2 (by decide),lkn _,D.x c,D.p c,D.n c,0,us c,rfl,oc,kk,(by show 0<(us c).length;omega),?_⟩
   refine ⟨_,rfl,by rw [Xay,hl];rfl,?_,rfl⟩
   rw [zke,hd,hv]
   rw [zmc (zkO hB.kn hc),Xbk,hc]
   unfold dV
   congr 1
   funext z
   show V.int ((if z=c then hld us c else hld us z:Nat):Int)=V.int (hld us z:Int)
   by_cases ez:z=c
   ·rw [if_pos ez,ez]
   ·rw [if_neg ez]
  ·rintro ys σ H1 ⟨v0,rfl,hl,hd,rfl⟩ d hdn
   rw [zal,XaH (Xae _)] at hd
   rw [hd]
   have s1:=zag (H:=H1) (o:=HO.dK (dV B.keys (hld us))) hdn
   refine ⟨_,rfl,B.b,C,db,_,_,rfl,s1 _ _ e,cl.cls,cl.rows,rfl,_,rfl,_,rfl,B.R,d,x,B.ws,B.keys,hld us,rfl,s1 _ _ hB.rf.e,(fun z hz=>(hB.rf.r z hz).1.same s1),zad,fun H2 s2=>?_⟩
   have s12:=s1.trans s2
   cases hw:whoI B us x with
   | none =>
    have ef:fstA (B.ws.map (·.2)) x (wrd B.keys (hld us)) = .non:=by unfold fstA;rw [show List.findIdx? (fun r=>ans r x (wrd B.keys (hld us))) (B.ws.map (·.2))=none from hw]
    rw [ef]
    exact ⟨_,rfl,_,rfl,iteT (k1 hw H2 s12)⟩
   | some i =>
    have ef:fstA (B.ws.map (·.2)) x (wrd B.keys (hld us)) = .int (i:Int):=by unfold fstA;rw [show List.findIdx? (fun r=>ans r x (wrd B.keys (hld us))) (B.ws.map (·.2))=some i from hw]
    rw [ef]
    obtain ⟨q,hq⟩:∃ q,(B.ws.map (·.2))[i]? = some q:=by
     obtain ⟨hi,_⟩:=Xbb.mp hw
     exact ⟨_,Xaw hi⟩
    rw [Xaq] at hq
    obtain ⟨z,hz,_⟩:=XaP.mp hq
    have hzm:=hB.rf.r z (Xas hz)
    have hzi:z.2.i<2 ^ 64:=Xak hzm.2.i0 (XaB (by decide) (by have:=hB.b2;omega))
    refine ⟨_,rfl,_,rfl,iteF (zau ?_)⟩
    try dsimp only
    refine ⟨_,rfl,_,rfl,B.b,C,db,_,_,rfl,s12 _ _ e,cl.cls,cl.rows,rfl,_,rfl,B.R,_,_,_,rfl,rfl,SqT.of (s12 _ _ hB.rf.e),zaA (zev hz),_,rfl,z.1,z.2,x,rfl,hzm.1.same s12,hzi,fun H3 s3=>⟨by rw [sizeLine_eq];simp,fun t ht=>?_⟩⟩
    have s13:=s12.trans s3
    exact k2 i z hw hz t _ (s13.free ht) zad (s13.trans (zag ht))
abbrev zcP:Stmt:=zaF (top 66) 2
theorem scBoard_read:FnScope ["self","address","quiet","found","word","number","cell","chip"] ["self","address","quiet"] (zah zcP):=sck rfl rfl rfl (by decide +kernel)
def rdW (B:Bd)(D:Dt)(us:Nat→List Nat)(f x:Nat):Nat:=match whoI B us x with
 | none=>f
 | some i=>match B.ws[i]? with
  | none=>f
  | some z=>klk (D.kd z.2.c) (us z.2.c) (gath z.2.i x)
def rdU (B:Bd)(D:Dt)(us:Nat→List Nat)(x:Nat):Nat→List Nat:=match whoI B us x with
 | none=>us
 | some i=>match B.ws[i]? with
  | none=>us
  | some z=>wset us z.2.c (krd (D.kd z.2.c) (us z.2.c) (gath z.2.i x))
def FrB (b:Addr)(D:Dt)(Y Z:Hp):Prop:=∀ a o,a≠b→(∀ i,i<D.m→a≠D.p i)→Y a=some o→Z a=some o
theorem FrB.trans {b:Addr}{D:Dt}{X Y Z:Hp}(h:FrB b D X Y)(k:FrB b D Y Z):FrB b D X Z:=fun a o h1 h2 e=>k a o h1 h2 (h a o h1 h2 e)
theorem FrB.of {b:Addr}{D:Dt}{X Y:Hp}(h:Same X Y):FrB b D X Y:=fun a o _ _ e=>h a o e
theorem BdAt.put {C:Addr}{B:Bd}{D:Dt}{Y Z:Hp}{f i:Nat}{l:List V}(h:BdAt C B D Y f)(hi:i<D.m)(hp:Y (D.p i)=some (.lst l))(k:∀ b,b≠D.p i→Z b=Y b):BdAt C B D Z f:=by
 obtain ⟨db,e⟩:=h.e
 have ne:∀ {a:Addr} {o:HO},Y a=some o→(∀ x,o≠.lst x)→Z a=some o:=fun {a o} ea ho=>by
  rw [k a (fun z=>by rw [z,hp] at ea;exact ho _ (Option.some.inj ea).symm)];exact ea
 refine ⟨⟨db,ne e (by intros;exact (fun z=>by cases z))⟩,h.b1,h.b2,⟨ne h.rf.e (by intros;exact (fun z=>by cases z)),(fun z hz=>?_),h.rf.f,h.rf.nc,h.rf.ln⟩,(by rw [k _ (h.nl i hi).1];exact h.ch),(by rw [k _ (h.nl i hi).2];exact h.la),h.kl,h.ks,h.kn,ne h.w0 (by intros;exact (fun z=>by cases z)),h.f0,h.nl⟩
 obtain ⟨⟨lt,et,hlt⟩,ok⟩:=h.rf.r z hz
 refine ⟨⟨lt,ne et (by intros;exact (fun z=>by cases z)),?_⟩,ok⟩
 cases hl:z.2.l with
 | none=>rw [hl] at hlt;exact hlt
 | some o =>
  rw [hl] at hlt
  obtain ⟨u,eu,hu⟩:=hlt
  exact ⟨u,eu,ne hu (by intros;exact (fun z=>by cases z))⟩
theorem Chs.bd {cs:Nat→Addr}{C b:Addr}{B:Bd}{D:Dt}{Y Z:Hp}{f:Nat}{us:Nat→List Nat}(S:Chs cs D Y us)(h:BdAt C B D Y f)(hn:∀ i,i<D.m→D.x i≠B.b)(k:∀ a o,a≠B.b→Y a=some o→Z a=some o):Chs cs D Z us:=by
 refine ⟨fun i hi=>?_,S.k,S.h1,S.z,S.inj,S.m1⟩
 obtain ⟨dx,ex⟩:=(S.o i hi).ex
 obtain ⟨db,e⟩:=h.e
 exact ⟨⟨dx,k _ _ (hn i hi) ex⟩,k _ _ (fun z=>by have:=(S.o i hi).ls;rw [z,e] at this;cases this) (S.o i hi).ls⟩
theorem zkz {cs:Nat→Addr}{C:Addr}{B:Bd}{D:Dt}{Y:Hp}{f:Nat}{us:Nat→List Nat}(S:Chs cs D Y us)(h:BdAt C B D Y f):∀ i,i<D.m→D.x i≠B.b:=fun i hi z=>by
 obtain ⟨dx,ex⟩:=(S.o i hi).ex
 obtain ⟨db,e⟩:=h.e
 rw [z,e] at ex
 have:=Option.some.inj ex
 injection this with _ _ h3
 unfold bdF at h3
 have h4:=(List.cons.inj h3).1
 exact absurd (congrArg Prod.fst h4) (by show ("bits" : Str) ≠ "head"; decide)
set_option tactic.hygienic true in
theorem klk_le {kd n c:Nat}{ws:List Nat}(k:Kd kd n ws)(hl:ws.length≤255∨kd≠4):klk kd ws c≤255:=by
 unfold klk
 have hw:∀ v,v∈ws→v≤255:=k.w5
 split
 ·rename_i e4
  split
  ·have:=(k.pi e4).1;have:=k.n2;omega
  ·cases ws with
   | nil=>exact Nat.zero_le _
   | cons a l=>exact hw a Xav
 ·rw [Xbn]
  cases h:ws[c]? with
  | none=>exact Nat.zero_le _
  | some v=>exact hw v (Xas h)
inductive spRdB (C:Addr)(cs:Nat→Addr)(vs:List V)(H:Hp)(Q:VK)(u3_:XK):Prop
 | mk (B:Bd) (D:Dt) (us:Nat→List Nat) (f x:Nat) (q:Bool) (z0_:vs=[.ref B.b,.int (x:Int),.bl q]) (z1_:BdAt C B D H f) (z2_:Chs cs D H us) (z3_:x<2 ^ B.bits) (z4_:(q=true→∀ H',Same H H'→Q (.int (rdW B D us f x:Int)) H')) (z5_:(q=false→∀ H',BdAt C B D H' (rdW B D us f x)→Chs cs D H' (rdU B D us x)→FrB B.b D H H'→Q (.int (rdW B D us f x:Int)) H'))
theorem zgq {f:Addr}{C:Addr}{cs:Nat→Addr}{fd:FuncData}{dV:Value}(F:FunD K "read" "Board.read" zcP dV f fd)(T:Blt mg)(N:Nums mg)(cl:ClsBd K C)
  (M_who:Mth P w K mg base 6 C "who" [] (fun vs _=>vs) (spWho C cs)) (M_chip_of:Mth P w K mg base 1 C "chip_of" [] (fun vs _=>vs) (spChipOf C)) (M_finish:Mth P w K mg base 1 C "finish" [] (fun vs _=>vs) (spFinish C)) (MK:∀ kd,kd<5→Mth P w K mg base 5 (cs kd) "look" [] (fun vs _=>vs) (spL26 cs kd)) (MR:∀ kd,kd<5→Mth P w K mg base 5 (cs kd) "read" [] (fun vs _=>vs) (spR26 cs kd)):FnOk P w K mg base CX0 7 f fd ["self","address","quiet"] (spRdB C cs):=by
 refine F.ok scBoard_read (by walk_at "l") (fun cdv A outer s H vs Q E hr h=>?_)
 ·obtain ⟨B,D,us,f0,x,q,rfl,hB,S,hx,k1,k2⟩:=h
  refine ⟨_,(zab (ps_L 3 scBoard_read.nd (za8 6 ⟨rfl,rfl,rfl,rfl,rfl⟩ (hrm hr) (pv 0) (zaa (pv 1) zac)))
   (zab (ps_L 4 scBoard_read.nd (za5 (pv 0) rfl))
   (zab (zax (zbT (zeC (pv 3))) (zab (zbj (pv 3) (zba rfl (zan (pg_L 5 scBoard_read.nd) (zan (pg_L 6 scBoard_read.nd) zaM))))
   (zab (ps_L 7 scBoard_read.nd (za8 1 ⟨rfl,rfl,rfl,rfl,rfl⟩ (hrm hr) (pv 0) (zaa (pv 5) zac)))
   (zaf (ps_L 4 scBoard_read.nd (zh0 (zaC (pv 2)) (za8 5 ⟨rfl,rfl,rfl,rfl,rfl⟩ (hrm hr) (pv 7) (zaa (pv 6) zac)) (za8 5 ⟨rfl,rfl,rfl,rfl,rfl⟩ (hrm hr) (pv 7) (zaa (pv 6) zac))))))) zaq)
   (zab (zax (zaO (zaC (pv 2))) (zaf (zaz (za8 1 ⟨rfl,rfl,rfl,rfl,rfl⟩ (hrm hr) (pv 0) (zaa (zh1 rfl N.READ) (zaa (pv 1) (zaa (pv 4) zac)))))) zaq)
   (zaf (zap (pv 4))))))),?rd⟩
  obtain ⟨db,e⟩:=hB.e
  refine ⟨_,rfl,B.b,C,db,_,_,_,rfl,e,M_who,rfl,_,rfl,B,D,us,f0,x,rfl,hB,S,hx,fun hw H1 s1=>?_,fun i z hw hz t H1 ht et s1=>?_⟩
  ·have hB1:=hB.same s1
   have S1:=S.same s1
   obtain ⟨d1,e1⟩:=hB1.e
   have ev:rdW B D us f0 x=f0:=by unfold rdW;rw [hw]
   have eu:rdU B D us x=us:=by unfold rdU;rw [hw]
   rw [ev] at k1 k2
   rw [eu] at k2
   refine ⟨_,rfl,B.b,C,d1,_,_,rfl,e1,cl.cls,cl.floating,rfl,?_⟩
   refine ⟨_,rfl,_,rfl,iteF (zau ?_)⟩
   try dsimp only
   cases q with
   | true=>exact ⟨_,rfl,_,rfl,iteF (zau ⟨_,rfl,k1 rfl H1 s1⟩)⟩
   | false =>
    refine ⟨_,rfl,_,rfl,iteT ⟨_,rfl,B.b,C,d1,_,_,_,rfl,e1,M_finish,rfl,_,rfl,_,rfl,?_⟩⟩
    refine ⟨B,D,f0,"read",x,f0,rfl,hB1,hB.f0,fun H2 hB2 k'=>?_⟩
    exact ⟨_,rfl,k2 rfl H2 hB2 (S1.bd (b:=C) hB1 (zkz S1 hB1) k') ((FrB.of s1).trans fun a o h1 _ ea=>k' a o h1 ea)⟩
  ·have hB1:=hB.same s1
   have S1:=S.same s1
   obtain ⟨d1,e1⟩:=hB1.e
   have hm:=Xas hz
   obtain ⟨f1,f2,f3⟩:=hB.rf.f z hm
   have oc:=S1.o _ f1
   have kc:=S1.k _ f1
   have hcell:gath z.2.i x<ksize (D.kd z.2.c) (us z.2.c):=by rw [S.z _ f1];exact Xak (zhI _ _) f2
   have ev:rdW B D us f0 x=klk (D.kd z.2.c) (us z.2.c) (gath z.2.i x):=by unfold rdW;rw [hw];dsimp only;rw [hz]
   have eu:rdU B D us x=wset us z.2.c (krd (D.kd z.2.c) (us z.2.c) (gath z.2.i x)):=by unfold rdU;rw [hw];dsimp only;rw [hz]
   rw [ev] at k1 k2
   rw [eu] at k2
   have hv:=klk_le (c:=gath z.2.i x) kc (if e4:D.kd z.2.c=4 then .inl (by have:=(kc.pi e4).1;have:=kc.n2;omega) else .inr e4)
   obtain ⟨dx,ex⟩:=oc.ex
   refine ⟨_,rfl,B.b,C,d1,_,_,rfl,e1,cl.cls,cl.floating,rfl,?_⟩
   refine ⟨_,rfl,_,rfl,iteT ?_⟩
   refine ⟨_,rfl,zid et ?_⟩
   refine ⟨_,rfl,B.b,C,d1,_,_,_,rfl,e1,M_chip_of,rfl,_,rfl,B,D,f0,i,z,rfl,hB1,hz,?_⟩
   cases q with
   | true =>
    refine ⟨_,rfl,_,rfl,iteT ⟨_,rfl,D.x z.2.c,cs (D.kd z.2.c),dx,_,_,_,rfl,ex,MK _ kc.k5,lkn _,_,rfl,_,_,_,_,_,rfl,oc,kc,hcell,?_⟩⟩
    exact ⟨_,rfl,_,rfl,iteF (zau ⟨_,rfl,k1 rfl H1 s1⟩)⟩
   | false =>
    refine ⟨_,rfl,_,rfl,iteF ⟨_,rfl,D.x z.2.c,cs (D.kd z.2.c),dx,_,_,_,rfl,ex,MR _ kc.k5,lkn _,_,rfl,_,_,_,_,_,rfl,oc,kc,hcell,fun H2 e2 kp=>?_⟩⟩
    have hB2:=hB1.put f1 oc.ls kp
    have S2:=S1.put f1 kc.rd (kz_rd _ _ kc) e2 kp
    obtain ⟨d2,e2b⟩:=hB2.e
    refine ⟨_,rfl,_,rfl,iteT ⟨_,rfl,B.b,C,d2,_,_,_,rfl,e2b,M_finish,rfl,_,rfl,_,rfl,?_⟩⟩
    refine ⟨B,D,f0,"read",x,_,rfl,hB2,hv,fun H3 hB3 k'=>?_⟩
    exact ⟨_,rfl,k2 rfl H3 hB3 (S2.bd (b:=C) hB2 (zkz S2 hB2) k') ((FrB.of s1).trans (FrB.trans (fun a o h1 h2 ea=>by rw [kp a (h2 _ f1)];exact ea) fun a o h1 _ ea=>k' a o h1 ea))⟩
def k21 {α:Type}(us zs:List α):List α:=match us,zs with
 | [a,b],[c]=>[a,b,c]
 | _,_=>[]
theorem zkM {vs zs:List V}{us ws:List Value}(g:Vals vs us)(h:Vals zs ws):Vals (k21 vs zs) (k21 us ws):=by
 cases g with
 | nil=>exact .nil
 | cons a g=>cases g with
  | nil=>exact .nil
  | cons b g=>cases g with
   | cons _ _=>exact .nil
   | nil=>cases h with
    | nil=>exact .nil
    | cons c h=>cases h with
     | nil=>exact .cons a (.cons b (.cons c .nil))
     | cons _ _=>exact .nil
abbrev zcI:Stmt:=top 68
theorem sc_law_draws:FnScope ["cell","count","row","rest","base","more","k","stir"] ["cell","count"] (zah zcI):=sck rfl rfl rfl (by decide +kernel)
inductive spDraws (vs:List V)(H:Hp)(Q:VK)(u3_:XK):Prop
 | mk (c:Int) (n:Nat) (z0_:vs=[.int c,.int (n:Int)]) (z1_:n≤200) (z2_:∀ (p:Addr) (H':Hp) (row:List Nat),H p=none→H' p=some (.lst (vN row))→row.length=n→(∀ v∈row,v<2 ^ 31)→Same H H'→Q (.ref p) H')
theorem zgk {f:Addr}{fd:FuncData}(F:Fun K "_law_draws" "_law_draws" zcI f fd)(T:Blt mg):FnOk P w K mg base CX0 1 f fd ["cell","count"] spDraws:=by
 refine F.ok sc_law_draws (by walk_at "l") (fun cdv A outer s H vs Q E hr h=>?_)
 ·obtain ⟨c,n,rfl,hn,k⟩:=h
  refine ⟨_,(zab (ps_L 2 sc_law_draws.nd (zay zac))
   (zab (ps_L 3 sc_law_draws.nd (zaj zbC (pv 0) (zaj zh6 zae zae)))
   (zab (ps_L 4 sc_law_draws.nd (zaj zaS (zaj zaD (pv 0) zae) zae))
   (zab (ps_L 5 sc_law_draws.nd (zaj zaD (pv 0) zae))
   (zab (za4 PassesOwn.never rfl (zaU rfl T.range (zaa (pv 1) zac)) (pg_L 6 sc_law_draws.nd)
   (zab (ps_L 7 sc_law_draws.nd (zaj zaD (zaj zck (pv 4) (zaj zaS (zaj zck zae (pv 6)) zae)) zae))
   (zab (ps_L 7 sc_law_draws.nd (zaj zaD (zaj zaS (zaj zh6 (pv 7) zae) (zaj zh6 (zaj zaS (pv 6) zae) zae)) zae))
   (zab (ps_L 7 sc_law_draws.nd (zaj zaE (zaj zaD (zaj zh6 (zaj zaS (pv 7) (pv 5)) zae) zae) zae))
   (zab (zax (zat zeD (pv 3) zae (zav _)) (zab (ps_L 7 sc_law_draws.nd (zaj zaD (pv 3) zae))
   (zaf (ps_L 3 sc_law_draws.nd (zaj zaE (pv 3) zae)))) zaq)
   (zaf (zaz (zdz PySem.F.plainAttrs_list PySem.F.slot_list_append PySem.F.type_list_append zaW (pv 2) (zaa (pv 7) zac)))))))))
   (zaf (zap (pv 2)))))))),?rd⟩
  refine ⟨by show 0≤sizeLine;decide,fun l hl=>?_⟩
  refine ⟨_,rfl,_,_,rfl,rfl,⟨by decide,by decide,by decide⟩,_,_,rfl,rfl,?_⟩
  refine ⟨_,rfl,_,_,rfl,rfl,(show (0:Int)<1000000007 by decide),_,_,rfl,rfl,?_⟩
  refine ⟨_,rfl,_,_,rfl,rfl,(show (0:Int)<999983 by decide),?_⟩
  refine ⟨_,rfl,_,rfl,by omega,by omega,?_⟩
  have b0:=XbI c (show (1000000007:Int)≠0 by decide)
  have b1:=Xbr c (show (0:Int)<1000000007 by decide)
  have m0:=XbI c (show (999983:Int)≠0 by decide)
  have m1:=Xbr c (show (0:Int)<999983 by decide)
  rw [Xag]
  refine zbb (n:=n) (fun i σ X=>∃ (v6 v7:Option V) (rest:Int) (row:List Nat),σ=[some (.int c),some (.int (n:Int)),some (.ref l),some (.int rest),some (.int (c % 1000000007+1)),some (.int (c % 999983)),v6,v7]∧X l=some (.lst (vN row))∧row.length=i∧(∀ v∈row,v<2 ^ 31)∧Same H X) ⟨none,none,_,[],rfl,zad,rfl,(fun v hv=>by cases hv),zag hl⟩ ?_ ?_
  ·rintro i σ X hi ⟨v6,v7,rest,row,rfl,eX,hlen,hrow,sX⟩
   refine ⟨_,rfl,_,rfl,_,_,rfl,rfl,zc5 (by decide) (by omega),_,_,rfl,rfl,_,_,rfl,rfl,zc5 (by omega) (by omega),_,_,rfl,rfl,(show (0:Int)<2147483647 by decide),?_⟩
   generalize hs1:(c % 1000000007+1) * (2 * (0+(i:Int))+3) % 2147483647=st1
   have s10:0≤st1:=by rw [← hs1];exact XbI _ (by decide)
   have s11:st1<2147483647:=by rw [← hs1];exact Xbr _ (by decide)
   refine ⟨_,rfl,_,_,rfl,rfl,⟨by decide,by decide,by omega⟩,_,rfl,_,_,rfl,rfl,_,_,rfl,rfl,⟨by decide,by decide,by omega⟩,_,_,rfl,rfl,_,_,rfl,rfl,(show (0:Int)<2147483629 by decide),?_⟩
   show zaT 7 (V.int ((st1 ^ (5:Int).toNat+(0+(i:Int)+1) ^ (3:Int).toNat) % 2147483629)) _ _ _
   generalize hs2:(st1 ^ (5:Int).toNat+(0+(i:Int)+1) ^ (3:Int).toNat) % 2147483629=st2
   have s20:0≤st2:=by rw [← hs2];exact XbI _ (by decide)
   have s21:st2<2147483629:=by rw [← hs2];exact Xbr _ (by decide)
   refine ⟨_,rfl,_,rfl,_,_,rfl,rfl,_,_,rfl,rfl,⟨by decide,by decide,by omega⟩,_,_,rfl,rfl,(show (0:Int)<2147483587 by decide),_,_,rfl,rfl,(show (0:Int)<16∧(16:Int).natAbs.log2<9000 by decide),?_⟩
   show zaT 7 (V.int ((st2+c % 999983) ^ (3:Int).toNat % 2147483587 / 16)) _ _ _
   generalize hs3:(st2+c % 999983) ^ (3:Int).toNat % 2147483587=st3
   have s30:0≤st3:=by rw [← hs3];exact XbI _ (by decide)
   have s31:st3<2147483587:=by rw [← hs3];exact Xbr _ (by decide)
   have app:∀ v:Int,0≤v→v<2147483587→∃ row':List Nat,upd X l (.lst (vN row ++ [V.int v])) l=some (.lst (vN row'))∧row'.length=i+1∧(∀ u∈row',u<2 ^ 31)∧Same H (upd X l (.lst (vN row ++ [V.int v]))):=fun v h0 h1=>by
    obtain ⟨u,rfl⟩:=Int.eq_ofNat_of_zero_le h0
    refine ⟨row ++ [u],by rw [zad,zbn],by rw [Xay,hlen];rfl,fun z hz=>?_,fun b o e=>by rw [zai (zak e hl)];exact sX b o e⟩
    rcases XaK.mp hz with hz | hz
    ·exact hrow z hz
    ·rw [Xad] at hz;omega
   have hsz:(vN row).length<sizeLine:=by rw [zal,hlen];exact zcc (by omega)
   refine ⟨_,rfl,_,_,rfl,rfl,_,rfl,ite2 (fun h1=>?_) (fun h1=>zau ?_)⟩
   ·refine ⟨_,rfl,_,_,rfl,rfl,(show (0:Int)<1000003 by decide),?_⟩
    refine ⟨_,rfl,_,_,rfl,rfl,(show (0:Int)<1000003∧(1000003:Int).natAbs.log2<9000 by decide),?_⟩
    have r0:=XbI rest (show (1000003:Int)≠0 by decide)
    have r1:=Xbr rest (show (0:Int)<1000003 by decide)
    obtain ⟨row',g1,g2,g3,g4⟩:=app (rest % 1000003) r0 (by omega)
    exact ⟨_,rfl,.inl ⟨rfl,_,SqL.of eX⟩,_,rfl,l,_,_,rfl,rfl,eX,hsz,_,_,_,row',rfl,g1,g2,g3,g4⟩
   ·dsimp only
    obtain ⟨row',g1,g2,g3,g4⟩:=app (st3 / 16) (by omega) (by omega)
    exact ⟨_,rfl,.inl ⟨rfl,_,SqL.of eX⟩,_,rfl,l,_,_,rfl,rfl,eX,hsz,_,_,_,row',rfl,g1,g2,g3,g4⟩
  ·rintro σ X ⟨v6,v7,rest,row,rfl,eX,hlen,hrow,sX⟩
   exact ⟨_,rfl,k l X row hl eX hlen hrow sX⟩
abbrev zdp:Stmt:=top 69
theorem sc_law_ones:FnScope ["mask","found","bit"] ["mask"] (zah zdp):=sck rfl rfl rfl (by decide +kernel)
theorem zlT (m i:Nat):sgl (m % 2 ^ (i+1))=sgl (m % 2 ^ i) ++ (if m &&& 2 ^ i=0 then [] else [2 ^ i]):=by
 rw [← zcn,← zcn,show zaG m (i+1)=zaG m i ++ [m / 2 ^ i % 2] from zdH i m]
 have e:m &&& 2 ^ i=2 ^ i * (m / 2 ^ i % 2):=by
  apply Nat.eq_of_testBit_eq
  intro j
  rw [XaA,Xbz]
  rcases (show m / 2 ^ i % 2=0∨m / 2 ^ i % 2=1 by omega) with h | h
  ·rw [h,Xbi,Nat.zero_testBit]
   by_cases e:i=j
   ·subst e
    rw [Nat.testBit_eq_decide_div_mod_eq,h];rfl
   ·rw [Xai e,XbB]
  ·rw [h,Nat.mul_one,Xbz]
   by_cases e:i=j
   ·subst e
    rw [Nat.testBit_eq_decide_div_mod_eq,h];simp
   ·rw [Xai e,XbB]
 rw [e]
 rcases (show m / 2 ^ i % 2=0∨m / 2 ^ i % 2=1 by omega) with h | h
 ·rw [h,if_pos (by omega),Xa1,zbl]
 ·rw [h,if_neg (by have:=Xb2 i;omega),zeh _ (zbW i m),zaB]
inductive spOnesL (vs:List V)(H:Hp)(Q:VK)(u3_:XK):Prop
 | mk (n:Nat) (z0_:vs=[.int (n:Int)]) (z1_:n<2 ^ 32) (z2_:∀ (p:Addr) (H':Hp),H p=none→H' p=some (.lst (vN (sgl n)))→Same H H'→Q (.ref p) H')
inductive spGL (vs:List V)(H:Hp)(Q:VK)(u3_:XK):Prop
 | mk (m n:Nat) (z0_:vs=[.int (m:Int),.int (n:Int)]) (z1_:m<2 ^ 32) (z2_:∀ H',Same H H'→Q (.int (gath m n:Int)) H')
theorem zhs {f:Addr}{fd:FuncData}(F:Fun K "_law_ones" "_law_ones" zdp f fd)(T:Blt mg):FnOk P w K mg base CX0 1 f fd ["mask"] spOnesL:=by
 refine F.ok sc_law_ones (by walk_at "l") (fun cdv A outer s H vs Q E hr h=>?_)
 ·obtain ⟨n,rfl,hn,k⟩:=h
  refine ⟨_,(zab (ps_L 1 sc_law_ones.nd (zay zac))
   (zab (ps_L 2 sc_law_ones.nd zae)
   (zab (zdZ PassesOwn.never (zat ziB (pv 2) (pv 0) (zav _)) (zab (zax (zat zeD (zaj zaP (pv 0) (pv 2)) zae (zav _)) (zaf (zaz (zdz PySem.F.plainAttrs_list PySem.F.slot_list_append PySem.F.type_list_append zaW (pv 1) (zaa (pv 2) zac)))) zaq)
   (zaf (zez (i:=2) sc_law_ones.nd rfl (Or.inl rfl) (pv 2) zdC))))
   (zaf (zap (pv 1)))))),?rd⟩
  refine ⟨by show 0≤sizeLine;decide,fun l hl=>?_⟩
  refine zdW (fun σ X=>∃ (i:Nat),σ=[some (.int (n:Int)),some (.ref l),some (.int ((2 ^ i:Nat):Int))]∧i≤33∧X l=some (.lst (vN (sgl (n % 2 ^ i))))∧Same H X) (fun σ _=>match σ with | [_,_,some (.int b)]=>(2 * n+2 - b.toNat) | _=>0)
   ⟨0,rfl,by decide,by rw [Nat.pow_zero,Nat.mod_one,zbX];exact zad,zag hl⟩ ?_ ?_
  ·rintro σ X ⟨i,rfl,hi,eX,sX⟩
   have hsz:(vN (sgl (n % 2 ^ i))).length<sizeLine:=by
    rw [zal,zaY]
    have:=zb5 64 (n % 2 ^ i) (XaZ (Nat.mod_le _ _) (Xak hn (by decide)))
    exact zcc (by omega)
   have hp:=Xb2 i
   refine ⟨_,rfl,_,rfl,_,_,rfl,rfl,_,rfl,ite2 (fun h1=>?_) (fun h1=>?_)⟩
   ·have h1:2 ^ i≤n:=by have:=XaD h1;omega
    have hi32:i<32:=by
     by_cases h:i<32
     ·exact h
     ·have:2 ^ 32≤2 ^ i:=XaB (by decide) (by omega)
      omega
    have st:=zlT n i
    have e2:((2 ^ i:Nat):Int)+((2 ^ i:Nat):Int)=((2 ^ (i+1):Nat):Int):=by rw [XaE];omega
    have e3:Builtin.bitAnd (n:Int) ((2 ^ i:Nat):Int)=((n &&& 2 ^ i:Nat):Int):=band _ _
    have hms:2 * n+2 - (((2 ^ i:Nat):Int)+((2 ^ i:Nat):Int)).toNat<2 * n+2 - ((2 ^ i:Nat):Int).toNat:=by rw [Xag,e2,Xag,XaE];omega
    refine ⟨_,rfl,_,rfl,_,_,rfl,rfl,_,_,rfl,rfl,_,rfl,ite2 (fun h2=>?_) (fun h2=>zau ?_)⟩
    ·have h2:¬ n &&& 2 ^ i=0:=fun z=>by
      have h2:=XaD h2
      rw [e3,z] at h2
      exact absurd h2 (by decide)
     rw [if_neg h2] at st
     refine ⟨_,rfl,.inl ⟨rfl,_,SqL.of eX⟩,_,rfl,l,_,_,rfl,rfl,eX,hsz,?_⟩
     refine ⟨_,rfl,_,rfl,_,_,rfl,rfl,⟨⟨i+1,?_,by omega,by rw [zad,st,zbn],fun b o e=>by rw [zai (zak e hl)];exact sX b o e⟩,hms⟩⟩
     rw [← e2];rfl
    ·have h2:n &&& 2 ^ i=0:=by
      by_cases z:n &&& 2 ^ i=0
      ·exact z
      ·exact absurd (Xah (show (0:Int)<Builtin.bitAnd (n:Int) ((2 ^ i:Nat):Int) by rw [e3];omega)) h2
     rw [if_pos h2,Xa1] at st
     try dsimp only
     refine ⟨_,rfl,_,rfl,_,_,rfl,rfl,⟨⟨i+1,?_,by omega,by rw [st];exact eX,sX⟩,hms⟩⟩
     rw [← e2];rfl
   ·have h1:n<2 ^ i:=by
     by_cases z:2 ^ i≤n
     ·exact absurd (Xah (show ((2 ^ i:Nat):Int)≤(n:Int) by omega)) h1
     ·omega
    rw [XaQ h1] at eX
    exact ⟨_,rfl,k l X hl eX sX⟩
  ·rintro σ X Q1 Q2 hq h
   obtain ⟨v,e,v2,e',i,j,e1,e2,c,e3,h⟩:=h
   exact ⟨v,e,v2,e',i,j,e1,e2,c,e3,hq _ _ h⟩
abbrev zdn:Stmt:=top 83
theorem zg8:FnScope ["found","due"] ["found","due"] (zah zdn):=sck rfl rfl rfl (by decide +kernel)
inductive spSameL (n:Nat)(vs:List V)(H:Hp)(Q:VK)(u3_:XK):Prop
 | mk (v:_) (w:_) (z0_:vs=[v,w]) (z1_:((v = .non∧w = .non)∨Lk H n v w)) (z2_:∀ H',Same H H'→Q (.bl true) H')
theorem zeG {f:Addr}{fd:FuncData}{m n:Nat}{sp:Sp}(F:Fun K "_law_same" "_law_same" zdn f fd)(T:Blt mg)(G_law_same:Cal P w K mg base n "_law_same" ["found","due"] sp)(hsp:∀ k,m=k+1→sp=spSameL k):FnOk P w K mg base CX0 (n+1) f fd ["found","due"] (spSameL m):=by
 refine F.ok zg8 (by walk_at "l") (fun cdv A outer s H vs Q E hr h=>?_)
 ·obtain ⟨v,w,rfl,hL,k⟩:=h
  refine' ⟨_,(zab (zax (zbT (zcj (pv 1))) (zaf (zap (zh3 (zcj (pv 0))))) zaq)
   (zab (zax (zaC (zao (zaL "bool" (K:=K) rfl) (by rfl) T.isinstance zbd (zaa (pv 1) (zaa (zaV rfl T.bool zfT zfC) zac)))) (zaf (zap (zbB (zao (zaL "bool" (K:=K) rfl) (by rfl) T.isinstance zbd (zaa (pv 0) (zaa (zaV rfl T.bool zfT zfC) zac))) (zbz (zbA zbk (pv 0) (pv 1) (zav _)))))) zaq)
   (zab (zax (PW.pt (zb9 (zaC (zao (zaL "tuple" (K:=K) rfl) (by rfl) T.isinstance zbd (zaa (pv 1) (zaa (zaV rfl T.tuple zbL zcu) zac)))) (zbx (zaC (zao (zaL "list" (K:=K) rfl) (by rfl) T.isinstance zbd (zaa (pv 1) (zaa (zaV rfl T.list ze0 zhc) zac))))))) (zab (zax (PW.pt (zb9 (zat zhi (zao (zaL "tuple" (K:=K) rfl) (by rfl) T.isinstance zbd (zaa (pv 1) (zaa (zaV rfl T.tuple zbL zcu) zac))) (zao (zaL "tuple" (K:=K) rfl) (by rfl) T.isinstance zbd (zaa (pv 0) (zaa (zaV rfl T.tuple zbL zcu) zac))) (zav _)) (zbx (zat zhi (zao (zaL "list" (K:=K) rfl) (by rfl) T.isinstance zbd (zaa (pv 1) (zaa (zaV rfl T.list ze0 zhc) zac))) (zao (zaL "list" (K:=K) rfl) (by rfl) T.isinstance zbd (zaa (pv 0) (zaa (zaV rfl T.list ze0 zhc) zac))) (zav _))))) (zaf (zap zb4)) zaq)
   (zaf (zap (zbB (zbA zbk (zao zar (by rfl) T.len PySem.boot_len (zaa (pv 0) zac)) (zao zar (by rfl) T.len PySem.boot_len (zaa (pv 1) zac)) (zav _)) (zbz (zao (zeZ rfl) (by rfl) T.all zkw (zaa ?c1 zac))))))) zaq)
   (zab (zax (zaC (zao (zaL "str" (K:=K) rfl) (by rfl) T.isinstance zbd (zaa (pv 1) (zaa (zaV rfl T.str zmg zlW) zac)))) (zaf (zap (zbB (zao (zaL "str" (K:=K) rfl) (by rfl) T.isinstance zbd (zaa (pv 0) (zaa (zaV rfl T.str zmg zlW) zac))) (zbz (zbA zbk (pv 0) (pv 1) (zav _)))))) zaq)
   (zaf (zap (zbB (zao (zaL "int" (K:=K) rfl) (by rfl) T.isinstance zbd (zaa (pv 0) (zaa (zaV rfl T.int zkv zlX) zac))) (zbB (zlZ (zao (zaL "bool" (K:=K) rfl) (by rfl) T.isinstance zbd (zaa (pv 0) (zaa (zaV rfl T.bool zfT zfC) zac)))) (zbz (zbA zbk (pv 0) (pv 1) (zav _))))))))))),?rd⟩
  (case c1=>exact (zb3 (Nc:=["one","other"]) [none,none] rfl (zaK (by rfl)) (zmG rfl T.zip (zaa (pv 0) (zaa (pv 1) zac))) (fun _ _ _ _ _=>(zhf 2 (K:=K) rfl rfl (zan (pg_L 0 (show (["one","other"]:List Str).Nodup by decide +kernel)) (zan (pg_L 1 (show (["one","other"]:List Str).Nodup by decide +kernel)) zaM)))) (fun _ _ _ _ _=>zeB) (fun _ _ _ _ _=>(pe_c G_law_same (zaa (pv 0) (zaa (pv 1) zac))))))
  rcases hL with ⟨rfl,rfl⟩ | hL
  ·exact ⟨_,rfl,_,rfl,iteT ⟨_,rfl,k H (Same.refl _)⟩⟩
  cases hL with
  | int i =>
   refine ⟨_,rfl,_,rfl,iteF (zau ?_)⟩
   try dsimp only
   refine ⟨_,rfl,_,_,_,rfl,.int i,rfl,false,rfl,iteF (zau ?_)⟩
   try dsimp only
   refine ⟨_,rfl,_,_,_,rfl,.int i,rfl,false,rfl,iteF ⟨_,rfl,_,_,_,rfl,.int i,rfl,false,rfl,iteF (zau ?_)⟩⟩
   try dsimp only
   refine ⟨_,rfl,_,_,_,rfl,.int i,rfl,false,rfl,iteF (zau ?_)⟩
   try dsimp only
   refine ⟨_,rfl,_,_,_,rfl,.int i,rfl,true,rfl,iteT ⟨_,rfl,_,_,_,rfl,.int i,rfl,false,rfl,true,rfl,iteT ⟨_,rfl,_,rfl,rfl,?_⟩⟩⟩
   rw [Xah rfl]
   exact k H (Same.refl _)
  | @seq m' t a b xs ys ha hb hl hz h =>
   have ty:∀ {q:Addr} {us:List V},SqX t H q us→TyOf K H (.ref q) (.type (sqC t)):=fun {q us} e=>ty_seq e
   have kb:W.kitOne K (.type (sqC t)) (.type "bool")=some false:=by cases t <;> rfl
   have kt:W.kitOne K (.type (sqC t)) (.type "tuple")=some t:=by cases t <;> rfl
   have kl:W.kitOne K (.type (sqC t)) (.type "list")=some (!t):=by cases t <;> rfl
   refine ⟨_,rfl,_,rfl,iteF (zau ?_)⟩
   try dsimp only
   refine ⟨_,rfl,_,_,_,rfl,ty hb,kb,false,rfl,iteF (zau ?_)⟩
   try dsimp only
   have sq:∀ {q:Addr} {us:List V},SqX t H q us→SqL K H q us∨SqT K H q us:=fun {q us} e=>by
    cases t with
    | true=>exact .inr (SqT.of e)
    | false=>exact .inl (SqL.of e)
   cases t
   all_goals
    first
    | (refine ⟨_,rfl,_,_,_,rfl,ty hb,kt,true,rfl,iteT ?_⟩)
    | (refine ⟨_,rfl,_,_,_,rfl,ty hb,kt,false,rfl,iteF ⟨_,rfl,_,_,_,rfl,ty hb,kl,true,rfl,iteT ?_⟩⟩)
    refine ⟨_,rfl,_,_,_,rfl,ty hb,kt,_,rfl,_,_,_,rfl,ty ha,kt,rfl,_,rfl,zhG rfl ?_⟩
    refine ⟨_,rfl,_,_,_,rfl,ty hb,kl,_,rfl,_,_,_,rfl,ty ha,kl,rfl,_,rfl,zhG rfl (zau ?_)⟩
    try dsimp only
    refine ⟨_,rfl,a,xs,rfl,sq ha,_,rfl,b,ys,rfl,sq hb,rfl,_,rfl,?_⟩
    rw [Xah (show V.int (xs.length:Int)=V.int (ys.length:Int) by rw [hl])]
    refine iteT ?_
    obtain rfl:=hsp m' rfl
    refine ⟨_,rfl,_,rfl,_,a,b,xs,ys,rfl,ha,hb,?_⟩
    refine zkn (xs:=xs) (ys:=ys) (fun j rs σ H1=>∃ v1 v2,σ=[v1,v2]∧rs=List.replicate j (V.bl true)∧Same H H1) hl hz ⟨none,none,rfl,rfl,fun _ _ z=>z⟩ ?_ ?_ ?_
    ·rintro j rs σ H1 hj ⟨v1,v2,rfl,rfl,s1⟩
     exact ⟨s1 _ _ ha,s1 _ _ hb,by rw [XbD];exact Xae _⟩
    ·rintro j x y U rs σ H1 ex ey hU ⟨v1,v2,rfl,rfl,s1⟩
     refine zeW ?_
     have s2:=s1.trans (zag (o:=.tup [x,y]) hU)
     refine ⟨_,rfl,_,rfl,x,y,rfl,.inr ((h j x y ex ey).same s2),fun H3 s3=>?_⟩
     exact ⟨_,_,rfl,List.replicate_succ'.symm,s2.trans s3⟩
    ·rintro rs σ H1 ⟨v1,v2,rfl,rfl,s1⟩ D hD
     refine ⟨D,List.replicate xs.length true,rfl,SqL.of (by rw [List.map_replicate];exact zad),?_⟩
     rw [show (List.replicate xs.length true).all id=true by simp]
     exact k _ (s1.trans (zag hD))
structure MdB (H:Hp)(m row:Addr)(kd n:Nat)(ws:List Nat):Prop where
 at_:H m=some (.lst [.str (zbE kd),.ref row,.int (n:Int)])
 ls:H row=some (.lst (vN ws))
theorem zhS {x:Str}{l:List V}{ws:List Nat}:vN ws≠V.str x :: l:=fun z=>by
 cases ws with
 | nil=>cases z
 | cons a b=>have:=(List.cons.inj z).1;cases this
theorem MdB.same {H H':Hp}{m row:Addr}{kd n:Nat}{ws:List Nat}(d:MdB H m row kd n ws)(s:Same H H'):MdB H' m row kd n ws:=⟨s _ _ d.at_,s _ _ d.ls⟩
structure Mod (D:Dt)(md rw:Nat→Addr)(Y:Hp)(us:Nat→List Nat):Prop where
 o:∀ i,i<D.m→MdB Y (md i) (rw i) (D.kd i) (D.n i) (us i)
 k:∀ i,i<D.m→Kd (D.kd i) (D.n i) (us i)
 h1:∀ i,i<D.m→D.kd i=2∨D.kd i=3→(us i).length=1
 z:∀ i,i<D.m→ksize (D.kd i) (us i)=D.sz i
 inj:∀ i j,i<D.m→j<D.m→rw i=rw j→i=j
theorem Mod.same {D:Dt}{md rw:Nat→Addr}{Y Z:Hp}{us:Nat→List Nat}(M:Mod D md rw Y us)(s:Same Y Z):Mod D md rw Z us:=⟨fun i h=>(M.o i h).same s,M.k,M.h1,M.z,M.inj⟩
def mdL (D:Dt)(md:Nat→Addr):List V:=(List.range D.m).map fun i=>.ref (md i)
theorem zeM {D:Dt}{md:Nat→Addr}{i:Nat}(h:i<D.m):(mdL D md)[i]? = some (.ref (md i)):=by unfold mdL;rw [Xaq,List.getElem?_range h];rfl
theorem zfK (D:Dt)(md:Nat→Addr):(mdL D md).length=D.m:=by unfold mdL;rw [Xal,Xa9]
def whoM (ws:List (Addr×Rw))(us:Nat→List Nat)(x:Nat):Option Nat:=(ws.map (·.2)).findIdx? fun r=>ans r x (hld us)
theorem zdE {α:Type}{p q:α→Bool}:∀ {l:List α},(∀ a∈l,p a=q a)→l.findIdx? p=l.findIdx? q
 | [],_=>rfl
 | a :: l,h=>by
  rw [List.findIdx?_cons,List.findIdx?_cons,h a Xav,zdE fun b hb=>h b (Xau _ hb)]
theorem zhP {C:Addr}{B:Bd}{D:Dt}{Y:Hp}{f:Nat}(h:BdAt C B D Y f)(us:Nat→List Nat)(x:Nat):whoI B us x=whoM B.ws us x:=by
 refine zdE fun r hr=>?_
 obtain ⟨z,hz,rfl⟩:=XaF.mp hr
 unfold ans awk
 cases hl:z.2.l with
 | none=>rfl
 | some o =>
  obtain ⟨c,a,b⟩:=o
  have:wrd B.keys (hld us) c=hld us c:=by unfold wrd;rw [if_pos (h.kl z hz c a b hl)]
  show (met z.2 x && decide (wrd B.keys (hld us) c &&& a=b))=(met z.2 x && decide (hld us c &&& a=b))
  rw [this]
theorem zfZ {ws:List (Addr×Rw)}{us:Nat→List Nat}{x i:Nat}{z:Addr×Rw}(hz:ws[i]? = some z)(hb:∀ (j:Nat) (q:Addr×Rw),j<i→ws[j]? = some q→ans q.2 x (hld us)=false)(h:ans z.2 x (hld us)=true):whoM ws us x=some i:=by
 obtain ⟨hi,e⟩:=Xaf.mp hz
 refine Xbb.mpr ⟨by rw [Xal];exact hi,by rw [List.getElem_map,e];exact h,fun j hj=>?_⟩
 rw [List.getElem_map,hb j _ hj (Xaw (show j<ws.length by omega))]
 exact Xap
theorem zkJ {ws:List (Addr×Rw)}{us:Nat→List Nat}{x:Nat}(hb:∀ (j:Nat) (q:Addr×Rw),ws[j]? = some q→ans q.2 x (hld us)=false):whoM ws us x=none:=by
 refine XbL.mpr fun r hr=>?_
 obtain ⟨z,hz,rfl⟩:=XaF.mp hr
 obtain ⟨j,hj⟩:=XbG.mp hz
 exact hb j z hj
theorem zjF:∀ a b:Nat,a &&& b=0→a ||| b=a+b:=by
 intro a
 induction a using Nat.strongRecOn with
 | _ a ih =>
  intro b h
  by_cases ha:a=0
  ·subst ha;simp
  ·have h2:(a / 2) &&& (b / 2)=0:=by rw [← Nat.and_div_two,h]
   have e1:(a ||| b) / 2=a / 2+b / 2:=(Nat.or_div_two (a:=a) (b:=b)).trans (ih (a / 2) (by omega) (b / 2) h2)
   have e2:(a ||| b) % 2=(a % 2 ||| b % 2):=Nat.or_mod_two_pow (n:=1)
   have e3:(a &&& b) % 2=(a % 2 &&& b % 2):=Nat.and_mod_two_pow (n:=1)
   rw [h] at e3
   have e4:a % 2 ||| b % 2=a % 2+b % 2:=by
    rcases (show a % 2=0∨a % 2=1 by omega) with x | x <;> rcases (show b % 2=0∨b % 2=1 by omega) with y | y <;> rw [x,y] at e3 ⊢ <;> first | rfl | (exact absurd e3 (by decide))
   omega
theorem zlc (i:Nat):ones (2 ^ i)=1:=by
 induction i with
 | zero=>rw [show 2 ^ 0=2 * 0+1 from rfl,zcv,zc2]
 | succ i ih=>rw [XaE,Xa4,zbD,ih]
theorem zhl {i p:Nat}(h:i.testBit p=false):ones (i ||| 2 ^ p)=ones i+1:=by
 have hd:i &&& 2 ^ p=0:=Nat.eq_of_testBit_eq fun j=>by
  rw [XaA,Xbz,Nat.zero_testBit]
  by_cases e:p=j
  ·subst e;rw [h];rfl
  ·rw [Xai e,XbB]
 rw [zjF _ _ hd,zlB _ _ hd,zlc]
def Few (n m r:Nat):Prop:=r &&& n=r∧ones r≤m
inductive spFew (vs:List V)(H:Hp)(Q:VK)(u3_:XK):Prop
 | mk (n m:Nat) (z0_:vs=[.int (n:Int),.int (m:Int)]) (z1_:n<2 ^ 32) (z2_:∀ (r:Nat) (H':Hp),Few n m r→Same H H'→Q (.int (r:Int)) H')
theorem zd5 (n:Nat):∀ i k,∃ r,((sgl (n % 2 ^ i)).take k).sum=r∧r &&& n=r∧r<2 ^ i∧ones r≤k
 | 0,k=>⟨0,by rw [Nat.pow_zero,Nat.mod_one,zbX];simp,by simp,by simp,by rw [zc2];omega⟩
 | i+1,k=>by
  have hp:2 ^ (i+1)=2 * 2 ^ i:=by rw [XaE];omega
  have h0:=Xb2 i
  rw [zlT]
  by_cases hb:n &&& 2 ^ i=0
  ·rw [if_pos hb,Xa1]
   obtain ⟨r,h1,h2,h3,h4⟩:=zd5 n i k
   exact ⟨r,h1,h2,by omega,h4⟩
  ·rw [if_neg hb]
   by_cases hk:k≤(sgl (n % 2 ^ i)).length
   ·rw [List.take_append_of_le_length hk]
    obtain ⟨r,h1,h2,h3,h4⟩:=zd5 n i k
    exact ⟨r,h1,h2,by omega,h4⟩
   ·obtain ⟨r,h1,h2,h3,h4⟩:=zd5 n i (sgl (n % 2 ^ i)).length
    rw [List.take_length] at h1
    have hf:r.testBit i=false:=Nat.testBit_lt_two_pow h3
    have hd:r &&& 2 ^ i=0:=Nat.eq_of_testBit_eq fun j=>by
     rw [XaA,Xbz,Nat.zero_testBit]
     by_cases e:i=j
     ·subst e;rw [hf];rfl
     ·rw [Xai e,XbB]
    have hbt:n.testBit i=true:=by
     cases h:n.testBit i with
     | true=>rfl
     | false =>
      refine absurd (Nat.eq_of_testBit_eq fun j=>?_) hb
      rw [XaA,Xbz,Nat.zero_testBit]
      by_cases e:i=j
      ·subst e;rw [h];rfl
      ·rw [Xai e,XbB]
    refine ⟨r ||| 2 ^ i,?_,?_,?_,?_⟩
    ·rw [XaH (by rw [Xay];simp;omega),List.sum_append,h1,zjF _ _ hd];simp
    ·refine Nat.eq_of_testBit_eq fun j=>?_
     have:=congrArg (fun x=>Nat.testBit x j) h2
     simp only [XaA] at this
     rw [XaA,Nat.testBit_or,Xbz]
     by_cases e:i=j
     ·subst e;rw [hbt];simp
     ·rw [Xai e,Bool.or_false];exact this
    ·rw [zjF _ _ hd];omega
    ·rw [zhl hf];omega
theorem few_is {n:Nat}(hn:n<2 ^ 32)(k:Nat):Few n k ((sgl n).take k).sum:=by
 obtain ⟨r,h1,h2,_,h4⟩:=zd5 n 32 k
 rw [XaQ hn] at h1
 rw [h1]
 exact ⟨h2,h4⟩
structure Cm where
 x:Addr
 p:Addr
 m:Addr
 r:Addr
 kd:Nat
 n:Nat
 us:List Nat
structure CmOk (cs:Nat→Addr)(X:Hp)(c:Cm):Prop where
 ch:Chp cs X c.x c.p c.kd c.n c.us
 md:MdB X c.m c.r c.kd c.n c.us
 k:Kd c.kd c.n c.us
 h1:c.kd=2∨c.kd=3→c.us.length=1
 ne:c.p≠c.r
theorem CmOk.same {cs:Nat→Addr}{X Y:Hp}{c:Cm}(h:CmOk cs X c)(s:Same X Y):CmOk cs Y c:=⟨h.ch.same s,h.md.same s,h.k,h.h1,h.ne⟩
structure CMs (cs:Nat→Addr)(X:Hp)(cl:List Cm):Prop where
 o:∀ c∈cl,CmOk cs X c
 nd:((cl.map (·.p)) ++ (cl.map (·.r))).Nodup
theorem CMs.same {cs:Nat→Addr}{X Y:Hp}{cl:List Cm}(h:CMs cs X cl)(s:Same X Y):CMs cs Y cl:=⟨fun c hc=>(h.o c hc).same s,h.nd⟩
theorem CMs.add {cs:Nat→Addr}{X Y:Hp}{cl:List Cm}{c:Cm}(h:CMs cs X cl)(s:Same X Y)(hp:X c.p=none)(hr:X c.r=none)(ho:CmOk cs Y c):CMs cs Y (cl ++ [c]):=by
 have fp:∀ d∈cl,d.p≠c.p∧d.p≠c.r∧d.r≠c.p∧d.r≠c.r:=fun d hd=>by
  have e1:=(h.o d hd).ch.ls
  have e2:=(h.o d hd).md.ls
  exact ⟨(fun z=>by rw [z,hp] at e1;cases e1),(fun z=>by rw [z,hr] at e1;cases e1),(fun z=>by rw [z,hp] at e2;cases e2),(fun z=>by rw [z,hr] at e2;cases e2)⟩
 refine ⟨fun d hd=>?_,?_⟩
 ·rcases XaK.mp hd with hd | hd
  ·exact (h.same s).o d hd
  ·rw [Xad.mp hd];exact ho
 ·obtain ⟨n1,n2,n3⟩:=XaX.mp h.nd
  rw [XaI,XaI]
  refine XaX.mpr ⟨XaX.mpr ⟨n1,by simp,fun a ha b hb=>?_⟩,XaX.mpr ⟨n2,by simp,fun a ha b hb=>?_⟩,fun a ha b hb=>?_⟩
  ·obtain ⟨d,hd,rfl⟩:=XaF.mp ha
   have hb:b=c.p:=by simpa using hb
   rw [hb];exact (fp d hd).1
  ·obtain ⟨d,hd,rfl⟩:=XaF.mp ha
   have hb:b=c.r:=by simpa using hb
   rw [hb];exact (fp d hd).2.2.2
  ·rcases XaK.mp ha with ha | ha <;> rcases XaK.mp hb with hb | hb
   ·exact n3 a ha b hb
   ·obtain ⟨d,hd,rfl⟩:=XaF.mp ha
    have hb:b=c.r:=by simpa using hb
    rw [hb];exact (fp d hd).2.1
   ·obtain ⟨d,hd,rfl⟩:=XaF.mp hb
    have ha:a=c.p:=by simpa using ha
    rw [ha];exact Ne.symm (fp d hd).2.2.1
   ·have ha:a=c.p:=by simpa using ha
    have hb:b=c.r:=by simpa using hb
    rw [ha,hb];exact ho.ne
theorem CMs.updL {cs:Nat→Addr}{X:Hp}{cl:List Cm}{L:Addr}{o:HO}(h:CMs cs X cl)(hL:∀ c∈cl,c.x≠L∧c.p≠L∧c.m≠L∧c.r≠L):CMs cs (upd X L o) cl:=by
 refine ⟨fun c hc=>?_,h.nd⟩
 obtain ⟨a1,a2,a3,a4⟩:=hL c hc
 have ok:=h.o c hc
 obtain ⟨dx,e⟩:=ok.ch.ex
 exact ⟨⟨⟨dx,by rw [zai a1];exact e⟩,by rw [zai a2];exact ok.ch.ls⟩,⟨by rw [zai a3];exact ok.md.at_,by rw [zai a4];exact ok.md.ls⟩,ok.k,ok.h1,ok.ne⟩
def dfCm:Cm:=⟨0,0,0,0,0,0,[]⟩
def dtC (cl:List Cm):Dt:=⟨cl.length,fun i=>(cl.getD i dfCm).x,fun i=>(cl.getD i dfCm).p,fun i=>(cl.getD i dfCm).kd,fun i=>(cl.getD i dfCm).n,fun i=>ksize (cl.getD i dfCm).kd (cl.getD i dfCm).us⟩
def usC (cl:List Cm)(i:Nat):List Nat:=(cl.getD i dfCm).us
theorem za6 {cl:List Cm}{i:Nat}(h:i<cl.length):cl.getD i dfCm∈cl∧cl[i]? = some (cl.getD i dfCm):=by
 rw [Xbn,Xaw h]
 exact ⟨XbQ _,rfl⟩
theorem nd_at {l:List Addr}(h:l.Nodup){i j:Nat}{a:Addr}(h1:l[i]? = some a)(h2:l[j]? = some a):i=j:=by
 obtain ⟨l1,e1⟩:=Xaf.mp h1
 obtain ⟨l2,e2⟩:=Xaf.mp h2
 exact (List.getElem_inj h).mp (e1.trans e2.symm)
theorem CMs.chs {cs:Nat→Addr}{X:Hp}{cl:List Cm}(h:CMs cs X cl)(hl:cl.length≤200):Chs cs (dtC cl) X (usC cl):=by
 refine ⟨fun i hi=>(h.o _ (za6 hi).1).ch,fun i hi=>(h.o _ (za6 hi).1).k,fun i hi=>(h.o _ (za6 hi).1).h1,fun i hi=>rfl,fun i j hi hj e=>?_,hl⟩
 have h1:(cl.map (·.p))[i]? = some (cl.getD i dfCm).p:=by rw [Xaq,(za6 hi).2];rfl
 have h2:(cl.map (·.p))[j]? = some (cl.getD j dfCm).p:=by rw [Xaq,(za6 hj).2];rfl
 rw [← show (cl.getD i dfCm).p=(cl.getD j dfCm).p from e] at h2
 exact nd_at (XaX.mp h.nd).1 h1 h2
theorem CMs.mod {cs:Nat→Addr}{X:Hp}{cl:List Cm}(h:CMs cs X cl):Mod (dtC cl) (fun i=>(cl.getD i dfCm).m) (fun i=>(cl.getD i dfCm).r) X (usC cl):=by
 refine ⟨fun i hi=>(h.o _ (za6 hi).1).md,fun i hi=>(h.o _ (za6 hi).1).k,fun i hi=>(h.o _ (za6 hi).1).h1,fun i hi=>rfl,fun i j hi hj e=>?_⟩
 have h1:(cl.map (·.r))[i]? = some (cl.getD i dfCm).r:=by rw [Xaq,(za6 hi).2];rfl
 have h2:(cl.map (·.r))[j]? = some (cl.getD j dfCm).r:=by rw [Xaq,(za6 hj).2];rfl
 rw [← show (cl.getD i dfCm).r=(cl.getD j dfCm).r from e] at h2
 exact nd_at (XaX.mp h.nd).2.1 h1 h2
theorem zmf (cl:List Cm):chL (dtC cl)=cl.map fun c=>V.ref c.x:=by
 unfold chL
 apply List.ext_getElem?
 intro i
 rw [Xaq,Xaq]
 by_cases h:i<cl.length
 ·rw [(za6 h).2,List.getElem?_range (show i<(dtC cl).m from h)]
  rfl
 ·rw [XaL (Nat.le_of_not_lt h),XaL (show (List.range (dtC cl).m).length≤i by rw [Xa9];exact Nat.le_of_not_lt h)]
  rfl
theorem mdL_cm (cl:List Cm):mdL (dtC cl) (fun i=>(cl.getD i dfCm).m)=cl.map fun c=>V.ref c.m:=by
 unfold mdL
 apply List.ext_getElem?
 intro i
 rw [Xaq,Xaq]
 by_cases h:i<cl.length
 ·rw [(za6 h).2,List.getElem?_range (show i<(dtC cl).m from h)]
  rfl
 ·rw [XaL (Nat.le_of_not_lt h),XaL (show (List.range (dtC cl).m).length≤i by rw [Xa9];exact Nat.le_of_not_lt h)]
  rfl
theorem zco {H2 H':Hp}{x dx:Addr}{C:Addr}(hx:H2 x=none)(hdx:H2 dx=none)(ne:dx≠x)(k:zlN x (upd (upd H2 dx (.own x)) x (.ins C dx [])) H'):Same H2 H':=fun a o e=>by
 have na:a≠x:=zak e hx
 exact k a o na (by rw [zai na,zai (zak e hdx)];exact e)
theorem drw {row:List Nat}(n:Nat)(hl:n≤row.length)(hw:∀ v∈row,v<2 ^ 31):∃ dr:Nat→Nat,∀ j:Nat,j<n→atI (vN row) (j:Int)=some (.int (dr j:Int))∧dr j<2 ^ 31:=⟨fun j=>row.getD j 0,fun j hj=>by
 have hj':j<row.length:=by omega
 have e:row.getD j 0=row[j]:=by rw [Xbn,Xaw hj'];rfl
 show _=some (V.int ((row.getD j 0:Nat):Int))∧row.getD j 0<2 ^ 31
 rw [e]
 exact ⟨zaA (by unfold vN;rw [Xaq,Xaw hj'];rfl),hw _ (XbQ _)⟩⟩
abbrev zeu:Stmt:=top 77
theorem ziv:FnScope ["number","most"] ["number","most"] (zah zeu):=sck rfl rfl rfl (by decide +kernel)
theorem ziM {f:Addr}{fd:FuncData}(F:Fun K "_law_few" "_law_few" zeu f fd)(T:Blt mg)(G_law_ones:Cal P w K mg base 1 "_law_ones" ["mask"] spOnesL):FnOk P w K mg base CX0 2 f fd ["number","most"] spFew:=by
 refine F.ok ziv (by walk_at "l") (fun cdv A outer s H vs Q E hr h=>?_)
 ·obtain ⟨n,m,rfl,hn,k⟩:=h
  refine ⟨_,(zaf (zap (zao (zeY rfl) (by rfl) T.sum PyProof.Rows.boot_sum (zaa (zbg zdg (pe_c G_law_ones (zaa (pv 0) zac)) zcR (za9 (pv 1))) zac)))),?rd⟩
  refine ⟨_,rfl,n,rfl,hn,fun p H1 hp ep s1=>?_⟩
  have ec:cutV (vN (sgl n)) none (some (m:Int))=(((sgl n).take m).map fun (a:Nat)=>(a:Int)).map V.int:=by
   unfold cutV
   rw [HT.sIx_nat,HT.sIx_none,zal,Nat.sub_zero,List.drop_zero]
   unfold vN
   rw [List.map_take,List.map_take,Xbd]
   by_cases h:m≤(sgl n).length
   ·rw [Xb0 h];rfl
   ·rw [Nat.min_eq_right (by omega),XaH (by rw [Xal];exact Xae _),XaH (by rw [Xal];omega)];rfl
  have sm:∀ l:List Nat,(l.map fun (a:Nat)=>(a:Int)).sum=((l.sum:Nat):Int):=fun l=>by
   induction l with
   | nil=>rfl
   | cons a l ih=>rw [XaJ,List.sum_cons,List.sum_cons,ih];omega
  refine ⟨_,rfl,m,rfl,p,_,rfl,SqL.of ep,fun q hq=>?_⟩
  rw [ec]
  refine ⟨q,_,rfl,SqL.of zad,?_⟩
  rw [sm]
  exact k _ _ (few_is hn m) (s1.trans (zag hq))
abbrev zdm:Stmt:=top 73
theorem zg7:FnScope ["model"] ["model"] (zah zdm):=sck rfl rfl rfl (by decide +kernel)
inductive spSz34 (vs:List V)(H:Hp)(Q:VK)(u3_:XK):Prop
 | mk (m r:Addr) (kd n:Nat) (us:List Nat) (z0_:vs=[.ref m]) (z1_:MdB H m r kd n us) (z2_:kd<5) (z3_:Q (.int (ksize kd us:Int)) H)
theorem zhq {f:Addr}{fd:FuncData}(F:Fun K "_law_size" "_law_size" zdm f fd)(T:Blt mg):FnOk P w K mg base CX0 1 f fd ["model"] spSz34:=by
 refine F.ok zg7 (by walk_at "l") (fun cdv A outer s H vs Q E hr h=>?_)
 ·obtain ⟨m,r,kd,n,us,rfl,hM,hk,k⟩:=h
  refine ⟨_,(zab (zax (zat zbk (pe_x zam (pv 0) zae) za1 (zav _)) (zaf (zap zae)) zaq)
   (zaf (zap (zao zar (by rfl) T.len PySem.boot_len (zaa (pe_x zam (pv 0) zae) zac))))),?rd⟩
  refine ⟨_,rfl,m,_,_,_,rfl,rfl,SqL.of hM.at_,rfl,rfl,_,rfl,?_⟩
  rw [show decide (V.str (zbE kd)=V.str "pipe")=decide (kd=4) from zbJ (j:=4) hk (by decide)]
  unfold ksize at k
  by_cases e:kd=4
  ·rw [if_pos e] at k
   rw [Xah e]
   exact iteT k
  ·rw [if_neg e] at k
   rw [Xai e]
   refine iteF (zau ?_)
   try dsimp only
   refine ⟨_,rfl,m,_,_,_,rfl,rfl,SqL.of hM.at_,rfl,r,_,rfl,.inl (SqL.of hM.ls),?_⟩
   rw [zal]
   exact k
abbrev zdr:Stmt:=top 71
theorem sc_law_chip:FnScope ["one","other","kind","word","cells","words","room"] ["one","other"] (zah zdr):=sck rfl rfl rfl (by decide +kernel)
inductive spChip34 (cs:Nat→Addr)(vs:List V)(H:Hp)(Q:VK)(u3_:XK):Prop
 | mk (one other:Nat) (z0_:vs=[.int (one:Int),.int (other:Int)]) (z1_:one<2 ^ 31) (z2_:other<2 ^ 31) (z3_:∀ (t:Addr) (c:Cm) (H':Hp),H t=none→H' t=some (.tup [.ref c.x,.ref c.m])→H c.p=none→H c.r=none→H c.m=none→CmOk cs H' c→Same H H'→Q (.ref t) H')
theorem zhu {f:Addr}{cs:Nat→Addr}{fd:FuncData}(F:Fun K "_law_chip" "_law_chip" zdr f fd)(T:Blt mg)
  (GMFixed_1:Mak P w K mg base 3 "Fixed" (cs 1) [] (dP []) (spMkFH (cs 1))) (GMPipe_1:Mak P w K mg base 3 "Pipe" (cs 4) [] (dP []) (spMkP (cs 4))) (GMLatch_1:Mak P w K mg base 3 "Latch" (cs 2) [] (dP []) (spMk1H (cs 2) "latch")) (GMMeter_1:Mak P w K mg base 3 "Meter" (cs 3) [] (dP []) (spMk1H (cs 3) "meter")) (GMStore_2:Mak P w K mg base 3 "Store" (cs 0) [] (dP []) (spMkSH (cs 0))):FnOk P w K mg base CX0 5 f fd ["one","other"] (spChip34 cs):=by
 refine F.ok sc_law_chip (by walk_at "l") (fun cdv A outer s H vs Q E hr h=>?_)
 ·obtain ⟨one,other,rfl,h1,h2,k⟩:=h
  refine ⟨_,(zab (ps_L 2 sc_law_chip.nd (pe_x zam (zay (zaa za1 (zaa za1 (zaa za1 (zaa za1 (zaa za1 (zaa za1 (zaa za1 zac)))))))) (zaj zaD (pv 0) zae)))
   (zab (ps_L 3 sc_law_chip.nd (zaj zaD (pv 1) zae))
   (zab (zax (zat zbk (pv 2) za1 (zav _)) (zab (ps_L 4 sc_law_chip.nd (pe_x zam (zay (zaa (zaj zaS zae (zaj zaD (zaj zaE (pv 0) zae) zae)) (zaa zae (zaa zae (zaa zae zac))))) (zaj zaD (zaj zaE (pv 0) zae) zae)))
   (zaf (zap (za0 (zaa (zfc GMStore_2 (hrm hr) rfl (zaa (pv 4) (zaa (pv 3) zac))) (zaa (zay (zaa (pv 2) (zaa (zaj zl0 (zay (zaa (pv 3) zac)) (pv 4)) (zaa zae zac)))) zac)))))) zaq)
   (zab (zax (zat zbk (pv 2) za1 (zav _)) (zab (zdx (i:=5) (Nc:=["k","other"]) [none,some 1] sc_law_chip.nd rfl rfl rfl (zaK (by rfl)) (zaU rfl T.range (zaa (zaj zaS zae (zaj zaD (zaj zaE (pv 0) zae) zae)) zac)) (fun _ _ _ _ _=>(pg_L 0 (show (["k","other"]:List Str).Nodup by decide +kernel))) (fun _ _ _ _ _=>zeB) (fun _ _ _ _ _=>(zaj zaD (zaj zaS (zaj zaE (pv 1) (zaj zaS zae (pv 0))) (zaj zck zae (pv 0))) zae)))
   (zaf (zap (za0 (zaa (zfc GMFixed_1 (hrm hr) rfl (zaa (pv 5) zac)) (zaa (zay (zaa (pv 2) (zaa (pv 5) (zaa zae zac)))) zac)))))) zaq)
   (zab (zax (zat zbk (pv 2) za1 (zav _)) (zaf (zap (za0 (zaa (zfc GMLatch_1 (hrm hr) rfl (zaa (pv 3) zac)) (zaa (zay (zaa (pv 2) (zaa (zay (zaa (pv 3) zac)) (zaa zae zac)))) zac))))) zaq)
   (zab (zax (zat zbk (pv 2) za1 (zav _)) (zaf (zap (za0 (zaa (zfc GMMeter_1 (hrm hr) rfl (zaa (pv 3) zac)) (zaa (zay (zaa (pv 2) (zaa (zay (zaa (pv 3) zac)) (zaa zae zac)))) zac))))) zaq)
   (zab (ps_L 6 sc_law_chip.nd (pe_x zam (zay (zaa (zaj zaS zae (zaj zaD (zaj zaE (pv 0) zae) zae)) (zaa zae zac))) (zci zku (by rfl) T.int zkv (zaa (zbA zbk (zaj zaD (zaj zaE (pv 0) zae) zae) zae (zav _)) zac))))
   (zaf (zap (za0 (zaa (zfc GMPipe_1 (hrm hr) rfl (zaa (pv 6) zac)) (zaa (zay (zaa (pv 2) (zaa (zay zac) (zaa (pv 6) zac)))) zac)))))))))))),?rd⟩
  have hv:other % 256≤255:=by omega
  have ev:(other:Int) % 256=((other % 256:Nat):Int):=by omega
  refine zaZ (fun σ X=>∃ kd:Nat,kd<5∧σ=[some (.int (one:Int)),some (.int (other:Int)),some (.str (zbE kd)),none,none,none,none]∧Same H X) (fun N hN=>?_) ?_
  ·refine ⟨by show 7≤sizeLine;decide,fun l hl=>⟨_,rfl,_,_,rfl,rfl,(show (0:Int)<7 by decide),?_⟩⟩
   obtain ⟨kd,hkd,ek⟩:∃ kd:Nat,kd<5∧atI [V.str "store",V.str "fixed",V.str "latch",V.str "meter",V.str "pipe",V.str "latch",V.str "store"] ((one:Int) % 7)=some (.str (zbE kd)):=by
    rw [show (one:Int) % 7=((one % 7:Nat):Int) by omega]
    rcases (show one % 7=0∨one % 7=1∨one % 7=2∨one % 7=3∨one % 7=4∨one % 7=5∨one % 7=6 by omega) with h | h | h | h | h | h | h <;> rw [h]
    ·exact ⟨0,by decide,rfl⟩
    ·exact ⟨1,by decide,rfl⟩
    ·exact ⟨2,by decide,rfl⟩
    ·exact ⟨3,by decide,rfl⟩
    ·exact ⟨4,by decide,rfl⟩
    ·exact ⟨2,by decide,rfl⟩
    ·exact ⟨0,by decide,rfl⟩
   exact ⟨l,_,_,_,rfl,rfl,SqL.of zad,ek,hN _ _ ⟨kd,hkd,rfl,zag hl⟩⟩
  rintro σ X ⟨kd,hkd,rfl,sX⟩
  refine zaZ (fun σ Y=>σ=[some (.int (one:Int)),some (.int (other:Int)),some (.str (zbE kd)),some (.int ((other % 256:Nat):Int)),none,none,none]∧Y=X) (fun N hN=>?_) ?_
  ·refine ⟨_,rfl,_,_,rfl,rfl,(show (0:Int)<256 by decide),hN _ _ ⟨?_,rfl⟩⟩
   try dsimp only
   rw [ev]
   rfl
  rintro σ Y ⟨rfl,rfl⟩
  generalize other % 256=v at *
  have same_p:∀ {Z:Hp} {x dx p:Addr} {C:Addr},Z x=none→Z dx=none→dx≠x→upd (upd Z dx (.own x)) x (.ins C dx []) p=none→Z p=none:=fun {Z x dx p C} hx hdx ne h=>zc0 ((zag (o:=.own x) hdx).trans (zag (o:=.ins C dx []) (by rw [zai (Ne.symm ne)];exact hx))) h
  have fin:∀ (x p r:Addr) (kd n:Nat) (us:List Nat) (Z:Hp),Same H Z→H p=none→H r=none→Chp cs Z x p kd n us→Z r=some (.lst (vN us))→Kd kd n us→(kd=2∨kd=3→us.length=1)→p≠r→3≤sizeLine∧∀ a,Z a=none→2≤sizeLine∧∀ t,upd Z a (.lst [.str (zbE kd),.ref r,.int (n:Int)]) t=none→Q (.ref t) (upd (upd Z a (.lst [.str (zbE kd),.ref r,.int (n:Int)])) t (.tup [.ref x,.ref a])):=fun x p r kd n us Z sZ hp hr' hc er hk h1' hne=>by
   refine ⟨by decide,fun a ha=>⟨by decide,fun t ht=>?_⟩⟩
   have sa:=zag (o:=.lst [V.str (zbE kd),.ref r,.int (n:Int)]) ha
   have st:=zag (o:=.tup [.ref x,.ref a]) ht
   exact k t ⟨x,p,a,r,kd,n,us⟩ _ (sZ.trans sa |>.free ht) zad hp hr' (sZ.free ha) ⟨hc.same (sa.trans st),⟨st _ _ zad,st _ _ (sa _ _ er)⟩,hk,h1',hne⟩ ((sZ.trans sa).trans st)
  
  refine zaZ (fun σ Z=>σ=[some (.int (one:Int)),some (.int (other:Int)),some (.str (zbE kd)),some (.int (v:Int)),none,none,none]∧Z=Y∧kd≠0) (fun N hN=>?_) ?_
  ·refine ⟨_,rfl,rfl,_,rfl,?_⟩
   rw [show decide (V.str (zbE kd)=V.str "store")=decide (kd=0) from zbJ (j:=0) hkd (by decide)]
   by_cases e:kd=0
   ·subst e
    rw [Xah rfl]
    refine iteT ⟨_,rfl,_,_,rfl,rfl,⟨by decide,by decide +kernel⟩,_,_,rfl,rfl,(show (0:Int)<40 by decide),_,_,rfl,rfl,by show 4≤sizeLine;decide,fun l hl=>⟨_,rfl,_,_,rfl,rfl,⟨by decide,by decide +kernel⟩,_,_,rfl,rfl,(show (0:Int)<4 by decide),?_⟩⟩
    obtain ⟨cn,c1,c2,ec⟩:∃ cn:Nat,1≤cn∧cn≤300∧atI [V.int ((1:Int)+(one:Int) / 7 % 40),V.int 2,V.int 64,V.int 300] ((one:Int) / 280 % 4)=some (.int (cn:Int)):=by
     rw [show (one:Int) / 280 % 4=((one / 280 % 4:Nat):Int) by omega]
     rcases (show one / 280 % 4=0∨one / 280 % 4=1∨one / 280 % 4=2∨one / 280 % 4=3 by omega) with h | h | h | h <;> rw [h]
     ·exact ⟨1+one / 7 % 40,by omega,by omega,by show some (V.int ((1:Int)+(one:Int) / 7 % 40))=_;rw [show (1:Int)+(one:Int) / 7 % 40=((1+one / 7 % 40:Nat):Int) by omega]⟩
     ·exact ⟨2,by decide,by decide,rfl⟩
     ·exact ⟨64,by decide,by decide,rfl⟩
     ·exact ⟨300,by decide,by decide,rfl⟩
    refine ⟨l,_,_,_,rfl,rfl,SqL.of zad,ec,?_⟩
    have sl:=sX.trans (zag (o:=.lst [V.int ((1:Int)+(one:Int) / 7 % 40),V.int 2,V.int 64,V.int 300]) hl)
    refine ⟨_,rfl,_,rfl,fun x dx hx hdx ne=>⟨x,dx,cn,(v:Int),rfl,c1,by omega,by omega,by omega,zad,fun p Z1 hp ex el kp=>⟨rfl,?_⟩⟩⟩
    have sm:=zco hx hdx ne kp
    have hp1:=same_p hx hdx ne hp
    refine ⟨_,rfl,_,rfl,by show 1≤sizeLine;decide,fun g hg=>⟨_,rfl,g,_,_,rfl,rfl,zad,by omega,by omega,?_,fun r hr'=>?_⟩⟩
    ·rw [Xag];exact Xam (show 1 * cn≤300 by omega) (by decide)
    have sg:=zag (o:=.lst [V.int (v:Int)]) hg
    have er:(List.replicate ((cn:Int)).toNat [V.int (v:Int)]).flatten=vN (List.replicate cn v):=by rw [Xag];exact zkY cn v
    rw [er]
    have sr:=zag (o:=.lst (vN (List.replicate cn v))) hr'
    have elv:Z1 p=some (.lst (vN (List.replicate cn v))):=by rw [el];unfold vN;rw [List.map_replicate]
    refine fin x p r 0 0 (List.replicate cn v) _ (sl.trans sm |>.trans sg |>.trans sr) (sl.free hp1) ((sl.trans sm).trans sg |>.free hr') ⟨?_,(sg.trans sr) _ _ elv⟩ zad ⟨by decide,fun w hw=>by rw [List.eq_of_mem_replicate hw];exact hv,by rw [XbD];omega,fun _=>by rw [XbD];exact c1,(fun h=>absurd h (by decide)),(fun h=>absurd h (by decide)),by decide⟩ (fun h=>by rcases h with h | h <;> cases h) ?_
    ·obtain ⟨d0,e0⟩:=ex
     exact ⟨d0,(sg.trans sr) _ _ e0⟩
    ·intro z
     have:=sg _ _ elv
     rw [z,hr'] at this;cases this
   ·rw [Xai e]
    exact iteF (hN _ _ ⟨rfl,rfl,e⟩)
  rintro σ Z ⟨rfl,rfl,e0⟩
  
  refine zaZ (fun σ Y=>σ=[some (.int (one:Int)),some (.int (other:Int)),some (.str (zbE kd)),some (.int (v:Int)),none,none,none]∧Y=Z∧kd≠1) (fun N hN=>?_) ?_
  ·refine ⟨_,rfl,rfl,_,rfl,?_⟩
   rw [show decide (V.str (zbE kd)=V.str "fixed")=decide (kd=1) from zbJ (j:=1) hkd (by decide)]
   by_cases e:kd=1
   ·subst e
    rw [Xah rfl]
    refine iteT ⟨_,rfl,_,_,rfl,rfl,⟨by decide,by decide +kernel⟩,_,_,rfl,rfl,(show (0:Int)<20 by decide),_,_,rfl,rfl,_,rfl,by omega,by omega,?_⟩
    rw [show ((1:Int)+(one:Int) / 7 % 20).toNat=1+one / 7 % 20 by omega]
    generalize hc:1+one / 7 % 20=cn
    have c1:1≤cn∧cn≤20:=by omega
    refine zfl (n:=cn) (fun i ys σ X'=>∃ (v0:Option V) (l:List Nat),σ=[v0,some (.int (other:Int))]∧ys=vN l∧l.length=i∧(∀ w∈l,w≤255)∧X'=Z) (Xam c1.2 (by decide)) ⟨none,[],rfl,rfl,rfl,(fun _ h=>nomatch h),rfl⟩ ?_ ?_ ?_
    ·rintro i ys σ X' ⟨v0,l,rfl,rfl,hl,_⟩
     rw [zal,hl];exact Xae _
    ·rintro i ys σ X' hi ⟨v0,l,rfl,rfl,hl,hw,rfl⟩
     rw [XbS]
     refine ⟨_,rfl,_,rfl,_,_,rfl,rfl,_,_,rfl,rfl,⟨by omega,log_ok (by omega) (by omega)⟩,_,rfl,_,_,rfl,rfl,zc5 (by decide) (by omega),_,_,rfl,rfl,_,_,rfl,rfl,(show (0:Int)<256 by decide),?_⟩
     refine ⟨_,l ++ [((other / (1+i)+7 * i) % 256:Nat)],rfl,?_,by simp [hl],fun w hw'=>?_,rfl⟩
     ·rw [zbn]
      congr 2
     ·rcases XaK.mp hw' with h | h
      ·exact hw w h
      ·rw [Xad.mp h];omega
    ·rintro ys σ X' ⟨v0,l,rfl,rfl,hl,hw,rfl⟩ r hr'
     have sr:=sX.trans (zag (o:=.lst (vN l)) hr')
     refine ⟨_,rfl,fun x dx hx hdx ne=>⟨x,dx,r,l,rfl,?_,by omega,by omega,hw,zad,fun p Z1 hp ex el kp=>⟨rfl,?_⟩⟩⟩
     ·rw [zai (fun z=>by rw [← z,zad] at hx;cases hx),zai (fun z=>by rw [← z,zad] at hdx;cases hdx)];exact zad
     have sm:=zco hx hdx ne kp
     have hp1:=same_p hx hdx ne hp
     have er:=sm _ _ (zad (H:=X') (a:=r) (o:=.lst (vN l)))
     refine ⟨_,rfl,_,rfl,fin x p r 1 0 l Z1 (sr.trans sm) (sr.free hp1) (sX.free hr') ⟨ex,el⟩ er ⟨by decide,hw,by omega,fun _=>by omega,(fun h=>absurd h (by decide)),(fun h=>absurd h (by decide)),by decide⟩ (fun h=>by rcases h with h | h <;> cases h) ?_⟩
     intro z
     rw [z,zad] at hp1;cases hp1
   ·rw [Xai e]
    exact iteF (hN _ _ ⟨rfl,rfl,e⟩)
  rintro σ Y ⟨rfl,rfl,e1⟩
  refine zaZ (fun σ Z=>σ=[some (.int (one:Int)),some (.int (other:Int)),some (.str (zbE kd)),some (.int (v:Int)),none,none,none]∧Z=Y∧kd≠2) (fun N hN=>?_) ?_
  ·refine ⟨_,rfl,rfl,_,rfl,?_⟩
   rw [show decide (V.str (zbE kd)=V.str "latch")=decide (kd=2) from zbJ (j:=2) hkd (by decide)]
   by_cases e:kd=2
   ·subst e
    rw [Xah rfl]
    refine iteT ⟨_,rfl,fun x dx hx hdx ne=>⟨x,dx,(v:Int),rfl,by omega,by omega,zad,fun p Z1 hp ex el kp=>⟨rfl,?_⟩⟩⟩
    have sm:=zco hx hdx ne kp
    have hp1:=same_p hx hdx ne hp
    refine ⟨_,rfl,_,rfl,by show 1≤sizeLine;decide,fun r hr'=>?_⟩
    have sr:=zag (o:=.lst [V.int (v:Int)]) hr'
    refine fin x p r 2 0 [v] _ ((sX.trans sm).trans sr) (sX.free hp1) ((sX.trans sm).free hr') ⟨?_,sr _ _ el⟩ zad ⟨by decide,fun w hw=>by rw [Xad] at hw;omega,by show 1≤4096;decide,fun _=>Xae _,fun _=>rfl,(fun h=>absurd h (by decide)),by decide⟩ (fun _=>rfl) ?_
    ·obtain ⟨d0,e0⟩:=ex
     exact ⟨d0,sr _ _ e0⟩
    ·intro z
     rw [z,hr'] at el;cases el
   ·rw [Xai e]
    exact iteF (hN _ _ ⟨rfl,rfl,e⟩)
  rintro σ Y' ⟨rfl,rfl,e2⟩
  refine zkU (fun σ Z=>σ=[some (.int (one:Int)),some (.int (other:Int)),some (.str (zbE kd)),some (.int (v:Int)),none,none,none]∧Z=Y') (fun σ Z=>σ=[some (.int (one:Int)),some (.int (other:Int)),some (.str (zbE kd)),some (.int (v:Int)),none,none,none]∧Z=Y'∧kd≠3) ?_ ?_ _ _ ⟨rfl,rfl⟩
  ·rintro σ Z ⟨rfl,rfl⟩ N hN
   refine ⟨_,rfl,rfl,_,rfl,?_⟩
   rw [show decide (V.str (zbE kd)=V.str "meter")=decide (kd=3) from zbJ (j:=3) hkd (by decide)]
   by_cases e:kd=3
   ·subst e
    rw [Xah rfl]
    refine iteT ⟨_,rfl,fun x dx hx hdx ne=>⟨x,dx,(v:Int),rfl,by omega,by omega,zad,fun p Z1 hp ex el kp=>⟨rfl,?_⟩⟩⟩
    have sm:=zco hx hdx ne kp
    have hp1:=same_p hx hdx ne hp
    refine ⟨_,rfl,_,rfl,by show 1≤sizeLine;decide,fun r hr'=>?_⟩
    have sr:=zag (o:=.lst [V.int (v:Int)]) hr'
    refine fin x p r 3 0 [v] _ ((sX.trans sm).trans sr) (sX.free hp1) ((sX.trans sm).free hr') ⟨?_,sr _ _ el⟩ zad ⟨by decide,fun w hw=>by rw [Xad] at hw;omega,by show 1≤4096;decide,fun _=>Xae _,fun _=>rfl,(fun h=>absurd h (by decide)),by decide⟩ (fun _=>rfl) ?_
    ·obtain ⟨d0,e0⟩:=ex
     exact ⟨d0,sr _ _ e0⟩
    ·intro z
     rw [z,hr'] at el;cases el
   ·rw [Xai e]
    exact iteF (hN _ _ ⟨rfl,rfl,e⟩)
  rintro σ Z ⟨rfl,rfl,e3⟩
  obtain rfl:kd=4:=by omega
  refine ⟨_,rfl,_,_,rfl,rfl,⟨by decide,by decide +kernel⟩,_,_,rfl,rfl,(show (0:Int)<9 by decide),_,_,rfl,rfl,by show 2≤sizeLine;decide,fun l hl=>⟨_,rfl,_,_,rfl,rfl,⟨by decide,by decide +kernel⟩,_,_,rfl,rfl,(show (0:Int)<8 by decide),rfl,.inr ⟨_,rfl,?_⟩⟩⟩
  obtain ⟨rm,c1,c2,ec⟩:∃ rm:Nat,1≤rm∧rm≤255∧atI [V.int ((1:Int)+(one:Int) / 7 % 9),V.int 255] (if decide (V.int ((one:Int) / 63 % 8)=V.int 3)=true then 1 else 0)=some (.int (rm:Int)):=by
   by_cases h:decide (V.int ((one:Int) / 63 % 8)=V.int 3)=true
   ·rw [if_pos h];exact ⟨255,by decide,by decide,rfl⟩
   ·rw [if_neg h]
    exact ⟨1+one / 7 % 9,by omega,by omega,by show some (V.int ((1:Int)+(one:Int) / 7 % 9))=_;rw [show (1:Int)+(one:Int) / 7 % 9=((1+one / 7 % 9:Nat):Int) by omega]⟩
  have sl:=sX.trans (zag (o:=.lst [V.int ((1:Int)+(one:Int) / 7 % 9),V.int 255]) hl)
  refine ⟨l,_,_,_,rfl,rfl,SqL.of zad,ec,?_⟩
  refine ⟨_,rfl,fun x dx hx hdx ne=>⟨x,dx,rm,rfl,c1,c2,zad,fun p Z1 hp ob kp=>⟨rfl,?_⟩⟩⟩
  have sm:=zco hx hdx ne kp
  have hp1:=same_p hx hdx ne hp
  refine ⟨_,rfl,by show 0≤sizeLine;decide,fun r hr'=>⟨_,rfl,?_⟩⟩
  have sr:=zag (o:=.lst []) hr'
  refine fin x p r 4 rm [] _ ((sl.trans sm).trans sr) (sl.free hp1) ((sl.trans sm).free hr') ⟨?_,sr _ _ ob.ls⟩ zad ⟨by decide,(fun w hw=>nomatch hw),by decide,(fun h=>absurd rfl h),(fun h=>absurd h (by decide)),fun _=>⟨Nat.zero_le _,c1⟩,c2⟩ (fun h=>by rcases h with h | h <;> cases h) ?_
  ·obtain ⟨d0,e0⟩:=ob.ex
   exact ⟨d0,sr _ _ e0⟩
  ·intro z
   have:=ob.ls
   rw [z,hr'] at this;cases this
abbrev zcJ:Stmt:=top 72
theorem sc_law_chips:FnScope ["row","chips","models","k","chip","model"] ["row"] (zah zcJ):=sck rfl rfl rfl (by decide +kernel)
inductive spChips34 (cs:Nat→Addr)(vs:List V)(H:Hp)(Q:VK)(u3_:XK):Prop
 | mk (L:Addr) (row:List Nat) (c:Nat) (z0_:vs=[.ref L]) (z1_:H L=some (.lst (vN row))) (z2_:row.length=2 * c) (z3_:1≤c) (z4_:c≤9) (z5_:(∀ v∈row,v<2 ^ 31)) (z6_:∀ (t CL ML:Addr) (cl:List Cm) (H':Hp),H t=none→H CL=none→H ML=none→CL≠ML→H' t=some (.tup [.ref CL,.ref ML])→H' CL=some (.lst (cl.map fun c=>.ref c.x))→H' ML=some (.lst (cl.map fun c=>.ref c.m))→cl.length=c→CMs cs H' cl→(∀ c∈cl,H c.p=none∧H c.r=none∧c.p≠CL∧c.p≠ML∧c.r≠CL∧c.r≠ML)→Same H H'→Q (.ref t) H')
theorem zgl {f:Addr}{cs:Nat→Addr}{fd:FuncData}(F:Fun K "_law_chips" "_law_chips" zcJ f fd)(T:Blt mg)(G_law_chip:Cal P w K mg base 5 "_law_chip" ["one","other"] (spChip34 cs)):FnOk P w K mg base CX0 6 f fd ["row"] (spChips34 cs):=by
 refine F.ok sc_law_chips (by walk_at "l") (fun cdv A outer s H vs Q E hr h=>?_)
 ·obtain ⟨L,row,c,rfl,eL,hl,c1,c9,hw,k⟩:=h
  refine ⟨_,(zab (ps_L 1 sc_law_chips.nd (zay zac))
   (zab (ps_L 2 sc_law_chips.nd (zay zac))
   (zab (za4 PassesOwn.never rfl (zgc rfl T.range (zaa zae (zaa (zaj zbC (zao zar (by rfl) T.len PySem.boot_len (zaa (pv 0) zac)) zae) (zaa zae zac)))) (pg_L 3 sc_law_chips.nd)
   (zab (zbj (pe_c G_law_chip (zaa (pe_x zam (pv 0) (pv 3)) (zaa (pe_x zam (pv 0) (zaj zaS (pv 3) zae)) zac))) (zba rfl (zan (pg_L 4 sc_law_chips.nd) (zan (pg_L 5 sc_law_chips.nd) zaM))))
   (zab (zaz (zdz PySem.F.plainAttrs_list PySem.F.slot_list_append PySem.F.type_list_append zaW (pv 1) (zaa (pv 4) zac)))
   (zaf (zaz (zdz PySem.F.plainAttrs_list PySem.F.slot_list_append PySem.F.type_list_append zaW (pv 2) (zaa (pv 5) zac)))))))
   (zaf (zap (za0 (zaa (pv 1) (zaa (pv 2) zac)))))))),?rd⟩
  refine ⟨by show 0≤sizeLine;decide,fun CL hCL=>⟨by show 0≤sizeLine;decide,fun ML hML=>?_⟩⟩
  have s1:=zag (o:=.lst []) hCL
  have s2:=s1.trans (zag (o:=.lst []) hML)
  have nCM:CL≠ML:=fun z=>by rw [← z,zad] at hML;cases hML
  have hMH:H ML=none:=s1.free hML
  have nLC:L≠CL:=zak eL hCL
  have nLM:L≠ML:=zak eL hMH
  obtain ⟨r1,r2,r3⟩:=zhX (j:=2 * c - 1) (st:=2) (n:=c) (by omega) (by decide) (by decide) (by omega)
  have ej:(((vN row).length:Nat):Int) - 1=((2 * c - 1:Nat):Int):=by rw [zal,hl];omega
  rw [← ej] at r1 r2 r3
  refine ⟨_,rfl,L,_,rfl,.inl (SqL.of (s2 _ _ eL)),_,_,rfl,rfl,0,_,2,c,rfl,by decide,r1,r2,r3,?_⟩
  refine zfi (n:=c) (fun i σ X=>∃ (v:Option V×Option V×Option V) (cl:List Cm),σ=[some (.ref L),some (.ref CL),some (.ref ML),v.1,v.2.1,v.2.2]∧X CL=some (.lst (cl.map fun c=>.ref c.x))∧X ML=some (.lst (cl.map fun c=>.ref c.m))∧cl.length=i∧CMs cs X cl∧(∀ c∈cl,H c.p=none∧H c.r=none∧c.p≠CL∧c.p≠ML∧c.r≠CL∧c.r≠ML∧c.x≠CL∧c.x≠ML∧c.m≠CL∧c.m≠ML)∧Same H X) ⟨(_,_,_),[],rfl,zag hML _ _ zad,zad,rfl,⟨(fun _ h=>nomatch h),Xbp⟩,(fun _ h=>nomatch h),s2⟩ ?_ ?_
  ·rintro i σ X hi ⟨v,cl,rfl,hh⟩
   have eC:=hh.1
   have eM:=hh.2.1
   have hlen:=hh.2.2.1
   have hC:=hh.2.2.2.1
   have hF:=hh.2.2.2.2.1
   have sX:=hh.2.2.2.2.2
   obtain ⟨dr,hdr⟩:=drw (row:=row) (2 * c) (by omega) hw
   have eX:=sX _ _ eL
   have e1:(0:Int)+(i:Int) * 2=((2 * i:Nat):Int):=by omega
   rw [e1]
   have eb':atI (vN row) (((2 * i:Nat):Int)+1)=some (.int (dr (2 * i+1):Int)):=by rw [show ((2 * i:Nat):Int)+1=((2 * i+1:Nat):Int) by omega];exact (hdr _ (by omega)).1
   refine ⟨_,rfl,_,rfl,L,_,_,_,rfl,rfl,SqL.of eX,(hdr (2 * i) (by omega)).1,_,rfl,_,rfl,_,_,rfl,rfl,L,_,_,_,rfl,rfl,SqL.of eX,eb',?_⟩
   refine ⟨dr (2 * i),dr (2 * i+1),rfl,(hdr _ (by omega)).2,(hdr _ (by omega)).2,fun t cm X1 ht et hp hr' hm ok s1=>zid et ?_⟩
   have hC1:=hC.add s1 hp hr' ok
   have eC1:=s1 _ _ eC
   have eM1:=s1 _ _ eM
   have nx:∀ {q:Addr} {l:List V},X1 q=some (.lst l)→cm.x≠q:=fun {q l} h z=>by
    obtain ⟨dx,e⟩:=ok.ch.ex;rw [z,h] at e;cases e
   have nn:∀ {q z:Addr} {o:HO},X q=some o→X z=none→z≠q:=fun {q z o} h1 h2 e=>by rw [e,h1] at h2;cases h2
   have hF1:∀ c∈cl ++ [cm],H c.p=none∧H c.r=none∧c.p≠CL∧c.p≠ML∧c.r≠CL∧c.r≠ML∧c.x≠CL∧c.x≠ML∧c.m≠CL∧c.m≠ML:=fun c hc=>by
    rcases XaK.mp hc with hc | hc
    ·exact hF c hc
    ·rw [Xad.mp hc]
     exact ⟨sX.free hp,sX.free hr',nn eC hp,nn eM hp,nn eC hr',nn eM hr',nx eC1,nx eM1,nn eC hm,nn eM hm⟩
   try dsimp only [zaT,List.set]
   refine ⟨_,rfl,.inl ⟨rfl,_,SqL.of eC1⟩,_,rfl,CL,_,_,rfl,rfl,eC1,?_,?_⟩
   ·rw [Xal];exact XaZ (show cl.length≤9 by omega) (by decide)
   have eM2:upd X1 CL (.lst ((cl.map fun c=>V.ref c.x) ++ [.ref cm.x])) ML=some (.lst (cl.map fun c=>.ref c.m)):=by rw [zai (Ne.symm nCM)];exact eM1
   refine ⟨_,rfl,.inl ⟨rfl,_,SqL.of eM2⟩,_,rfl,ML,_,_,rfl,rfl,eM2,?_,?_⟩
   ·rw [Xal];exact XaZ (show cl.length≤9 by omega) (by decide)
   refine ⟨(_,_,_),cl ++ [cm],rfl,?_,?_,by simp [hlen],?_,hF1,fun z o ez=>?_⟩
   ·rw [zai nCM,zad,XaI];rfl
   ·rw [zad,XaI];rfl
   ·exact (hC1.updL fun c hc=>let f:=hF1 c hc;⟨f.2.2.2.2.2.2.1,f.2.2.1,f.2.2.2.2.2.2.2.2.1,f.2.2.2.2.1⟩).updL fun c hc=>let f:=hF1 c hc;⟨f.2.2.2.2.2.2.2.1,f.2.2.2.1,f.2.2.2.2.2.2.2.2.2,f.2.2.2.2.2.1⟩
   ·rw [zai (zak ez hMH),zai (zak ez hCL)];exact s1 _ _ (sX _ _ ez)
  ·rintro σ X ⟨v,cl,rfl,eC,eM,hlen,hC,hF,sX⟩
   refine ⟨_,rfl,_,rfl,by show 2≤sizeLine;decide,fun t ht=>?_⟩
   have st:=zag (o:=.tup [.ref CL,.ref ML]) ht
   exact k t CL ML cl _ (sX.free ht) hCL hMH nCM zad (st _ _ eC) (st _ _ eM) hlen (hC.same st) (fun c hc=>let f:=hF c hc;⟨f.1,f.2.1,f.2.2.1,f.2.2.2.1,f.2.2.2.2.1,f.2.2.2.2.2.1⟩) (sX.trans st)
abbrev zes:Stmt:=top 78
theorem sc_law_row:FnScope ["r","bits","models","top","high","mask","chip","most","inner","latches","latch","asked"] ["r","bits","models"] (zah zes):=sck rfl rfl rfl (by decide +kernel)
theorem andnot (a b:Nat):a - (a &&& b)=a ^^^ (a &&& b):=by
 have h:=or_is a (a &&& b)
 have h1:a ||| (a &&& b)=a:=by apply Nat.eq_of_testBit_eq;intro i;simp;cases a.testBit i <;> simp
 have h2:a &&& (a &&& b)=a &&& b:=by apply Nat.eq_of_testBit_eq;intro i;simp
 rw [h1,h2] at h
 omega
theorem left_of {T mask A i:Nat}(hm:T &&& mask=mask)(hA:A &&& (T - mask)=A)(hi:i &&& A=i):i≤T∧i &&& mask=0:=by
 have e:T - mask=T ^^^ (T &&& mask):=by rw [← andnot,hm]
 have h1:i≤A:=by rw [← hi];exact XbR
 have h2:A≤T - mask:=by rw [← hA];exact XbR
 refine ⟨by omega,?_⟩
 apply Nat.eq_of_testBit_eq
 intro j
 have b1:=congrArg (fun x=>Nat.testBit x j) hi
 have b2:=congrArg (fun x=>Nat.testBit x j) hA
 rw [e] at b2
 simp only [XaA,Xb1,Nat.zero_testBit] at b1 b2 ⊢
 revert b1 b2
 cases i.testBit j <;> cases A.testBit j <;> cases mask.testBit j <;> cases T.testBit j <;> simp
theorem zna {x m:Nat}:x &&& (2 ^ m - 1)<2 ^ m:=by
 have h:=Xb2 m
 have h2:x &&& (2 ^ m - 1)≤2 ^ m - 1:=XbR
 omega
theorem zmp {mask m:Nat}(h:mask<2 ^ m):(2 ^ m - 1) &&& mask=mask:=by
 rw [Nat.and_comm,Xby,XaQ h]
theorem ziy {ns:List Nat}{a k:Nat}(hl:ns.length=k)(hk:0<k):∃ u∈ns,atI (vN ns) ((a:Int) % (k:Int))=some (.int (u:Int)):=by
 have h:a % k<ns.length:=by rw [hl];exact Xbm _ hk
 refine ⟨ns[a % k],XbQ _,?_⟩
 rw [show (a:Int) % (k:Int)=((a % k:Nat):Int) by norm_cast]
 refine zaA ?_
 unfold vN
 rw [Xaq,Xaw h]
 rfl
theorem zlo {cs:Nat→Addr}{H:Hp}{cl:List Cm}{ML:Addr}{Q:List V→Hp→Prop}(eM:H ML=some (.lst (cl.map fun c=>.ref c.m)))(hC:CMs cs H cl)(c9:cl.length≤9)(k:∀ l:List Nat,l.length≤9→(∀ x∈l,x<cl.length∧(cl.getD x dfCm).kd=2)→Q (vN l) H) :
  zgT (Itr 0 cl.length) (zaT 0) (zmq (tOp rEq (tOp (rIxL K) (tOp (rIxL K) (tVar 1) (tVar 0)) (tC (.int 0))) (tC (.str "latch")))) (tVar 0) Q [none,some (.ref ML)] H:=by
 refine zfl (n:=cl.length) (fun j ys σ Y=>∃ (v0:Option V) (l:List Nat),σ=[v0,some (.ref ML)]∧ys=vN l∧l.length≤j∧(∀ x∈l,x<cl.length∧(cl.getD x dfCm).kd=2)∧Y=H) (Xam c9 (by decide)) ⟨none,[],rfl,rfl,Xae _,(fun x h=>nomatch h),rfl⟩ ?_ ?_ ?_
 ·rintro j ys σ Y ⟨_,l,_,rfl,hl,_⟩
  rw [zal];exact hl
 ·rintro j ys σ Y hj ⟨v0,l,rfl,rfl,hl,hx,rfl⟩
  rw [XbS]
  have okj:=hC.o _ (za6 hj).1
  have hat:atI (cl.map fun c=>V.ref c.m) (j:Int)=some (.ref (cl.getD j dfCm).m):=zaA (by rw [Xaq,(za6 hj).2];rfl)
  have kn:decide (V.str (zbE (cl.getD j dfCm).kd)=V.str "latch")=decide ((cl.getD j dfCm).kd=2):=zbJ (j:=2) okj.k.k5 (by decide)
  refine ⟨_,rfl,_,rfl,ML,_,_,_,rfl,rfl,SqL.of eM,hat,(cl.getD j dfCm).m,_,_,_,rfl,rfl,SqL.of okj.md.at_,rfl,rfl,_,rfl,?_⟩
  rw [kn]
  by_cases h2:(cl.getD j dfCm).kd=2
  ·rw [Xah h2]
   refine iteT ⟨_,rfl,_,l ++ [j],rfl,by rw [zbn],by rw [Xay];simp;omega,fun x h=>?_,rfl⟩
   rcases XaK.mp h with h | h
   ·exact hx x h
   ·obtain rfl:=Xad.mp h;exact ⟨hj,h2⟩
  ·rw [Xai h2]
   exact iteF ⟨_,l,rfl,rfl,by omega,hx,rfl⟩
 ·rintro ys σ Y ⟨v0,l,rfl,rfl,hl,hx,rfl⟩
  exact k l (by omega) hx
inductive spRow34 (cs:Nat→Addr)(vs:List V)(H:Hp)(Q:VK)(u3_:XK):Prop
 | mk (L ML:Addr) (row:List Nat) (m:Nat) (cl:List Cm) (z0_:vs=[.ref L,.int (m:Int),.ref ML]) (z1_:H L=some (.lst (vN row))) (z2_:row.length=8) (z3_:(∀ v∈row,v<2 ^ 31)) (z4_:1≤m) (z5_:m≤16) (z6_:H ML=some (.lst (cl.map fun c=>.ref c.m))) (z7_:1≤cl.length) (z8_:cl.length≤9) (z9_:CMs cs H cl) (z10_:∀ (t:Addr) (r:Rw) (H':Hp),H t=none→RwAt H' t r→RwOk m r→Fit (dtC cl) r→Same H H'→Q (.ref t) H')
set_option tactic.hygienic true in
theorem ziK {f:Addr}{cs:Nat→Addr}{fd:FuncData}(F:Fun K "_law_row" "_law_row" zes f fd)(T:Blt mg)(G_law_few:Cal P w K mg base 2 "_law_few" ["number","most"] spFew)(G_law_size:Cal P w K mg base 1 "_law_size" ["model"] spSz34):FnOk P w K mg base CX0 3 f fd ["r","bits","models"] (spRow34 cs):=by
 refine F.ok sc_law_row (by walk_at "l") (fun cdv A outer s H vs Q E hr h=>?_)
 ·obtain ⟨L,ML,row,m,cl,rfl,eL,hl,hw,m1,m2,eM,c1,c9,hC,k⟩:=h
  refine ⟨_,(zab (ps_L 3 sc_law_row.nd (zaj zbC (zaj zc1 zae (pv 1)) zae))
   (zab (ps_L 4 sc_law_row.nd (zaj zaS (zaj zbC (pv 3) (zaj zc1 zae (zaj zaD (zaj zaE (pe_x zam (pv 0) zae) zae) (pv 1)))) zae))
   (zab (ps_L 5 sc_law_row.nd (zaj zaP (pe_x zam (zay (zaa (pe_x zam (pv 0) zae) (zaa (zaj zjH (pe_x zam (pv 0) zae) (pe_x zam (pv 0) zae)) (zaa (zaj zaP (pe_x zam (pv 0) zae) (pe_x zam (pv 0) zae)) (zaa (pv 4) (zaa (pe_c G_law_few (zaa (zaj zaP (pe_x zam (pv 0) zae) (pv 3)) (zaa (zaj zaD (pe_x zam (pv 0) zae) zae) zac))) zac)))))) (zaj zaD (pe_x zam (pv 0) zae) zae)) (pv 3)))
   (zab (ps_L 6 sc_law_row.nd (zaj zaD (pe_x zam (pv 0) zae) (zao zar (by rfl) T.len PySem.boot_len (zaa (pv 2) zac))))
   (zab (ps_L 7 sc_law_row.nd zae)
   (zab (zdZ PassesOwn.never (zat ziB (zaj zc1 zae (pv 7)) (pe_c G_law_size (zaa (pe_x zam (pv 2) (pv 6)) zac)) (zav _)) (zaf (zez (i:=7) sc_law_row.nd rfl (Or.inl rfl) zae zdC)))
   (zab (ps_L 8 sc_law_row.nd (pe_c G_law_few (zaa (pe_x zam (zay (zaa (zaj zbC (pv 3) (pv 5)) (zaa (zaj zaP (pe_x zam (pv 0) zae) (zaj zbC (pv 3) (pv 5))) zac))) (zaj zaD (pe_x zam (pv 0) zae) zae)) (zaa (pe_x zam (zay (zaa (pv 7) (zaa (zaj zaD (zaj zaE (pe_x zam (pv 0) zae) zae) (zaj zaS (pv 7) zae)) zac))) (zaj zaD (zaj zaE (pe_x zam (pv 0) zae) zae) zae)) zac))))
   (zab (zdx (i:=9) (Nc:=["k","models"]) [none,some 2] sc_law_row.nd rfl rfl rfl (zaK (by rfl)) (zaU rfl T.range (zaa (zao zar (by rfl) T.len PySem.boot_len (zaa (pv 2) zac)) zac)) (fun _ _ _ _ _=>(pg_L 0 (show (["k","models"]:List Str).Nodup by decide +kernel))) (fun _ _ _ _ _=>(zeA (zat zbk (pe_x (zfO (K:=K) rfl) (pe_x (zfO (K:=K) rfl) (pv 1) (pv 0)) zae) za1 (zav _)))) (fun _ _ _ _ _=>(pv 0)))
   (zab (ps_L 10 sc_law_row.nd zcz)
   (zab (zax (PW.pt (zf9 (zat (zjI (Nat.lt_of_succ_lt (zeU hr)) (K:=K) rfl) (pv 9) (zay zac) (zav _)) (zex (zat zeD (zaj zaD (pe_x zam (pv 0) zae) zae) zae (zav _))))) (zab (ps_L 11 sc_law_row.nd (zaj zaD (pe_x zam (zay (zaa (zaj zaE (pe_x zam (pv 0) zae) zae) (zaa (zaj zc1 zae (zaj zaD (zaj zaE (pe_x zam (pv 0) zae) zae) zae)) (zaa zae zac)))) (zaj zaD (pe_x zam (pv 0) zae) zae)) zae))
   (zaf (ps_L 10 sc_law_row.nd (za0 (zaa (pe_x zam (pv 9) (zaj zaD (zaj zaE (pe_x zam (pv 0) zae) zae) (zao zar (by rfl) T.len PySem.boot_len (zaa (pv 9) zac)))) (zaa (pv 11) (zaa (zaj zaP (zaj zaE (pe_x zam (pv 0) zae) zae) (pv 11)) zac))))))) zaq)
   (zaf (zap (za0 (zaa (pv 5) (zaa (zaj zaP (pe_x zam (pv 0) zae) (pv 5)) (zaa (pv 8) (zaa (pv 6) (zaa (pv 10) zac)))))))))))))))))),?rd⟩
  have e1:(1:Int) * 2 ^ ((m:Nat):Int).toNat=((2 ^ m:Nat):Int):=by rw [Int.one_mul,Xag];norm_cast
  have h0m:0<2 ^ m:=Xb2 m
  have h2m:2 ^ m≤2 ^ 16:=XaB (by decide) m2
  obtain ⟨dr,hdr⟩:=drw (row:=row) 8 (by omega) hw
  have y0:atI (vN row) 0=some (.int (dr 0:Int)):=(hdr 0 (by decide)).1
  have y1:atI (vN row) 1=some (.int (dr 1:Int)):=(hdr 1 (by decide)).1
  have y2:atI (vN row) 2=some (.int (dr 2:Int)):=(hdr 2 (by decide)).1
  have y3:atI (vN row) 3=some (.int (dr 3:Int)):=(hdr 3 (by decide)).1
  have y4:atI (vN row) 4=some (.int (dr 4:Int)):=(hdr 4 (by decide)).1
  have y5:atI (vN row) 5=some (.int (dr 5:Int)):=(hdr 5 (by decide)).1
  have y6:atI (vN row) 6=some (.int (dr 6:Int)):=(hdr 6 (by decide)).1
  have y7:atI (vN row) 7=some (.int (dr 7:Int)):=(hdr 7 (by decide)).1
  have ix:∀ {X:Hp},Same H X→SqL K X L (vN row):=fun s=>SqL.of (s _ _ eL)
  generalize hT:2 ^ m - 1=T
  
  refine zaZ (fun σ X=>σ=[some (.ref L),some (.int (m:Int)),some (.ref ML),some (.int (T:Int)),none,none,none,none,none,none,none,none]∧X=H) (fun N hN=>?_) ?_
  ·refine ⟨_,rfl,_,_,rfl,rfl,⟨by omega,by omega,by decide⟩,_,_,rfl,rfl,hN _ _ ⟨?_,rfl⟩⟩
   try dsimp only
   rw [e1,show ((2 ^ m:Nat):Int) - 1=(T:Int) by omega]
   rfl
  rintro σ X ⟨rfl,rfl⟩
  
  refine zaZ (fun σ Y=>∃ hh:Nat,hh≤2 ^ 31∧σ=[some (.ref L),some (.int (m:Int)),some (.ref ML),some (.int (T:Int)),some (.int (hh:Int)),none,none,none,none,none,none,none]∧Y=X) (fun N hN=>?_) ?_
  ·refine ⟨_,rfl,_,rfl,L,_,_,_,rfl,rfl,ix (Same.refl _),y0,_,_,rfl,rfl,⟨by decide,by decide +kernel⟩,_,rfl,_,_,rfl,rfl,(by show (0:Int)<(m:Int);omega),_,_,rfl,rfl,⟨?_,?_,by decide⟩,_,_,rfl,rfl,_,_,rfl,rfl,?_⟩
   ·exact XbI _ (by omega)
   ·have:=Xbr ((dr 0:Int) / 16) (show (0:Int)<(m:Int) by omega);omega
   have ek:(dr 0:Int) / 16 % (m:Int)=((dr 0 / 16 % m:Nat):Int):=by norm_cast
   have hk:dr 0 / 16 % m<m:=Xbm _ (by omega)
   have hk2:2 ^ (dr 0 / 16 % m)≤T:=by
    have:2 ^ (dr 0 / 16 % m)≤2 ^ (m - 1):=XaB (by decide) (by omega)
    have e:2 ^ m=2 * 2 ^ (m - 1):=by rw [← Nat.pow_succ'];congr 1;omega
    have:=Xb2 (m - 1)
    omega
   refine hN _ _ ⟨T - 2 ^ (dr 0 / 16 % m)+1,?_,?_,rfl⟩
   ·have:=Nat.sub_le T (2 ^ (dr 0 / 16 % m));have:(2:Nat) ^ 16=65536:=by decide
    have:(2:Nat) ^ 31=2147483648:=by decide
    omega
   try dsimp only
   rw [ek,show (1:Int) * 2 ^ ((dr 0 / 16 % m:Nat):Int).toNat=((2 ^ (dr 0 / 16 % m):Nat):Int) by rw [Int.one_mul,Xag];norm_cast]
   rw [show (T:Int) - ((2 ^ (dr 0 / 16 % m):Nat):Int)+1=((T - 2 ^ (dr 0 / 16 % m)+1:Nat):Int) by omega]
   rfl
  rintro σ Y ⟨hh,hh1,rfl,rfl⟩
  
  refine zaZ (fun σ X=>∃ mask:Nat,mask<2 ^ m∧σ=[some (.ref L),some (.int (m:Int)),some (.ref ML),some (.int (T:Int)),some (.int (hh:Int)),some (.int (mask:Int)),none,none,none,none,none,none]∧Same Y X) (fun N hN=>?_) ?_
  ·have i0:=ix (Same.refl Y)
   refine ⟨_,rfl,L,_,_,_,rfl,rfl,i0,y0,_,rfl,L,_,_,_,rfl,rfl,i0,y0,_,rfl,L,_,_,_,rfl,rfl,i0,y1,_,_,rfl,rfl,_,rfl,L,_,_,_,rfl,rfl,i0,y0,_,rfl,L,_,_,_,rfl,rfl,i0,y1,_,_,rfl,rfl,_,rfl,_,rfl,L,_,_,_,rfl,rfl,i0,y0,_,rfl,_,_,rfl,rfl,_,rfl,L,_,_,_,rfl,rfl,i0,y1,_,_,rfl,rfl,(show (0:Int)<4 by decide),?_⟩
   refine ⟨dr 0 &&& T,dr 1 % 4,?_,?_,fun r H1 hr s1=>⟨by show 5≤sizeLine;decide,fun p hp=>?_⟩⟩
   ·show [V.int (Builtin.bitAnd (dr 0:Int) (T:Int)),V.int ((dr 1:Int) % 4)]=_
    rw [band,show (dr 1:Int) % 4=((dr 1 % 4:Nat):Int) by omega]
   ·exact XaZ Nat.and_le_left (Nat.lt_trans (hdr 0 (by decide)).2 (by decide))
   obtain ⟨u,_,eu⟩:=ziy (ns:=[dr 0,dr 0 ||| dr 1,dr 0 &&& dr 1,hh,r]) (a:=dr 2) (k:=5) rfl (by decide)
   refine ⟨_,rfl,L,_,_,_,rfl,rfl,ix (s1.trans (zag hp)),y2,_,_,rfl,rfl,(show (0:Int)<5 by decide),p,_,_,.int (u:Int),rfl,rfl,SqL.of zad,?_,_,rfl,_,_,rfl,rfl,?_⟩
   ·show atI [V.int (dr 0:Int),V.int (Builtin.bitOr (dr 0:Int) (dr 1:Int)),V.int (Builtin.bitAnd (dr 0:Int) (dr 1:Int)),V.int (hh:Int),V.int (r:Int)] ((dr 2:Int) % 5)=_
    rw [bor,band]
    exact eu
   refine hN _ _ ⟨u &&& T,by rw [← hT];exact zna,?_,s1.trans (zag hp)⟩
   try dsimp only
   rw [band]
   rfl
  rintro σ X ⟨mask,hmask,rfl,sX⟩
  
  refine zaZ (fun σ Z=>σ=[some (.ref L),some (.int (m:Int)),some (.ref ML),some (.int (T:Int)),some (.int (hh:Int)),some (.int (mask:Int)),some (.int ((dr 3 % cl.length:Nat):Int)),none,none,none,none,none]∧Z=X) (fun N hN=>?_) ?_
  ·refine ⟨_,rfl,L,_,_,_,rfl,rfl,ix sX,y3,_,rfl,ML,_,rfl,.inl (SqL.of (sX _ _ eM)),_,_,rfl,rfl,?_,hN _ _ ⟨?_,rfl⟩⟩
   ·rw [Xal];omega
   try dsimp only
   rw [Xal,show (dr 3:Int) % (cl.length:Int)=((dr 3 % cl.length:Nat):Int) by norm_cast]
   rfl
  rintro σ Z ⟨rfl,rfl⟩
  have hch:dr 3 % cl.length<cl.length:=Xbm _ (by omega)
  generalize dr 3 % cl.length=ch at hch ⊢
  refine zaZ (fun σ Y=>σ=[some (.ref L),some (.int (m:Int)),some (.ref ML),some (.int (T:Int)),some (.int (hh:Int)),some (.int (mask:Int)),some (.int (ch:Int)),some (.int (0:Int)),none,none,none,none]∧Y=Z) (fun N hN=>?_) ?_
  ·exact hN _ _ ⟨rfl,rfl⟩
  rintro σ Y ⟨rfl,rfl⟩
  
  refine zaZ (fun σ X=>∃ mo:Nat,2 ^ mo≤ksize (cl.getD ch dfCm).kd (cl.getD ch dfCm).us∧mo≤16∧σ=[some (.ref L),some (.int (m:Int)),some (.ref ML),some (.int (T:Int)),some (.int (hh:Int)),some (.int (mask:Int)),some (.int (ch:Int)),some (.int (mo:Int)),none,none,none,none]∧X=Y) (fun N hN=>?_) ?_
  ·have okc:=hC.o _ (za6 hch).1
   have eMX:=sX _ _ eM
   have hat:atI (cl.map fun c=>V.ref c.m) (ch:Int)=some (.ref (cl.getD ch dfCm).m):=zaA (by rw [Xaq,(za6 hch).2];rfl)
   have kz1:1≤ksize (cl.getD ch dfCm).kd (cl.getD ch dfCm).us∧ksize (cl.getD ch dfCm).kd (cl.getD ch dfCm).us≤4096:=by
    have kk:=okc.k
    unfold ksize
    split
    ·exact ⟨by decide,by decide⟩
    ·rename_i h;exact ⟨kk.l1 h,kk.ln⟩
   have okX:=okc.same sX
   refine zdW (fun σ W=>∃ mo:Nat,2 ^ mo≤ksize (cl.getD ch dfCm).kd (cl.getD ch dfCm).us∧σ=[some (.ref L),some (.int (m:Int)),some (.ref ML),some (.int (T:Int)),some (.int (hh:Int)),some (.int (mask:Int)),some (.int (ch:Int)),some (.int (mo:Int)),none,none,none,none]∧W=Y) (fun σ _=>match σ with | [_,_,_,_,_,_,_,some (.int b),_,_,_,_]=>13 - b.toNat | _=>0) ⟨0,kz1.1,rfl,rfl⟩ ?_ ?_
   ·rintro σ W ⟨mo,hmo,rfl,rfl⟩
    have mo12:mo<13:=by
     by_cases h:mo<13
     ·exact h
     ·have:2 ^ 13≤2 ^ mo:=XaB (by decide) (by omega)
      omega
    have e2:(2:Int) * 2 ^ ((mo:Nat):Int).toNat=((2 ^ (mo+1):Nat):Int):=by rw [Xag,XaE];push_cast;omega
    refine ⟨_,rfl,_,_,rfl,rfl,⟨by omega,by omega,by decide⟩,_,rfl,_,rfl,ML,_,_,_,rfl,rfl,SqL.of eMX,hat,_,_,_,_,_,rfl,okX.md,okX.k.k5,_,_,rfl,rfl,_,rfl,ite2 (fun h1=>?_) (fun h1=>?_)⟩
    ·have h1:2 ^ (mo+1)≤ksize (cl.getD ch dfCm).kd (cl.getD ch dfCm).us:=by
      have:=XaD h1;rw [e2] at this;omega
     refine ⟨_,rfl,_,_,rfl,rfl,⟨mo+1,h1,?_,rfl⟩,?_⟩
     ·rfl
     ·show 13 - ((mo:Int)+1).toNat<13 - ((mo:Nat):Int).toNat
      omega
    ·exact hN _ _ ⟨mo,hmo,by omega,rfl,rfl⟩
   ·rintro σ W Q1 Q2 hq h
    obtain ⟨v,e,i,j,ei,ej,c,v2,e2,v3,e3,a,b,c1_,d,f1,f2,f3,f4,m1_,r1,kd1,n1,us1,g1,g2,g3,i2,j2,g4,g5,b2,g6,h⟩:=h
    exact ⟨v,e,i,j,ei,ej,c,v2,e2,v3,e3,a,b,c1_,d,f1,f2,f3,f4,m1_,r1,kd1,n1,us1,g1,g2,g3,i2,j2,g4,g5,b2,g6,hq _ _ h⟩
  rintro σ X ⟨mo,hmo,hmo16,rfl,rfl⟩
  have hTm:T &&& mask=mask:=by rw [← hT];exact zmp hmask
  have hmT:mask≤T:=by omega
  
  refine zaZ (fun σ Y=>∃ inn:Nat,inn≤T∧inn &&& mask=0∧ones inn≤mo∧σ=[some (.ref L),some (.int (m:Int)),some (.ref ML),some (.int (T:Int)),some (.int (hh:Int)),some (.int (mask:Int)),some (.int (ch:Int)),some (.int (mo:Int)),some (.int (inn:Int)),none,none,none]∧Same X Y) (fun N hN=>?_) ?_
  ·have eTm:(T:Int) - (mask:Int)=((T - mask:Nat):Int):=by omega
   refine ⟨_,rfl,_,rfl,_,_,rfl,rfl,_,rfl,L,_,_,_,rfl,rfl,ix sX,y4,_,rfl,_,rfl,_,_,rfl,rfl,_,_,rfl,rfl,by show 2≤sizeLine;decide,fun p hp=>?_⟩
   have sp:=sX.trans (zag (o:=.lst [V.int ((T:Int) - (mask:Int)),V.int (Builtin.bitAnd (dr 4:Int) ((T:Int) - (mask:Int)))]) hp)
   obtain ⟨u,hu,eu⟩:=ziy (ns:=[T - mask,dr 4 &&& (T - mask)]) (a:=dr 5) (k:=2) rfl (by decide)
   have hu':u &&& (T - mask)=u:=by
    rcases Xan.mp hu with rfl | hu
    ·exact Nat.and_self _
    ·rw [Xad.mp hu,Nat.and_assoc,Nat.and_self]
   refine ⟨_,rfl,L,_,_,_,rfl,rfl,ix sp,y5,_,_,rfl,rfl,(show (0:Int)<2 by decide),p,_,_,.int (u:Int),rfl,rfl,SqL.of zad,?_,?_⟩
   ·show atI [V.int ((T:Int) - (mask:Int)),V.int (Builtin.bitAnd (dr 4:Int) ((T:Int) - (mask:Int)))] ((dr 5:Int) % 2)=_
    rw [eTm,band]
    exact eu
   refine ⟨_,rfl,_,rfl,L,_,_,_,rfl,rfl,ix sp,y4,_,_,rfl,rfl,⟨by decide,by decide +kernel⟩,_,rfl,_,_,rfl,rfl,_,_,rfl,rfl,(show (0:Int)<(mo:Int)+1 by omega),by show 2≤sizeLine;decide,fun p2 hp2=>?_⟩
   have sp2:=sp.trans (zag (o:=.lst [V.int (mo:Int),V.int ((dr 4:Int) / 64 % ((mo:Int)+1))]) hp2)
   obtain ⟨u2,hu2,eu2⟩:=ziy (ns:=[mo,dr 4 / 64 % (mo+1)]) (a:=dr 5 / 2) (k:=2) rfl (by decide)
   have hu2':u2≤mo:=by
    rcases Xan.mp hu2 with rfl | hu
    ·exact Xae _
    ·rw [Xad.mp hu];have:=Xbm (dr 4 / 64) (show 0<mo+1 by omega);omega
   refine ⟨_,rfl,L,_,_,_,rfl,rfl,ix sp2,y5,_,_,rfl,rfl,⟨by decide,by decide +kernel⟩,_,_,rfl,rfl,(show (0:Int)<2 by decide),p2,_,_,.int (u2:Int),rfl,rfl,SqL.of zad,?_,?_⟩
   ·show atI [V.int (mo:Int),V.int ((dr 4:Int) / 64 % ((mo:Int)+1))] ((dr 5:Int) / 2 % 2)=_
    rw [show (dr 4:Int) / 64 % ((mo:Int)+1)=((dr 4 / 64 % (mo+1):Nat):Int) by push_cast;rfl,show (dr 5:Int) / 2=((dr 5 / 2:Nat):Int) by omega]
    exact eu2
   refine ⟨u,u2,rfl,?_,fun r H1 hr s1=>?_⟩
   ·have:u≤T - mask:=by rw [← hu'];exact XbR
    have:(2:Nat) ^ 16=65536:=by decide
    have:(2:Nat) ^ 32=4294967296:=by decide
    omega
   obtain ⟨l1,l2⟩:=left_of hTm hu' hr.1
   exact hN _ _ ⟨r,l1,l2,Xam hr.2 hu2',rfl,((zag hp).trans (zag hp2)).trans s1⟩
  rintro σ Y ⟨inn,hiT,him,hio,rfl,sXY⟩
  have sY:=sX.trans sXY
  
  refine zaZ (fun σ X=>∃ (LL:Addr) (l:List Nat),σ=[some (.ref L),some (.int (m:Int)),some (.ref ML),some (.int (T:Int)),some (.int (hh:Int)),some (.int (mask:Int)),some (.int (ch:Int)),some (.int (mo:Int)),some (.int (inn:Int)),some (.ref LL),none,none]∧X LL=some (.lst (vN l))∧l.length≤9∧(∀ x∈l,x<cl.length∧(cl.getD x dfCm).kd=2)∧Same Y X) (fun N hN=>?_) ?_
  ·have eMX:=sY _ _ eM
   refine ⟨_,rfl,ML,_,rfl,.inl (SqL.of eMX),_,rfl,by rw [Xal];omega,by rw [Xal];omega,?_⟩
   rw [Xal,Xag]
   exact zlo eMX (hC.same sY) c9 fun l hl hx LL hLL=>hN _ _ ⟨LL,l,rfl,zad,hl,hx,zag hLL⟩
  rintro σ X ⟨LL,l,rfl,eLL,hl9,hlx,sYX⟩
  have sX2:=sY.trans sYX
  clear sX sXY sY sYX
  refine zaZ (fun σ Y=>σ=[some (.ref L),some (.int (m:Int)),some (.ref ML),some (.int (T:Int)),some (.int (hh:Int)),some (.int (mask:Int)),some (.int (ch:Int)),some (.int (mo:Int)),some (.int (inn:Int)),some (.ref LL),some .non,none]∧Y=X) (fun N hN=>?_) ?_
  ·exact hN _ _ ⟨rfl,rfl⟩
  rintro σ Y ⟨rfl,rfl⟩
  
  refine zaZ (fun σ X=>∃ (lo:Option (Nat×Nat×Nat)) (lv:V) (v11:Option V),LatV X lv lo∧LatOk lo∧(∀ c a b,lo=some (c,a,b)→c<cl.length∧(cl.getD c dfCm).kd=2)∧σ=[some (.ref L),some (.int (m:Int)),some (.ref ML),some (.int (T:Int)),some (.int (hh:Int)),some (.int (mask:Int)),some (.int (ch:Int)),some (.int (mo:Int)),some (.int (inn:Int)),some (.ref LL),some lv,v11]∧Same Y X) (fun N hN=>?_) ?_
  ·refine ⟨_,rfl,by show 0≤sizeLine;decide,fun e he=>⟨LL,e,_,rfl,rfl,SqL.of (zag he _ _ eLL),SqL.of zad,_,rfl,ite2 (fun h1=>?_) (fun h1=>?_)⟩⟩
   ·have se:=sX2.trans (zag (o:=.lst []) he)
    have sne:=zag (o:=.lst []) he
    have l1:1≤l.length:=by
     cases l with
     | nil=>exact absurd h1 (by decide)
     | cons _ _=>simp
    have eL2:=sne _ _ eLL
    generalize upd Y e (.lst [])=Z at *
    refine ⟨_,rfl,L,_,_,_,rfl,rfl,ix se,y6,_,_,rfl,rfl,(show (0:Int)<3 by decide),_,_,rfl,rfl,_,rfl,ite2 (fun h2=>?_) (fun h2=>?_)⟩
    ·refine ⟨_,rfl,L,_,_,_,rfl,rfl,ix se,y6,_,_,rfl,rfl,⟨by decide,by decide +kernel⟩,_,rfl,L,_,_,_,rfl,rfl,ix se,y6,_,_,rfl,rfl,⟨by decide,by decide +kernel⟩,_,_,rfl,rfl,(show (0:Int)<8 by decide),_,_,rfl,rfl,⟨by omega,by omega,by decide⟩,by show 3≤sizeLine;decide,fun p hp=>?_⟩
     have e6:(dr 6:Int) / 3=((dr 6 / 3:Nat):Int):=by omega
     have e68:(1:Int) * 2 ^ ((dr 6:Int) / 3 % 8).toNat=((2 ^ (dr 6 / 3 % 8):Nat):Int):=by rw [show (dr 6:Int) / 3 % 8=((dr 6 / 3 % 8:Nat):Int) by omega,Int.one_mul,Xag];norm_cast
     obtain ⟨u,_,eu⟩:=ziy (ns:=[dr 6 / 3,2 ^ (dr 6 / 3 % 8),3]) (a:=dr 7) (k:=3) rfl (by decide)
     have snp:=sne.trans (zag (o:=.lst [V.int ((dr 6:Int) / 3),V.int ((1:Int) * 2 ^ ((dr 6:Int) / 3 % 8).toNat),V.int 3]) hp)
     have sp:=sX2.trans snp
     have eL3:=zag (o:=.lst [V.int ((dr 6:Int) / 3),V.int ((1:Int) * 2 ^ ((dr 6:Int) / 3 % 8).toNat),V.int 3]) hp _ _ eL2
     refine ⟨_,rfl,L,_,_,_,rfl,rfl,ix sp,y7,_,_,rfl,rfl,(show (0:Int)<3 by decide),p,_,_,.int (u:Int),rfl,rfl,SqL.of zad,?_,_,_,rfl,rfl,(show (0:Int)<256 by decide),?_⟩
     ·show atI [V.int ((dr 6:Int) / 3),V.int ((1:Int) * 2 ^ ((dr 6:Int) / 3 % 8).toNat),V.int 3] ((dr 7:Int) % 3)=_
      rw [e68,e6]
      exact eu
     try dsimp only [zaT,List.set]
     rw [show (u:Int) % 256=((u % 256:Nat):Int) by omega]
     have hll:(0:Int)<((vN l).length:Int):=by rw [zal];omega
     obtain ⟨x,hx,ex⟩:=ziy (ns:=l) (a:=dr 7 / 3) (k:=l.length) rfl (by omega)
     refine ⟨_,rfl,_,rfl,L,_,_,_,rfl,rfl,ix sp,y7,_,_,rfl,rfl,⟨by decide,by decide +kernel⟩,_,rfl,LL,_,rfl,.inl (SqL.of eL3),_,_,rfl,rfl,hll,LL,_,_,.int (x:Int),rfl,rfl,SqL.of eL3,?_,?_⟩
     ·rw [zal,show (dr 7:Int) / 3=((dr 7 / 3:Nat):Int) by omega];exact ex
     refine ⟨_,rfl,_,rfl,L,_,_,_,rfl,rfl,ix sp,y7,_,_,rfl,rfl,⟨by decide,by decide +kernel⟩,_,rfl,_,_,rfl,rfl,by show 3≤sizeLine;decide,fun q hq=>?_⟩
     obtain ⟨hx1,hx2⟩:=hlx x hx
     refine hN _ _ ⟨some (x,u % 256,dr 7 / 30 &&& (u % 256)),.ref q,_,⟨q,rfl,?_⟩,⟨by omega,by omega,by rw [Nat.and_assoc,Nat.and_self]⟩,fun c a b h=>?_,rfl,snp.trans (zag hq)⟩
     ·rw [zad]
      try dsimp only
      rw [show (dr 7:Int) / 30=((dr 7 / 30:Nat):Int) by omega,band]
     ·obtain ⟨rfl,rfl⟩:=Prod.mk.inj (Option.some.inj h) |>.imp_right (fun h=>(Prod.mk.inj h).1)
      exact ⟨hx1,hx2⟩
    ·exact zau (hN _ _ ⟨none,.non,_,rfl,trivial,(fun _ _ _ h=>nomatch h),rfl,sne⟩)
   ·exact iteF (zau (hN _ _ ⟨none,.non,_,rfl,trivial,(fun _ _ _ h=>nomatch h),rfl,zag he⟩))
  rintro σ X ⟨lo,lv,v11,hlv,hlo,hlc,rfl,sYX⟩
  refine ⟨_,rfl,_,rfl,L,_,_,_,rfl,rfl,ix (sX2.trans sYX),y1,_,rfl,_,_,rfl,rfl,_,rfl,_,rfl,_,rfl,by show 5≤sizeLine;decide,fun t ht=>?_⟩
  have st:=(sX2.trans sYX).trans (zag (o:=.tup [V.int (mask:Int),V.int (Builtin.bitAnd (dr 1:Int) (mask:Int)),V.int (inn:Int),V.int (ch:Int),lv]) ht)
  refine k t ⟨mask,dr 1 &&& mask,inn,ch,lo⟩ _ ((sX2.trans sYX).free ht) ⟨lv,?_,?_⟩ ⟨hmask,XaZ XbR hmask,by rw [Nat.and_assoc,Nat.and_self],by show inn<2 ^ m;omega,him,by show ch<100;omega,hlo⟩ ⟨hch,?_,hlc⟩ st
  ·rw [zad]
   try dsimp only
   rw [band]
  ·exact LatV.same hlv (zag ht)
  ·exact Xam (XaB (by decide) hio) hmo
abbrev zdo:Stmt:=top 79
theorem sc_law_pair:FnScope ["one","other","words","latch","told","chip","first","last"] ["one","other"] (zah zdo):=sck rfl rfl rfl (by decide +kernel)
inductive spPairL (vs:List V)(H:Hp)(Q:VK)(u3_:XK):Prop
 | mk (t u:Addr) (r q:Rw) (z0_:vs=[.ref t,.ref u]) (z1_:RwAt H t r) (z2_:RwAt H u q) (z3_:(zbm r q=false→∀ H',Same H H'→Q .non H')) (z4_:(zbm r q=true→∀ (p:Addr) (H':Hp),Same H H'→Q (.ref p) H'))
structure Grp (X:Hp)(d:Addr)(g:List (Nat×Addr×List V)):Prop where
 e:X d=some (.dK (g.map fun y=>((Sum.inl (y.1:Int):Key),V.ref y.2.1)))
 l:∀ y∈g,X y.2.1=some (.lst y.2.2)
 nd:(g.map (·.1)).Nodup
 na:(g.map (·.2.1)).Nodup
def gOne (A:Addr)(lt:V):Option (Nat×Nat×Nat)→List (Nat×Addr×List V)
 | none=>[]
 | some (c,_,_)=>[(c,A,[lt])]
def gTwo (A B:Addr)(lt lu:V):Option (Nat×Nat×Nat)→Option (Nat×Nat×Nat)→List (Nat×Addr×List V)
 | none,o=>gOne B lu o
 | some (c,_,_),none=>[(c,A,[lt])]
 | some (c,_,_),some (d,_,_)=>if c=d then [(c,A,[lt,lu])] else [(c,A,[lt]),(d,B,[lu])]
def Gi (lt lu:V)(o p:Option (Nat×Nat×Nat))(i:Nat)(g:List (Nat×Addr×List V)):Prop:=match i with
 | 0=>g=[]
 | 1=>∃ A,g=gOne A lt o
 | _=>∃ A B,g=gTwo A B lt lu o p
theorem zja:∀ {g:List (Nat×Addr×List V)} {y:Nat×Addr×List V},(g.map (·.1)).Nodup→y∈g→valV (g.map fun y=>((Sum.inl (y.1:Int):Key),V.ref y.2.1)) (Sum.inl (y.1:Int))=some (V.ref y.2.1)
 | [],_,_,h=>by cases h
 | z :: g,y,hn,h=>by
  rw [XaJ,XbX] at hn
  rw [XaJ]
  by_cases e:z.1=y.1
  ·rcases Xan.mp h with rfl | h
   ·exact zaX rfl
   ·exact absurd (XaF.mpr ⟨y,h,e.symm⟩) hn.1
  ·rw [za7 (fun q=>e (by have:=Sum.inl.inj q;omega))]
   rcases Xan.mp h with rfl | h
   ·exact absurd rfl e
   ·exact zja hn.2 h
theorem zhr {f:Addr}{fd:FuncData}(F:Fun K "_law_pair" "_law_pair" zdo f fd)(T:Blt mg)(GBsorted:mg "sorted" = none):FnOk P w K mg base CX0 1 f fd ["one","other"] spPairL:=by
 refine F.ok sc_law_pair (by walk_at "l") (fun cdv A outer s H vs Q E hr h=>?_)
 ·obtain ⟨t,u,r,q,rfl,⟨lt,et,hlt⟩,⟨lu,eu,hlu⟩,k1,k2⟩:=h
  refine ⟨_,(zab (zax (zat zeD (zaj zaP (zaj zaP (zaj zh5 (pe_x zaw (pv 0) zae) (pe_x zaw (pv 1) zae)) (pe_x zaw (pv 0) zae)) (pe_x zaw (pv 1) zae)) zae (zav _)) (zaf (zap zcz)) zaq)
   (zab (ps_L 2 sc_law_pair.nd zb2)
   (zab (za4 PassesOwn.never rfl (zby (zay (zaa (pe_x zaw (pv 0) zae) (zaa (pe_x zaw (pv 1) zae) zac)))) (pg_L 3 sc_law_pair.nd)
   (zaf (zax (zbT (zeC (pv 3))) (zab (zaz (zdz PySem.F.plainAttrs_dict PySem.F.slot_dict_setdefault PySem.F.type_dict_setdefault zfJ (pv 2) (zaa (pe_x zaw (pv 3) zae) (zaa (zay zac) zac))))
   (zaf (zaz (zdz PySem.F.plainAttrs_list PySem.F.slot_list_append PySem.F.type_list_append zaW (zhh (zeU hr) (pv 2) (pe_x zaw (pv 3) zae) (fun _ _=>rfl)) (zaa (pv 3) zac))))) zaq)))
   (zab (ps_L 4 sc_law_pair.nd (zay zac))
   (zab (za4 PassesOwn.never rfl (zby (zao (zgG rfl) (by rfl) GBsorted zgI (zaa (pv 2) zac))) (pg_L 5 sc_law_pair.nd)
   (zab (ps_L 6 sc_law_pair.nd (pe_x zam (zhh (zeU hr) (pv 2) (pv 5) (fun _ _=>rfl)) zae))
   (zab (ps_L 7 sc_law_pair.nd (pe_x zam (zhh (zeU hr) (pv 2) (pv 5) (fun _ _=>rfl)) (pe_un un_neg zae)))
   (zab (zax (zat zeD (zaj zaP (zaj zaP (zaj zh5 (pe_x zaw (pv 6) zae) (pe_x zaw (pv 7) zae)) (pe_x zaw (pv 6) zae)) (pe_x zaw (pv 7) zae)) zae (zav _)) (zaf (zap zcz)) zaq)
   (zaf (zaz (zdz PySem.F.plainAttrs_list PySem.F.slot_list_append PySem.F.type_list_append zaW (pv 4) (zaa (za0 (zaa (pv 5) (zaa (zaj zjH (pe_x zaw (pv 6) zae) (pe_x zaw (pv 7) zae)) zac))) zac))))))))
   (zaf (zap (za0 (zaa (zaj zjH (pe_x zaw (pv 0) zae) (pe_x zaw (pv 1) zae)) (zaa (zci zdd (by rfl) T.tuple zbL (zaa (pv 4) zac)) zac)))))))))),?rd⟩
  have eA:decide ((0:Int)<Builtin.bitAnd (Builtin.bitAnd (Builtin.bitXor (r.w:Int) (q.w:Int)) (r.m:Int)) (q.m:Int)) = !agr r.m r.w q.m q.w:=by
   rw [bxor,band,band]
   unfold agr
   by_cases h:(r.w ^^^ q.w) &&& r.m &&& q.m=0
   ·rw [Xah h,h];rfl
   ·rw [Xai h];exact Xah (by omega)
  refine ⟨_,rfl,t,_,_,_,rfl,rfl,SqT.of et,rfl,_,rfl,u,_,_,_,rfl,rfl,SqT.of eu,rfl,_,_,rfl,rfl,_,rfl,t,_,_,_,rfl,rfl,SqT.of et,rfl,_,_,rfl,rfl,_,rfl,u,_,_,_,rfl,rfl,SqT.of eu,rfl,_,_,rfl,rfl,_,_,rfl,rfl,_,rfl,?_⟩
  rw [eA]
  cases hA:agr r.m r.w q.m q.w with
  | false=>exact iteT (k1 (by unfold zbm;rw [hA,Bool.false_and]) H (Same.refl _))
  | true =>
   refine iteF (zau ?_)
   try dsimp only
   have hcl:zbm r q=latA r.l q.l:=by unfold zbm;rw [hA,Bool.true_and]
   intro d hd
   have s1:=zag (H:=H) (o:=HO.dK []) hd
   refine ⟨_,rfl,t,_,_,_,rfl,rfl,SqT.of (s1 _ _ et),rfl,_,rfl,u,_,_,_,rfl,rfl,SqT.of (s1 _ _ eu),rfl,by show 2≤sizeLine;decide,fun L hL=>⟨L,rfl,⟨_,SqL.of zad⟩,?_⟩⟩
   have s2:=s1.trans (zag (o:=.lst [lt,lu]) hL)
   refine zcx (K:=K) (xs:=[lt,lu]) (fun i σ X=>∃ (v3:Option V) (g:List (Nat×Addr×List V)),σ=[some (.ref t),some (.ref u),some (.ref d),v3,none,none,none,none]∧X L=some (.lst [lt,lu])∧Same H X∧Grp X d g∧(∀ y∈g,H y.2.1=none∧y.2.1≠L)∧Gi lt lu r.l q.l i g) ⟨none,[],rfl,zad,s2,⟨zag hL _ _ zad,(fun y hy=>by cases hy),Xbp,Xbp⟩,(fun y hy=>by cases hy),rfl⟩ ?_ ?_ ?_
   ·rintro i σ X _ ⟨_,_,_,e,_⟩
    exact SqL.of e
   ·rintro i x σ X hx ⟨v3,g,rfl,eL,sX,G,gN,gi⟩
    obtain ⟨o,ho,hnone,hnew,hold⟩:∃ o,LatV H x o∧(o=none→Gi lt lu r.l q.l (i+1) g)∧(∀ c a b N,o=some (c,a,b)→c ∉ g.map (·.1)→Gi lt lu r.l q.l (i+1) (g ++ [(c,N,[x])]))∧(∀ c a b,o=some (c,a,b)→c∈g.map (·.1)→∃ A,g=[(c,A,[lt])]∧Gi lt lu r.l q.l (i+1) [(c,A,[lt,x])]):=by
     rcases (show i=0∨i=1 by have:=(Xaf.mp hx).1;simp at this;omega) with rfl | rfl
     ·cases hx
      obtain rfl:g=[]:=gi
      refine ⟨r.l,hlt,fun e=>⟨d,by rw [e];rfl⟩,fun c a b N e _=>⟨N,by rw [e];rfl⟩,fun c a b e hc=>by cases hc⟩
     ·cases hx
      obtain ⟨A,rfl⟩:=gi
      refine ⟨q.l,hlu,fun e=>⟨A,A,?_⟩,fun c a b N e hc=>⟨A,N,?_⟩,fun c a b e hc=>?_⟩
      ·rw [e]
       cases r.l with
       | none=>rfl
       | some o=>rfl
      ·rw [e]
       cases hr:r.l with
       | none=>rfl
       | some o =>
        obtain ⟨c',a',b'⟩:=o
        rw [hr] at hc
        have hne:c'≠c:=fun z=>hc (by rw [← z];exact Xad.mpr rfl)
        show _=if c'=c then _ else _
        rw [if_neg hne];rfl
      ·cases hr:r.l with
       | none=>rw [hr] at hc;cases hc
       | some o =>
        obtain ⟨c',a',b'⟩:=o
        rw [hr] at hc
        obtain rfl:c=c':=Xad.mp hc
        refine ⟨A,rfl,A,A,?_⟩
        rw [e]
        show _=if c=c then _ else _
        rw [if_pos rfl]
    have hdg:∀ y∈g,y.2.1≠d:=fun y hy e=>by have:=G.l y hy;rw [e,G.e] at this;cases this
    cases ho':o with
    | none =>
     rw [ho'] at ho
     obtain rfl:x = .non:=ho
     exact ⟨_,rfl,_,rfl,iteF (zau ⟨_,g,rfl,eL,sX,G,gN,hnone ho'⟩)⟩
    | some o1 =>
     obtain ⟨c,a,b⟩:=o1
     rw [ho'] at ho
     obtain ⟨uu,rfl,euu⟩:=ho
     have eu1:=sX _ _ euu
     refine ⟨_,rfl,_,rfl,iteT ?_⟩
     refine ⟨_,rfl,.inr (.inr (.inl ⟨rfl,.inl ⟨_,G.e⟩⟩)),_,rfl,uu,_,_,_,rfl,rfl,SqT.of eu1,rfl,by show 0≤sizeLine;decide,fun N hN=>?_⟩
     have sN:=zag (H:=X) (o:=HO.lst []) hN
     have nNL:L≠N:=fun e=>by rw [e,hN] at eL;cases eL
     have nNd:d≠N:=fun e=>by have:=G.e;rw [e,hN] at this;cases this
     have ndL:L≠d:=fun e=>by have:=G.e;rw [← e,eL] at this;cases this
     have hNn:H N=none:=by cases h:H N with | none=>rfl | some o=>have:=sX _ _ h;rw [hN] at this;cases this
     have hgl:g.length≤1:=by
      rcases (show i=0∨i=1 by have:=(Xaf.mp hx).1;simp at this;omega) with rfl | rfl
      ·obtain rfl:g=[]:=gi
       exact Nat.zero_le _
      ·obtain ⟨A,rfl⟩:=gi
       cases r.l with
       | none=>exact Nat.zero_le _
       | some o=>exact Xae _
     by_cases hc:c∈g.map (·.1)
     ·obtain ⟨A1,rfl,gi'⟩:=hold c a b ho' hc
      have hA1:=gN _ (Xad.mpr rfl)
      have nA1:A1≠d:=hdg _ (Xad.mpr rfl)
      have hv:valV [((Sum.inl (c:Int):Key),V.ref A1)] (Sum.inl (c:Int))=some (V.ref A1):=zaX rfl
      refine ⟨d,_,Sum.inl (c:Int),.ref N,rfl,rfl,sN _ _ G.e,by simp,fun v' hv'=>?_,fun hn=>?_⟩
      ·have eA1:=sN _ _ (G.l _ (Xad.mpr rfl))
       refine ⟨_,rfl,_,rfl,uu,_,_,_,rfl,rfl,SqT.of (sN _ _ eu1),rfl,d,.ref A1,rfl,(by rw [← hv];exact DGet.k (k:=Sum.inl (c:Int)) (sN _ _ G.e)),.inl ⟨rfl,_,SqL.of eA1⟩,_,rfl,A1,_,_,rfl,rfl,eA1,by show 1<sizeLine;decide,?_⟩
       refine ⟨_,[(c,A1,[lt,.ref uu])],rfl,by rw [zai (Ne.symm hA1.2),zai nNL];exact eL,fun b' o' e=>by rw [zai (zak e hA1.1)];exact sN _ _ (sX _ _ e),⟨by rw [zai (Ne.symm nA1),zai nNd];exact G.e,fun y hy=>?_,by simp,by simp⟩,fun y hy=>?_,gi'⟩
       ·obtain rfl:=Xad.mp hy
        exact zad
       ·obtain rfl:=Xad.mp hy
        exact hA1
      ·exact absurd (hv.symm.trans hn) (by simp)
     ·have hv:valV (g.map fun y=>((Sum.inl (y.1:Int):Key),V.ref y.2.1)) (Sum.inl (c:Int))=none:=by
       cases h:valV (g.map fun y=>((Sum.inl (y.1:Int):Key),V.ref y.2.1)) (Sum.inl (c:Int)) with
       | none=>rfl
       | some v =>
        have:=zmm h
        rw [Xbd,XaF] at this
        obtain ⟨y,hy,e⟩:=this
        have e:(y.1:Int)=(c:Int):=Sum.inl.inj e
        exact absurd (XaF.mpr ⟨y,hy,show y.1=c by omega⟩) hc
      have ep:putK (g.map fun y=>((Sum.inl (y.1:Int):Key),V.ref y.2.1)) (Sum.inl (c:Int)) (.ref N)=(g ++ [(c,N,[V.ref uu])]:List (Nat×Addr×List V)).map fun y=>((Sum.inl (y.1:Int):Key),V.ref y.2.1):=by
       unfold putK
       rw [zcs,hv,XaI]
       rfl
      refine ⟨d,_,Sum.inl (c:Int),.ref N,rfl,rfl,sN _ _ G.e,by rw [Xal];omega,fun v' hv'=>absurd (hv.symm.trans hv') (by simp),fun _=>?_⟩
      have hv2:valV ((g ++ [(c,N,[V.ref uu])]:List (Nat×Addr×List V)).map fun y=>((Sum.inl (y.1:Int):Key),V.ref y.2.1)) (Sum.inl (c:Int))=some (.ref N):=by rw [← ep,zhQ,if_pos rfl]
      rw [ep]
      have nud:uu≠d:=fun e=>by have:=G.e;rw [← e,eu1] at this;cases this
      refine ⟨_,rfl,_,rfl,uu,_,_,_,rfl,rfl,SqT.of (by rw [zai nud];exact sN _ _ eu1),rfl,d,.ref N,rfl,(by rw [← hv2];exact DGet.k (k:=Sum.inl (c:Int)) zad),.inl ⟨rfl,_,SqL.of (by rw [zai (Ne.symm nNd)];exact zad)⟩,_,rfl,N,[],_,rfl,rfl,by rw [zai (Ne.symm nNd)];exact zad,by show 0<sizeLine;decide,?_⟩
      have hNg:∀ y∈g,y.2.1≠N:=fun y hy e=>by have:=G.l y hy;rw [e,hN] at this;cases this
      refine ⟨_,g ++ [(c,N,[.ref uu])],rfl,by rw [zai nNL,zai ndL,zai nNL];exact eL,fun b' o' e=>by rw [zai (zak e hNn),zai (zak e hd)];exact sN _ _ (sX _ _ e),⟨by rw [zai nNd];exact zad,fun y hy=>?_,?_,?_⟩,fun y hy=>?_,hnew c a b N ho' hc⟩
      ·rcases XaK.mp hy with hy | hy
       ·rw [zai (hNg y hy),zai (hdg y hy),zai (hNg y hy)];exact G.l y hy
       ·obtain rfl:=Xad.mp hy
        exact zad
      ·rw [XaI,XaX]
       exact ⟨G.nd,by simp,fun z hz z' hz'=>by obtain rfl:=Xad.mp hz';exact fun e=>hc (e ▸ hz)⟩
      ·rw [XaI,XaX]
       refine ⟨G.na,by simp,fun z hz z' hz'=>?_⟩
       obtain rfl:=Xad.mp hz'
       obtain ⟨y,hy,rfl⟩:=XaF.mp hz
       exact hNg y hy
      ·rcases XaK.mp hy with hy | hy
       ·exact gN y hy
       ·obtain rfl:=Xad.mp hy
        exact ⟨hNn,Ne.symm nNL⟩
   ·rintro σ X ⟨v3,g,rfl,eL,sX,G,gN,gi⟩
    obtain ⟨A,B,hgi⟩:=gi
    
    have hgood:∀ y∈g,∃ (u1 u2:Addr) (c1 a1 b1 c2 a2 b2:Nat),y.2.2[0]? = some (V.ref u1)∧atI y.2.2 (-1)=some (V.ref u2)∧H u1=some (.tup [.int (c1:Int),.int (a1:Int),.int (b1:Int)])∧H u2=some (.tup [.int (c2:Int),.int (a2:Int),.int (b2:Int)])∧(zbm r q=true→agr a1 b1 a2 b2=true)∧(zbm r q=false→agr a1 b1 a2 b2=false):=by
     have self:∀ a b:Nat,agr a b a b=true:=fun a b=>by unfold agr;rw [Nat.xor_self];simp
     rw [hgi]
     intro y hy
     cases hr:r.l with
     | none =>
      cases hq:q.l with
      | none=>rw [hr,hq] at hy;cases hy
      | some o =>
       obtain ⟨c,a,b⟩:=o
       rw [hr,hq] at hy
       rw [hq] at hlu
       obtain ⟨u1,rfl,e1⟩:=hlu
       obtain rfl:=Xad.mp hy
       exact ⟨u1,u1,c,a,b,c,a,b,rfl,zdf [] _,e1,e1,fun _=>self a b,fun h=>by rw [hcl,hr,hq] at h;cases h⟩
     | some o =>
      obtain ⟨c,a,b⟩:=o
      rw [hr] at hlt
      obtain ⟨u1,rfl,e1⟩:=hlt
      cases hq:q.l with
      | none =>
       rw [hr,hq] at hy
       obtain rfl:=Xad.mp hy
       exact ⟨u1,u1,c,a,b,c,a,b,rfl,zdf [] _,e1,e1,fun _=>self a b,fun h=>by rw [hcl,hr,hq] at h;cases h⟩
      | some o2 =>
       obtain ⟨d',x,y'⟩:=o2
       rw [hr,hq] at hy
       rw [hq] at hlu
       obtain ⟨u2,rfl,e2⟩:=hlu
       have hlA:zbm r q=if c=d' then agr a b x y' else true:=by rw [hcl,hr,hq];rfl
       by_cases hcd:c=d'
       ·rw [show gTwo A B (V.ref u1) (V.ref u2) (some (c,a,b)) (some (d',x,y'))=[(c,A,[.ref u1,.ref u2])] from if_pos hcd] at hy
        obtain rfl:=Xad.mp hy
        rw [if_pos hcd] at hlA
        exact ⟨u1,u2,c,a,b,d',x,y',rfl,zdf [V.ref u1] _,e1,e2,fun h=>by rw [← hlA];exact h,fun h=>by rw [← hlA];exact h⟩
       ·rw [if_neg hcd] at hlA
        rw [show gTwo A B (V.ref u1) (V.ref u2) (some (c,a,b)) (some (d',x,y'))=[(c,A,[.ref u1]),(d',B,[.ref u2])] from if_neg hcd] at hy
        rcases Xan.mp hy with rfl | hy
        ·exact ⟨u1,u1,c,a,b,c,a,b,rfl,zdf [] _,e1,e1,fun _=>self a b,fun h=>by rw [hlA] at h;cases h⟩
        ·obtain rfl:=Xad.mp hy
         exact ⟨u2,u2,d',x,y',d',x,y',rfl,zdf [] _,e2,e2,fun _=>self x y',fun h=>by rw [hlA] at h;cases h⟩
    have hne:zbm r q=false→g≠[]:=fun h e=>by
     rw [e] at hgi
     rw [hcl] at h
     cases hr:r.l with
     | none=>rw [hr] at h;cases h
     | some o =>
      cases hq:q.l with
      | none=>rw [hr,hq] at h;cases h
      | some o2 =>
       rw [hr,hq] at hgi
       have hgi:([]:List (Nat×Addr×List V))=if o.1=o2.1 then _ else _:=hgi
       split at hgi <;> cases hgi
    have hg2:g.length≤2:=by
     rw [hgi]
     cases r.l with
     | none=>cases q.l with
      | none=>exact Nat.zero_le _
      | some o=>show 1≤2;decide
     | some o=>cases q.l with
      | none=>show 1≤2;decide
      | some o2 =>
       show (if o.1=o2.1 then _ else _:List (Nat×Addr×List V)).length≤2
       split <;> simp
    refine ⟨by show 0≤sizeLine;decide,fun TL hTL=>?_⟩
    have sT:=zag (H:=X) (o:=HO.lst []) hTL
    have nTd:TL≠d:=fun e=>by have:=G.e;rw [← e,hTL] at this;cases this
    have hTn:H TL=none:=sX.free hTL
    refine ⟨_,rfl,d,_,g.map fun y=>(y.1:Int),rfl,sT _ _ G.e,by rw [Xbd,Xbd];rfl,by rw [Xal];omega,fun l ns hl pm _=>⟨l,rfl,⟨_,SqL.of zad⟩,?_⟩⟩
    have sl:=sT.trans (zag (o:=.lst (ns.map V.int)) hl)
    have nlT:TL≠l:=fun e=>by rw [← e,zad] at hl;cases hl
    have hpl:ns.length=g.length:=by rw [pm.length_eq,Xal]
    refine zcx (K:=K) (xs:=ns.map V.int) (fun i σ Y=>∃ (v5 v6 v7:Option V) (ts:List V),σ=[some (.ref t),some (.ref u),some (.ref d),v3,some (.ref TL),v5,v6,v7]∧(zbm r q=true∨i=0)∧Y TL=some (.lst ts)∧ts.length≤i∧∀ a o,a≠TL→upd (upd X TL (.lst [])) l (.lst (ns.map V.int)) a=some o→Y a=some o) ⟨none,none,none,[],rfl,.inr rfl,by rw [zai nlT];exact zad,Xae _,fun a o _ e=>e⟩ ?_ ?_ ?_
    ·rintro i σ Y _ ⟨_,_,_,_,_,_,_,_,fr⟩
     exact SqL.of (fr _ _ (Ne.symm nlT) zad)
    ·rintro i x σ Y hx ⟨v5,v6,v7,ts,rfl,hci,eT,htl,fr⟩
     rw [Xaq] at hx
     obtain ⟨n,hn,rfl⟩:=XaP.mp hx
     obtain ⟨y,hy,rfl⟩:=XaF.mp (pm.mem_iff.mp (Xas hn))
     obtain ⟨u1,u2,c1,a1,b1,c2,a2,b2,g1,g2,g3,g4,g5,g6⟩:=hgood y hy
     have frH:∀ a o,H a=some o→Y a=some o:=fun a o e=>fr a o (zak e hTn) (sl _ _ (sX _ _ e))
     have eD:Y d=some (.dK (g.map fun y=>((Sum.inl (y.1:Int):Key),V.ref y.2.1))):=fr _ _ (Ne.symm nTd) (sl _ _ G.e)
     have eY:Y y.2.1=some (.lst y.2.2):=fr _ _ (fun e=>by have:=G.l y hy;rw [e,hTL] at this;cases this) (sl _ _ (G.l y hy))
     have hv:valV (g.map fun y=>((Sum.inl (y.1:Int):Key),V.ref y.2.1)) (Sum.inl (y.1:Int))=some (V.ref y.2.1):=zja G.nd hy
     have eA2:decide ((0:Int)<Builtin.bitAnd (Builtin.bitAnd (Builtin.bitXor (b1:Int) (b2:Int)) (a1:Int)) (a2:Int)) = !agr a1 b1 a2 b2:=by
      rw [bxor,band,band]
      unfold agr
      by_cases h:(b1 ^^^ b2) &&& a1 &&& a2=0
      ·rw [Xah h,h];rfl
      ·rw [Xai h];exact Xah (by omega)
     refine ⟨_,rfl,_,rfl,d,_,rfl,(by rw [← hv];exact DGet.k (k:=Sum.inl (y.1:Int)) eD),y.2.1,_,_,_,rfl,rfl,SqL.of eY,(zaA (j:=0) g1:atI _ ((0:Nat):Int)=_),?_⟩
     refine ⟨_,rfl,_,rfl,d,_,rfl,(by rw [← hv];exact DGet.k (k:=Sum.inl (y.1:Int)) eD),?_⟩
     refine ⟨1,rfl,y.2.1,_,_,_,rfl,rfl,SqL.of eY,g2,?_⟩
     have h3:=frH _ _ g3
     have h4:=frH _ _ g4
     refine ⟨_,rfl,u1,_,_,_,rfl,rfl,SqT.of h3,rfl,_,rfl,u2,_,_,_,rfl,rfl,SqT.of h4,rfl,_,_,rfl,rfl,_,rfl,u1,_,_,_,rfl,rfl,SqT.of h3,rfl,_,_,rfl,rfl,_,rfl,u2,_,_,_,rfl,rfl,SqT.of h4,rfl,_,_,rfl,rfl,_,_,rfl,rfl,_,rfl,?_⟩
     rw [eA2]
     cases hA2:agr a1 b1 a2 b2 with
     | false =>
      refine iteT (k1 ?_ Y frH)
      cases h:zbm r q with
      | false=>rfl
      | true=>rw [g5 h] at hA2;cases hA2
     | true =>
      have hct:zbm r q=true:=by
       cases h:zbm r q with
       | true=>rfl
       | false=>rw [g6 h] at hA2;cases hA2
      have hil:i<ns.length:=(Xaf.mp hn).1
      refine iteF (zau ?_)
      try dsimp only
      refine ⟨_,rfl,.inl ⟨rfl,_,SqL.of eT⟩,_,rfl,_,rfl,u1,_,_,_,rfl,rfl,SqT.of h3,rfl,_,rfl,u2,_,_,_,rfl,rfl,SqT.of h4,rfl,_,_,rfl,rfl,by show 2≤sizeLine;decide,fun tp htp=>?_⟩
      have sp:=zag (H:=Y) (o:=HO.tup [.int (y.1:Int),.int (Builtin.bitOr (b1:Int) (b2:Int))]) htp
      refine ⟨TL,ts,_,rfl,rfl,sp _ _ eT,by rw [sizeLine_eq];omega,?_⟩
      exact ⟨_,_,_,ts ++ [.ref tp],rfl,.inl hct,zad,by rw [Xay];simp;omega,fun a o ha e=>by rw [zai ha];exact sp _ _ (fr a o ha e)⟩
    ·rintro σ Y ⟨v5,v6,v7,ts,rfl,hci,eT,htl,fr⟩
     have frH:∀ a o,H a=some o→Y a=some o:=fun a o e=>fr a o (zak e hTn) (sl _ _ (sX _ _ e))
     have hct:zbm r q=true:=by
      cases h:zbm r q with
      | true=>rfl
      | false =>
       rcases hci with e | e
       ·rw [h] at e;cases e
       ·rw [Xal,hpl] at e
        exact absurd (List.length_eq_zero_iff.mp e) (hne h)
     refine ⟨_,rfl,t,_,_,_,rfl,rfl,SqT.of (frH _ _ et),rfl,_,rfl,u,_,_,_,rfl,rfl,SqT.of (frH _ _ eu),rfl,_,_,rfl,rfl,_,rfl,TL,ts,rfl,.inl ⟨SqL.of eT,fun tp htp=>⟨by show 2≤sizeLine;decide,fun p hp=>?_⟩⟩⟩
     exact k2 hct p _ ((show Same H Y from frH).trans ((zag htp).trans (zag hp)))
abbrev zet:Stmt:=top 80
theorem sc_law_map:FnScope ["row","bits","models","rows","k","one"] ["row","bits","models"] (zah zet):=sck rfl rfl rfl (by decide +kernel)
theorem zik (m w n v:Nat):agr m w n v=agr n v m w:=by unfold agr;rw [Nat.xor_comm,Nat.and_assoc,Nat.and_comm m n,← Nat.and_assoc]
theorem zi1 (r q:Rw):zbm r q=zbm q r:=by
 unfold zbm
 rw [zik]
 congr 1
 cases r.l with
 | none=>cases q.l <;> rfl
 | some o =>
  cases q.l with
  | none=>rfl
  | some o2 =>
   show (if o.1=o2.1 then agr o.2.1 o.2.2 o2.2.1 o2.2.2 else true)=if o2.1=o.1 then agr o2.2.1 o2.2.2 o.2.1 o.2.2 else true
   by_cases e:o.1=o2.1
   ·rw [if_pos e,if_pos e.symm,zik]
   ·rw [if_neg e,if_neg (Ne.symm e)]
theorem zkm {row:List Nat}{a n:Nat}(h:a+n≤row.length):cutV (vN row) (some (a:Int)) (some ((a+n:Nat):Int))=vN ((row.drop a).take n):=by
 unfold cutV
 rw [HT.sIx_nat,HT.sIx_nat,zal,Xb0 (by omega),Xb0 (by omega),show a+n - a=n by omega]
 unfold vN
 rw [List.map_take,List.map_drop]
inductive spMap34 (cs:Nat→Addr)(vs:List V)(H:Hp)(Q:VK)(u3_:XK):Prop
 | mk (L ML:Addr) (row:List Nat) (c m:Nat) (cl:List Cm) (z0_:vs=[.ref L,.int (m:Int),.ref ML]) (z1_:H L=some (.lst (vN row))) (z2_:row.length=8 * c) (z3_:c≤6) (z4_:(∀ v∈row,v<2 ^ 31)) (z5_:1≤m) (z6_:m≤16) (z7_:H ML=some (.lst (cl.map fun c=>.ref c.m))) (z8_:1≤cl.length) (z9_:cl.length≤9) (z10_:CMs cs H cl) (z11_:∀ (R:Addr) (ws:List (Addr×Rw)) (H':Hp),H R=none→RwsFor (dtC cl) m H' R ws→ws.length≤6→Same H H'→Q (.ref R) H')
theorem ziL {f:Addr}{cs:Nat→Addr}{fd:FuncData}(F:Fun K "_law_map" "_law_map" zet f fd)(T:Blt mg)(G_law_row:Cal P w K mg base 3 "_law_row" ["r","bits","models"] (spRow34 cs))(G_law_pair:Cal P w K mg base 1 "_law_pair" ["one","other"] spPairL):FnOk P w K mg base CX0 4 f fd ["row","bits","models"] (spMap34 cs):=by
 refine F.ok sc_law_map (by walk_at "l") (fun cdv A outer s H vs Q E hr h=>?_)
 ·obtain ⟨L,ML,row,c,m,cl,rfl,eL,hl,c6,hw,m1,m2,eM,c1,c9,hC,k⟩:=h
  refine' ⟨_,(zab (ps_L 3 sc_law_map.nd (zay zac))
   (zab (za4 PassesOwn.never rfl (zgc rfl T.range (zaa zae (zaa (zaj zbC (zao zar (by rfl) T.len PySem.boot_len (zaa (pv 0) zac)) zae) (zaa zae zac)))) (pg_L 4 sc_law_map.nd)
   (zab (zju (i:=5) sc_law_map.nd rfl (Or.inr rfl) (pe_c G_law_row (zaa (zbg zdg (pv 0) (za9 (pv 4)) (za9 (zaj zaS (pv 4) zae))) (zaa (pv 1) (zaa (pv 2) zac)))))
   (zaf (zax (zat (zmL (Nat.lt_of_succ_lt (zeU hr)) (K:=K) rfl) ?c1 (zay zac) (zav _)) (zaf (zaz (zdz PySem.F.plainAttrs_list PySem.F.slot_list_append PySem.F.type_list_append zaW (pv 3) (zaa (pv 5) zac)))) zaq))))
   (zaf (zap (zci zdd (by rfl) T.tuple zbL (zaa (pv 3) zac)))))),?rd⟩
  (case c1=>exact (zb3 (Nc:=["other","one"]) [none,some 5] rfl (zaK (by rfl)) (zby (pv 3)) (fun _ _ _ _ _=>(pg_L 0 (show (["other","one"]:List Str).Nodup by decide +kernel))) (fun _ _ _ _ _=>(zeA (zbT (zeC (pe_c G_law_pair (zaa (pv 1) (zaa (pv 0) zac))))))) (fun _ _ _ _ _=>(pv 0))))
  refine ⟨by show 0≤sizeLine;decide,fun RL hRL=>?_⟩
  have s1:=zag (o:=.lst []) hRL
  obtain ⟨r1,r2,r3⟩:Builtin.Range.small 0 (((vN row).length:Int) - 7) 8=true∧Builtin.divisionGoesByPylong ((((vN row).length:Int) - 7) - 0) 8=false∧Builtin.Range.rangeSize 0 (((vN row).length:Int) - 7) 8=(c:Int):=by
   by_cases h0:c=0
   ·rw [zal,hl,h0];exact ⟨by decide,by decide,by decide⟩
   ·rw [zal,hl,show ((8 * c:Nat):Int) - 7=((8 * c - 7:Nat):Int) by omega]
    exact zhX (j:=8 * c - 7) (st:=8) (n:=c) (by omega) (by decide) (by decide) (by omega)
  refine ⟨_,rfl,L,_,rfl,.inl (SqL.of (s1 _ _ eL)),_,_,rfl,rfl,0,_,8,c,rfl,by decide,r1,r2,r3,?_⟩
  refine zfi (n:=c) (fun i σ X=>∃ (v:Option V×Option V) (ws:List (Addr×Rw)),σ=[some (.ref L),some (.int (m:Int)),some (.ref ML),some (.ref RL),v.1,v.2]∧X RL=some (.lst (refs ws))∧RwsAt2 m X ws∧(∀ z∈ws,Fit (dtC cl) z.2)∧ws.Pairwise (fun a b=>NC a.2 b.2)∧ws.length≤i∧Same H X) ⟨(_,_),[],rfl,zad,(fun _ h=>nomatch h),(fun _ h=>nomatch h),List.Pairwise.nil,Xae _,s1⟩ ?_ ?_
  ·rintro i σ X hi ⟨v,ws,rfl,hh⟩
   have eRL:=hh.1
   have hat2:=hh.2.1
   have hfit:=hh.2.2.1
   have hnc:=hh.2.2.2.1
   have hlen:=hh.2.2.2.2.1
   have sX:=hh.2.2.2.2.2
   rw [show (0:Int)+(i:Int) * 8=((8 * i:Nat):Int) by omega]
   have e8:((8 * i:Nat):Int)+8=((8 * i+8:Nat):Int):=by omega
   refine ⟨_,rfl,_,rfl,((8 * i:Nat):Int),rfl,_,rfl,_,_,rfl,rfl,((8 * i+8:Nat):Int),congrArg V.int e8,L,_,rfl,SqL.of (sX _ _ eL),fun g hg=>?_⟩
   rw [zkm (by omega)]
   have sg:=zag (o:=.lst (vN ((row.drop (8 * i)).take 8))) hg
   refine ⟨_,rfl,_,rfl,g,ML,_,m,cl,rfl,zad,by rw [XaM,XaV];omega,(fun v hv=>hw v (Xbx (List.mem_of_mem_take hv))),m1,m2,(sX.trans sg) _ _ eM,c1,c9,hC.same (sX.trans sg),fun ta rN Z hta raN okN fitN s2=>?_⟩
   have sZ:=sg.trans s2
   try dsimp only [zaT,List.set]
   have eRZ:=sZ _ _ eRL
   refine ⟨_,rfl,RL,rfl,⟨_,SqL.of eRZ⟩,?_⟩
   refine zdc (K:=K) (xs:=refs ws) (fun j ys σ U=>∃ v0,σ=[v0,some (.ref ta)]∧ys.length≤j∧(ys=[]→∀ (k:Nat) (z:Addr×Rw),k<j→ws[k]? = some z→zbm rN z.2=false)∧Same Z U) (by rw [zas,sizeLine_eq];omega) ⟨none,rfl,Xae _,(fun _ k z hk=>absurd hk (XbF _)),Same.refl _⟩ ?_ ?_ ?_
   ·rintro j ys σ U _ ⟨_,_,hl,_,sU⟩
    exact ⟨SqL.of (sU _ _ eRZ),hl⟩
   ·rintro j x ys σ U hx ⟨v0,rfl,hl,hcl,sU⟩
    obtain ⟨z,hz,rfl⟩:=zbf hx
    have raz:=((hat2 z (Xas hz)).1.same sZ).same sU
    refine ⟨_,rfl,_,rfl,ta,z.1,rN,z.2,rfl,raN.same sU,raz,fun hc U1 s1=>⟨_,rfl,iteF ?_⟩,fun hc p U1 s1=>⟨_,rfl,iteT ⟨_,rfl,?_⟩⟩⟩
    ·refine ⟨_,rfl,by omega,fun he k z' hk hz'=>?_,sU.trans s1⟩
     rcases (show k<j∨k=j by omega) with e | e
     ·exact hcl he k z' e hz'
     ·rw [e,hz] at hz';cases hz';exact hc
    ·exact ⟨_,rfl,by rw [Xay];simp;omega,fun he=>absurd he (by simp),sU.trans s1⟩
   ·rintro ys σ U ⟨v0,rfl,hl,hcl,sU⟩ Dc hDc
    rw [zas] at hcl
    refine ⟨by show 0≤sizeLine;decide,fun e0 he0=>?_⟩
    have y1:=(sZ.trans sU).trans ((zag (o:=.lst ys) hDc).trans (zag (o:=.lst []) he0))
    refine ⟨Dc,e0,ys,rfl,rfl,SqL.of (zag he0 _ _ zad),SqL.of zad,_,rfl,ite2 (fun h1=>?_) (fun h1=>zau ?_)⟩
    ·have hys:ys=[]:=List.isEmpty_iff.mp h1
     have eR2:=y1 _ _ eRL
     refine ⟨_,rfl,.inl ⟨rfl,_,SqL.of eR2⟩,_,rfl,RL,_,_,rfl,rfl,eR2,by rw [zas,sizeLine_eq];omega,?_⟩
     refine ⟨(_,_),ws ++ [(ta,rN)],rfl,?_,fun z hz=>?_,fun z hz=>?_,?_,by rw [Xay];simp;omega,fun a q' e=>by rw [zai (zak e hRL)];exact y1 _ _ (sX _ _ e)⟩
     ·rw [zad];unfold refs;rw [XaI];rfl
     ·rcases XaK.mp hz with hz | hz
      ·exact ⟨((hat2 z hz).1.same y1).updL eR2,(hat2 z hz).2⟩
      ·obtain rfl:=Xad.mp hz
       exact ⟨((raN.same sU).same ((zag hDc).trans (zag he0))).updL eR2,okN⟩
     ·rcases XaK.mp hz with hz | hz
      ·exact hfit z hz
      ·obtain rfl:=Xad.mp hz
       exact fitN
     ·rw [List.pairwise_append]
      refine ⟨hnc,List.pairwise_singleton _ _,fun a ha b hb=>?_⟩
      obtain rfl:=Xad.mp hb
      obtain ⟨k',hk'⟩:=XbG.mp ha
      have hcf:=hcl hys k' a (Xaf.mp hk').1 hk'
      exact ⟨by rw [zi1];exact hcf,hcf⟩
    ·exact ⟨(_,_),ws,rfl,y1 _ _ eRL,hat2.same y1,hfit,hnc,by omega,sX.trans y1⟩
  ·rintro σ X ⟨v,ws,rfl,eRL,hat2,hfit,hnc,hlen,sX⟩
   refine ⟨_,rfl,RL,refs ws,rfl,.inl ⟨SqL.of eRL,fun R hR=>?_⟩⟩
   have sR:=zag (H:=X) (o:=HO.tup (refs ws)) hR
   exact k R ws _ (sX.free hR) ⟨zad,hat2.same sR,hfit,hnc,by omega⟩ (by omega) (sX.trans sR)
abbrev zcL:Stmt:=top 82
theorem sc_law_board:FnScope ["row","bits","chips","models","rows"] ["row"] (zah zcL):=sck rfl rfl rfl (by decide +kernel)
structure Bo34 (cs:Nat→Addr)(H:Hp)(R CL ML:Addr)(m:Nat)(cl:List Cm)(ws:List (Addr×Rw))(X:Hp):Prop where
 m1:1≤m
 m2:m≤16
 rf:RwsFor (dtC cl) m X R ws
 l6:ws.length≤6
 eC:X CL=some (.lst (cl.map fun c=>.ref c.x))
 eM:X ML=some (.lst (cl.map fun c=>.ref c.m))
 nCM:CL≠ML
 c9:cl.length≤9
 C:CMs cs X cl
 fr:∀ c∈cl,H c.p=none∧H c.r=none∧c.p≠CL∧c.p≠ML∧c.r≠CL∧c.r≠ML
 s:Same H X
theorem Bo34.same {cs:Nat→Addr}{H X Y:Hp}{R CL ML:Addr}{m:Nat}{cl:List Cm}{ws:List (Addr×Rw)}(h:Bo34 cs H R CL ML m cl ws X)(s:Same X Y):Bo34 cs H R CL ML m cl ws Y:=⟨h.m1,h.m2,h.rf.same s,h.l6,s _ _ h.eC,s _ _ h.eM,h.nCM,h.c9,h.C.same s,h.fr,h.s.trans s⟩
inductive spBoard34 (cs:Nat→Addr)(vs:List V)(H:Hp)(Q:VK)(u3_:XK):Prop
 | mk (L:Addr) (row:List Nat) (z0_:vs=[.ref L]) (z1_:H L=some (.lst (vN row))) (z2_:row.length=80) (z3_:(∀ v∈row,v<2 ^ 31)) (z4_:∀ (t R CL ML:Addr) (m:Nat) (cl:List Cm) (ws:List (Addr×Rw)) (H':Hp),H' t=some (.tup [.int (m:Int),.ref R,.ref CL,.ref ML])→(row.getD 0 0 % 4=3→m≤9)→Bo34 cs H R CL ML m cl ws H'→Q (.ref t) H')
theorem zgn {f:Addr}{cs:Nat→Addr}{fd:FuncData}(F:Fun K "_law_board" "_law_board" zcL f fd)(T:Blt mg)(G_law_chips:Cal P w K mg base 6 "_law_chips" ["row"] (spChips34 cs))(G_law_map:Cal P w K mg base 4 "_law_map" ["row","bits","models"] (spMap34 cs)):FnOk P w K mg base CX0 7 f fd ["row"] (spBoard34 cs):=by
 refine F.ok sc_law_board (by walk_at "l") (fun cdv A outer s H vs Q E hr h=>?_)
 ·obtain ⟨L,row,rfl,eL,hl,hw,k⟩:=h
  refine ⟨_,(zab (ps_L 1 sc_law_board.nd (pe_x zam (zay (zaa zae (zaa (zaj zaS zae (zaj zaD (zaj zaE (pe_x zam (pv 0) zae) zae) zae)) (zaa zae (zaa (zaj zaS zae (zaj zaD (zaj zaE (pe_x zam (pv 0) zae) zae) zae)) zac))))) (zaj zaD (pe_x zam (pv 0) zae) zae)))
   (zab (zax (zat zbk (zaj zaD (zaj zaE (pe_x zam (pv 0) zae) zae) zae) zae (zav _)) (zaf (zap (za0 (zaa (pv 1) (zaa (za0 zac) (zaa (zay zac) (zaa (zay zac) zac))))))) zaq)
   (zab (zbj (pe_c G_law_chips (zaa (zbg zdg (pv 0) (za9 zae) (za9 (zaj zaS zae (zaj zck zae (zaj zaS zae (zaj zaD (pe_x zam (pv 0) zae) zae)))))) zac)) (zba rfl (zan (pg_L 2 sc_law_board.nd) (zan (pg_L 3 sc_law_board.nd) zaM))))
   (zab (ps_L 4 sc_law_board.nd (pe_c G_law_map (zaa (zbg zdg (pv 0) (za9 zae) (za9 (zaj zaS zae (zaj zck zae (zaj zaD (zaj zaE (pe_x zam (pv 0) zae) zae) zae))))) (zaa (pv 1) (zaa (pv 3) zac)))))
   (zaf (zap (za0 (zaa (pv 1) (zaa (pv 4) (zaa (pv 2) (zaa (pv 3) zac))))))))))),?rd⟩
  obtain ⟨dr,hdr⟩:=drw (row:=row) 80 (by omega) hw
  have y0:atI (vN row) 0=some (.int (dr 0:Int)):=(hdr 0 (by decide)).1
  have y1:atI (vN row) 1=some (.int (dr 1:Int)):=(hdr 1 (by decide)).1
  
  refine zaZ (fun σ X=>∃ m:Nat,1≤m∧m≤16∧(row.getD 0 0 % 4=3→m≤9)∧σ=[some (.ref L),some (.int (m:Int)),none,none,none]∧Same H X) (fun N hN=>?_) ?_
  ·have i0:SqL K H L (vN row):=SqL.of eL
   refine ⟨_,rfl,L,_,_,_,rfl,rfl,i0,y0,_,_,rfl,rfl,⟨by decide,by decide +kernel⟩,_,_,rfl,rfl,(show (0:Int)<16 by decide),_,_,rfl,rfl,_,rfl,L,_,_,_,rfl,rfl,i0,y0,_,_,rfl,rfl,⟨by decide,by decide +kernel⟩,_,_,rfl,rfl,(show (0:Int)<6 by decide),_,_,rfl,rfl,by show 4≤sizeLine;decide,fun p hp=>?_⟩
   have sp:=zag (o:=.lst [V.int 16,V.int ((1:Int)+(dr 0:Int) / 4 % 16),V.int 8,V.int ((4:Int)+(dr 0:Int) / 4 % 6)]) hp
   obtain ⟨u,hu,eu⟩:=ziy (ns:=[16,1+dr 0 / 4 % 16,8,4+dr 0 / 4 % 6]) (a:=dr 0) (k:=4) rfl (by decide)
   refine ⟨_,rfl,L,_,_,_,rfl,rfl,SqL.of (sp _ _ eL),y0,_,_,rfl,rfl,(show (0:Int)<4 by decide),p,_,_,.int (u:Int),rfl,rfl,SqL.of zad,?_,?_⟩
   ·show atI [V.int 16,V.int ((1:Int)+(dr 0:Int) / 4 % 16),V.int 8,V.int ((4:Int)+(dr 0:Int) / 4 % 6)] ((dr 0:Int) % 4)=_
    rw [show (1:Int)+(dr 0:Int) / 4 % 16=((1+dr 0 / 4 % 16:Nat):Int) by omega,show (4:Int)+(dr 0:Int) / 4 % 6=((4+dr 0 / 4 % 6:Nat):Int) by omega]
    exact eu
   have hu2:1≤u∧u≤16:=by
    simp only [Xan,Xbh,or_false] at hu
    omega
   refine hN _ _ ⟨u,hu2.1,hu2.2,fun h3=>?_,rfl,sp⟩
   have e0:dr 0=row.getD 0 0:=by
    have h1:=(hdr 0 (by decide)).1
    rw [show atI (vN row) ((0:Nat):Int)=some (.int (row.getD 0 0:Int)) from zaA (by unfold vN;rw [Xaq,Xaw (show 0<row.length by omega),Xbn,Xaw (show 0<row.length by omega)];rfl)] at h1
    exact (Int.ofNat.inj (V.int.inj (Option.some.inj h1))).symm
   rw [← e0] at h3
   rw [show (dr 0:Int) % (4:Nat)=((3:Nat):Int) by omega] at eu
   have e:some (V.int ((4+dr 0 / 4 % 6:Nat):Int))=some (.int (u:Int)):=eu
   have:=Int.ofNat.inj (V.int.inj (Option.some.inj e))
   omega
  rintro σ X ⟨m,m1,m2,m9,rfl,sX⟩
  
  refine zaZ (fun σ Y=>σ=[some (.ref L),some (.int (m:Int)),none,none,none]∧Y=X) (fun N hN=>?_) ?_
  ·refine ⟨_,rfl,L,_,_,_,rfl,rfl,SqL.of (sX _ _ eL),y1,_,_,rfl,rfl,⟨by decide,by decide +kernel⟩,_,_,rfl,rfl,(show (0:Int)<12 by decide),rfl,_,rfl,ite2 (fun h1=>?_) (fun h1=>zau (hN _ _ ⟨rfl,rfl⟩))⟩
   refine ⟨_,rfl,by show 0≤sizeLine;decide,fun R hR=>⟨by show 0≤sizeLine;decide,fun CL hCL=>⟨by show 0≤sizeLine;decide,fun ML hML=>⟨by show 4≤sizeLine;decide,fun t ht=>?_⟩⟩⟩⟩
   have q1:=zag (o:=.tup []) hR
   have q2:=zag (o:=.lst []) hCL
   have q3:=zag (o:=.lst []) hML
   have q4:=zag (o:=.tup [.int (m:Int),.ref R,.ref CL,.ref ML]) ht
   have nCM:CL≠ML:=fun z=>by rw [← z,zad] at hML;cases hML
   exact k t R CL ML m [] [] _ zad m9 ⟨m1,m2,⟨q4 _ _ (q3 _ _ (q2 _ _ zad)),(fun _ h=>nomatch h),(fun _ h=>nomatch h),List.Pairwise.nil,by decide⟩,by decide,q4 _ _ (q3 _ _ zad),q4 _ _ zad,nCM,by decide,⟨(fun _ h=>nomatch h),Xbp⟩,(fun _ h=>nomatch h),sX.trans (q1.trans (q2.trans (q3.trans q4)))⟩
  rintro σ Y ⟨rfl,rfl⟩
  have c1:dr 1 % 9<9:=Xbm _ (by decide)
  have c2:dr 1 / 9 % 7<7:=Xbm _ (by decide)
  have e1:(2:Int)+2 * (1+(dr 1:Int) % 9)=((2+2 * (1+dr 1 % 9):Nat):Int):=by omega
  have e2:(20:Int)+8 * ((dr 1:Int) / 9 % 7)=((20+8 * (dr 1 / 9 % 7):Nat):Int):=by omega
  refine ⟨_,rfl,(2:Nat),rfl,_,rfl,L,_,_,_,rfl,rfl,SqL.of (sX _ _ eL),y1,_,_,rfl,rfl,(show (0:Int)<9 by decide),_,_,rfl,rfl,_,_,rfl,rfl,?_,_,_,rfl,rfl,((2+2 * (1+dr 1 % 9):Nat):Int),congrArg V.int e1,L,_,rfl,SqL.of (sX _ _ eL),fun g hg=>?_⟩
  ·exact zc5 (by decide) (by omega)
  rw [zkm (by omega)]
  have sg:=zag (o:=.lst (vN ((row.drop 2).take (2 * (1+dr 1 % 9))))) hg
  refine ⟨g,_,1+dr 1 % 9,rfl,zad,by rw [XaM,XaV];omega,by omega,by omega,(fun v hv=>hw v (Xbx (List.mem_of_mem_take hv))),fun t CL ML cl Z ht hCL hML nCM et eC eM hlen hC hfr s2=>zid et ?_⟩
  try dsimp only [zaT,List.set]
  have sZ:=sX.trans (sg.trans s2)
  refine ⟨_,rfl,(20:Nat),rfl,_,rfl,L,_,_,_,rfl,rfl,SqL.of (sZ _ _ eL),y1,_,_,rfl,rfl,⟨by decide,by decide +kernel⟩,_,_,rfl,rfl,(show (0:Int)<7 by decide),_,_,rfl,rfl,?_,_,_,rfl,rfl,((20+8 * (dr 1 / 9 % 7):Nat):Int),congrArg V.int e2,L,_,rfl,SqL.of (sZ _ _ eL),fun g2 hg2=>?_⟩
  ·exact zc5 (by decide) (by omega)
  rw [zkm (by omega)]
  have sg2:=zag (o:=.lst (vN ((row.drop 20).take (8 * (dr 1 / 9 % 7))))) hg2
  refine ⟨_,rfl,_,rfl,g2,ML,_,dr 1 / 9 % 7,m,cl,rfl,zad,by rw [XaM,XaV];omega,by omega,(fun v hv=>hw v (Xbx (List.mem_of_mem_take hv))),m1,m2,sg2 _ _ eM,by omega,by omega,hC.same sg2,fun R ws W hR hrf l6 s3=>?_⟩
  refine ⟨_,rfl,_,rfl,_,rfl,_,rfl,by show 4≤sizeLine;decide,fun t2 ht2=>?_⟩
  have sW:=sg2.trans s3
  have st:=zag (o:=.tup [.int (m:Int),.ref R,.ref CL,.ref ML]) ht2
  have sf:=sX.trans sg
  refine k t2 R CL ML m cl ws _ zad m9 (Bo34.same ⟨m1,m2,hrf,l6,sW _ _ eC,sW _ _ eM,nCM,by omega,hC.same sW,fun c hc=>?_,sZ.trans sW⟩ st)
  obtain ⟨f1,f2,f3⟩:=hfr c hc
  exact ⟨sf.free f1,sf.free f2,f3⟩
abbrev zbO:Stmt:=top 70
theorem sc_law_gathered:FnScope ["mask","number","cell","place","bit"] ["mask","number"] (zah zbO):=sck rfl rfl rfl (by decide +kernel)
theorem zeH {f:Addr}{fd:FuncData}(F:Fun K "_law_gathered" "_law_gathered" zbO f fd)(T:Blt mg)(G_law_ones:Cal P w K mg base 1 "_law_ones" ["mask"] spOnesL):FnOk P w K mg base CX0 2 f fd ["mask","number"] (spGL):=by
 refine F.ok sc_law_gathered (by walk_at "l") (fun cdv A outer s H vs Q E hr h=>?_)
 ·obtain ⟨m,n,rfl,hm,k⟩:=h
  refine ⟨_,(zab (ps_L 2 sc_law_gathered.nd zae)
   (zab (ps_L 3 sc_law_gathered.nd zae)
   (zab (za4 PassesOwn.never rfl (zby (pe_c G_law_ones (zaa (pv 0) zac))) (pg_L 4 sc_law_gathered.nd)
   (zab (zax (zat zeD (zaj zaP (pv 1) (pv 4)) zae (zav _)) (zaf (zez (i:=2) sc_law_gathered.nd rfl (Or.inl rfl) (pv 3) zdC)) zaq)
   (zaf (zez (i:=3) sc_law_gathered.nd rfl (Or.inl rfl) (pv 3) zdC))))
   (zaf (zap (pv 2)))))),?rd⟩
  refine ⟨_,rfl,m,rfl,hm,fun p H1 hp hL s1=>⟨p,rfl,⟨_,SqL.of hL⟩,?_⟩⟩
  refine zcx (K:=K) (xs:=vN (sgl m)) (fun i σ X=>∃ (v4:Option V) (c:Nat),σ=[some (.int (m:Int)),some (.int (n:Int)),some (.int (c:Int)),some (.int ((2 ^ i:Nat):Int)),v4]∧c+gsm i ((sgl m).drop i) n=gath m n∧X=H1) ⟨none,0,rfl,by simp [zj8],rfl⟩ ?_ ?_ ?_
  ·rintro i σ X _ ⟨_,_,_,_,rfl⟩
   exact SqL.of hL
  ·rintro i x σ X hx ⟨v4,c,rfl,hc,rfl⟩
   obtain ⟨b,hb,rfl⟩:=zcX hx
   have e1:Builtin.bitAnd (n:Int) (b:Int)=((n &&& b:Nat):Int):=band n b
   have e2:((2 ^ i:Nat):Int)+((2 ^ i:Nat):Int)=((2 ^ (i+1):Nat):Int):=by rw [XaE];omega
   rw [zib n hb] at hc
   refine ⟨_,rfl,_,rfl,_,_,rfl,rfl,_,_,rfl,rfl,_,rfl,ite2 (fun h2=>?_) (fun h2=>zau ?_)⟩
   ·have h2:¬ n &&& b=0:=fun z=>by
     have h2:=XaD h2
     rw [e1,z] at h2
     exact absurd h2 (by decide)
    rw [if_neg h2] at hc
    refine ⟨_,rfl,_,rfl,_,_,rfl,rfl,_,rfl,_,rfl,_,_,rfl,rfl,some (.int (b:Int)),c+2 ^ i,?_,by omega,rfl⟩
    rw [← e2,show ((c+2 ^ i:Nat):Int)=(c:Int)+((2 ^ i:Nat):Int) by omega];rfl
   ·have h2:n &&& b=0:=by
     by_cases z:n &&& b=0
     ·exact z
     ·exact absurd (Xah (show (0:Int)<Builtin.bitAnd (n:Int) (b:Int) by rw [e1];omega)) h2
    rw [if_pos h2] at hc
    try dsimp only
    refine ⟨_,rfl,_,rfl,_,_,rfl,rfl,some (.int (b:Int)),c,?_,by omega,rfl⟩
    rw [← e2];rfl
  ·rintro σ X ⟨v4,c,rfl,hc,rfl⟩
   rw [zal,List.drop_length] at hc
   have hc:c=gath m n:=by simpa [gsm] using hc
   rw [← hc] at k
   exact ⟨_,rfl,k X s1⟩
abbrev zer:Stmt:=top 81
theorem sc_law_who:FnScope ["rows","models","address","k","mask","want","inner","chip","latch"] ["rows","models","address"] (zah zer):=sck rfl rfl rfl (by decide +kernel)
inductive spWhoL (vs:List V)(H:Hp)(Q:VK)(u3_:XK):Prop
 | mk (R L:Addr) (D:Dt) (md rw:Nat→Addr) (us:Nat→List Nat) (ws:List (Addr×Rw)) (m x:Nat) (z0_:vs=[.ref R,.ref L,.int (x:Int)]) (z1_:RwsFor D m H R ws) (z2_:m≤16) (z3_:H L=some (.lst (mdL D md))) (z4_:Mod D md rw H us) (z5_:(whoM ws us x=none→∀ H',Same H H'→Q .non H')) (z6_:∀ (i:Nat) (z:Addr×Rw),whoM ws us x=some i→ws[i]? = some z→∀ (t:Addr) (H':Hp),H t=none→H' t=some (.tup [.int (i:Int),.int (gath z.2.i x:Int)])→Same H H'→Q (.ref t) H')
theorem ziJ {f:Addr}{fd:FuncData}(F:Fun K "_law_who" "_law_who" zer f fd)(T:Blt mg)(G_law_gathered:Cal P w K mg base 2 "_law_gathered" ["mask","number"] spGL):FnOk P w K mg base CX0 3 f fd ["rows","models","address"] spWhoL:=by
 refine F.ok sc_law_who (by walk_at "l") (fun cdv A outer s H vs Q E hr h=>?_)
 ·obtain ⟨R,L,D,md,rw_,us,ws,m,x,rfl,hR,hm,eL,M,k1,k2⟩:=h
  refine ⟨_,(zab (za4 PassesOwn.never rfl (zaU rfl T.range (zaa (zao zar (by rfl) T.len PySem.boot_len (zaa (pv 0) zac)) zac)) (pg_L 3 sc_law_who.nd)
   (zab (zbj (pe_x zaw (pv 0) (pv 3)) (zba rfl (zan (pg_L 4 sc_law_who.nd) (zan (pg_L 5 sc_law_who.nd) (zan (pg_L 6 sc_law_who.nd) (zan (pg_L 7 sc_law_who.nd) (zan (pg_L 8 sc_law_who.nd) zaM)))))))
   (zaf (zax (PW.pt (zf9 (zat zbk (zaj zaP (pv 2) (pv 4)) (pv 5) (zav _)) (zex (PW.pt (zb9 (zbT (zcj (pv 8))) (zbx (zat zbk (zaj zaP (pe_x zam (pe_x zam (pe_x zam (pv 1) (pe_x zaw (pv 8) zae)) zae) zae) (pe_x zaw (pv 8) zae)) (pe_x zaw (pv 8) zae) (zav _)))))))) (zaf (zap (za0 (zaa (pv 3) (zaa (pe_c G_law_gathered (zaa (pv 6) (zaa (pv 2) zac))) zac))))) zaq))))
   (zaf (zap zcz))),?rd⟩
  refine ⟨_,rfl,R,_,rfl,.inr (SqT.of hR.e),_,rfl,by omega,by rw [zas];have:=hR.ln;omega,?_⟩
  rw [Xag,zas]
  refine zbb (n:=ws.length) (fun i σ X=>∃ (v3 v4 v5 v6 v7 v8:Option V),σ=[some (.ref R),some (.ref L),some (.int (x:Int)),v3,v4,v5,v6,v7,v8]∧(∀ (j:Nat) (q:Addr×Rw),j<i→ws[j]? = some q→ans q.2 x (hld us)=false)∧X=H) ⟨_,_,_,_,_,_,rfl,(fun j q hj=>absurd hj (XbF _)),rfl⟩ ?_ ?_
  ·rintro i σ X hi ⟨v3,v4,v5,v6,v7,v8,rfl,hb,rfl⟩
   rw [XbS]
   have hz:=Xaw hi
   generalize ws[i]=z at hz
   have hzm:=Xas hz
   obtain ⟨⟨lt,et,hlt⟩,ok⟩:=hR.r z hzm
   obtain ⟨f1,f2,f3⟩:=hR.f z hzm
   have next:ans z.2 x (hld us)=false→∀ j q,j<i+1→ws[j]? = some q→ans q.2 x (hld us)=false:=fun hn j q hj hq=>by
    rcases (show j<i∨j=i by omega) with e | e
    ·exact hb j q e hq
    ·rw [e,hz] at hq;cases hq;exact hn
   refine ⟨_,rfl,_,rfl,R,_,_,_,rfl,rfl,SqT.of hR.e,zaA (zev hz),z.1,_,rfl,SqT.of et,rfl,_,_,rfl,_,_,rfl,_,_,rfl,_,_,rfl,_,_,rfl,rfl,?_⟩
   have em:decide (V.int (Builtin.bitAnd (x:Int) (z.2.m:Int))=V.int (z.2.w:Int))=met z.2 x:=by
    rw [band]
    unfold met
    by_cases h:x &&& z.2.m=z.2.w
    ·rw [Xah h,h];exact Xah rfl
    ·rw [Xai h];exact Xai fun z=>h (by injection z with z;exact Int.ofNat.inj z)
   refine ⟨_,rfl,_,rfl,_,_,rfl,rfl,_,rfl,rfl,_,rfl,?_⟩
   rw [em]
   have hi32:z.2.i<2 ^ 32:=Xak ok.i0 (XaB (by decide) (by omega))
   cases hmt:met z.2 x with
   | false=>exact iteF (zau ⟨_,_,_,_,_,_,rfl,next (by unfold ans;rw [hmt,Bool.false_and]),rfl⟩)
   | true =>
    refine iteT ⟨_,rfl,?_⟩
    cases hl:z.2.l with
    | none =>
     rw [hl] at hlt
     obtain rfl:lt = .non:=hlt
     have ha:ans z.2 x (hld us)=true:=by unfold ans awk;rw [hmt,hl];rfl
     refine ⟨_,rfl,iteT (iteT ⟨_,rfl,_,rfl,_,rfl,z.2.i,x,rfl,hi32,fun H1 s1=>⟨by rw [sizeLine_eq];simp,fun t ht=>?_⟩⟩)⟩
     exact k2 i z (zfZ hz hb ha) hz t _ (s1.free ht) zad (s1.trans (zag ht))
    | some o =>
     obtain ⟨c,a,b⟩:=o
     rw [hl] at hlt
     obtain ⟨u,rfl,eu⟩:=hlt
     obtain ⟨g1,g2⟩:=f3 c a b hl
     have dc:=M.o c g1
     have e1:(vN (us c))[0]? = some (V.int (hld us c:Int)):=by
      have h1:=M.h1 c g1 (.inl g2)
      unfold hld
      cases hu:us c with
      | nil=>rw [hu] at h1;cases h1
      | cons y l=>rfl
     have ek:decide (V.int (Builtin.bitAnd (hld us c:Int) (a:Int))=V.int (b:Int))=awk z.2 (hld us):=by
      rw [band]
      unfold awk
      rw [hl]
      show _=decide (hld us c &&& a=b)
      by_cases h:hld us c &&& a=b
      ·rw [Xah h,h];exact Xah rfl
      ·rw [Xai h];exact Xai fun z=>h (by injection z with z;exact Int.ofNat.inj z)
     refine ⟨_,rfl,iteF ⟨_,rfl,_,rfl,u,_,_,_,rfl,rfl,SqT.of eu,rfl,L,_,_,_,rfl,rfl,SqL.of eL,zaA (zeM g1),md c,_,_,_,rfl,rfl,SqL.of dc.at_,rfl,rw_ c,_,_,_,rfl,rfl,SqL.of dc.ls,(zaA (j:=0) e1:atI _ ((0:Nat):Int)=_),_,rfl,u,_,_,_,rfl,rfl,SqT.of eu,rfl,_,_,rfl,rfl,_,rfl,u,_,_,_,rfl,rfl,SqT.of eu,rfl,rfl,_,rfl,?_⟩⟩
     rw [ek]
     cases hk:awk z.2 (hld us) with
     | false=>exact iteF (zau ⟨_,_,_,_,_,_,rfl,next (by unfold ans;rw [hk,XbB]),rfl⟩)
     | true =>
      refine iteT ⟨_,rfl,_,rfl,_,rfl,z.2.i,x,rfl,hi32,fun H1 s1=>⟨by rw [sizeLine_eq];simp,fun t ht=>?_⟩⟩
      exact k2 i z (zfZ hz hb (by unfold ans;rw [hmt,hk];rfl)) hz t _ (s1.free ht) zad (s1.trans (zag ht))
  ·rintro σ X ⟨v3,v4,v5,v6,v7,v8,rfl,hb,rfl⟩
   exact k1 (zkJ fun j q hq=>hb j q (Xaf.mp hq).1 hq) X (Same.refl _)
abbrev zcK:Stmt:=top 85
theorem sc_law_cells:FnScope ["bits","rows","models","seen","k","latch","on","cell","found"] ["bits","rows","models","seen"] (zah zcK):=sck rfl rfl rfl (by decide +kernel)
def ky (j c:Nat):List Key:=[.inl (j:Int),.inl (c:Int)]
theorem ky_inj {j c j' c':Nat}(h:ky j c=ky j' c'):j=j'∧c=c':=by
 unfold ky at h
 injection h with h1 h
 injection h with h2 h
 injection h1 with h1
 injection h2 with h2
 omega
theorem zjg:∀ {l r:List Nat},l.Pairwise (· < ·)→r.Pairwise (· < ·)→(∀ a,a∈l↔a∈r)→l=r
 | [],[],_,_,_=>rfl
 | [],b :: r,_,_,h=>absurd ((h b).mpr Xav) (fun z=>nomatch z)
 | a :: l,[],_,_,h=>absurd ((h a).mp Xav) (fun z=>nomatch z)
 | a :: l,b :: r,hl,hr,h=>by
  obtain ⟨l1,l2⟩:=Xbg.mp hl
  obtain ⟨r1,r2⟩:=Xbg.mp hr
  have e:a=b:=by
   rcases Xan.mp ((h a).mp Xav) with e | e
   ·exact e
   ·rcases Xan.mp ((h b).mpr Xav) with e' | e'
    ·exact e'.symm
    ·exact absurd (r1 a e) (Nat.not_lt.mpr (Xbt (l1 b e')))
  subst e
  rw [zjg l2 r2 fun x=>⟨fun hx=>?_,fun hx=>?_⟩]
  ·rcases Xan.mp ((h x).mp (Xau _ hx)) with e | e
   ·exact absurd (l1 x hx) (by rw [e];exact XaU _)
   ·exact e
  ·rcases Xan.mp ((h x).mpr (Xau _ hx)) with e | e
   ·exact absurd (r1 x hx) (by rw [e];exact XaU _)
   ·exact e
def sq (ws:List (Addr×Rw))(us:Nat→List Nat)(n j c:Nat):List Nat:=match ws[j]? with
 | none=>[]
 | some z=>(List.range n).filter fun a=>decide (whoM ws us a=some j∧gath z.2.i a=c)
theorem zmu (ws:List (Addr×Rw))(us:Nat→List Nat)(j c:Nat):sq ws us 0 j c=[]:=by
 unfold sq;split <;> rfl
theorem zlR (ws:List (Addr×Rw))(us:Nat→List Nat)(n j c:Nat):(sq ws us n j c).length≤n:=by
 unfold sq
 split
 ·exact Nat.zero_le _
 ·exact Xam (XbH _ _) (by rw [Xa9];exact Xae _)
theorem zlS {ws:List (Addr×Rw)}{us:Nat→List Nat}{n j:Nat}{z:Addr×Rw}(hz:ws[j]? = some z)(hw:whoM ws us n=some j):sq ws us (n+1) j (gath z.2.i n)=sq ws us n j (gath z.2.i n) ++ [n]:=by
 unfold sq
 rw [hz]
 try dsimp only
 rw [List.range_succ,List.filter_append,List.filter_cons_of_pos (by simp [hw]),List.filter_nil]
set_option tactic.hygienic true in
theorem zg1 {ws:List (Addr×Rw)}{us:Nat→List Nat}{n j c:Nat}(h:∀ z,ws[j]? = some z→¬ (whoM ws us n=some j∧gath z.2.i n=c)):sq ws us (n+1) j c=sq ws us n j c:=by
 unfold sq
 split
 ·rfl
 ·rename_i z hz
  rw [List.range_succ,List.filter_append,List.filter_cons_of_neg (by simpa using fun a b=>h z hz ⟨a,b⟩),List.filter_nil,Xa1]
theorem zkL (ws:List (Addr×Rw))(us:Nat→List Nat)(x:Nat):fstA (ws.map (·.2)) x (hld us)=match whoM ws us x with | none=>.non | some i=>.int (i:Int):=rfl
theorem zdV {ws:List (Addr×Rw)}{us:Nat→List Nat}{x j:Nat}(h:whoM ws us x=some j):∃ z,ws[j]? = some z∧ans z.2 x (hld us)=true:=by
 obtain ⟨hj,p,_⟩:=Xbb.mp h
 rw [Xal] at hj
 rw [List.getElem_map] at p
 exact ⟨_,Xaw hj,p⟩
theorem zkK {ws:List (Addr×Rw)}{us:Nat→List Nat}{x j:Nat}{z:Addr×Rw}(hnc:ws.Pairwise fun a b=>NC a.2 b.2)(hz:ws[j]? = some z):whoM ws us x=some j↔ans z.2 x (hld us)=true:=by
 constructor
 ·intro h
  obtain ⟨z',h1,h2⟩:=zdV h
  rw [hz] at h1;cases h1
  exact h2
 ·intro h
  have hm:met z.2 x=true∧awk z.2 (hld us)=true:=by unfold ans at h;exact Xbs.mp h
  have e:=fst_is hnc hz hm.2 hm.1
  rw [zkL] at e
  cases hw:whoM ws us x with
  | none=>rw [hw] at e;cases e
  | some i =>
   rw [hw] at e
   have:=Int.ofNat.inj (V.int.inj e)
   rw [this]
theorem sq_on {ws:List (Addr×Rw)}{us:Nat→List Nat}{m j c:Nat}{z:Addr×Rw}(hnc:ws.Pairwise fun a b=>NC a.2 b.2)(hz:ws[j]? = some z)(ok:RwOk m z.2)(hc:c<2 ^ ones z.2.i)(ha:awk z.2 (hld us)=true):sq ws us (2 ^ m) j c=adR m z.2 c:=by
 refine zjg ?_ (zi6 ok c) fun a=>?_
 ·unfold sq
  rw [hz]
  exact List.Pairwise.filter _ Xb3
 ·rw [znb ok hc]
  unfold sq
  rw [hz]
  try dsimp only
  rw [Xa0,Xbo,decide_eq_true_eq,zkK hnc hz]
  unfold ans
  rw [ha,Bool.and_true]
theorem sq_off {ws:List (Addr×Rw)}{us:Nat→List Nat}{n j c:Nat}{z:Addr×Rw}(hz:ws[j]? = some z)(ha:awk z.2 (hld us)=false):sq ws us n j c=[]:=by
 unfold sq
 rw [hz]
 refine List.filter_eq_nil_iff.mpr fun a _ h=>?_
 obtain ⟨z',h1,h2⟩:=zdV (XaD h).1
 rw [hz] at h1;cases h1
 unfold ans at h2
 rw [ha,XbB] at h2
 cases h2
theorem hole_iff {ws:List (Addr×Rw)}{us:Nat→List Nat}{x:Nat}:zbK (awks ws (hld us)) x=true↔whoM ws us x=none:=by
 constructor
 ·intro h
  cases hw:whoM ws us x with
  | none=>rfl
  | some j =>
   obtain ⟨z,h1,h2⟩:=zdV hw
   have hm:=Xbs.mp (show (met z.2 x && awk z.2 (hld us))=true from h2)
   have:=(seen_hole (ws:=ws) (W:=hld us) (a:=x)).mpr ⟨j,z,(Xaf.mp h1).1,h1,hm.2,hm.1⟩
   rw [this] at h;cases h
 ·intro h
  cases hh:zbK (awks ws (hld us)) x with
  | true=>rfl
  | false =>
   obtain ⟨k,z,hk,hz,ha,hm⟩:=seen_hole.mp hh
   have:=XbL.mp h z.2 (XaF.mpr ⟨z,Xas hz,rfl⟩)
   unfold ans at this
   rw [ha,hm] at this
   cases this
def smH (rs:List Rw)(n:Nat):List Nat:=(List.range n).filter fun x=>zbK rs x
theorem zhV (rs:List Rw)(n:Nat):smH rs (n+1)=smH rs n ++ (if zbK rs n=true then [n] else []):=by
 unfold smH
 rw [List.range_succ,List.filter_append]
 congr 1
 by_cases e:zbK rs n=true
 ·simp [e]
 ·simp [e]
theorem zmv (rs:List Rw)(n:Nat):(smH rs n).length≤n:=Xam (XbH _ _) (by rw [Xa9];exact Xae _)
theorem zj3 (rs:List Rw)(n:Nat):hol rs 0 n=(smH rs n).length:=by
 unfold hol smH
 rw [List.countP_eq_length_filter]
 congr 1
 exact List.filter_congr fun k _=>by rw [Nat.zero_add];rfl
theorem zll {rs:List Rw}{n x:Nat}(hx:x<n)(hh:zbK rs x=true)(hl:hol rs 0 x=0):V.int (x:Int)=hdN (smH rs n):=by
 have hm:x∈smH rs n:=Xa0.mpr ⟨Xbo.mpr hx,hh⟩
 have hs:(smH rs n).Pairwise (· < ·):=List.Pairwise.filter _ Xb3
 cases e:smH rs n with
 | nil=>rw [e] at hm;cases hm
 | cons h tl =>
  have hh2:h∈smH rs n:=by rw [e];exact Xav
  obtain ⟨m1,m2⟩:=Xa0.mp hh2
  have nlt:¬ h<x:=fun z=>by
   have:=zlu hl h z
   rw [Nat.zero_add,m2] at this
   cases this
  rw [e] at hm hs
  have:x=h:=by
   rcases Xan.mp hm with z | z
   ·exact z
   ·have:=(Xbg.mp hs).1 x z;omega
  rw [this];rfl
structure Sn (H:Hp)(ws:List (Addr×Rw))(us:Nat→List Nat)(sn hs wd:Addr)(n:Nat)(X:Hp)(kvs:List (List Key×V)):Prop where
 e:X sn=some (.dT kvs)
 ln:kvs.length≤n
 g:∀ j c,match valV kvs (ky j c) with
  | none=>sq ws us n j c=[]
  | some v=>∃ l,v = .ref l∧X l=some (.lst (vN (sq ws us n j c)))∧H l=none∧l≠sn∧l≠hs∧l≠wd∧sq ws us n j c≠[]
 inj:∀ j c j' c' l,valV kvs (ky j c)=some (.ref l)→valV kvs (ky j' c')=some (.ref l)→j=j'∧c=c'
theorem Sn.same {H:Hp}{ws:List (Addr×Rw)}{us:Nat→List Nat}{sn hs wd:Addr}{n:Nat}{X Y:Hp}{kvs:List (List Key×V)}(h:Sn H ws us sn hs wd n X kvs)(s:Same X Y):Sn H ws us sn hs wd n Y kvs:=by
 refine ⟨s _ _ h.e,h.ln,fun j c=>?_,h.inj⟩
 have g:=h.g j c
 cases hv:valV kvs (ky j c) with
 | none=>rw [hv] at g;exact g
 | some v =>
  rw [hv] at g
  obtain ⟨l,e1,e2,e3⟩:=g
  exact ⟨l,e1,s _ _ e2,e3⟩
theorem Sn.hit {H:Hp}{ws:List (Addr×Rw)}{us:Nat→List Nat}{sn hs wd l:Addr}{i j:Nat}{z:Addr×Rw}{X Y:Hp}{kvs:List (List Key×V)}(h:Sn H ws us sn hs wd i X kvs)(hz:ws[j]? = some z)(hw:whoM ws us i=some j)(hv:valV kvs (ky j (gath z.2.i i))=some (.ref l))(el:Y l=some (.lst (vN (sq ws us i j (gath z.2.i i)) ++ [.int (i:Int)])))(k:∀ a o,a≠l→X a=some o→Y a=some o):Sn H ws us sn hs wd (i+1) Y kvs:=by
 have gl:=h.g j (gath z.2.i i)
 rw [hv] at gl
 obtain ⟨l',e1,e2,e3,e4,e5,e6,e7⟩:=gl
 cases e1
 refine ⟨k _ _ (Ne.symm e4) h.e,Nat.le_succ_of_le h.ln,fun j' c'=>?_,h.inj⟩
 have g:=h.g j' c'
 by_cases hjc:j'=j∧c'=gath z.2.i i
 ·obtain ⟨rfl,rfl⟩:=hjc
  rw [hv,zlS hz hw,zbn]
  exact ⟨l,rfl,el,e3,e4,e5,e6,List.append_ne_nil_of_right_ne_nil _ (List.cons_ne_nil _ _)⟩
 ·rw [zg1 (fun z' hz' hh=>hjc (by
   have:=hh.1;rw [hw] at this;cases this
   rw [hz] at hz';cases hz'
   exact ⟨rfl,hh.2.symm⟩))]
  cases hv':valV kvs (ky j' c') with
  | none=>rw [hv'] at g;exact g
  | some v =>
   rw [hv'] at g
   obtain ⟨l2,f1,f2,f3⟩:=g
   subst f1
   exact ⟨l2,rfl,k _ _ (fun e=>hjc (h.inj _ _ _ _ l (by rw [← e];exact hv') hv)) f2,f3⟩
set_option tactic.hygienic true in
theorem Sn.new {H:Hp}{ws:List (Addr×Rw)}{us:Nat→List Nat}{sn hs wd q:Addr}{i j:Nat}{z:Addr×Rw}{X Y:Hp}{kvs:List (List Key×V)}(h:Sn H ws us sn hs wd i X kvs)(hz:ws[j]? = some z)(hw:whoM ws us i=some j)(hv:valV kvs (ky j (gath z.2.i i))=none)(hq:X q=none)(hH:H q=none)(n1:q≠sn)(n2:q≠hs)(n3:q≠wd)(el:Y q=some (.lst [.int (i:Int)]))(es:Y sn=some (.dT (putK kvs (ky j (gath z.2.i i)) (.ref q))))(k:∀ a o,a≠q→a≠sn→X a=some o→Y a=some o):Sn H ws us sn hs wd (i+1) Y (putK kvs (ky j (gath z.2.i i)) (.ref q)):=by
 have gl:=h.g j (gath z.2.i i)
 rw [hv] at gl
 have nq:∀ j' c',valV kvs (ky j' c')≠some (.ref q):=fun j' c' e=>by
  have g:=h.g j' c'
  rw [e] at g
  obtain ⟨l,f1,f2,_⟩:=g
  cases f1
  rw [hq] at f2;cases f2
 have put:∀ j' c',valV (putK kvs (ky j (gath z.2.i i)) (.ref q)) (ky j' c')=if j'=j∧c'=gath z.2.i i then some (.ref q) else valV kvs (ky j' c'):=fun j' c'=>by
  rw [zhQ]
  by_cases e:j'=j∧c'=gath z.2.i i
  ·rw [if_pos e,if_pos (by rw [e.1,e.2])]
  ·rw [if_neg e,if_neg (fun z=>e (ky_inj z))]
 refine ⟨es,Xam (zb7 _ _ _) (Nat.succ_le_succ h.ln),fun j' c'=>?_,fun j1 c1 j2 c2 l h1 h2=>?_⟩
 ·have g:=h.g j' c'
  rw [put]
  by_cases hjc:j'=j∧c'=gath z.2.i i
  ·rw [if_pos hjc]
   obtain ⟨rfl,rfl⟩:=hjc
   rw [zlS hz hw,gl]
   exact ⟨q,rfl,el,hH,n1,n2,n3,List.cons_ne_nil _ _⟩
  ·rw [if_neg hjc,zg1 (fun z' hz' hh=>hjc (by
    have:=hh.1;rw [hw] at this;cases this
    rw [hz] at hz';cases hz'
    exact ⟨rfl,hh.2.symm⟩))]
   cases hv':valV kvs (ky j' c') with
   | none=>rw [hv'] at g;exact g
   | some v =>
    rw [hv'] at g
    obtain ⟨l2,f1,f2,f3,f4,f5⟩:=g
    exact ⟨l2,f1,k _ _ (fun e=>by rw [e,hq] at f2;cases f2) f4 f2,f3,f4,f5⟩
 ·rw [put] at h1 h2
  split at h1 <;> split at h2
  ·rename_i a b;exact ⟨a.1.trans b.1.symm,a.2.trans b.2.symm⟩
  ·cases h1;exact absurd h2 (nq _ _)
  ·cases h2;exact absurd h1 (nq _ _)
  ·exact h.inj _ _ _ _ l h1 h2
def SnOk (m:Nat)(ws:List (Addr×Rw))(us:Nat→List Nat)(X:Hp)(kvs:List (List Key×V)):Prop:=∀ j c z,ws[j]? = some z→(awk z.2 (hld us)=true→c<2 ^ ones z.2.i→(valV kvs (ky j c)=none∧adR m z.2 c=[])∨∃ l,valV kvs (ky j c)=some (.ref l)∧X l=some (.lst (vN (adR m z.2 c))))∧(awk z.2 (hld us)=false→valV kvs (ky j c)=none)
theorem Sn.ok {H:Hp}{ws:List (Addr×Rw)}{us:Nat→List Nat}{sn hs wd:Addr}{m:Nat}{X:Hp}{kvs:List (List Key×V)}(h:Sn H ws us sn hs wd (2 ^ m) X kvs)(hnc:ws.Pairwise fun a b=>NC a.2 b.2)(hok:∀ z∈ws,RwOk m z.2):SnOk m ws us X kvs:=fun j c z hz=>by
 have g:=h.g j c
 constructor
 ·intro ha hc
  have e:=sq_on (us:=us) hnc hz (hok z (Xas hz)) hc ha
  cases hv:valV kvs (ky j c) with
  | none=>rw [hv] at g;exact .inl ⟨rfl,by rw [← e];exact g⟩
  | some v =>
   rw [hv] at g
   obtain ⟨l,rfl,el,_⟩:=g
   exact .inr ⟨l,rfl,by rw [← e];exact el⟩
 ·intro ha
  cases hv:valV kvs (ky j c) with
  | none=>rfl
  | some v =>
   rw [hv] at g
   obtain ⟨l,_,_,_,_,_,_,hn⟩:=g
   exact absurd (sq_off (n:=2 ^ m) (c:=c) hz ha) hn
theorem SnOk.same {m:Nat}{ws:List (Addr×Rw)}{us:Nat→List Nat}{X Y:Hp}{kvs:List (List Key×V)}(h:SnOk m ws us X kvs)(s:Same X Y):SnOk m ws us Y kvs:=fun j c z hz=>by
 obtain ⟨h1,h2⟩:=h j c z hz
 refine ⟨fun ha hc=>?_,h2⟩
 rcases h1 ha hc with e | ⟨l,e1,e2⟩
 ·exact .inl e
 ·exact .inr ⟨l,e1,s _ _ e2⟩
inductive spCells43 (cs:Nat→Addr)(vs:List V)(H:Hp)(Q:VK)(u3_:XK):Prop
 | mk (R ML sn:Addr) (m:Nat) (D:Dt) (md rw:Nat→Addr) (us:Nat→List Nat) (ws:List (Addr×Rw)) (kvs:List (List Key×V)) (z0_:vs=[.int (m:Int),.ref R,.ref ML,.ref sn]) (z1_:m≤9) (z2_:RwsFor D m H R ws) (z3_:H ML=some (.lst (mdL D md))) (z4_:Mod D md rw H us) (z5_:H sn=some (.dT kvs)) (z6_:SnOk m ws us H kvs) (z7_:∀ X,Same H X→Q (.bl true) X)
theorem zgm {f CT:Addr}{cs:Nat→Addr}{fd:FuncData}(F:Fun K "_law_cells" "_law_cells" zcK f fd)(T:Blt mg)(G_law_ones:Cal P w K mg base 1 "_law_ones" ["mask"] spOnesL)(Gaddresses_of:Cal P w K mg base 3 "addresses_of" ["bits","row","cell"] (fun vs H Q _=>spAddr CT vs H Q fun _ _ _=>False))(G_law_same:Cal P w K mg base 2 "_law_same" ["found","due"] (spSameL 1)):FnOk P w K mg base CX0 4 f fd ["bits","rows","models","seen"] (spCells43 cs):=by
 refine F.ok sc_law_cells (by walk_at "l") (fun cdv A outer s H vs Q E hr h=>?_)
 ·obtain ⟨R,ML,sn,m,D,md,rw_,us,ws,kvs,rfl,m9,hR,eM,M,es,hs,k⟩:=h
  refine ⟨_,(zab (@za4 _ _ _ _ _ _ _ _ PassesOwn.never rfl (@zaU _ _ _ _ _ _ rfl T.range (@zaa _ _ _ _ _ (@zao _ _ _ _ _ _ _ _ _ zar (by rfl) T.len PySem.boot_len (@zaa _ _ _ _ _ (@pv _ 1 _ _ (by rfl) (by walk_at "o") (by decide) (by decide)) (@zac _) (by rfl)) (by decide) (by decide) (by rfl) (by rfl)) (@zac _) (by rfl)) (by rfl)) (@pg_L _ _ _ 4 sc_law_cells.nd (by rfl) (by exact Or.inl rfl) (by walk_at "p")) (@zab _ _ _ _ _ (@ps_L _ _ _ _ _ _ 5 sc_law_cells.nd (@pe_x _ _ _ _ _ _ _ zaw (@pe_x _ _ _ _ _ _ _ zaw (@pv _ 1 _ _ (by rfl) (by walk_at "o") (by decide) (by decide)) (@pv _ 4 _ _ (by rfl) (by walk_at "o") (by decide) (by decide)) (by exact fun _ _=>rfl)) (@zae _ _ _ _) (by exact fun _ _=>rfl)) (by rfl) (by exact Or.inl rfl) (by rfl) (by walk_at "p")) (@zab _ _ _ _ _ (@ps_L _ _ _ _ _ _ 6 sc_law_cells.nd (@zmI _ _ _ _ _ _ _ (@zh3 _ _ _ _ _ _ (@zcj _ _ _ _ _ (@pv _ 5 _ _ (by rfl) (by walk_at "o") (by decide) (by decide))) (by first | exact zc4 _ (by decide) (by decide) | rfl)) (@zbz _ _ _ _ _ (@zbA _ _ _ _ _ _ _ _ zbk (@zaj _ _ _ _ _ _ _ _ zaP (@pe_x _ _ _ _ _ _ _ zam (@pe_x _ _ _ _ _ _ _ zam (@pe_x _ _ _ _ _ _ _ zam (@pv _ 2 _ _ (by rfl) (by walk_at "o") (by decide) (by decide)) (@pe_x _ _ _ _ _ _ _ zaw (@pv _ 5 _ _ (by rfl) (by walk_at "o") (by decide) (by decide)) (@zae _ _ _ _) (by exact fun _ _=>rfl)) (by exact fun _ _=>rfl)) (@zae _ _ _ _) (by exact fun _ _=>rfl)) (@zae _ _ _ _) (by exact fun _ _=>rfl)) (@pe_x _ _ _ _ _ _ _ zaw (@pv _ 5 _ _ (by rfl) (by walk_at "o") (by decide) (by decide)) (@zae _ _ _ _) (by exact fun _ _=>rfl))) (@pe_x _ _ _ _ _ _ _ zaw (@pv _ 5 _ _ (by rfl) (by walk_at "o") (by decide) (by decide)) (@zae _ _ _ _) (by exact fun _ _=>rfl)) (zav _)))) (by rfl) (by exact Or.inl rfl) (by rfl) (by walk_at "p")) (@zaf _ _ _ (@za4 _ _ _ _ _ _ _ _ PassesOwn.never rfl (@zaU _ _ _ _ _ _ rfl T.range (@zaa _ _ _ _ _ (@zaj _ _ _ _ _ _ _ _ zc1 (@zae _ _ _ _) (@zao _ _ _ _ _ _ _ _ _ zar (by rfl) T.len PySem.boot_len (@zaa _ _ _ _ _ (@pe_c _ _ _ _ _ _ _ _ _ _ G_law_ones (@zaa _ _ _ _ _ (@pe_x _ _ _ _ _ _ _ zaw (@pe_x _ _ _ _ _ _ _ zaw (@pv _ 1 _ _ (by rfl) (by walk_at "o") (by decide) (by decide)) (@pv _ 4 _ _ (by rfl) (by walk_at "o") (by decide) (by decide)) (by exact fun _ _=>rfl)) (@zae _ _ _ _) (by exact fun _ _=>rfl)) (@zac _) (by rfl)) (by exact hrm (by assumption)) (by rfl) (by decide) (by rfl) (by rfl)) (@zac _) (by rfl)) (by decide) (by decide) (by rfl) (by rfl))) (@zac _) (by rfl)) (by rfl)) (@pg_L _ _ _ 7 sc_law_cells.nd (by rfl) (by exact Or.inl rfl) (by walk_at "p")) (@zab _ _ _ _ _ (@ps_L _ _ _ _ _ _ 8 sc_law_cells.nd (@pe_c _ _ _ _ _ _ _ _ _ _ Gaddresses_of (@zaa _ _ _ _ _ (@pv _ 0 _ _ (by rfl) (by walk_at "o") (by decide) (by decide)) (@zaa _ _ _ _ _ (@pe_x _ _ _ _ _ _ _ zaw (@pv _ 1 _ _ (by rfl) (by walk_at "o") (by decide) (by decide)) (@pv _ 4 _ _ (by rfl) (by walk_at "o") (by decide) (by decide)) (by exact fun _ _=>rfl)) (@zaa _ _ _ _ _ (@pv _ 7 _ _ (by rfl) (by walk_at "o") (by decide) (by decide)) (@zac _) (by rfl)) (by rfl)) (by rfl)) (by exact hrm (by assumption)) (by rfl) (by decide) (by rfl) (by rfl)) (by rfl) (by exact Or.inl rfl) (by rfl) (by walk_at "p")) (@zab _ _ _ _ _ (@zax _ _ _ _ _ _ _ _ (@PW.pt _ _ _ (@zf9 _ _ _ _ _ _ _ (@zaC _ _ _ (@pv _ 6 _ _ (by rfl) (by walk_at "o") (by decide) (by decide)) (by intro _;rfl)) (@zex _ _ _ _ (@zaO _ _ _ _ (@zaC _ _ _ (@pe_c _ _ _ _ _ _ _ _ _ _ G_law_same (@zaa _ _ _ _ _ (@pv _ 8 _ _ (by rfl) (by walk_at "o") (by decide) (by decide)) (@zaa _ _ _ _ _ (@zh2 _ _ _ _ _ _ _ _ _ (zeU hr) (@pv _ 3 _ _ (by rfl) (by walk_at "o") (by decide) (by decide)) (@za0 _ _ _ _ _ (@zaa _ _ _ _ _ (@pv _ 4 _ _ (by rfl) (by walk_at "o") (by decide) (by decide)) (@zaa _ _ _ _ _ (@pv _ 7 _ _ (by rfl) (by walk_at "o") (by decide) (by decide)) (@zac _) (by rfl)) (by rfl))) (@zay _ _ _ _ (@zac _)) ⟨rfl,rfl,rfl,rfl⟩) (@zac _) (by rfl)) (by rfl)) (by exact hrm (by assumption)) (by rfl) (by decide) (by rfl) (by rfl)) (by intro _;rfl)))))) (@zaf _ _ _ (@zap _ _ _ _ (@zb4 _ _ _ _))) (@zaq _)) (@zaf _ _ _ (@zax _ _ _ _ _ _ _ _ (@PW.pt _ _ _ (@zf9 _ _ _ _ _ _ _ (@zaO _ _ _ _ (@zaC _ _ _ (@pv _ 6 _ _ (by rfl) (by walk_at "o") (by decide) (by decide)) (by intro _;rfl))) (@zex _ _ _ _ (@zbT _ _ _ _ _ _ (@pc_din _ _ _ _ _ (zeU hr) (@za0 _ _ _ _ _ (@zaa _ _ _ _ _ (@pv _ 4 _ _ (by rfl) (by walk_at "o") (by decide) (by decide)) (@zaa _ _ _ _ _ (@pv _ 7 _ _ (by rfl) (by walk_at "o") (by decide) (by decide)) (@zac _) (by rfl)) (by rfl))) (@pv _ 3 _ _ (by rfl) (by walk_at "o") (by decide) (by decide))) (by first | exact zc4 _ (by decide) (by decide) | rfl))))) (@zaf _ _ _ (@zap _ _ _ _ (@zb4 _ _ _ _))) (@zaq _))))) (by intro _;rfl))))) (by intro _;rfl))
   (zaf (@zap _ _ _ _ (@zb4 _ _ _ _)))),?rd⟩
  refine ⟨_,rfl,R,_,rfl,.inr (SqT.of hR.e),_,rfl,by omega,by rw [zas];have:=hR.ln;omega,?_⟩
  rw [Xag,zas]
  refine zbb (n:=ws.length) (fun i σ X=>∃ (v4 v5 v6 v7 v8:Option V),σ=[some (.int (m:Int)),some (.ref R),some (.ref ML),some (.ref sn),v4,v5,v6,v7,v8]∧Same H X) ⟨_,_,_,_,_,rfl,Same.refl _⟩ ?_ ?_
  rotate_left
  ·rintro σ X ⟨_,_,_,_,_,rfl,sX⟩
   exact k X sX
  rintro j σ X hj ⟨v4,v5,v6,v7,v8,rfl,sX⟩
  rw [XbS]
  obtain ⟨z,hz⟩:∃ z,ws[j]? = some z:=⟨_,Xaw hj⟩
  obtain ⟨⟨lv,et,hlv⟩,ok⟩:=(hR.same sX).r z (Xas hz)
  have hfit:=hR.f z (Xas hz)
  have hat:=zaA (zev hz)
  try dsimp only [zaT,List.set]
  refine ⟨_,rfl,_,rfl,R,_,_,_,rfl,rfl,SqT.of (sX _ _ hR.e),hat,z.1,_,_,lv,rfl,rfl,SqT.of et,rfl,?_⟩
  try dsimp only [zaT,List.set]
  
  refine zaZ (fun σ Y=>σ=[some (.int (m:Int)),some (.ref R),some (.ref ML),some (.ref sn),some (.int (j:Int)),some lv,some (.bl (awk z.2 (hld us))),v7,v8]∧Y=X) (fun N hN=>?_) ?_
  ·cases hl:z.2.l with
   | none =>
    rw [hl] at hlv
    obtain rfl:lv = .non:=hlv
    have ha:awk z.2 (hld us)=true:=by unfold awk;rw [hl]
    rw [ha] at hN
    exact ⟨_,rfl,_,rfl,iteT (hN _ _ ⟨rfl,rfl⟩)⟩
   | some o =>
    obtain ⟨c,a,b⟩:=o
    rw [hl] at hlv
    obtain ⟨u,rfl,eu⟩:=hlv
    obtain ⟨g1,g2⟩:=hfit.2.2 c a b hl
    have dc:=(M.same sX).o c g1
    have e1:(vN (us c))[0]? = some (V.int (hld us c:Int)):=by
     have h1:=M.h1 c g1 (.inl g2)
     unfold hld
     cases hu:us c with
     | nil=>rw [hu] at h1;cases h1
     | cons y l=>rfl
    have ek:decide (V.int (Builtin.bitAnd (hld us c:Int) (a:Int))=V.int (b:Int))=awk z.2 (hld us):=by
     rw [band]
     unfold awk
     rw [hl]
     show _=decide (hld us c &&& a=b)
     by_cases h:hld us c &&& a=b
     ·rw [Xah h,h];exact Xah rfl
     ·rw [Xai h];exact Xai fun z=>h (by injection z with z;exact Int.ofNat.inj z)
    refine ⟨_,rfl,_,rfl,iteF ⟨_,rfl,_,rfl,u,_,_,_,rfl,rfl,SqT.of eu,rfl,ML,_,_,_,rfl,rfl,SqL.of (sX _ _ eM),zaA (zeM g1),md c,_,_,_,rfl,rfl,SqL.of dc.at_,rfl,rw_ c,_,_,_,rfl,rfl,SqL.of dc.ls,(zaA (j:=0) e1:atI _ ((0:Nat):Int)=_),_,rfl,u,_,_,_,rfl,rfl,SqT.of eu,rfl,_,_,rfl,rfl,_,rfl,u,_,_,_,rfl,rfl,SqT.of eu,rfl,rfl,?_⟩⟩
    rw [ek]
    exact hN _ _ ⟨rfl,rfl⟩
  rintro σ Y ⟨rfl,rfl⟩
  have hm16:m≤16:=by omega
  have hi32:z.2.i<2 ^ 32:=Xak ok.i0 (XaB (by decide) (by omega))
  have hon:ones z.2.i≤9:=Xam (zb5 m z.2.i ok.i0) m9
  refine ⟨_,rfl,_,rfl,R,_,_,_,rfl,rfl,SqT.of (sX _ _ hR.e),hat,z.1,_,_,_,rfl,rfl,SqT.of et,rfl,z.2.i,rfl,hi32,fun p H1 hp ep s1=>⟨p,_,rfl,.inl (SqL.of ep),?_⟩⟩
  rw [zal,zaY]
  have e2:(1:Int) * 2 ^ ((ones z.2.i:Nat):Int).toNat=((2 ^ ones z.2.i:Nat):Int):=by rw [Int.one_mul,Xag];norm_cast
  have hp2:2 ^ ones z.2.i≤512:=Xam (XaB (by decide) hon) (by decide)
  refine ⟨_,_,rfl,rfl,⟨by omega,by omega,by decide⟩,((2 ^ ones z.2.i:Nat):Int),congrArg (fun x=>[V.int x]) e2,by omega,by omega,?_⟩
  rw [Xag]
  refine zbb (n:=2 ^ ones z.2.i) (fun c σ X=>∃ (w7 w8:Option V),σ=[some (.int (m:Int)),some (.ref R),some (.ref ML),some (.ref sn),some (.int (j:Int)),some lv,some (.bl (awk z.2 (hld us))),w7,w8]∧Same H X) ⟨_,_,rfl,sX.trans s1⟩ ?_ ?_
  rotate_left
  ·rintro σ X ⟨w7,w8,rfl,sX⟩
   exact ⟨_,_,_,_,_,rfl,sX⟩
  clear sX ep hp s1 et hlv
  rintro c σ X hc ⟨w7,w8,rfl,sX⟩
  rw [XbS]
  obtain ⟨⟨lv',et,hlv⟩,_⟩:=(hR.same sX).r z (Xas hz)
  have hsum:=zgJ ok.i0
  have hfr:(freL (zaG z.2.m m) (zaG z.2.i m)).sum≤12:=by
   have:=zie _ _ (show (zaG z.2.m m).length=(zaG z.2.i m).length by rw [zaB,zaB]) (Apart.of _ _ (zdY ok).im)
   rw [zaB] at this
   omega
  have eR:X z.1=some (rowV (zaG z.2.m m) (zaG z.2.w m) (zaG z.2.i m) z.2.c lv'):=by
   unfold rowV
   rw [zbU ok.m0,zbU ok.w0,zbU ok.i0];exact et
  try dsimp only [zaT,List.set]
  refine ⟨_,rfl,_,rfl,_,rfl,R,_,_,_,rfl,rfl,SqT.of (sX _ _ hR.e),hat,_,rfl,m,z.1,zaG z.2.m m,zaG z.2.w m,zaG z.2.i m,z.2.c,lv',(c:Int),rfl,zdY ok,hm16,eR,fun bad=>?_,fun n en hn _ L X1 hL eL sL=>?_,fun n en hn hbig=>absurd hfr (by omega)⟩
  ·exfalso
   rw [hsum] at bad
   have:(c:Int)<((2 ^ ones z.2.i:Nat):Int):=Int.ofNat_lt.mpr hc
   omega
  obtain rfl:c=n:=Int.ofNat.inj en
  change X1 L=some (.lst (vN (adR m z.2 c))) at eL
  have sX1:=sX.trans sL
  have hsn:=sX1 _ _ es
  have hsk:=hs.same sX1
  try dsimp only [zaT,List.set]
  obtain ⟨hk1,hk2⟩:=hsk j c z hz
  
  refine zaZ (fun σ Y=>σ=[some (.int (m:Int)),some (.ref R),some (.ref ML),some (.ref sn),some (.int (j:Int)),some lv,some (.bl (awk z.2 (hld us))),some (.int (c:Int)),some (.ref L)]∧Same H Y) (fun N hN=>?_) ?_
  ·refine ⟨_,rfl,_,rfl,?_⟩
   cases ha:awk z.2 (hld us) with
   | false=>rw [ha] at hN;exact iteF (iteF (zau (hN _ _ ⟨rfl,sX1⟩)))
   | true =>
    rw [ha] at hN
    refine iteT ⟨_,rfl,_,rfl,sn,rfl,.inr ⟨kvs,.inl hsn⟩,_,rfl,_,rfl,by show 2≤sizeLine;decide,fun q hq=>⟨by show 0≤sizeLine;decide,fun e he=>?_⟩⟩
    have t1:=zag (o:=.tup [V.int (j:Int),.int (c:Int)]) hq
    have t2:=zag (o:=.lst []) he
    have S2:=t1.trans t2
    have dg:DGet (upd (upd X1 q (.tup [V.int (j:Int),.int (c:Int)])) e (.lst [])) sn (.ref q) (valV kvs (ky j c)):=.t (S2 _ _ hsn) (t2 _ _ zad)
    rcases hk1 ha hc with ⟨e0,e1⟩ | ⟨l,e0,e1⟩ <;> rw [e0] at dg
    ·rw [e1] at eL
     exact ⟨_,dg,_,_,rfl,.inr (.seq (t:=false) (S2 _ _ eL) zad rfl (by show 0≤sizeLine;decide) fun i x y h=>nomatch h),fun H' s'=>⟨_,rfl,iteF (zau (hN _ _ ⟨rfl,sX1.trans (S2.trans s')⟩))⟩⟩
    ·refine ⟨_,dg,_,_,rfl,.inr (.seq (t:=false) (S2 _ _ eL) (S2 _ _ e1) rfl ?_ fun i x y h1 h2=>?_),fun H' s'=>⟨_,rfl,iteF (zau (hN _ _ ⟨rfl,sX1.trans (S2.trans s')⟩))⟩⟩
     ·rw [zal]
      have:=sq_on (us:=us) hR.nc hz ok hc ha
      rw [← this]
      have h9:2 ^ m≤512:=Xam (XaB (by decide) m9) (by decide)
      have:=zlR ws us (2 ^ m) j c
      rw [sizeLine_eq];omega
     ·rw [h1] at h2;cases h2
      obtain ⟨n,_,rfl⟩:=zcX h1
      exact .int _
  rintro σ Y ⟨rfl,sY⟩
  
  refine ⟨_,rfl,_,rfl,?_⟩
  cases ha:awk z.2 (hld us) with
  | true=>exact iteF (iteF (zau ⟨_,_,rfl,sY⟩))
  | false =>
   refine iteT ⟨_,rfl,_,rfl,by show 2≤sizeLine;decide,fun q hq=>?_⟩
   have t1:=zag (o:=.tup [V.int (j:Int),.int (c:Int)]) hq
   have dg:DGet (upd Y q (.tup [V.int (j:Int),.int (c:Int)])) sn (.ref q) (valV kvs (ky j c)):=.t (t1 _ _ (sY _ _ es)) zad
   rw [hk2 ha] at dg
   exact ⟨_,rfl,sn,none,rfl,dg,_,rfl,iteF (zau ⟨_,_,rfl,sY.trans t1⟩)⟩
abbrev zcH:Stmt:=top 84
theorem sc_law_found:FnScope ["board","bits","rows","chips","models","words","k","holes","seen","address","due","number","cell","least","right"] ["board","bits","rows","chips","models"] (zah zcH):=sck rfl rfl rfl (by decide +kernel)
inductive spFound43 (C:Addr)(cs:Nat→Addr)(vs:List V)(H:Hp)(Q:VK)(u3_:XK):Prop
 | mk (B:Bd) (D:Dt) (md rw:Nat→Addr) (us:Nat→List Nat) (f:Nat) (CL ML:Addr) (z0_:vs=[.ref B.b,.int (B.bits:Int),.ref B.R,.ref CL,.ref ML]) (z1_:B.bits≤9) (z2_:BdAt C B D H f) (z3_:Chs cs D H us) (z4_:H CL=some (.lst (chL D))) (z5_:H ML=some (.lst (mdL D md))) (z6_:Mod D md rw H us) (z7_:D.m≤9) (z8_:∀ (t sn:Addr) (kvs:List (List Key×V)) (X:Hp),X t=some (.tup [.bl true,.ref sn])→X sn=some (.dT kvs)→SnOk B.bits B.ws us X kvs→Same H X→Q (.ref t) X)
def kyl (D:Dt)(n:Nat):List Nat:=(List.range n).filter fun k=>decide (D.kd k=2)
theorem kyl_lt {D:Dt}{n x:Nat}(h:x∈kyl D n):x<n:=Xbo.mp (Xa0.mp h).1
theorem zmS {D:Dt}{n x:Nat}(h:x<n)(hk:D.kd x=2):x∈kyl D n:=Xa0.mpr ⟨Xbo.mpr h,Xah hk⟩
theorem zmR {D:Dt}{n:Nat}(h:D.kd n=2):kyl D (n+1)=kyl D n ++ [n]:=by
 unfold kyl;rw [List.range_succ,List.filter_append,List.filter_cons_of_pos (by simpa using h),List.filter_nil]
theorem kyl_no {D:Dt}{n:Nat}(h:D.kd n≠2):kyl D (n+1)=kyl D n:=by
 unfold kyl;rw [List.range_succ,List.filter_append,List.filter_cons_of_neg (by simpa using h),List.filter_nil,Xa1]
theorem dV_one {keys:List Nat}{g:Nat→Nat}{x:Nat}(h:x ∉ keys):putK (dV keys g) (Sum.inl (x:Int)) (.int (g x:Int))=dV (keys ++ [x]) g:=by
 rw [zmc h]
 congr 1
 funext k
 by_cases e:k=x
 ·rw [if_pos e,e]
 ·rw [if_neg e]
theorem zgj {f C:Addr}{cs:Nat→Addr}{fd:FuncData}(F:Fun K "_law_found" "_law_found" zcH f fd)(T:Blt mg)(G_law_who:Cal P w K mg base 3 "_law_who" ["rows","models","address"] spWhoL)(G_law_same:Cal P w K mg base 2 "_law_same" ["found","due"] (spSameL 1))(M_who:Mth P w K mg base 6 C "who" [] (fun vs _=>vs) (spWho C cs))(M_readq:Mth P w K mg base 7 C "read" ["quiet"] k21 (spRdB C cs))(Gmeets:Cal P w K mg base 1 "meets" ["row","address"] spMeet)(Gcell_at:Cal P w K mg base 3 "cell_at" ["row","address"] spCellR)(Ganswering:Cal P w K mg base 2 "answering" ["rows","address","words"] spAnsw)(Gunanswered:Cal P w K mg base 4 "unanswered" ["bits","rows","words"] spUnansw)(Gleast_hole:Cal P w K mg base 4 "least_hole" ["bits","rows","words"] spLeastH)
  (MK:∀ kd,kd<5→Mth P w K mg base 5 (cs kd) "look" [] (fun vs _=>vs) (spL26 cs kd)):FnOk P w K mg base CX0 8 f fd ["board","bits","rows","chips","models"] (spFound43 C cs):=by
 refine F.ok sc_law_found (by walk_at "l") (fun cdv A outer s H vs Q E hr h=>?_)
 ·obtain ⟨B,D,md,rw_,us,fl,CL,ML,rfl,m9,hB,S,eC,eM,M,d9,k⟩:=h
  refine ⟨_,(zab (@ps_L _ _ _ _ _ _ 5 sc_law_found.nd (@zb2 _ _) (by rfl) (by exact Or.inl rfl) (by rfl) (by walk_at "p"))
   (zab (@za4 _ _ _ _ _ _ _ _ PassesOwn.never rfl (@zaU _ _ _ _ _ _ rfl T.range (@zaa _ _ _ _ _ (@zao _ _ _ _ _ _ _ _ _ zar (by rfl) T.len PySem.boot_len (@zaa _ _ _ _ _ (@pv _ 4 _ _ (by rfl) (by walk_at "o") (by decide) (by decide)) (@zac _) (by rfl)) (by decide) (by decide) (by rfl) (by rfl)) (@zac _) (by rfl)) (by rfl)) (@pg_L _ _ _ 6 sc_law_found.nd (by rfl) (by exact Or.inl rfl) (by walk_at "p")) (@zaf _ _ _ (@zax _ _ _ _ _ _ _ _ (@zat _ _ _ _ _ _ _ _ zbk (@pe_x _ _ _ _ _ _ _ zam (@pe_x _ _ _ _ _ _ _ zam (@pv _ 4 _ _ (by rfl) (by walk_at "o") (by decide) (by decide)) (@pv _ 6 _ _ (by rfl) (by walk_at "o") (by decide) (by decide)) (by exact fun _ _=>rfl)) (@zae _ _ _ _) (by exact fun _ _=>rfl)) (@za1 _ _ _ _) (zav _)) (@zaf _ _ _ (@zmD _ _ _ _ _ _ _ _ _ (zeU hr) (@pv _ 5 _ _ (by rfl) (by walk_at "o") (by decide) (by decide)) (@pv _ 6 _ _ (by rfl) (by walk_at "o") (by decide) (by decide)) (@pe_x _ _ _ _ _ _ _ zam (@pe_x _ _ _ _ _ _ _ zam (@pe_x _ _ _ _ _ _ _ zam (@pv _ 4 _ _ (by rfl) (by walk_at "o") (by decide) (by decide)) (@pv _ 6 _ _ (by rfl) (by walk_at "o") (by decide) (by decide)) (by exact fun _ _=>rfl)) (@zae _ _ _ _) (by exact fun _ _=>rfl)) (@zae _ _ _ _) (by exact fun _ _=>rfl)) rfl)) (@zaq _))) (by intro _;rfl))
   (zab (@ps_L _ _ _ _ _ _ 7 sc_law_found.nd (@zay _ _ _ _ (@zac _)) (by rfl) (by exact Or.inl rfl) (by rfl) (by walk_at "p"))
   (zab (@ps_L _ _ _ _ _ _ 8 sc_law_found.nd (@zk9 _ _) (by rfl) (by exact Or.inl rfl) (by rfl) (by walk_at "p"))
   (zab (@za4 _ _ _ _ _ _ _ _ PassesOwn.never rfl (@zaU _ _ _ _ _ _ rfl T.range (@zaa _ _ _ _ _ (@zaj _ _ _ _ _ _ _ _ zc1 (@zae _ _ _ _) (@pv _ 1 _ _ (by rfl) (by walk_at "o") (by decide) (by decide))) (@zac _) (by rfl)) (by rfl)) (@pg_L _ _ _ 9 sc_law_found.nd (by rfl) (by exact Or.inl rfl) (by walk_at "p")) (@zab _ _ _ _ _ (@ps_L _ _ _ _ _ _ 10 sc_law_found.nd (@pe_c _ _ _ _ _ _ _ _ _ _ G_law_who (@zaa _ _ _ _ _ (@pv _ 2 _ _ (by rfl) (by walk_at "o") (by decide) (by decide)) (@zaa _ _ _ _ _ (@pv _ 4 _ _ (by rfl) (by walk_at "o") (by decide) (by decide)) (@zaa _ _ _ _ _ (@pv _ 9 _ _ (by rfl) (by walk_at "o") (by decide) (by decide)) (@zac _) (by rfl)) (by rfl)) (by rfl)) (by exact hrm (by assumption)) (by rfl) (by decide) (by rfl) (by rfl)) (by rfl) (by exact Or.inl rfl) (by rfl) (by walk_at "p")) (@zab _ _ _ _ _ (@zax _ _ _ _ _ _ _ _ (@zaO _ _ _ _ (@zaC _ _ _ (@pe_c _ _ _ _ _ _ _ _ _ _ G_law_same (@zaa _ _ _ _ _ (@za8 _ _ _ _ _ _ _ _ _ _ _ _ _ _ 6 ⟨rfl,rfl,rfl,rfl,rfl⟩ (hrm hr) _ (@pv _ 0 _ _ (by rfl) (by walk_at "o") (by decide) (by decide)) (@zaa _ _ _ _ _ (@pv _ 9 _ _ (by rfl) (by walk_at "o") (by decide) (by decide)) (@zac _) (by rfl)) (by rfl) (by rfl) (by rfl)) (@zaa _ _ _ _ _ (@pv _ 10 _ _ (by rfl) (by walk_at "o") (by decide) (by decide)) (@zac _) (by rfl)) (by rfl)) (by exact hrm (by assumption)) (by rfl) (by decide) (by rfl) (by rfl)) (by intro _;rfl))) (@zaf _ _ _ (@zap _ _ _ _ (@za0 _ _ _ _ _ (@zaa _ _ _ _ _ (@zb4 _ _ _ _) (@zaa _ _ _ _ _ (@zb2 _ _) (@zac _) (by rfl)) (by rfl))))) (@zaq _)) (@zab _ _ _ _ _ (@ps_L _ _ _ _ _ _ 11 sc_law_found.nd (@zcz _ _ _) (by rfl) (by exact Or.inl rfl) (by rfl) (by walk_at "p")) (@zab _ _ _ _ _ (@zax _ _ _ _ _ _ _ _ (@zbT _ _ _ _ _ _ (@zcj _ _ _ _ _ (@pv _ 10 _ _ (by rfl) (by walk_at "o") (by decide) (by decide))) (by first | exact zc4 _ (by decide) (by decide) | rfl)) (@zaf _ _ _ (@zaz _ _ _ _ (@zdz _ _ _ _ _ _ _ _ _ _ _ _ PySem.F.plainAttrs_list PySem.F.slot_list_append PySem.F.type_list_append zaW (@pv _ 7 _ _ (by rfl) (by walk_at "o") (by decide) (by decide)) (@zaa _ _ _ _ _ (@pv _ 9 _ _ (by rfl) (by walk_at "o") (by decide) (by decide)) (@zac _) (by rfl)) (by rfl) (by rfl) (by rfl) (by rfl) (by rfl)) (by rfl))) (@zab _ _ _ _ _ (@zbj _ _ _ _ _ _ (@pv _ 10 _ _ (by rfl) (by walk_at "o") (by decide) (by decide)) (@zba _ _ _ _ _ _ rfl (@zan _ _ _ _ _ (@pg_L _ _ _ 11 sc_law_found.nd (by rfl) (by exact Or.inl rfl) (by walk_at "p")) (@zan _ _ _ _ _ (@pg_L _ _ _ 12 sc_law_found.nd (by rfl) (by exact Or.inl rfl) (by walk_at "p")) (@zaM _) (by rfl)) (by rfl)) (by rfl) (by rfl)) (by rfl) (by rfl) (by rfl)) (@zab _ _ _ _ _ (@zaz _ _ _ _ (@zdz _ _ _ _ _ _ _ _ _ _ _ _ PySem.F.plainAttrs_list PySem.F.slot_list_append PySem.F.type_list_append zaW (@zdz _ _ _ _ _ _ _ _ _ _ _ _ PySem.F.plainAttrs_dict PySem.F.slot_dict_setdefault PySem.F.type_dict_setdefault (ze8 (zeU hr)) (@pv _ 8 _ _ (by rfl) (by walk_at "o") (by decide) (by decide)) (@zaa _ _ _ _ _ (@pv _ 10 _ _ (by rfl) (by walk_at "o") (by decide) (by decide)) (@zaa _ _ _ _ _ (@zay _ _ _ _ (@zac _)) (@zac _) (by rfl)) (by rfl)) (by rfl) (by rfl) (by rfl) (by rfl) (by rfl)) (@zaa _ _ _ _ _ (@pv _ 9 _ _ (by rfl) (by walk_at "o") (by decide) (by decide)) (@zac _) (by rfl)) (by rfl) (by rfl) (by rfl) (by rfl) (by rfl)) (by rfl)) (@zab _ _ _ _ _ (@zax _ _ _ _ _ _ _ _ (@PW.pt _ _ _ (@zb9 _ _ _ _ _ _ _ (@zaO _ _ _ _ (@zaC _ _ _ (@pe_c _ _ _ _ _ _ _ _ _ _ Gmeets (@zaa _ _ _ _ _ (@pe_x _ _ _ _ _ _ _ zaw (@pv _ 2 _ _ (by rfl) (by walk_at "o") (by decide) (by decide)) (@pv _ 11 _ _ (by rfl) (by walk_at "o") (by decide) (by decide)) (by exact fun _ _=>rfl)) (@zaa _ _ _ _ _ (@pv _ 9 _ _ (by rfl) (by walk_at "o") (by decide) (by decide)) (@zac _) (by rfl)) (by rfl)) (by exact hrm (by assumption)) (by rfl) (by decide) (by rfl) (by rfl)) (by intro _;rfl))) (@zbx _ _ _ _ (@zat _ _ _ _ _ _ _ _ zhi (@pe_c _ _ _ _ _ _ _ _ _ _ Gcell_at (@zaa _ _ _ _ _ (@pe_x _ _ _ _ _ _ _ zaw (@pv _ 2 _ _ (by rfl) (by walk_at "o") (by decide) (by decide)) (@pv _ 11 _ _ (by rfl) (by walk_at "o") (by decide) (by decide)) (by exact fun _ _=>rfl)) (@zaa _ _ _ _ _ (@pv _ 9 _ _ (by rfl) (by walk_at "o") (by decide) (by decide)) (@zac _) (by rfl)) (by rfl)) (by exact hrm (by assumption)) (by rfl) (by decide) (by rfl) (by rfl)) (@pv _ 12 _ _ (by rfl) (by walk_at "o") (by decide) (by decide)) (zav _))))) (@zaf _ _ _ (@zap _ _ _ _ (@za0 _ _ _ _ _ (@zaa _ _ _ _ _ (@zb4 _ _ _ _) (@zaa _ _ _ _ _ (@zb2 _ _) (@zac _) (by rfl)) (by rfl))))) (@zaq _)) (@zaf _ _ _ (@zax _ _ _ _ _ _ _ _ (@zaO _ _ _ _ (@zaC _ _ _ (@pe_c _ _ _ _ _ _ _ _ _ _ G_law_same (@zaa _ _ _ _ _ (@zk7 _ _ _ _ _ _ _ _ _ _ _ _ _ _ _ _ _ 7 ⟨rfl,rfl,rfl,rfl,rfl⟩ (hrm hr) _ (@pv _ 0 _ _ (by rfl) (by walk_at "o") (by decide) (by decide)) (@zaa _ _ _ _ _ (@pv _ 9 _ _ (by rfl) (by walk_at "o") (by decide) (by decide)) (@zac _) (by rfl)) (@zmF _ _ _ _ _ _ _ (@zb4 _ _ _ _) (@pk_nil _)) (by rfl) (by rfl) (by rfl) (by rfl) (by rfl)) (@zaa _ _ _ _ _ (@za8 _ _ _ _ _ _ _ _ _ _ _ _ _ _ 5 ⟨rfl,rfl,rfl,rfl,rfl⟩ (hrm hr) _ (@pe_x _ _ _ _ _ _ _ zam (@pv _ 3 _ _ (by rfl) (by walk_at "o") (by decide) (by decide)) (@pe_x _ _ _ _ _ _ _ zaw (@pe_x _ _ _ _ _ _ _ zaw (@pv _ 2 _ _ (by rfl) (by walk_at "o") (by decide) (by decide)) (@pv _ 11 _ _ (by rfl) (by walk_at "o") (by decide) (by decide)) (by exact fun _ _=>rfl)) (@zae _ _ _ _) (by exact fun _ _=>rfl)) (by exact fun _ _=>rfl)) (@zaa _ _ _ _ _ (@pv _ 12 _ _ (by rfl) (by walk_at "o") (by decide) (by decide)) (@zac _) (by rfl)) (by rfl) (by rfl) (by rfl)) (@zac _) (by rfl)) (by rfl)) (by exact hrm (by assumption)) (by rfl) (by decide) (by rfl) (by rfl)) (by intro _;rfl))) (@zaf _ _ _ (@zap _ _ _ _ (@za0 _ _ _ _ _ (@zaa _ _ _ _ _ (@zb4 _ _ _ _) (@zaa _ _ _ _ _ (@zb2 _ _) (@zac _) (by rfl)) (by rfl))))) (@zaq _))))))) (@zaf _ _ _ (@zax _ _ _ _ _ _ _ _ (@zaO _ _ _ _ (@zaC _ _ _ (@pe_c _ _ _ _ _ _ _ _ _ _ G_law_same (@zaa _ _ _ _ _ (@pe_c _ _ _ _ _ _ _ _ _ _ Ganswering (@zaa _ _ _ _ _ (@pv _ 2 _ _ (by rfl) (by walk_at "o") (by decide) (by decide)) (@zaa _ _ _ _ _ (@pv _ 9 _ _ (by rfl) (by walk_at "o") (by decide) (by decide)) (@zaa _ _ _ _ _ (@pv _ 5 _ _ (by rfl) (by walk_at "o") (by decide) (by decide)) (@zac _) (by rfl)) (by rfl)) (by rfl)) (by exact hrm (by assumption)) (by rfl) (by decide) (by rfl) (by rfl)) (@zaa _ _ _ _ _ (@pv _ 11 _ _ (by rfl) (by walk_at "o") (by decide) (by decide)) (@zac _) (by rfl)) (by rfl)) (by exact hrm (by assumption)) (by rfl) (by decide) (by rfl) (by rfl)) (by intro _;rfl))) (@zaf _ _ _ (@zap _ _ _ _ (@za0 _ _ _ _ _ (@zaa _ _ _ _ _ (@zb4 _ _ _ _) (@zaa _ _ _ _ _ (@zb2 _ _) (@zac _) (by rfl)) (by rfl))))) (@zaq _))))))) (by intro _;rfl))
   (zab (@ps_L _ _ _ _ _ _ 13 sc_law_found.nd (@zcz _ _ _) (by rfl) (by exact Or.inl rfl) (by rfl) (by walk_at "p"))
   (zab (@zax _ _ _ _ _ _ _ _ (@zat _ _ _ _ _ _ _ _ (zjI (Nat.lt_of_succ_lt (zeU hr)) (K:=K) rfl) (@pv _ 7 _ _ (by rfl) (by walk_at "o") (by decide) (by decide)) (@zay _ _ _ _ (@zac _)) (zav _)) (@zaf _ _ _ (@ps_L _ _ _ _ _ _ 13 sc_law_found.nd (@pe_x _ _ _ _ _ _ _ zam (@pv _ 7 _ _ (by rfl) (by walk_at "o") (by decide) (by decide)) (@zae _ _ _ _) (by exact fun _ _=>rfl)) (by rfl) (by exact Or.inl rfl) (by rfl) (by walk_at "p"))) (@zaq _))
   (zab (@ps_L _ _ _ _ _ _ 14 sc_law_found.nd (@zbB _ _ _ _ _ _ _ (@pe_c _ _ _ _ _ _ _ _ _ _ G_law_same (@zaa _ _ _ _ _ (@pe_c _ _ _ _ _ _ _ _ _ _ Gunanswered (@zaa _ _ _ _ _ (@pv _ 1 _ _ (by rfl) (by walk_at "o") (by decide) (by decide)) (@zaa _ _ _ _ _ (@pv _ 2 _ _ (by rfl) (by walk_at "o") (by decide) (by decide)) (@zaa _ _ _ _ _ (@pv _ 5 _ _ (by rfl) (by walk_at "o") (by decide) (by decide)) (@zac _) (by rfl)) (by rfl)) (by rfl)) (by exact hrm ( by assumption )) (by rfl) (by decide) (by rfl) (by rfl)) (@zaa _ _ _ _ _ (@zao _ _ _ _ _ _ _ _ _ zar (by rfl) T.len PySem.boot_len (@zaa _ _ _ _ _ (@pv _ 7 _ _ (by rfl) (by walk_at "o") (by decide) (by decide)) (@zac _) (by rfl)) (by decide) (by decide) (by rfl) (by rfl)) (@zac _) (by rfl)) (by rfl)) (by exact hrm ( by assumption )) (by rfl) (by decide) (by rfl) (by rfl)) (@zbz _ _ _ _ _ (@pe_c _ _ _ _ _ _ _ _ _ _ G_law_same (@zaa _ _ _ _ _ (@pe_c _ _ _ _ _ _ _ _ _ _ Gleast_hole (@zaa _ _ _ _ _ (@pv _ 1 _ _ (by rfl) (by walk_at "o") (by decide) (by decide)) (@zaa _ _ _ _ _ (@pv _ 2 _ _ (by rfl) (by walk_at "o") (by decide) (by decide)) (@zaa _ _ _ _ _ (@pv _ 5 _ _ (by rfl) (by walk_at "o") (by decide) (by decide)) (@zac _) (by rfl)) (by rfl)) (by rfl)) (by exact hrm ( by assumption )) (by rfl) (by decide) (by rfl) (by rfl)) (@zaa _ _ _ _ _ (@pv _ 13 _ _ (by rfl) (by walk_at "o") (by decide) (by decide)) (@zac _) (by rfl)) (by rfl)) (by exact hrm ( by assumption )) (by rfl) (by decide) (by rfl) (by rfl)))) (by rfl) (by exact Or.inl rfl) (by rfl) (by walk_at "p"))
   (zaf (@zap _ _ _ _ (@za0 _ _ _ _ _ (@zaa _ _ _ _ _ (@pv _ 14 _ _ (by rfl) (by walk_at "o") (by decide) (by decide)) (@zaa _ _ _ _ _ (@pv _ 8 _ _ (by rfl) (by walk_at "o") (by decide) (by decide)) (@zac _) (by rfl)) (by rfl))))))))))))),?rd⟩
  have hR:=hB.rf
  refine fun wd hwd=>?_
  have sw:=zag (o:=.dK []) hwd
  refine ⟨_,rfl,ML,_,rfl,.inl (SqL.of (sw _ _ eM)),_,rfl,by omega,by rw [zfK];omega,?_⟩
  rw [Xag,zfK]
  refine zbb (n:=D.m) (fun i σ X=>∃ (v6:Option V),σ=[some (.ref B.b),some (.int (B.bits:Int)),some (.ref B.R),some (.ref CL),some (.ref ML),some (.ref wd),v6,none,none,none,none,none,none,none,none]∧X=upd H wd (.dK (dV (kyl D i) (hld us)))) ⟨_,rfl,rfl⟩ ?_ ?_
  ·rintro i σ X hi ⟨v6,rfl,rfl⟩
   rw [XbS]
   have sX:=zag (o:=.dK (dV (kyl D i) (hld us))) hwd
   have dc:=(M.same sX).o i hi
   have kn:decide (V.str (zbE (D.kd i))=V.str "latch")=decide (D.kd i=2):=zbJ (j:=2) (M.k i hi).k5 (by decide)
   refine ⟨_,rfl,_,rfl,ML,_,_,_,rfl,rfl,SqL.of (sX _ _ eM),zaA (zeM hi),md i,_,_,_,rfl,rfl,SqL.of dc.at_,rfl,rfl,_,rfl,?_⟩
   rw [kn]
   by_cases h2:D.kd i=2
   ·rw [Xah h2]
    have e1:(vN (us i))[0]? = some (V.int (hld us i:Int)):=by
     have h1:=M.h1 i hi (.inl h2)
     unfold hld
     cases hu:us i with
     | nil=>rw [hu] at h1;cases h1
     | cons y l=>rfl
    refine iteT ⟨_,rfl,_,rfl,ML,_,_,_,rfl,rfl,SqL.of (sX _ _ eM),zaA (zeM hi),md i,_,_,_,rfl,rfl,SqL.of dc.at_,rfl,rw_ i,_,_,_,rfl,rfl,SqL.of dc.ls,(zaA (j:=0) e1:atI _ ((0:Nat):Int)=_),_,rfl,_,rfl,wd,_,rfl,.inl ⟨dV (kyl D i) (hld us),.inl (i:Int),zad,rfl,?_,rfl⟩,_,rfl,?_⟩
    ·have:=XbH (fun k=>decide (D.kd k=2)) (List.range i)
     rw [Xa9] at this
     show (dV (kyl D i) (hld us)).length<sizeLine
     rw [dV_len]
     unfold kyl
     rw [sizeLine_eq];omega
    ·rw [zmo,dV_one (fun z=>XaU _ (kyl_lt z)),zmR h2]
   ·rw [Xai h2]
    exact iteF (zau ⟨_,rfl,by rw [kyl_no h2]⟩)
  rintro σ X ⟨v6,rfl,rfl⟩
  have sW:=zag (o:=.dK (dV (kyl D D.m) (hld us))) hwd
  have eW:=zad (H:=H) (a:=wd) (o:=.dK (dV (kyl D D.m) (hld us)))
  generalize upd H wd (.dK (dV (kyl D D.m) (hld us)))=H1 at *
  refine ⟨by show 0≤sizeLine;decide,fun hs hhs=>?_⟩
  try dsimp only [zaT,List.set]
  refine fun sn hsn=>?_
  try dsimp only [zaT,List.set]
  have nsw:sn≠wd:=fun z=>by rw [z,zai (zak eW hhs),eW] at hsn;cases hsn
  have nsh:sn≠hs:=fun z=>by rw [z,zad] at hsn;cases hsn
  have nhw:hs≠wd:=fun z=>by rw [z,eW] at hhs;cases hhs
  have g1:=zag (o:=.lst []) hhs
  have g2:=zag (o:=.dT []) hsn
  have Hhs:H hs=none:=sW.free hhs
  have Hsn:H sn=none:=(sW.trans g1).free hsn
  have e2:(1:Int) * 2 ^ ((B.bits:Nat):Int).toNat=((2 ^ B.bits:Nat):Int):=by rw [Int.one_mul,Xag];norm_cast
  have hp2:2 ^ B.bits≤512:=Xam (XaB (by decide) m9) (by decide)
  refine ⟨_,rfl,_,_,rfl,rfl,⟨by omega,by omega,by decide⟩,((2 ^ B.bits:Nat):Int),congrArg (fun x=>[V.int x]) e2,by omega,by omega,?_⟩
  rw [Xag]
  
  have hWk:∀ z∈B.ws,awk z.2 (wrd (kyl D D.m) (hld us))=awk z.2 (hld us):=fun z hz=>by
   unfold awk
   cases hl:z.2.l with
   | none=>rfl
   | some o =>
    obtain ⟨c,a,b⟩:=o
    obtain ⟨q1,q2⟩:=(hR.f z hz).2.2 c a b hl
    have:wrd (kyl D D.m) (hld us) c=hld us c:=by unfold wrd;rw [if_pos (zmS q1 q2)]
    show decide (wrd (kyl D D.m) (hld us) c &&& a=b)=decide (hld us c &&& a=b)
    rw [this]
  have hfst:∀ x,fstA (B.ws.map (·.2)) x (wrd (kyl D D.m) (hld us))=match whoM B.ws us x with | none=>.non | some i=>.int (i:Int):=fun x=>by
   show fstA _ _ _=fstA (B.ws.map (·.2)) x (hld us)
   unfold fstA
   rw [zdE (q:=fun r=>ans r x (hld us)) fun r hr=>?_]
   obtain ⟨z,hz,rfl⟩:=XaF.mp hr
   unfold ans
   rw [hWk z hz]
  have haw:awks B.ws (wrd (kyl D D.m) (hld us))=awks B.ws (hld us):=by
   unfold awks
   rw [List.filter_congr fun z hz=>hWk z hz]
  refine zbb (n:=2 ^ B.bits) (fun i σ X=>∃ (v9 v10 v11 v12:Option V) (kvs:List (List Key×V)),σ=[some (.ref B.b),some (.int (B.bits:Int)),some (.ref B.R),some (.ref CL),some (.ref ML),some (.ref wd),v6,some (.ref hs),some (.ref sn),v9,v10,v11,v12,none,none]∧Same H X∧X wd=some (.dK (dV (kyl D D.m) (hld us)))∧X hs=some (.lst (vN (smH (awks B.ws (hld us)) i)))∧Sn H B.ws us sn hs wd i X kvs) ⟨_,_,_,_,[],rfl,sW.trans (g1.trans g2),g2 _ _ (g1 _ _ eW),g2 _ _ zad,⟨zad,Xae _,fun j c=>zmu _ _ _ _,fun j c j' c' l h=>nomatch h⟩⟩ ?_ ?_
  ·rintro i σ X hi ⟨v9,v10,v11,v12,kvs,rfl,sX,eWX,ehX,hSn⟩
   rw [XbS]
   try dsimp only [zaT,List.set]
   obtain ⟨db,eb⟩:=hB.e
   have lnh:=zmv (awks B.ws (hld us)) i
   cases hw:whoM B.ws us i with
   | none =>
    refine ⟨_,rfl,_,rfl,_,rfl,B.R,ML,D,md,rw_,us,B.ws,B.bits,i,rfl,hR.same sX,by omega,sX _ _ eM,M.same sX,fun _ X1 s1=>?_,fun j z h=>by rw [hw] at h;cases h⟩
    have S1:=sX.trans s1
    try dsimp only [zaT,List.set]
    refine ⟨_,rfl,B.b,C,db,_,_,_,rfl,S1 _ _ eb,M_who,rfl,_,rfl,B,D,us,fl,i,rfl,hB.same S1,S.same S1,hi,fun _ X2 s2=>?_,fun j z h=>by rw [zhP hB,hw] at h;cases h⟩
    refine ⟨_,rfl,_,_,rfl,.inl ⟨rfl,rfl⟩,fun X3 s3=>⟨_,rfl,iteF (zau ?_)⟩⟩
    try dsimp only [zaT,List.set]
    have s13:=s1.trans (s2.trans s3)
    have S3:=sX.trans s13
    have ehX3:=s13 _ _ ehX
    refine ⟨_,rfl,_,rfl,iteT ⟨_,rfl,.inl ⟨rfl,_,SqL.of ehX3⟩,_,rfl,hs,_,_,rfl,rfl,ehX3,by rw [zal,sizeLine_eq];omega,?_⟩⟩
    have sh:∀ {a:Addr} {o:HO},a≠hs→X3 a=some o→upd X3 hs (.lst (vN (smH (awks B.ws (hld us)) i) ++ [V.int (i:Int)])) a=some o:=fun n e=>by rw [zai n];exact e
    have S4:Same H (upd X3 hs (.lst (vN (smH (awks B.ws (hld us)) i) ++ [V.int (i:Int)]))):=fun a o e=>sh (zak e Hhs) (S3 _ _ e)
    have eh4:upd X3 hs (.lst (vN (smH (awks B.ws (hld us)) i) ++ [V.int (i:Int)])) hs=some (.lst (vN (smH (awks B.ws (hld us)) (i+1)))):=by
     rw [zad,zhV,if_pos (hole_iff.mpr hw),zbn]
    have ew4:=sh (Ne.symm nhw) (s13 _ _ eWX)
    have hSn4:Sn H B.ws us sn hs wd (i+1) (upd X3 hs (.lst (vN (smH (awks B.ws (hld us)) i) ++ [V.int (i:Int)]))) kvs:=by
     refine ⟨sh nsh (s13 _ _ hSn.e),Nat.le_succ_of_le hSn.ln,fun j c=>?_,hSn.inj⟩
     have g:=hSn.g j c
     rw [zg1 (fun z hz h=>by rw [hw] at h;cases h.1)]
     cases hv:valV kvs (ky j c) with
     | none=>rw [hv] at g;exact g
     | some v =>
      rw [hv] at g
      obtain ⟨l,e1,e2,e3,e4,e5,e6⟩:=g
      exact ⟨l,e1,sh e5 (s13 _ _ e2),e3,e4,e5,e6⟩
    generalize upd X3 hs (.lst (vN (smH (awks B.ws (hld us)) i) ++ [V.int (i:Int)]))=X4 at *
    try dsimp only
    refine ⟨_,rfl,_,rfl,_,rfl,B.R,wd,i,B.ws,kyl D D.m,hld us,rfl,S4 _ _ hR.e,fun z hz=>((hR.same S4).r z hz).1,ew4,fun X5 s5=>?_⟩
    rw [hfst,hw]
    try dsimp only
    refine ⟨_,rfl,_,_,rfl,.inl ⟨rfl,rfl⟩,fun X6 s6=>⟨_,rfl,iteF (zau ?_)⟩⟩
    have s46:=s5.trans s6
    exact ⟨_,_,_,_,kvs,rfl,S4.trans s46,s46 _ _ ew4,s46 _ _ eh4,hSn4.same s46⟩
   | some j =>
    obtain ⟨z,hz,hans⟩:=zdV hw
    have hzm:=Xas hz
    refine ⟨_,rfl,_,rfl,_,rfl,B.R,ML,D,md,rw_,us,B.ws,B.bits,i,rfl,hR.same sX,by omega,sX _ _ eM,M.same sX,(fun h=>by rw [hw] at h;cases h),fun j' z' h hz' t X1 ht et s1=>?_⟩
    rw [hw] at h
    cases h
    rw [hz] at hz'
    cases hz'
    have S1:=sX.trans s1
    try dsimp only [zaT,List.set]
    refine ⟨_,rfl,B.b,C,db,_,_,_,rfl,S1 _ _ eb,M_who,rfl,_,rfl,B,D,us,fl,i,rfl,hB.same S1,S.same S1,hi,(fun h=>by rw [zhP hB,hw] at h;cases h),fun j' z' h hz' t2 X2 ht2 et2 s2=>?_⟩
    rw [zhP hB,hw] at h
    cases h
    rw [hz] at hz'
    cases hz'
    refine ⟨_,rfl,_,_,rfl,.inr (.seq (t:=true) et2 (s2 _ _ et) rfl (by show 2≤sizeLine;decide) fun u x y h1 h2=>?_),fun X3 s3=>⟨_,rfl,iteF (zau ?_)⟩⟩
    ·rw [h1] at h2;cases h2
     rcases (show u=0∨u=1 by have:=(Xaf.mp h1).1;simp at this;omega) with rfl | rfl <;> cases h1 <;> exact .int _
    try dsimp only [zaT,List.set]
    have s13:=s1.trans (s2.trans s3)
    have S3:=sX.trans s13
    have et3:=s3 _ _ (s2 _ _ et)
    refine ⟨_,rfl,_,rfl,iteF ?_⟩
    refine ⟨_,rfl,zid et3 ?_⟩
    try dsimp only [zaT,List.set]
    have hSn3:=hSn.same s13
    have ew3:=s13 _ _ eWX
    have eh3:=s13 _ _ ehX
    
    refine zaZ (fun σ Y=>∃ kvs',σ=[some (.ref B.b),some (.int (B.bits:Int)),some (.ref B.R),some (.ref CL),some (.ref ML),some (.ref wd),v6,some (.ref hs),some (.ref sn),some (.int (i:Int)),some (.ref t),some (.int (j:Int)),some (.int (gath z.2.i i:Int)),none,none]∧Same H Y∧Y wd=some (.dK (dV (kyl D D.m) (hld us)))∧Y hs=some (.lst (vN (smH (awks B.ws (hld us)) (i+1))))∧Sn H B.ws us sn hs wd (i+1) Y kvs') (fun N hN=>?_) ?_
    ·have smh:smH (awks B.ws (hld us)) (i+1)=smH (awks B.ws (hld us)) i:=by
      rw [zhV,if_neg (fun h=>by rw [hole_iff,hw] at h;cases h),Xa1]
     refine ⟨_,rfl,.inr (.inr (.inl ⟨rfl,.inr ⟨_,hSn3.e⟩⟩)),_,rfl,by show 0≤sizeLine;decide,fun q hq=>⟨sn,t,kvs,ky j (gath z.2.i i),_,rfl,rfl,zag hq _ _ hSn3.e,zag hq _ _ et3,by have:=hSn3.ln;omega,fun v hv=>?_,fun hv=>?_⟩⟩
     ·have gl:=hSn3.g j (gath z.2.i i)
      rw [hv] at gl
      obtain ⟨l,rfl,el,f3,f4,f5,f6,f7⟩:=gl
      have el2:=zag (o:=.lst []) hq _ _ el
      have lnq:=zlR B.ws us i j (gath z.2.i i)
      refine ⟨.inl ⟨rfl,_,SqL.of el2⟩,_,rfl,l,_,_,rfl,rfl,el2,by rw [zal,sizeLine_eq];omega,?_⟩
      have kp:∀ a o,a≠l→X3 a=some o→upd (upd X3 q (.lst [])) l (.lst (vN (sq B.ws us i j (gath z.2.i i)) ++ [V.int (i:Int)])) a=some o:=fun a o n e=>by rw [zai n];exact zag hq _ _ e
      exact hN _ _ ⟨kvs,rfl,fun a o e=>kp _ _ (zak e f3) (S3 _ _ e),kp _ _ (Ne.symm f6) ew3,by rw [smh];exact kp _ _ (Ne.symm f5) eh3,hSn3.hit hz hw hv zad kp⟩
     ·have n1:q≠sn:=fun e=>by rw [e,hSn3.e] at hq;cases hq
      have n2:q≠hs:=fun e=>by rw [e,eh3] at hq;cases hq
      have n3:q≠wd:=fun e=>by rw [e,ew3] at hq;cases hq
      have eq:upd (upd X3 q (.lst [])) sn (.dT (putK kvs (ky j (gath z.2.i i)) (.ref q))) q=some (.lst []):=by rw [zai n1,zad]
      refine ⟨.inl ⟨rfl,_,SqL.of eq⟩,_,rfl,q,_,_,rfl,rfl,eq,by rw [sizeLine_eq];decide,?_⟩
      have kp:∀ a o,a≠q→a≠sn→X3 a=some o→upd (upd (upd X3 q (.lst [])) sn (.dT (putK kvs (ky j (gath z.2.i i)) (.ref q)))) q (.lst ([] ++ [V.int (i:Int)])) a=some o:=fun a o a1 a2 e=>by rw [zai a1,zai a2,zai a1];exact e
      refine hN _ _ ⟨_,rfl,fun a o e=>kp _ _ (zak (S3 _ _ e) hq) (zak e Hsn) (S3 _ _ e),kp _ _ (Ne.symm n3) (Ne.symm nsw) ew3,by rw [smh];exact kp _ _ (Ne.symm n2) (Ne.symm nsh) eh3,hSn3.new hz hw hv hq (S3.free hq) n1 n2 n3 zad ?_ kp⟩
      rw [zai (Ne.symm n1),zad]
    rintro σ Y ⟨kvs',rfl,SY,ewY,ehY,hSnY⟩
    have hmet:met z.2 i=true:=(Xbs.mp (show (met z.2 i && awk z.2 (hld us))=true from hans)).1
    have rwY:∀ {Z:Hp},Same Y Z→RwAt Z z.1 z.2:=fun s=>((hR.same (SY.trans s)).r z hzm).1
    have hat:=zaA (zev hz)
    have hRY:=SY _ _ hR.e
    refine ⟨_,rfl,_,rfl,B.R,_,_,_,rfl,rfl,SqT.of hRY,hat,_,rfl,z.1,z.2,i,rfl,rwY (Same.refl _),_,rfl,?_⟩
    rw [hmet]
    have hi64:z.2.i<2 ^ 64:=Xak (hR.r z hzm).2.i0 (XaB (by decide) (by omega))
    refine iteF ⟨_,rfl,_,rfl,B.R,_,_,_,rfl,rfl,SqT.of hRY,hat,_,rfl,z.1,z.2,i,rfl,rwY (Same.refl _),hi64,fun X4 s4=>⟨_,rfl,rfl,_,rfl,?_⟩⟩
    rw [Xah rfl]
    refine iteF (zau ?_)
    have S4:=SY.trans s4
    try dsimp only [zaT,List.set]
    
    have whoE:whoI B us i=some j:=by rw [zhP hB];exact hw
    have ev:rdW B D us fl i=klk (D.kd z.2.c) (us z.2.c) (gath z.2.i i):=by unfold rdW;rw [whoE];dsimp only;rw [hz]
    obtain ⟨f1,f2,f3⟩:=hR.f z hzm
    have hcell:gath z.2.i i<ksize (D.kd z.2.c) (us z.2.c):=by rw [S.z _ f1];exact Xak (zhI _ _) f2
    refine ⟨_,rfl,B.b,C,db,_,_,_,rfl,S4 _ _ eb,M_readq,rfl,_,rfl,B,D,us,fl,i,true,rfl,hB.same S4,S.same S4,hi,(fun _ X5 s5=>?_),fun h=>by cases h⟩
    have S5:=S4.trans s5
    have oc:=(S.same S5).o _ f1
    obtain ⟨dx,ex⟩:=oc.ex
    obtain ⟨lv',et',_⟩:=((hR.same S5).r z hzm).1
    refine ⟨_,rfl,_,rfl,_,rfl,B.R,_,_,_,rfl,rfl,SqT.of (S5 _ _ hR.e),hat,z.1,_,_,_,rfl,rfl,SqT.of et',rfl,CL,_,_,_,rfl,rfl,SqL.of (S5 _ _ eC),zaA (zfm f1),D.x z.2.c,cs (D.kd z.2.c),dx,_,_,_,rfl,ex,MK _ (S.k _ f1).k5,lkn _,_,rfl,_,_,_,_,_,rfl,oc,S.k _ f1,hcell,?_⟩
    rw [ev]
    refine ⟨_,_,rfl,.inr (.int _),fun X6 s6=>⟨_,rfl,iteF (zau ?_)⟩⟩
    have s46:=s4.trans (s5.trans s6)
    have S6:=SY.trans s46
    try dsimp only
    refine ⟨_,rfl,_,rfl,_,rfl,B.R,wd,i,B.ws,kyl D D.m,hld us,rfl,S6 _ _ hR.e,fun z hz=>((hR.same S6).r z hz).1,s46 _ _ ewY,fun X7 s7=>?_⟩
    rw [hfst,hw]
    try dsimp only
    refine ⟨_,rfl,_,_,rfl,.inr (.int _),fun X8 s8=>⟨_,rfl,iteF (zau ?_)⟩⟩
    have s68:=s46.trans (s7.trans s8)
    exact ⟨_,_,_,_,kvs',rfl,SY.trans s68,s68 _ _ ewY,s68 _ _ ehY,hSnY.same s68⟩
  rintro σ X ⟨v9,v10,v11,v12,kvs,rfl,sX,eWX,ehX,hSn⟩
  try dsimp only [zaT,List.set]
  refine zaZ (fun σ Y=>σ=[some (.ref B.b),some (.int (B.bits:Int)),some (.ref B.R),some (.ref CL),some (.ref ML),some (.ref wd),v6,some (.ref hs),some (.ref sn),v9,v10,v11,v12,some .non,none]∧Y=X) (fun N hN=>?_) ?_
  ·exact hN _ _ ⟨rfl,rfl⟩
  rintro σ Y ⟨rfl,rfl⟩
  
  refine zaZ (fun σ X=>σ=[some (.ref B.b),some (.int (B.bits:Int)),some (.ref B.R),some (.ref CL),some (.ref ML),some (.ref wd),v6,some (.ref hs),some (.ref sn),v9,v10,v11,v12,some (hdN (smH (awks B.ws (hld us)) (2 ^ B.bits))),none]∧Same Y X) (fun N hN=>?_) ?_
  ·refine ⟨_,rfl,by show 0≤sizeLine;decide,fun e he=>⟨hs,e,_,rfl,rfl,SqL.of (zag he _ _ ehX),SqL.of zad,_,rfl,?_⟩⟩
   have se:=zag (o:=.lst []) he
   cases hl:smH (awks B.ws (hld us)) (2 ^ B.bits) with
   | nil=>rw [hl] at hN;exact iteF (zau (hN _ _ ⟨rfl,se⟩))
   | cons x r =>
    rw [hl] at hN ehX
    refine iteT ⟨_,rfl,hs,_,_,.int (x:Int),rfl,rfl,SqL.of (se _ _ ehX),(zaA (j:=0) rfl:atI _ ((0:Nat):Int)=_),?_⟩
    exact hN _ _ ⟨rfl,se⟩
  rintro σ X ⟨rfl,sY⟩
  have SY:=sX.trans sY
  have eWY:=sY _ _ eWX
  have hRs:=hR.same SY
  refine ⟨_,rfl,_,rfl,_,rfl,B.R,wd,B.bits,B.ws,kyl D D.m,hld us,rfl,by omega,hRs.e,by have:=hR.ln;omega,hRs.r,hR.nc,eWY,fun X1 s1=>?_⟩
  rw [haw,zj3]
  refine ⟨_,rfl,hs,_,rfl,.inl (SqL.of (s1 _ _ (sY _ _ ehX))),?_⟩
  rw [zal]
  refine ⟨_,_,rfl,.inr (.int _),fun X2 s2=>⟨_,rfl,iteT ?_⟩⟩
  have t2:=s1.trans s2
  have S2:=SY.trans t2
  have hR2:=hR.same S2
  have ok:=hSn.ok hR.nc fun z hz=>(hR.r z hz).2
  have fin:∀ X4,Same X2 X4→∀ t,X4 t=none→Q (.ref t) (upd X4 t (.tup [.bl true,.ref sn])):=fun X4 s4 t ht=>by
   have S4:=sY.trans (t2.trans (s4.trans (zag (o:=.tup [V.bl true,.ref sn]) ht)))
   exact k t sn kvs _ zad (S4 _ _ hSn.e) (ok.same S4) (sX.trans S4)
  refine ⟨_,rfl,_,rfl,_,rfl,B.R,wd,B.bits,B.ws,kyl D D.m,hld us,rfl,by omega,hR2.e,by have:=hR.ln;omega,hR2.r,hR.nc,t2 _ _ eWY,fun h0 X3 s3=>?_,fun x hx h1 h0 X3 s3=>?_⟩
  ·rw [haw,zj3] at h0
   rw [List.length_eq_zero_iff.mp h0]
   exact ⟨_,rfl,_,_,rfl,.inl ⟨rfl,rfl⟩,fun X4 s4=>⟨_,rfl,_,rfl,by show 2≤sizeLine;decide,fun t ht=>fin X4 (s3.trans s4) t ht⟩⟩
  ·rw [haw] at h0 h1
   rw [← zll hx h1 h0]
   exact ⟨_,rfl,_,_,rfl,.inr (.int _),fun X4 s4=>⟨_,rfl,_,rfl,by show 2≤sizeLine;decide,fun t ht=>fin X4 (s3.trans s4) t ht⟩⟩
abbrev zdq:Stmt:=top 86
theorem sc_law_held:FnScope ["cell","row","bits","rows","chips","models","board","turn","right","seen","k"] ["cell"] (zah zdq):=sck rfl rfl rfl (by decide +kernel)
theorem md_rw {D:Dt}{md rw:Nat→Addr}{Y:Hp}{us:Nat→List Nat}(M:Mod D md rw Y us){i j:Nat}(hi:i<D.m)(hj:j<D.m):md i≠rw j:=fun z=>by
 have l:=(M.o i hi).at_
 rw [z,(M.o j hj).ls] at l
 exact zhS (HO.lst.inj (Option.some.inj l))
theorem Mod.put {D:Dt}{md rw:Nat→Addr}{i:Nat}{Y Z:Hp}{us:Nat→List Nat}{vs:List Nat}(M:Mod D md rw Y us)(hi:i<D.m)(kv:Kd (D.kd i) (D.n i) vs)(hz:ksize (D.kd i) vs=ksize (D.kd i) (us i))(e:Z (rw i)=some (.lst (vN vs)))(k:zlN (rw i) Y Z):Mod D md rw Z (wset us i vs):=by
 refine ⟨fun j h=>⟨k _ _ (md_rw M h hi) (M.o j h).at_,?_⟩,fun j h=>?_,fun j h=>?_,fun j h=>?_,M.inj⟩
 ·unfold wset
  by_cases ej:j=i
  ·subst ej;rw [if_pos rfl];exact e
  ·rw [if_neg ej];exact k _ _ (fun z=>ej (M.inj j i h hi z)) (M.o j h).ls
 all_goals
  unfold wset
  by_cases ej:j=i
  ·subst ej
   rw [if_pos rfl]
   first | exact kv | exact k1_of (M.h1 j h) hz | exact hz.trans (M.z j h)
  ·rw [if_neg ej]
   first | exact M.k j h | exact M.h1 j h | exact M.z j h
theorem BdAt.lists {C:Addr}{B:Bd}{D:Dt}{Y Z:Hp}{f:Nat}(h:BdAt C B D Y f)(k:∀ a o,(∀ l,o≠.lst l)→Y a=some o→Z a=some o)(e1:Z B.L=some (.lst (chL D)))(e2:Z B.la=some (.lst (vN B.keys))):BdAt C B D Z f:=by
 obtain ⟨db,e⟩:=h.e
 refine ⟨⟨db,k _ _ (fun l z=>by cases z) e⟩,h.b1,h.b2,⟨k _ _ (fun l z=>by cases z) h.rf.e,(fun z hz=>?_),h.rf.f,h.rf.nc,h.rf.ln⟩,e1,e2,h.kl,h.ks,h.kn,k _ _ (fun l z=>by cases z) h.w0,h.f0,h.nl⟩
 obtain ⟨⟨lt,et,hlt⟩,ok⟩:=h.rf.r z hz
 refine ⟨⟨lt,k _ _ (fun l z=>by cases z) et,?_⟩,ok⟩
 cases hl:z.2.l with
 | none=>rw [hl] at hlt;exact hlt
 | some o =>
  rw [hl] at hlt
  obtain ⟨u,eu,hu⟩:=hlt
  exact ⟨u,eu,k _ _ (fun l z=>by cases z) hu⟩
structure St3 (C:Addr)(cs:Nat→Addr)(H:Hp)(B:Bd)(D:Dt)(md rw:Nat→Addr)(CL ML row:Addr)(vals:List Nat)(fl:Nat)(X:Hp)(us:Nat→List Nat):Prop where
 b:BdAt C B D X fl
 S:Chs cs D X us
 M:Mod D md rw X us
 eC:X CL=some (.lst (chL D))
 eM:X ML=some (.lst (mdL D md))
 er:X row=some (.lst (vN vals))
 np:∀ i j,i<D.m→j<D.m→rw i≠D.p j
 rk:∀ i,i<D.m→rw i≠ML∧rw i≠CL∧rw i≠B.L∧rw i≠B.la∧rw i≠row
 pk:∀ i,i<D.m→D.p i≠ML∧D.p i≠CL∧D.p i≠row
 nw:∀ i,i<D.m→H (rw i)=none∧H (D.p i)=none
 s:Same H X
section
variable {C CL ML row:Addr}{cs:Nat→Addr}{H X Z Z1 Z2:Hp}{B:Bd}{D:Dt}{md rw:Nat→Addr}{vals:List Nat}{us:Nat→List Nat}{fl:Nat}
theorem St3.same (h:St3 C cs H B D md rw CL ML row vals fl X us)(s:Same X Z):St3 C cs H B D md rw CL ML row vals fl Z us:=⟨h.b.same s,h.S.same s,h.M.same s,s _ _ h.eC,s _ _ h.eM,s _ _ h.er,h.np,h.rk,h.pk,h.nw,h.s.trans s⟩
theorem St3.put (h:St3 C cs H B D md rw CL ML row vals fl X us){k v:Nat}(hk:k<D.m)(hv:v≤255)(e1:Z1 (rw k)=some (.lst (vN (kwr (D.kd k) (D.n k) (us k) 0 v))))(k1:∀ a o,a≠rw k→X a=some o→Z1 a=some o)(e2:Z2 (D.p k)=some (.lst (vN (kwr (D.kd k) (D.n k) (us k) 0 v))))(k2:∀ b,b≠D.p k→Z2 b=Z1 b) :
  Chs cs D Z1 us∧St3 C cs H B D md rw CL ML row vals fl Z2 (wset us k (kwr (D.kd k) (D.n k) (us k) 0 v)):=by
 have nl:∀ a o,(∀ l,o≠.lst l)→X a=some o→Z1 a=some o:=fun a o ho e=>k1 _ _ (fun z=>by rw [z,(h.M.o k hk).ls] at e;exact ho _ (Option.some.inj e).symm) e
 have S1:Chs cs D Z1 us:=⟨fun i hi=>⟨by obtain ⟨dx,ex⟩:=(h.S.o i hi).ex;exact ⟨dx,nl _ _ (fun l z=>by cases z) ex⟩,k1 _ _ (Ne.symm (h.np k i hk hi)) (h.S.o i hi).ls⟩,h.S.k,h.S.h1,h.S.z,h.S.inj,h.S.m1⟩
 refine ⟨S1,?_⟩
 have kv:=(h.S.k k hk).wr (c:=0) hv
 have hz:=kz_wr (kd:=D.kd k) (n:=D.n k) (us k) 0 v
 have b1:BdAt C B D Z1 fl:=h.b.lists nl (k1 _ _ (Ne.symm (h.rk k hk).2.2.1) h.b.ch) (k1 _ _ (Ne.symm (h.rk k hk).2.2.2.1) h.b.la)
 have M1:=h.M.put hk kv hz e1 k1
 have M2:Mod D md rw Z2 (wset us k (kwr (D.kd k) (D.n k) (us k) 0 v)):=⟨fun i hi=>⟨by
  rw [k2 _ (fun z=>by
   have l:=(M1.o i hi).at_
   rw [z,(S1.o k hk).ls] at l
   exact zhS (HO.lst.inj (Option.some.inj l)))]
  exact (M1.o i hi).at_,by rw [k2 _ (h.np i k hi hk)];exact (M1.o i hi).ls⟩,M1.k,M1.h1,M1.z,M1.inj⟩
 have k12:∀ a o,a≠rw k→a≠D.p k→X a=some o→Z2 a=some o:=fun a o n1 n2 e=>by rw [k2 a n2];exact k1 _ _ n1 e
 exact ⟨b1.put hk (S1.o k hk).ls k2,S1.put hk kv hz e2 k2,M2,k12 _ _ (Ne.symm (h.rk k hk).2.1) (Ne.symm (h.pk k hk).2.1) h.eC,k12 _ _ (Ne.symm (h.rk k hk).1) (Ne.symm (h.pk k hk).1) h.eM,k12 _ _ (Ne.symm (h.rk k hk).2.2.2.2) (Ne.symm (h.pk k hk).2.2) h.er,h.np,h.rk,h.pk,h.nw,fun a o e=>k12 _ _ (zak e (h.nw k hk).1) (zak e (h.nw k hk).2) (h.s _ _ e)⟩
end
inductive spHeld43 (vs:List V)(H:Hp)(Q:VK)(u3_:XK):Prop
 | mk (c:Int) (z0_:vs=[.int c]) (z1_:∀ X,Same H X→Q (.bl true) X)
theorem zht {f C:Addr}{cs:Nat→Addr}{fd:FuncData}(F:Fun K "_law_held" "_law_held" zdq f fd)(T:Blt mg)(G_law_draws:Cal P w K mg base 1 "_law_draws" ["cell","count"] spDraws)(G_law_board:Cal P w K mg base 7 "_law_board" ["row"] (spBoard34 cs))(GMBoard_3:Mak P w K mg base 7 "Board" C [] (dP [.int 0]) (spInitB C cs))(G_law_found:Cal P w K mg base 8 "_law_found" ["board","bits","rows","chips","models"] (spFound43 C cs))(G_law_cells:Cal P w K mg base 4 "_law_cells" ["bits","rows","models","seen"] (spCells43 cs))
  (MW:∀ kd,kd<5→Mth P w K mg base 5 (cs kd) "write" [] (fun vs _=>vs) (spW25 cs kd)):FnOk P w K mg base CX0 9 f fd ["cell"] spHeld43:=by
 refine F.ok sc_law_held (by walk_at "l") (fun cdv A outer s H vs Q E hr h=>?_)
 ·obtain ⟨c,rfl,k⟩:=h
  refine ⟨_,(zab (@ps_L _ _ _ _ _ _ 1 sc_law_held.nd (@pe_c _ _ _ _ _ _ _ _ _ _ G_law_draws (@zaa _ _ _ _ _ (@pv _ 0 _ _ (by rfl) (by walk_at "o") (by decide) (by decide)) (@zaa _ _ _ _ _ (@zae _ _ _ _) (@zac _) (by rfl)) (by rfl)) (by exact hrm ( by assumption )) (by rfl) (by decide) (by rfl) (by rfl)) (by rfl) (by exact Or.inl rfl) (by rfl) (by walk_at "p"))
   (zab (@ps_L _ _ _ _ _ _ 1 sc_law_held.nd (@zaj _ _ _ _ _ _ _ _ zhk (@zay _ _ _ _ (@zaa _ _ _ _ _ (@zaj _ _ _ _ _ _ _ _ zaS (@zae _ _ _ _) (@zaj _ _ _ _ _ _ _ _ zck (@zae _ _ _ _) (@zaj _ _ _ _ _ _ _ _ zaE (@pe_x _ _ _ _ _ _ _ zam (@pv _ 1 _ _ (by rfl) (by walk_at "o") (by decide) (by decide)) (@zae _ _ _ _) (by exact fun _ _=>rfl)) (@zae _ _ _ _)))) (@zac _) (by rfl))) (@zbg _ _ _ _ _ _ _ _ _ _ zdg (@pv _ 1 _ _ (by rfl) (by walk_at "o") (by decide) (by decide)) (@za9 _ _ _ (@zae _ _ _ _)) (@zcR _))) (by rfl) (by exact Or.inl rfl) (by rfl) (by walk_at "p"))
   (zab (@zbj _ _ _ _ _ _ (@pe_c _ _ _ _ _ _ _ _ _ _ G_law_board (@zaa _ _ _ _ _ (@pv _ 1 _ _ (by rfl) (by walk_at "o") (by decide) (by decide)) (@zac _) (by rfl)) (by exact hrm ( by assumption )) (by rfl) (by decide) (by rfl) (by rfl)) (@zba _ _ _ _ _ _ rfl (@zan _ _ _ _ _ (@pg_L _ _ _ 2 sc_law_held.nd (by rfl) (by exact Or.inl rfl) (by walk_at "p")) (@zan _ _ _ _ _ (@pg_L _ _ _ 3 sc_law_held.nd (by rfl) (by exact Or.inl rfl) (by walk_at "p")) (@zan _ _ _ _ _ (@pg_L _ _ _ 4 sc_law_held.nd (by rfl) (by exact Or.inl rfl) (by walk_at "p")) (@zan _ _ _ _ _ (@pg_L _ _ _ 5 sc_law_held.nd (by rfl) (by exact Or.inl rfl) (by walk_at "p")) (@zaM _) (by rfl)) (by rfl)) (by rfl)) (by rfl)) (by rfl) (by rfl)) (by rfl) (by rfl) (by rfl))
   (zab (@ps_L _ _ _ _ _ _ 6 sc_law_held.nd (@zfc _ _ _ _ _ _ _ _ _ _ _ GMBoard_3 (hrm hr) rfl (@zaa _ _ _ _ _ (@pv _ 2 _ _ (by rfl) (by walk_at "o") (by decide) (by decide)) (@zaa _ _ _ _ _ (@pv _ 3 _ _ (by rfl) (by walk_at "o") (by decide) (by decide)) (@zaa _ _ _ _ _ (@pv _ 4 _ _ (by rfl) (by walk_at "o") (by decide) (by decide)) (@zac _) (by rfl)) (by rfl)) (by rfl)) (by decide) (by rfl) (by rfl)) (by rfl) (by exact Or.inl rfl) (by rfl) (by walk_at "p"))
   (zab (@za4 _ _ _ _ _ _ _ _ PassesOwn.never rfl (@zaU _ _ _ _ _ _ rfl T.range (@zaa _ _ _ _ _ (@zae _ _ _ _) (@zac _) (by rfl)) (by rfl)) (@pg_L _ _ _ 7 sc_law_held.nd (by rfl) (by exact Or.inl rfl) (by walk_at "p")) (@zab _ _ _ _ _ (@zbj _ _ _ _ _ _ (@pe_c _ _ _ _ _ _ _ _ _ _ G_law_found (@zaa _ _ _ _ _ (@pv _ 6 _ _ (by rfl) (by walk_at "o") (by decide) (by decide)) (@zaa _ _ _ _ _ (@pv _ 2 _ _ (by rfl) (by walk_at "o") (by decide) (by decide)) (@zaa _ _ _ _ _ (@pv _ 3 _ _ (by rfl) (by walk_at "o") (by decide) (by decide)) (@zaa _ _ _ _ _ (@pv _ 4 _ _ (by rfl) (by walk_at "o") (by decide) (by decide)) (@zaa _ _ _ _ _ (@pv _ 5 _ _ (by rfl) (by walk_at "o") (by decide) (by decide)) (@zac _) (by rfl)) (by rfl)) (by rfl)) (by rfl)) (by rfl)) (by exact hrm (by assumption)) (by rfl) (by decide) (by rfl) (by rfl)) (@zba _ _ _ _ _ _ rfl (@zan _ _ _ _ _ (@pg_L _ _ _ 8 sc_law_held.nd (by rfl) (by exact Or.inl rfl) (by walk_at "p")) (@zan _ _ _ _ _ (@pg_L _ _ _ 9 sc_law_held.nd (by rfl) (by exact Or.inl rfl) (by walk_at "p")) (@zaM _) (by rfl)) (by rfl)) (by rfl) (by rfl)) (by rfl) (by rfl) (by rfl)) (@zab _ _ _ _ _ (@zax _ _ _ _ _ _ _ _ (@PW.pt _ _ _ (@zb9 _ _ _ _ _ _ _ (@zaO _ _ _ _ (@zaC _ _ _ (@pv _ 8 _ _ (by rfl) (by walk_at "o") (by decide) (by decide)) (by intro _;rfl))) (@zbx _ _ _ _ (@zaO _ _ _ _ (@zaC _ _ _ (@pe_c _ _ _ _ _ _ _ _ _ _ G_law_cells (@zaa _ _ _ _ _ (@pv _ 2 _ _ (by rfl) (by walk_at "o") (by decide) (by decide)) (@zaa _ _ _ _ _ (@pv _ 3 _ _ (by rfl) (by walk_at "o") (by decide) (by decide)) (@zaa _ _ _ _ _ (@pv _ 5 _ _ (by rfl) (by walk_at "o") (by decide) (by decide)) (@zaa _ _ _ _ _ (@pv _ 9 _ _ (by rfl) (by walk_at "o") (by decide) (by decide)) (@zac _) (by rfl)) (by rfl)) (by rfl)) (by rfl)) (by exact hrm (by assumption)) (by rfl) (by decide) (by rfl) (by rfl)) (by intro _;rfl)))))) (@zaf _ _ _ (@zap _ _ _ _ (@zb4 _ _ _ _))) (@zaq _)) (@zaf _ _ _ (@za4 _ _ _ _ _ _ _ _ PassesOwn.never rfl (@zaU _ _ _ _ _ _ rfl T.range (@zaa _ _ _ _ _ (@zao _ _ _ _ _ _ _ _ _ zar (by rfl) T.len PySem.boot_len (@zaa _ _ _ _ _ (@pv _ 5 _ _ (by rfl) (by walk_at "o") (by decide) (by decide)) (@zac _) (by rfl)) (by decide) (by decide) (by rfl) (by rfl)) (@zac _) (by rfl)) (by rfl)) (@pg_L _ _ _ 10 sc_law_held.nd (by rfl) (by exact Or.inl rfl) (by walk_at "p")) (@zaf _ _ _ (@zax _ _ _ _ _ _ _ _ (@zat _ _ _ _ _ _ _ _ zbk (@pe_x _ _ _ _ _ _ _ zam (@pe_x _ _ _ _ _ _ _ zam (@pv _ 5 _ _ (by rfl) (by walk_at "o") (by decide) (by decide)) (@pv _ 10 _ _ (by rfl) (by walk_at "o") (by decide) (by decide)) (by exact fun _ _=>rfl)) (@zae _ _ _ _) (by exact fun _ _=>rfl)) (@za1 _ _ _ _) (zav _)) (@zab _ _ _ _ _ (@zbj _ _ _ _ _ _ (@zaj _ _ _ _ _ _ _ _ zaD (@zaj _ _ _ _ _ _ _ _ zaS (@pe_x _ _ _ _ _ _ _ zam (@pv _ 1 _ _ (by rfl) (by walk_at "o") (by decide) (by decide)) (@zae _ _ _ _) (by exact fun _ _=>rfl)) (@zaj _ _ _ _ _ _ _ _ zck (@zae _ _ _ _) (@pv _ 10 _ _ (by rfl) (by walk_at "o") (by decide) (by decide)))) (@zae _ _ _ _)) (@zjA _ _ _ _ _ _ _ (@pe_x _ _ _ _ _ _ _ zam (@pe_x _ _ _ _ _ _ _ zam (@pv _ 5 _ _ (by rfl) (by walk_at "o") (by decide) (by decide)) (@pv _ 10 _ _ (by rfl) (by walk_at "o") (by decide) (by decide)) (by exact fun _ _=>rfl)) (@zae _ _ _ _) (by exact fun _ _=>rfl)) (@zae _ _ _ _) zfy (by intro _;rfl)) (by rfl) (by rfl) (by rfl)) (@zaf _ _ _ (@zaz _ _ _ _ (@za8 _ _ _ _ _ _ _ _ _ _ _ _ _ _ 5 ⟨rfl,rfl,rfl,rfl,rfl⟩ (hrm hr) _ (@pe_x _ _ _ _ _ _ _ zam (@pv _ 4 _ _ (by rfl) (by walk_at "o") (by decide) (by decide)) (@pv _ 10 _ _ (by rfl) (by walk_at "o") (by decide) (by decide)) (by exact fun _ _=>rfl)) (@zaa _ _ _ _ _ (@zae _ _ _ _) (@zaa _ _ _ _ _ (@pe_x _ _ _ _ _ _ _ zam (@pe_x _ _ _ _ _ _ _ zam (@pe_x _ _ _ _ _ _ _ zam (@pv _ 5 _ _ (by rfl) (by walk_at "o") (by decide) (by decide)) (@pv _ 10 _ _ (by rfl) (by walk_at "o") (by decide) (by decide)) (by exact fun _ _=>rfl)) (@zae _ _ _ _) (by exact fun _ _=>rfl)) (@zae _ _ _ _) (by exact fun _ _=>rfl)) (@zac _) (by rfl)) (by rfl)) (by rfl) (by rfl) (by rfl)) (by rfl)))) (@zaq _))) (by intro _;rfl))))) (by intro _;rfl))
   (zaf (@zap _ _ _ _ (@zb4 _ _ _ _)))))))),?rd⟩
  refine ⟨_,rfl,c,80,rfl,by decide,fun r0 H1 vs0 hrow er0 hlen hv s1=>?_⟩
  obtain ⟨dv,hdv⟩:=drw (row:=vs0) 80 (by omega) hv
  have y0:atI (vN vs0) 0=some (.int (dv 0:Int)):=(hdv 0 (by decide)).1
  have d0:=(hdv 0 (by decide)).2
  try dsimp only [zaT,List.set]
  refine ⟨_,rfl,r0,_,_,_,rfl,rfl,SqL.of er0,y0,_,_,rfl,rfl,⟨by decide,by decide +kernel⟩,_,_,rfl,rfl,zc5 (by decide) (by omega),_,_,rfl,rfl,by show 1≤sizeLine;decide,fun q1 h1=>?_⟩
  have e3:(3:Int)+4 * ((dv 0:Int) / 4)=((3+4 * (dv 0 / 4):Nat):Int):=by omega
  rw [e3] at *
  have t1:=zag (o:=.lst [V.int ((3+4 * (dv 0 / 4):Nat):Int)]) h1
  refine ⟨_,rfl,(1:Int),rfl,r0,_,rfl,SqL.of (t1 _ _ er0),fun q2 h2=>?_⟩
  have ec:cutV (vN vs0) (some (1:Int)) none=vN (vs0.drop 1):=by
   show cutV (vN vs0) (some ((1:Nat):Int)) none=_
   rw [zlE (by rw [zal];omega)]
   exact (List.map_drop ..).symm
  rw [ec]
  have t2:=zag (o:=.lst (vN (vs0.drop 1))) h2
  refine ⟨q1,q2,_,_,rfl,rfl,SqL.of (t2 _ _ zad),SqL.of zad,?_,fun row h3=>?_⟩
  ·rw [zal,XaV,sizeLine_eq];simp;omega
  obtain ⟨vals,hvals⟩:∃ vals,vals=(3+4 * (dv 0 / 4)) :: vs0.drop 1:=⟨_,rfl⟩
  have ev:[V.int ((3+4 * (dv 0 / 4):Nat):Int)] ++ vN (vs0.drop 1)=vN vals:=by rw [hvals];rfl
  rw [ev]
  have er:=zad (H:=upd (upd H1 q1 (.lst [V.int ((3+4 * (dv 0 / 4):Nat):Int)])) q2 (.lst (vN (vs0.drop 1)))) (a:=row) (o:=.lst (vN vals))
  have s1:=s1.trans (t1.trans (t2.trans (zag (o:=.lst (vN vals)) h3)))
  generalize upd (upd (upd H1 q1 (.lst [V.int ((3+4 * (dv 0 / 4):Nat):Int)])) q2 (.lst (vN (vs0.drop 1)))) row (.lst (vN vals))=H1' at er s1 ⊢
  have hlen:vals.length=80:=by rw [hvals,Xar,XaV];omega
  have hv:∀ v∈vals,v<2 ^ 31:=fun v hm=>by
   rw [hvals] at hm
   rcases Xan.mp hm with e | e
   ·rw [e];omega
   ·exact hv v (Xbx e)
  have h03:vals.getD 0 0 % 4=3:=by rw [hvals];show (3+4 * (dv 0 / 4)) % 4=3;omega
  clear hvals ev er0 y0 d0 hdv t1 t2 h1 h2 h3 hrow e3 ec
  try dsimp only [zaT,List.set]
  refine ⟨_,rfl,row,vals,rfl,er,by omega,hv,fun t R CL ML m cl ws H2 et m9 bo=>?_⟩
  have m9:=m9 h03
  refine ⟨t,_,rfl,SqT.of et,rfl,_,_,rfl,_,_,rfl,_,_,rfl,_,_,rfl,rfl,?_⟩
  obtain ⟨dv,hdv⟩:=drw (row:=vals) 80 (by omega) hv
  have y77:atI (vN vals) 77=some (.int (dv 77:Int)):=(hdv 77 (by decide)).1
  have d77:=(hdv 77 (by decide)).2
  try dsimp only [zaT,List.set]
  refine ⟨_,rfl,_,rfl,_,rfl,fun b db hb hdb _=>?_⟩
  have sB:Same H2 (upd (upd H2 db (.own b)) b (.ins C db [])):=fun x o e=>zmC hb hdb x o e
  refine ⟨b,db,R,CL,m,0,dtC cl,usC cl,ws,rfl,zad,bo.m1,bo.m2,by decide,bo.rf.same sB,by rw [zmf];exact sB _ _ bo.eC,(bo.C.chs (Xam bo.c9 (by decide))).same sB,fun B H3 e1 e2 e3 e4 hBL hBla hBW hBd fr=>⟨rfl,?_⟩⟩
  subst e1 e2 e3 e4
  have s23:Same H2 H3:=fun x o e=>fr x o (zak e hb) (sB _ _ e)
  have nL:∀ {a:Addr} {o:HO},H2 a=some o→a≠B.L∧a≠B.la:=fun {a o} e=>⟨(fun z=>by have:=sB _ _ e;rw [z,hBL] at this;cases this),(fun z=>by have:=sB _ _ e;rw [z,hBla] at this;cases this)⟩
  have hfr:=fun i (hi:i<(dtC cl).m)=>bo.fr _ (za6 hi).1
  have C3:=bo.C.same s23
  have er2:=bo.s _ _ er
  obtain ⟨D,md,rw_,us0,hD,T0⟩:∃ (D:Dt) (md rw:Nat→Addr) (us:Nat→List Nat),D.m≤9∧St3 C cs H B D md rw CL ML row vals 0 H3 us:=by
   refine ⟨dtC cl,fun i=>(cl.getD i dfCm).m,fun i=>(cl.getD i dfCm).r,usC cl,bo.c9,hBd,C3.chs (Xam bo.c9 (by decide)),C3.mod,by rw [zmf];exact s23 _ _ bo.eC,by rw [mdL_cm];exact s23 _ _ bo.eM,s23 _ _ er2,fun i j hi hj z=>?_,fun i hi=>⟨(hfr i hi).2.2.2.2.2,(hfr i hi).2.2.2.2.1,(nL (bo.C.o _ (za6 hi).1).md.ls).1,(nL (bo.C.o _ (za6 hi).1).md.ls).2,fun z=>?_⟩,fun i hi=>⟨(hfr i hi).2.2.2.1,(hfr i hi).2.2.1,fun z=>?_⟩,fun i hi=>⟨s1.free (hfr i hi).2.1,s1.free (hfr i hi).1⟩,s1.trans (bo.s.trans s23)⟩
   ·exact (XaX.mp bo.C.nd).2.2 _ (XaF.mpr ⟨_,(za6 hj).1,rfl⟩) _ (XaF.mpr ⟨_,(za6 hi).1,rfl⟩) z.symm
   ·have:=(hfr i hi).2.1;rw [z,er] at this;cases this
   ·have:=(hfr i hi).1;rw [show (cl.getD i dfCm).p=row from z,er] at this;cases this
  have hbits:B.bits≤9:=m9
  clear bo hBd fr sB hBL hBla hBW s23 s1 er er2 hb hdb nL hfr C3 et
  try dsimp only [zaT,List.set]
  refine ⟨2,rfl,by decide,by decide,?_⟩
  rw [show ((2:Int)).toNat=2 from rfl]
  refine zbb (n:=2) (fun i σ X=>∃ (v7 v8 v9 v10:Option V) (us:Nat→List Nat),σ=[some (.int c),some (.ref row),some (.int (B.bits:Int)),some (.ref B.R),some (.ref CL),some (.ref ML),some (.ref B.b),v7,v8,v9,v10]∧St3 C cs H B D md rw_ CL ML row vals 0 X us) ⟨_,_,_,_,us0,rfl,T0⟩ ?_ ?_
  rotate_left
  ·rintro σ X ⟨_,_,_,_,us,rfl,tX⟩
   exact k X tX.s
  rintro i σ X hi ⟨v7,v8,v9,v10,us,rfl,tX⟩
  try dsimp only [zaT,List.set]
  refine ⟨_,rfl,_,rfl,_,rfl,_,rfl,_,rfl,B,D,md,rw_,us,0,CL,ML,rfl,hbits,tX.b,tX.S,tX.eC,tX.eM,tX.M,hD,fun t sn kvs X1 et es ok s1=>?_⟩
  refine ⟨t,_,rfl,SqT.of et,rfl,_,_,rfl,_,_,rfl,rfl,?_⟩
  try dsimp only [zaT,List.set]
  have t1:=tX.same s1
  refine ⟨_,rfl,_,rfl,iteF ⟨_,rfl,_,rfl,_,rfl,_,rfl,B.R,ML,sn,B.bits,D,md,rw_,us,B.ws,kvs,rfl,hbits,t1.b.rf,t1.eM,t1.M,es,ok,fun X2 s2=>⟨_,rfl,iteF (zau ?_)⟩⟩⟩
  have t2:=t1.same s2
  generalize i=turn at *
  try dsimp only
  clear tX t1 et es ok s1 s2
  refine ⟨_,rfl,ML,_,rfl,.inl (SqL.of t2.eM),_,rfl,by omega,by rw [zfK];omega,?_⟩
  rw [Xag,zfK]
  refine zbb (n:=D.m) (fun j σ X=>∃ (v10:Option V) (us:Nat→List Nat),σ=[some (.int c),some (.ref row),some (.int (B.bits:Int)),some (.ref B.R),some (.ref CL),some (.ref ML),some (.ref B.b),some (.int (0+(turn:Int))),some (.bl true),some (.ref sn),v10]∧St3 C cs H B D md rw_ CL ML row vals 0 X us) ⟨_,us,rfl,t2⟩ ?_ ?_
  rotate_left
  ·rintro σ X ⟨_,us,rfl,tX⟩
   exact ⟨_,_,_,_,us,rfl,tX⟩
  clear t2
  rintro j σ X hj ⟨v10,us,rfl,tX⟩
  rw [XbS]
  have dc:=tX.M.o j hj
  have kn:decide (V.str (zbE (D.kd j))=V.str "latch")=decide (D.kd j=2):=zbJ (j:=2) (tX.M.k j hj).k5 (by decide)
  refine ⟨_,rfl,_,rfl,ML,_,_,_,rfl,rfl,SqL.of tX.eM,zaA (zeM hj),md j,_,_,_,rfl,rfl,SqL.of dc.at_,rfl,rfl,_,rfl,?_⟩
  rw [kn]
  by_cases h2:D.kd j=2
  ·rw [Xah h2]
   refine iteT ⟨_,rfl,row,_,_,_,rfl,rfl,SqL.of tX.er,y77,_,rfl,_,_,rfl,rfl,zc5 (by decide) (by omega),_,_,rfl,rfl,_,_,rfl,rfl,(show (0:Int)<256 by decide),?_⟩
   obtain ⟨v,hv256,hvE⟩:∃ v:Nat,v≤255∧((dv 77:Int)+85 * (j:Int)) % 256=(v:Int):=⟨(dv 77+85 * j) % 256,by omega,by omega⟩
   rw [hvE]
   obtain ⟨u,hu⟩:∃ u,us j=[u]:=by
    have h1:=tX.M.h1 j hj (.inl h2)
    cases hq:us j with
    | nil=>rw [hq] at h1;cases h1
    | cons y l=>cases l with
     | nil=>exact ⟨y,rfl⟩
     | cons _ _=>rw [hq] at h1;cases h1
   have ew:kwr (D.kd j) (D.n j) (us j) 0 v=[v]:=by unfold kwr;rw [if_neg (by omega),if_neg (by omega),hu];rfl
   have ls:=dc.ls
   rw [hu] at ls
   refine ⟨_,rfl,_,rfl,ML,_,_,_,rfl,rfl,SqL.of tX.eM,zaA (zeM hj),md j,_,_,_,rfl,rfl,SqL.of dc.at_,rfl,rw_ j,_,_,_,rfl,rfl,ls,rfl,?_⟩
   have k1:∀ a o,a≠rw_ j→X a=some o→upd X (rw_ j) (.lst [V.int (v:Int)]) a=some o:=fun a o n e=>by rw [zai n];exact e
   have eZ:upd X (rw_ j) (.lst [V.int (v:Int)]) (rw_ j)=some (.lst (vN (kwr (D.kd j) (D.n j) (us j) 0 v))):=by rw [ew];exact zad
   have eZ2:upd X (rw_ j) (.lst [V.int (v:Int)]) (rw_ j)=some (.lst [V.int (v:Int)]):=zad
   have hS1:=fun {Z2:Hp} (e2:Z2 (D.p j)=some (.lst (vN (kwr (D.kd j) (D.n j) (us j) 0 v)))) (k2:∀ b,b≠D.p j→Z2 b=upd X (rw_ j) (.lst [V.int (v:Int)]) b)=>tX.put hj hv256 eZ k1 e2 k2
   have eM1:=k1 _ _ (Ne.symm (tX.rk j hj).1) tX.eM
   have eC1:=k1 _ _ (Ne.symm (tX.rk j hj).2.1) tX.eC
   have at1:=k1 _ _ (md_rw tX.M hj hj) dc.at_
   have oc:Chp cs (upd X (rw_ j) (.lst [V.int (v:Int)])) (D.x j) (D.p j) (D.kd j) (D.n j) (us j):=by
    obtain ⟨dx,ex⟩:=(tX.S.o j hj).ex
    exact ⟨⟨dx,k1 _ _ (fun z=>by rw [z,dc.ls] at ex;cases ex) ex⟩,k1 _ _ (Ne.symm (tX.np j j hj hj)) (tX.S.o j hj).ls⟩
   rw [show (vN [u]).set (Int.toNat 0) (V.int (v:Int))=[V.int (v:Int)] from rfl]
   generalize upd X (rw_ j) (.lst [V.int (v:Int)])=Z1 at *
   obtain ⟨dx,ex⟩:=oc.ex
   refine ⟨_,rfl,_,rfl,CL,_,_,_,rfl,rfl,SqL.of eC1,zaA (zfm hj),D.x j,cs (D.kd j),dx,_,_,_,rfl,ex,MW _ (tX.S.k j hj).k5,lkn _,_,rfl,_,rfl,ML,_,_,_,rfl,rfl,SqL.of eM1,zaA (zeM hj),md j,_,_,_,rfl,rfl,SqL.of at1,rfl,rw_ j,_,_,_,rfl,rfl,SqL.of eZ2,rfl,_,_,_,0,v,_,rfl,oc,tX.S.k j hj,?_,hv256,fun Z2 e2 k2=>?_⟩
   ·rw [h2,hu];exact Nat.zero_lt_one
   ·exact ⟨_,_,rfl,(hS1 e2 k2).2⟩
  ·rw [Xai h2]
   exact iteF (zau ⟨_,us,rfl,tX⟩)
abbrev slaw:Stmt:=top 87
theorem sclaw:FnScope ["script","cell"] ["script"] (zah slaw):=sck rfl rfl rfl (by decide +kernel)
theorem oklaw {f:Addr}{fd:FuncData}(F:Fun K "law" "law" slaw f fd)(T:Blt mg)(G_law_held:Cal P w K mg base 9 "_law_held" ["cell"] spHeld43):FnOk P w K mg base CX0 10 f fd ["script"] (spLaw K):=by
 refine F.ok sclaw (by walk_at "l") (fun cdv A outer s H vs Q E hr h=>?_)
 ·obtain ⟨a,ns,rfl,hs,hln,_,k⟩:=h
  refine ⟨_,(zab (@za4 _ _ _ _ _ _ _ _ PassesOwn.never rfl (@zby _ _ _ _ (@zaj _ _ _ _ _ _ _ _ zhk (@zay _ _ _ _ (@zaa _ _ _ _ _ (@zao _ _ _ _ _ _ _ _ _ zar (by rfl) T.len PySem.boot_len (@zaa _ _ _ _ _ (@pv _ 0 _ _ (by rfl) (by walk_at "o") (by decide) (by decide)) (@zac _) (by rfl)) (by decide) (by decide) (by rfl) (by rfl)) (@zac _) (by rfl))) (@zbg _ _ _ _ _ _ _ _ _ _ zdg (@pv _ 0 _ _ (by rfl) (by walk_at "o") (by decide) (by decide)) (@zcR _) (@za9 _ _ _ (@zae _ _ _ _))))) (@pg_L _ _ _ 1 sclaw.nd (by rfl) (by exact Or.inl rfl) (by walk_at "p")) (@zaf _ _ _ (@zax _ _ _ _ _ _ _ _ (@zaO _ _ _ _ (@zaC _ _ _ (@pe_c _ _ _ _ _ _ _ _ _ _ G_law_held (@zaa _ _ _ _ _ (@pv _ 1 _ _ (by rfl) (by walk_at "o") (by decide) (by decide)) (@zac _) (by rfl)) (by exact hrm (by assumption)) (by rfl) (by decide) (by rfl) (by rfl)) (by intro _;rfl))) (@zaf _ _ _ (@zap _ _ _ _ (@zb4 _ _ _ _))) (@zaq _))) (by intro _;rfl))
   (zaf (@zap _ _ _ _ (@zb4 _ _ _ _)))),?rd⟩
  refine ⟨_,rfl,a,_,rfl,.inl hs,by show 1≤sizeLine;decide,fun q1 h1=>?_⟩
  refine ⟨_,rfl,3,rfl,a,_,rfl,(zag h1).seq hs,fun q2 h2=>?_⟩
  refine ⟨q1,q2,_,_,rfl,rfl,SqL.of (zag h2 _ _ zad),SqL.of zad,?_,fun q3 h3=>⟨q3,rfl,⟨_,SqL.of zad⟩,?_⟩⟩
  ·have:=zcV (ns.map V.int) none (some 3)
   rw [Xal] at this
   rw [sizeLine_eq];simp;omega
  have xi:∀ x∈[V.int ((ns.map V.int).length:Int)] ++ cutV (ns.map V.int) none (some 3),∃ c,x = .int c:=fun x hx=>by
   rcases XaK.mp hx with h | h
   ·exact ⟨_,Xad.mp h⟩
   ·obtain ⟨m,_,rfl⟩:=XaF.mp (zm4 h)
    exact ⟨m,rfl⟩
  have s0:Same H (upd (upd (upd H q1 (.lst [V.int ((ns.map V.int).length:Int)])) q2 (.lst (cutV (ns.map V.int) none (some 3)))) q3 (.lst ([V.int ((ns.map V.int).length:Int)] ++ cutV (ns.map V.int) none (some 3)))):=(zag h1).trans ((zag h2).trans (zag h3))
  have e3:=zad (H:=upd (upd H q1 (.lst [V.int ((ns.map V.int).length:Int)])) q2 (.lst (cutV (ns.map V.int) none (some 3)))) (a:=q3) (o:=.lst ([V.int ((ns.map V.int).length:Int)] ++ cutV (ns.map V.int) none (some 3)))
  generalize upd (upd (upd H q1 (.lst [V.int ((ns.map V.int).length:Int)])) q2 (.lst (cutV (ns.map V.int) none (some 3)))) q3 (.lst ([V.int ((ns.map V.int).length:Int)] ++ cutV (ns.map V.int) none (some 3)))=B at e3 s0 ⊢
  generalize [V.int ((ns.map V.int).length:Int)] ++ cutV (ns.map V.int) none (some 3)=xs at e3 xi ⊢
  refine zcx (K:=K) (a:=q3) (xs:=xs) (fun i σ Y=>(∃ v1:Option V,σ=[some (.ref a),v1])∧Same B Y) ⟨⟨_,rfl⟩,Same.refl _⟩ (fun i σ Y hi ⟨_,sY⟩=>SqL.of (sY _ _ e3)) ?_ ?_
  ·rintro i x σ Y hx ⟨⟨v1,rfl⟩,sY⟩
   obtain ⟨c,rfl⟩:=xi x (Xas hx)
   exact ⟨_,rfl,c,rfl,fun Y2 s2=>⟨_,rfl,iteF (zau ⟨⟨_,rfl⟩,sY.trans s2⟩)⟩⟩
  ·rintro σ Y ⟨_,sY⟩
   exact k Y
end
abbrev NsR (K:W.Frag)(x:Str)(f:Addr):Prop:=W.nsIn K mainGlobals x=some (some (.ref f))
abbrev FiR (K:W.Frag)(C:Addr)(m:Str)(f:Addr):Prop:=W.findIn K (.ref C) m=some (some (.ref f))
abbrev IsF (K:W.Frag)(f:Addr):Prop:=W.isFn K (.ref f)=true
theorem all_mk {l:W.OpenLaw}{w:World}{K:W.Frag}{h:Heap}{mg:Str→Option Value}{fa:Addr}(X:K.In h)(G:h.Ns mainGlobals mg)(hfa:mg "law" = some (.ref fa))
 {nmT qT:Str} {NT au a7 f_0 f_1 f_2 f_3 f_4 f_5 f_6 f_7 f_8 f_9 bG bH bI bJ bK bL bM bN bO bP bQ bR bS bT bU aI a8 bV bW ad aC aA aB aD aJ aK ae ba ac af bb ag bc be bf bg aR bX aS aT bY aU bZ aV b6 b7 b8 cb ah aW cf bi bj bn bp bq aX cg ci cj bu cp cq cr cu cv cw cx cy cz cA cC cD cE bv:Addr} {bsT fu:List Value} {hdT abT:Bool} {snT:List Str} {fw:Option Bool} {ddT dN1 ddB dN2 gx gE gK gR hG ii iH cJ:Option Addr} {k0T k1T k2T k3T k5T:Option Value} {cN1 cB cN2 gw gD gJ gQ g7 ig iG cF cG cH bw cI:Value} {es1 es2:Array DictEntry} {ep1 ep2 gy gF gL gS hJ ij:Nat} {sl1 slB sl2 gz gG gM gT hV ik iI:Array (Option Value)} {cdB:ClassData} {fx fy fz fA fB fD fE fF fG fH fJ fK fL fM fN fO fP fQ fR fS fU fV fW fX fY fZ f9 ga gb gc gf gg gh gj gk gn gp gq gr gt gu gB gC gI gP gW gX gY gZ hW hZ h8 ia ic ie il io ck ip iq ir iu iw iy iz iA iB iC iD iE iF:FuncData} {gA gH gO gU bh iJ iK iL iM iN iO iP iQ iR iS:Tok}
  (iT:NsR K "TooMany" au)
  (nX:NsR K "BusError" a7)
  (xl:K.lookup au=some (excClassObj nmT qT au NT bsT [.ref a7,.type "ValueError",.type "Exception",.type "BaseException",.type "object"] hdT snT fu abT fw ddT k0T k1T k2T k3T k5T "ValueError.__new__"))
  (xn:K.lookup NT=some ⟨cN1,dN1,.dict es1 ep1,sl1⟩)
  (xs:es1.toList.all (fun e=>match e.key with | .str _ _=>true | _=>false)=true)
  (xi:nsFind es1 "__init__" = none)
  (yl:K.lookup a7=some ⟨cB,ddB,.cls cdB,slB⟩)
  (yn:K.lookup cdB.ns=some ⟨cN2,dN2,.dict es2 ep2,sl2⟩)
  (ys:es2.toList.all (fun e=>match e.key with | .str _ _=>true | _=>false)=true)
  (yi:nsFind es2 "__init__" = none)
  (zS:W.nsIn K mainGlobals "sorted" = some none)
  (iU:NsR K "single_ones" f_0)
  (F_0:Fun K "single_ones" "single_ones" zcb f_0 fx)
  (iV:NsR K "ones_of" f_1)
  (F_1:Fun K "ones_of" "ones_of" zft f_1 fy)
  (iW:NsR K "gathered" f_2)
  (F_2:Fun K "gathered" "gathered" zei f_2 fz)
  (iX:NsR K "is_number" f_3)
  (F_3:Fun K "is_number" "is_number" zdh f_3 fA)
  (iY:NsR K "size_of" f_4)
  (F_4:Fun K "size_of" "size_of" zfr f_4 fB)
  (iZ:NsR K "spread" f_5)
  (F_5:Fun K "spread" "spread" zgZ f_5 fD)
  (cK:NsR K "parts_of" f_6)
  (F_6:Fun K "parts_of" "parts_of" zee f_6 fE)
  (cL:NsR K "addresses_of" f_7)
  (F_7:Fun K "addresses_of" "addresses_of" zbY f_7 fF)
  (i3:NsR K "is_choice" f_8)
  (F_8:Fun K "is_choice" "is_choice" zdi f_8 fG)
  (i4:NsR K "is_latch" f_9)
  (F_9:Fun K "is_latch" "is_latch" zef f_9 fH)
  (i5:NsR K "is_row" bG)
  (cM:Fun K "is_row" "is_row" zg2 bG fJ)
  (i6:NsR K "is_map" bH)
  (cN:Fun K "is_map" "is_map" zg3 bH fK)
  (i7:NsR K "meets" bI)
  (cO:Fun K "meets" "meets" zji bI fL)
  (i8:NsR K "cell_at" bJ)
  (cP:Fun K "cell_at" "cell_at" zfA bJ fM)
  (i9:NsR K "choices_agree" bK)
  (cQ:Fun K "choices_agree" "choices_agree" zbN bK fN)
  (ja:NsR K "latches_agree" bL)
  (cR:Fun K "latches_agree" "latches_agree" zbM bL fO)
  (jb:NsR K "rows_clash" bM)
  (cS:Fun K "rows_clash" "rows_clash" zcC bM fP)
  (jc:NsR K "clash_of" bN)
  (cT:Fun K "clash_of" "clash_of" zel bN fQ)
  (jd:NsR K "is_awake" bO)
  (cU:Fun K "is_awake" "is_awake" zeg bO fR)
  (je:NsR K "answering" bP)
  (cV:Fun K "answering" "answering" zdl bP fS)
  (jf:NsR K "holes_among" bQ)
  (cW:Fun K "holes_among" "holes_among" zcd bQ fU)
  (jg:NsR K "unanswered" bR)
  (cX:Fun K "unanswered" "unanswered" zcB bR fV)
  (jh:NsR K "least_hole" bS)
  (cY:Fun K "least_hole" "least_hole" zcD bS fW)
  (ji:NsR K "is_word" bT)
  (cZ:Fun K "is_word" "is_word" zfx bT fX)
  (jj:NsR K "check_word" bU)
  (c3:Fun K "check_word" "check_word" zcF bU fY)
  (jk:NsR K "Chip" aI)
  (jl:W.specialIn K (.ref aI) "__getattribute__" = some (some (.builtin "type.__getattribute__")))
  (jm:W.readsIn K aI (.type "type")=true)
  (jn:W.findCls K (.ref aI) (.type "type") "__init__" = some (.val (.ref a8)))
  (c4:Fun K "__init__" "Chip.__init__" zbQ a8 fZ)
  (jo:NsR K "by_figures" bV)
  (c5:Fun K "by_figures" "by_figures" zcG bV f9)
  (jp:NsR K "two_figures" bW)
  (c7:Fun K "two_figures" "two_figures" zca bW ga)
  (jq:NsR K "Store" ad)
  (am:ClsOk K ad)
  (jr:FiR K ad "__len__" aC)
  (aw:Fun K "__len__" "Chip.__len__" zb0 aC gb)
  (aY:IsF K aC)
  (js:FiR K ad "check_cell" aA)
  (aq:Fun K "check_cell" "Chip.check_cell" zbo aA gc)
  (aL:IsF K aA)
  (jt:FiR K ad "check_write" aB)
  (ar:Fun K "check_write" "Chip.check_write" zbe aB gf)
  (aM:IsF K aB)
  (ju:FiR K ad "look" aD)
  (ax:Fun K "look" "Chip.look" zdv aD gg)
  (aZ:IsF K aD)
  (jv:FiR K ad "read" aJ)
  (aE:Fun K "read" "Chip.read" zdu aJ gh)
  (bx:IsF K aJ)
  (jw:FiR K ad "write" aK)
  (aF:Fun K "write" "Chip.write" zcO aK gj)
  (bA:IsF K aK)
  (jx:NsR K "Fixed" ae)
  (av:ClsOk K ae)
  (jy:FiR K ae "__len__" aC)
  (jz:FiR K ae "check_cell" aA)
  (jA:FiR K ae "check_write" aB)
  (jB:FiR K ae "look" aD)
  (jC:FiR K ae "read" aJ)
  (jD:FiR K ae "write" ba)
  (c8:Fun K "write" "Fixed.write" zcg ba gk)
  (jE:IsF K ba)
  (de:NsR K "Latch" ac)
  (aj:ClsOk K ac)
  (jF:FiR K ac "__len__" aC)
  (jG:FiR K ac "check_cell" aA)
  (jH:FiR K ac "check_write" aB)
  (jI:FiR K ac "look" aD)
  (jJ:FiR K ac "read" aJ)
  (jK:FiR K ac "write" aK)
  (jL:NsR K "Meter" af)
  (ak:ClsOk K af)
  (jM:FiR K af "__len__" aC)
  (jN:FiR K af "check_cell" aA)
  (jO:FiR K af "check_write" aB)
  (jP:FiR K af "look" aD)
  (jQ:FiR K af "read" bb)
  (df:Fun K "read" "Meter.read" zcN bb gn)
  (jR:IsF K bb)
  (jS:FiR K af "write" aK)
  (jT:NsR K "Pipe" ag)
  (al:ClsOk K ag)
  (jU:FiR K ag "__len__" bc)
  (dh:Fun K "__len__" "Pipe.__len__" zbZ bc gp)
  (jV:IsF K bc)
  (jW:FiR K ag "check_cell" aA)
  (jX:FiR K ag "check_write" aB)
  (jY:FiR K ag "look" be)
  (di:Fun K "look" "Pipe.look" zdt be gq)
  (jZ:IsF K be)
  (j0:FiR K ag "read" bf)
  (dj:Fun K "read" "Pipe.read" zds bf gr)
  (j3:IsF K bf)
  (j4:FiR K ag "write" bg)
  (dl:Fun K "write" "Pipe.write" zcM bg gt)
  (j5:IsF K bg)
  (j6:W.makesIn K ad=true)
  (j7:W.keepIn K (.ref ad)=true)
  (j8:FiR K ad "__init__" aR)
  (dq:FunD K "__init__" "Store.__init__" zbs (.ref bX) aR gu)
  (j9:K.lookup bX=some ⟨gw,gx,.seq #[.int 0 gA] gy,gz⟩)
  (ka:IsF K aR)
  (ke:W.makesIn K ae=true)
  (kf:W.keepIn K (.ref ae)=true)
  (kg:FiR K ae "__init__" aS)
  (du:Fun K "__init__" "Fixed.__init__" zbv aS gB)
  (kh:IsF K aS)
  (ki:W.makesIn K ac=true)
  (kj:W.keepIn K (.ref ac)=true)
  (km:FiR K ac "__init__" aT)
  (dw:FunD K "__init__" "Latch.__init__" zbu (.ref bY) aT gC)
  (ko:K.lookup bY=some ⟨gD,gE,.seq #[.int 0 gH] gF,gG⟩)
  (kq:IsF K aT)
  (kr:W.makesIn K af=true)
  (kz:W.keepIn K (.ref af)=true)
  (kA:FiR K af "__init__" aU)
  (dz:FunD K "__init__" "Meter.__init__" zbt (.ref bZ) aU gI)
  (kB:K.lookup bZ=some ⟨gJ,gK,.seq #[.int 0 gO] gL,gM⟩)
  (kC:IsF K aU)
  (kD:W.makesIn K ag=true)
  (kE:W.keepIn K (.ref ag)=true)
  (kF:FiR K ag "__init__" aV)
  (dA:FunD K "__init__" "Pipe.__init__" zbP (.ref b6) aV gP)
  (kG:K.lookup b6=some ⟨gQ,gR,.seq #[.int 4 gU] gS,gT⟩)
  (kH:IsF K aV)
  (kI:W.findIn K (.ref ac) "__class__" = some (some (.builtin "object.__class__")))
  (kJ:W.specialIn K (.builtin "object.__class__") "__get__" = some (some (.builtin "getset_descriptor.__get__")))
  (kK:W.takesIn K (.builtin "object.__class__")=some true)
  (kL:W.mroIn K ac (.type "object")=some true)
  (kM:W.isIn K (.ref ac) ac=true)
  (kN:NsR K "row_fits" b7)
  (dB:Fun K "row_fits" "row_fits" zea b7 gW)
  (kO:NsR K "check_map" b8)
  (dC:Fun K "check_map" "check_map" zdj b8 gX)
  (kP:NsR K "check_clash" cb)
  (dD:Fun K "check_clash" "check_clash" zce cb gY)
  (kQ:NsR K "Board" ah)
  (ai:ClsBd K ah)
  (kR:W.makesIn K ah=true)
  (kS:W.keepIn K (.ref ah)=true)
  (kT:FiR K ah "__init__" aW)
  (dE:FunD K "__init__" "Board.__init__" zbw (.ref cf) aW gZ)
  (kU:K.lookup cf=some ⟨g7,hG,.seq #[.int 0 bh] hJ,hV⟩)
  (kW:IsF K aW)
  (kX:FiR K ah "in_bits" bi)
  (dF:Fun K "in_bits" "Board.in_bits" zbR bi hW)
  (kY:IsF K bi)
  (kZ:FiR K ah "check_address" bj)
  (dG:Fun K "check_address" "Board.check_address" za2 bj hZ)
  (k4:IsF K bj)
  (k6:FiR K ah "chip_of" bn)
  (dH:Fun K "chip_of" "Board.chip_of" zbS bn h8)
  (k7:IsF K bn)
  (k8:FiR K ah "finish" bp)
  (dI:Fun K "finish" "Board.finish" zb1 bp ia)
  (k9:IsF K bp)
  (lc:FiR K ah "who" bq)
  (dJ:Fun K "who" "Board.who" zdw bq ic)
  (ld:IsF K bq)
  (le:FiR K ah "read" aX)
  (bB:FunD K "read" "Board.read" zcP (.ref cg) aX ie)
  (lf:K.lookup cg=some ⟨ig,ii,.seq #[.bool false] ij,ik⟩)
  (lg:IsF K aX)
  (lh:NsR K "_law_draws" ci)
  (dL:Fun K "_law_draws" "_law_draws" zcI ci il)
  (lj:NsR K "_law_ones" cj)
  (dM:Fun K "_law_ones" "_law_ones" zdp cj io)
  (bC:NsR K "_law_same" bu)
  (aN:Fun K "_law_same" "_law_same" zdn bu ck)
  (ll:NsR K "_law_few" cp)
  (dO:Fun K "_law_few" "_law_few" zeu cp ip)
  (lq:NsR K "_law_size" cq)
  (dQ:Fun K "_law_size" "_law_size" zdm cq iq)
  (lr:NsR K "_law_chip" cr)
  (dR:Fun K "_law_chip" "_law_chip" zdr cr ir)
  (lx:NsR K "_law_chips" cu)
  (dS:Fun K "_law_chips" "_law_chips" zcJ cu iu)
  (ly:NsR K "_law_row" cv)
  (dU:Fun K "_law_row" "_law_row" zes cv iw)
  (lz:NsR K "_law_pair" cw)
  (dW:Fun K "_law_pair" "_law_pair" zdo cw iy)
  (lA:NsR K "_law_map" cx)
  (dX:Fun K "_law_map" "_law_map" zet cx iz)
  (lB:NsR K "_law_board" cy)
  (dY:Fun K "_law_board" "_law_board" zcL cy iA)
  (lC:NsR K "_law_gathered" cz)
  (dZ:Fun K "_law_gathered" "_law_gathered" zbO cz iB)
  (lD:NsR K "_law_who" cA)
  (d3:Fun K "_law_who" "_law_who" zer cA iC)
  (lE:NsR K "_law_cells" cC)
  (d4:Fun K "_law_cells" "_law_cells" zcK cC iD)
  (lF:NsR K "_law_found" cD)
  (d5:Fun K "_law_found" "_law_found" zcH cD iE)
  (lG:NsR K "_law_held" cE)
  (d6:Fun K "_law_held" "_law_held" zdq cE iF)
  (lH:NsR K "law" bv)
  (lI:K.lookup bv=some ⟨iG,iH,.func (W.fnOf "law" "law" (zbF slaw) (zbc slaw) (zah slaw) .none cF cG cH cJ bw cI),iI⟩)
  (lJ:W.codeIn K bw "law" = true)
  (lK:W.keepIn K (.ref bv)=true)
  (lL:W.nsIn K mainGlobals "MOST_BITS" = some (some (.int 16 iJ)))
  (lM:W.nsIn K mainGlobals "LAST_CHIP" = some (some (.int 99 iK)))
  (lN:W.nsIn K mainGlobals "LAST_WORD" = some (some (.int 255 iL)))
  (lO:W.nsIn K mainGlobals "MOST_CELLS" = some (some (.int 4096 iM)))
  (lP:W.nsIn K mainGlobals "MOST_ROOM" = some (some (.int 255 iN)))
  (lQ:W.nsIn K mainGlobals "MOST_ONES" = some (some (.int 12 iO)))
  (lR:W.nsIn K mainGlobals "SIXTEEN" = some (some (.str "0123456789abcdef" iP)))
  (lS:W.nsIn K mainGlobals "READ" = some (some (.str "read" iQ)))
  (lT:W.nsIn K mainGlobals "WRITE" = some (some (.str "write" iR)))
  (lU:W.nsIn K mainGlobals "BOTH" = some (some (.str "both" iS)))
  (lV:W.nsIn K mainGlobals "len" = some none)
  (lW:W.nsIn K mainGlobals "sum" = some none)
  (lX:W.nsIn K mainGlobals "all" = some none)
  (lY:W.nsIn K mainGlobals "max" = some none)
  (lZ:W.nsIn K mainGlobals "min" = some none)
  (l4:W.nsIn K mainGlobals "int" = some none)
  (l5:W.nsIn K mainGlobals "bool" = some none)
  (l7:W.nsIn K mainGlobals "isinstance" = some none)
  (l8:W.nsIn K mainGlobals "range" = some none)
  (l9:W.nsIn K mainGlobals "enumerate" = some none)
  (ma:W.nsIn K mainGlobals "zip" = some none)
  (me:W.nsIn K mainGlobals "str" = some none)
  (mf:W.nsIn K mainGlobals "tuple" = some none)
  (mh:W.nsIn K mainGlobals "list" = some none) :
  ∃ fd:FuncData,(∀ (s:Shared) (v:Value),BindsTo s fd ⟨[v],[]⟩ [("script",v)])∧∀ base:Heap,K.In base→base.Ns mainGlobals mg→FnOk l.prog w K mg base CX0 10 fa fd ["script"] (spLaw K):=by
 have mo:∀ {x:Str} {v:Value},W.nsIn K mainGlobals x=some (some v)→mg x=some v:=fun a=>W.mg_of X G a
 have mn:∀ {x:Str},W.nsIn K mainGlobals x=some none→mg x=none:=fun a=>W.mg_none_of X G a
 have T:Blt mg:=⟨mn lV,mn lW,mn lX,mn lY,mn lZ,mn l4,mn l5,mn l7,mn l8,mn l9,mn ma,mn me,mn mf,mn mh⟩
 have N:Nums mg:=⟨⟨_,mo lL⟩,⟨_,mo lM⟩,⟨_,mo lN⟩,⟨_,mo lO⟩,⟨_,mo lP⟩,⟨_,mo lQ⟩,⟨_,mo lR⟩,⟨_,mo lS⟩,⟨_,mo lT⟩,⟨_,mo lU⟩⟩
 have mi:=zl6 (st:=slaw) lI lJ lK
 have e:=hfa.symm.trans (mo lH)
 cases e
 refine ⟨W.fnOf "law" "law" (zbF slaw) (zbc slaw) (zah slaw) .none cF cG cH cJ bw cI,fun s v=>.of_eq rfl,fun base _ _=>?_⟩
 have cm:=@zgH l.prog w K mg base
 have mm:=@mth_mk l.prog w K mg base
 have sk:∀ es:Array DictEntry,es.toList.all (fun e=>match e.key with | .str _ _=>true | _=>false)=true→StrKeys es:=fun es h e he=>strKey (XbA.mp h e (Array.mem_toList_iff.mpr he))
 have xk:ExcK K au:=⟨⟨_,_,_,_,_,_,_,_,_,_,_,_,_,_,_,_,xl,⟨_,_,_,_,_,xn,sk _ xs,xi⟩,.own yl ⟨_,_,_,_,_,yn,sk _ ys,yi⟩ .base⟩⟩
 have a6:=cm (zfF F_0 T) (mo iU) F_0.kp (by walk_at "bd")
 have bD:=cm (zjK F_1 T a6) (mo iV) F_1.kp (by walk_at "bd")
 have mj:=cm (ziH F_2 T a6) (mo iW) F_2.kp (by walk_at "bd")
 have aG:=cm (zhm F_3 T) (mo iX) F_3.kp (by walk_at "bd")
 have aO:=cm (zjJ F_4 T) (mo iY) F_4.kp (by walk_at "bd")
 have mq:=cm (zle F_5 T a6) (mo iZ) F_5.kp (by walk_at "bd")
 have d7:FnOk l.prog w K mg base (CX1 l.prog w) 2 f_6 _ ["mask"] (spParts au):=ziE F_6 T N a6 (mo iT) xk
 have mr:CalX l.prog w K mg base 2 "parts_of" ["mask"] (spParts au):=⟨f_6,_,d7,mo cK,F_6.kp,(by walk_at "bd")⟩
 have ms:=d7.calm
 have nY:=zgH ms (mo cK) F_6.kp (by walk_at "bd")
 have d8:FnOk l.prog w K mg base (CX1 l.prog w) 3 f_7 _ ["bits","row","cell"] (spAddr au):=ze5 F_7 T bD mq aO mr
 have nZ:CalX l.prog w K mg base 3 "addresses_of" ["bits","row","cell"] (spAddr au):=⟨f_7,_,d8,mo cL,F_7.kp,(by walk_at "bd")⟩
 have mv:=d8.calm
 have mw:=zgH mv (mo cL) F_7.kp (by walk_at "bd")
 have eB:=cm (zhn F_8 T aG) (mo i3) F_8.kp (by walk_at "bd")
 have mx:=cm (ziF F_9 T N aG eB) (mo i4) F_9.kp (by walk_at "bd")
 have my:=cm (zlf cM T N aG aO eB mx) (mo i5) cM.kp (by walk_at "bd")
 have mz:=cm (zlg cN T my) (mo i6) cN.kp (by walk_at "bd")
 have eE:=cm (zmM cO T) (mo i7) cO.kp (by walk_at "bd")
 have eF:=cm (zjM cP T mj) (mo i8) cP.kp (by walk_at "bd")
 have eG:=cm (zeF cQ T) (mo i9) cQ.kp (by walk_at "bd")
 have mB:=cm (zeE cR T eG) (mo ja) cR.kp (by walk_at "bd")
 have mC:=cm (zgf cS T eG mB) (mo jb) cS.kp (by walk_at "bd")
 have mD:=cm (ziI cT T mC) (mo jc) cT.kp (by walk_at "bd")
 have bE:=cm (ziG cU T) (mo jd) cU.kp (by walk_at "bd")
 have eJ:=cm (zhp cV T eE bE) (mo je) cV.kp (by walk_at "bd")
 have eK:=cm (zfG cW T bD) (mo jf) cW.kp (by walk_at "bd")
 have mE:=cm (zge cX T bE aO eK) (mo jg) cX.kp (by walk_at "bd")
 have mF:=cm (zgg cY T bE aO eK) (mo jh) cY.kp (by walk_at "bd")
 have ay:=aG
 have aP:=cm (zjL cZ T N ay) (mo ji) cZ.kp (by walk_at "bd")
 have aH:=cm (zgh c3 T aP) (mo jj) c3.kp (by walk_at "bd")
 have aQ:Clm l.prog w K mg base 1 "Chip" "__init__" (spInit K):=⟨⟨aI,a8,_,_,_,mo jk,jl,jm,jn,c4.kp,zeJ c4 T,(by walk_at "bd")⟩⟩
 have mG:=cm (zgi c5 T N) (mo jo) c5.kp (by walk_at "bd")
 have mH:=cm (zfE c7 T mG) (mo jp) c7.kp (by walk_at "bd")
 have eN:=mm am.cl jr aY aw.kp (zbi (C:=ad) aw T am) (by walk_at "bd")
 have eO:=mm am.cl js aL aq.kp (zaQ (C:=ad) aq T ay eN) (by walk_at "bd")
 have mI:=mm am.cl jt aM ar.kp (zaJ (C:=ad) ar T aH eO) (by walk_at "bd")
 have eP:=mm am.cl ju aZ ax.kp (zb6 (C:=ad) ax T am eO) (by walk_at "bd")
 have mJ:=mm am.cl jv bx aE.kp (zcT (C:=ad) aE T eP) (by walk_at "bd")
 have mK:=mm am.cl jw bA aF.kp (zcl (C:=ad) aF T am mI) (by walk_at "bd")
 have eQ:=mm av.cl jy aY aw.kp (zbi (C:=ae) aw T av) (by walk_at "bd")
 have eS:=mm av.cl jz aL aq.kp (zaQ (C:=ae) aq T ay eQ) (by walk_at "bd")
 have mL:=mm av.cl jA aM ar.kp (zaJ (C:=ae) ar T aH eS) (by walk_at "bd")
 have eU:=mm av.cl jB aZ ax.kp (zb6 (C:=ae) ax T av eS) (by walk_at "bd")
 have mM:=mm av.cl jC bx aE.kp (zcT (C:=ae) aE T eU) (by walk_at "bd")
 have mO:=mm av.cl jD jE c8.kp (zfI (C:=ae) c8 T mL) (by walk_at "bd")
 have fb:=mm aj.cl jF aY aw.kp (zbi (C:=ac) aw T aj) (by walk_at "bd")
 have fc:=mm aj.cl jG aL aq.kp (zaQ (C:=ac) aq T ay fb) (by walk_at "bd")
 have mP:=mm aj.cl jH aM ar.kp (zaJ (C:=ac) ar T aH fc) (by walk_at "bd")
 have fe:=mm aj.cl jI aZ ax.kp (zb6 (C:=ac) ax T aj fc) (by walk_at "bd")
 have mQ:=mm aj.cl jJ bx aE.kp (zcT (C:=ac) aE T fe) (by walk_at "bd")
 have mR:=mm aj.cl jK bA aF.kp (zcl (C:=ac) aF T aj mP) (by walk_at "bd")
 have ff:=mm ak.cl jM aY aw.kp (zbi (C:=af) aw T ak) (by walk_at "bd")
 have fg:=mm ak.cl jN aL aq.kp (zaQ (C:=af) aq T ay ff) (by walk_at "bd")
 have mS:=mm ak.cl jO aM ar.kp (zaJ (C:=af) ar T aH fg) (by walk_at "bd")
 have fh:=mm ak.cl jP aZ ax.kp (zb6 (C:=af) ax T ak fg) (by walk_at "bd")
 have mT:=mm ak.cl jQ jR df.kp (zgp (C:=af) df T N ak fh) (by walk_at "bd")
 have mU:=mm ak.cl jS bA aF.kp (zcl (C:=af) aF T ak mS) (by walk_at "bd")
 have fi:=mm al.cl jU jV dh.kp (ze6 (C:=ag) dh T al) (by walk_at "bd")
 have fj:=mm al.cl jW aL aq.kp (zaQ (C:=ag) aq T ay fi) (by walk_at "bd")
 have mV:=mm al.cl jX aM ar.kp (zaJ (C:=ag) ar T aH fj) (by walk_at "bd")
 have fk:=mm al.cl jY jZ di.kp (zhw (C:=ag) di T al fj) (by walk_at "bd")
 have mW:=mm al.cl j0 j3 dj.kp (zhv (C:=ag) dj T al fk) (by walk_at "bd")
 have mX:=mm al.cl j4 j5 dl.kp (zgo (C:=ag) dl T al mV) (by walk_at "bd")
 have mY:FnOk l.prog w K mg base CX0 3 aR _ ["self","cells","word"] (spMkSH ad):=zdQ (C:=ad) dq T N am ay aP aQ
 have mZ:Mak l.prog w K mg base 3 "Store" ad [] (dP []) (spMkSH ad):=zfd (mo jq) j6 j8 ka j7 mY (dq.kbinds (ps:=["self","cells","word"]) (ks:=[]) (g:=dP []) j9 rfl (fun _ _ _ _ _ _ us ws hl=>(by have hl':us.length=3:=(by have h:=hl;unfold dP at h;rw [Xay] at h;have h2:(["self","cells","word"]:List Str).length=3:=rfl;simp only [Xar,XbE] at h;omega);exact (by apply ln3 us hl';intro _ _ _;exact ⟨_,rfl,rfl⟩))) (Vals.dP (show Vals ([]:List V) ([]:List Value) from .nil)))
 have m3:FnOk l.prog w K mg base CX0 3 aS _ ["self","words"] (spMkFH ae):=zdT (C:=ae) du T N av aP aQ
 have m5:Mak l.prog w K mg base 3 "Fixed" ae [] (dP []) (spMkFH ae):=zfd (mo jx) ke kg kh kf m3 (du.kbinds (ps:=["self","words"]) (ks:=[]) (g:=dP []) (fun _ _ _ _ _ _ us ws hl=>(by have hl':us.length=2:=(by have h:=hl;unfold dP at h;rw [Xay] at h;have h2:(["self","words"]:List Str).length=2:=rfl;simp only [Xar,XbE] at h;omega);exact (by apply ln2 us hl';intro _ _;exact rfl))) (Vals.dP (show Vals ([]:List V) ([]:List Value) from .nil)))
 have m6:FnOk l.prog w K mg base CX0 3 aT _ ["self","word"] (spMk1H ac "latch"):=zdS (C:=ac) dw T aj aP aQ
 have m7:Mak l.prog w K mg base 3 "Latch" ac [] (dP []) (spMk1H ac "latch"):=zfd (mo de) ki km kq kj m6 (dw.kbinds (ps:=["self","word"]) (ks:=[]) (g:=dP []) ko rfl (fun _ _ _ _ _ _ us ws hl=>(by have hl':us.length=2:=(by have h:=hl;unfold dP at h;rw [Xay] at h;have h2:(["self","word"]:List Str).length=2:=rfl;simp only [Xar,XbE] at h;omega);exact (by apply ln2 us hl';intro _ _;exact ⟨_,rfl,rfl⟩))) (Vals.dP (show Vals ([]:List V) ([]:List Value) from .nil)))
 have m8:FnOk l.prog w K mg base CX0 3 aU _ ["self","word"] (spMk1H af "meter"):=zdR (C:=af) dz T ak aP aQ
 have ng:Mak l.prog w K mg base 3 "Meter" af [] (dP []) (spMk1H af "meter"):=zfd (mo jL) kr kA kC kz m8 (dz.kbinds (ps:=["self","word"]) (ks:=[]) (g:=dP []) kB rfl (fun _ _ _ _ _ _ us ws hl=>(by have hl':us.length=2:=(by have h:=hl;unfold dP at h;rw [Xay] at h;have h2:(["self","word"]:List Str).length=2:=rfl;simp only [Xar,XbE] at h;omega);exact (by apply ln2 us hl';intro _ _;exact ⟨_,rfl,rfl⟩))) (Vals.dP (show Vals ([]:List V) ([]:List Value) from .nil)))
 have nh:FnOk l.prog w K mg base CX0 3 aV _ ["self","room"] (spMkP ag):=zeI (C:=ag) dA T N al ay mH aQ
 have ni:Mak l.prog w K mg base 3 "Pipe" ag [] (dP []) (spMkP ag):=zfd (mo jT) kD kF kH kE nh (dA.kbinds (ps:=["self","room"]) (ks:=[]) (g:=dP []) kG rfl (fun _ _ _ _ _ _ us ws hl=>(by have hl':us.length=2:=(by have h:=hl;unfold dP at h;rw [Xay] at h;have h2:(["self","room"]:List Str).length=2:=rfl;simp only [Xar,XbE] at h;omega);exact (by apply ln2 us hl';intro _ _;exact ⟨_,rfl,rfl⟩))) (Vals.dP (show Vals ([]:List V) ([]:List Value) from .nil)))
 have ML:∀ kd,kd<5→Mth l.prog w K mg base 1 ((csOf ad ae ac af ag) kd) "__len__" [] (fun vs _=>vs) (spLen ((csOf ad ae ac af ag) kd) (lenK kd)):=fun kd h=>by
  rcases (show kd=0∨kd=1∨kd=2∨kd=3∨kd=4 by omega) with rfl | rfl | rfl | rfl | rfl
  ·exact eN
  ·exact eQ
  ·exact fb
  ·exact ff
  ·exact fi
 have MW:∀ kd,kd<5→Mth l.prog w K mg base 5 ((csOf ad ae ac af ag) kd) "write" [] (fun vs _=>vs) (spW25 (csOf ad ae ac af ag) kd):=fun kd h=>by
  rcases (show kd=0∨kd=1∨kd=2∨kd=3∨kd=4 by omega) with rfl | rfl | rfl | rfl | rfl
  ·exact za3 mK (zgV (cs:=(csOf ad ae ac af ag)) (.inl rfl))
  ·exact za3 mO (zmj (cs:=(csOf ad ae ac af ag)))
  ·exact za3 mR (zgV (cs:=(csOf ad ae ac af ag)) (.inr (.inl rfl)))
  ·exact za3 mU (zgV (cs:=(csOf ad ae ac af ag)) (.inr (.inr rfl)))
  ·exact za3 mX (w_pipe (cs:=(csOf ad ae ac af ag)))
 have MR:∀ kd,kd<5→Mth l.prog w K mg base 5 ((csOf ad ae ac af ag) kd) "read" [] (fun vs _=>vs) (spR26 (csOf ad ae ac af ag) kd):=fun kd h=>by
  rcases (show kd=0∨kd=1∨kd=2∨kd=3∨kd=4 by omega) with rfl | rfl | rfl | rfl | rfl
  ·exact za3 mJ (zew (cs:=(csOf ad ae ac af ag)) (.inl rfl))
  ·exact za3 mM (zew (cs:=(csOf ad ae ac af ag)) (.inr (.inl rfl)))
  ·exact za3 mQ (zew (cs:=(csOf ad ae ac af ag)) (.inr (.inr rfl)))
  ·exact za3 mT (zjt (cs:=(csOf ad ae ac af ag)))
  ·exact za3 mW (zk0 (cs:=(csOf ad ae ac af ag)))
 have MK:∀ kd,kd<5→Mth l.prog w K mg base 5 ((csOf ad ae ac af ag) kd) "look" [] (fun vs _=>vs) (spL26 (csOf ad ae ac af ag) kd):=fun kd h=>by
  rcases (show kd=0∨kd=1∨kd=2∨kd=3∨kd=4 by omega) with rfl | rfl | rfl | rfl | rfl
  ·exact za3 (eP.mono (by decide)) (zcp (cs:=(csOf ad ae ac af ag)) (by decide))
  ·exact za3 (eU.mono (by decide)) (zcp (cs:=(csOf ad ae ac af ag)) (by decide))
  ·exact za3 (fe.mono (by decide)) (zcp (cs:=(csOf ad ae ac af ag)) (by decide))
  ·exact za3 (fh.mono (by decide)) (zcp (cs:=(csOf ad ae ac af ag)) (by decide))
  ·exact za3 (fk.mono (by decide)) (zlr (cs:=(csOf ad ae ac af ag)))
 have nj:=cm (ziD (cs:=(csOf ad ae ac af ag)) dB T bD (mo de) (zls kM) (fun e=>.ins e aj.cl kI kJ kK kL) ML) (mo kN) dB.kp (by walk_at "bd")
 have nk:=cm (zho (cs:=(csOf ad ae ac af ag)) dC T N aG mz nj) (mo kO) dC.kp (by walk_at "bd")
 have nr:=cm (zfH dD T mD) (mo kP) dD.kp (by walk_at "bd")
 have nt:FnOk l.prog w K mg base CX0 7 aW _ ["self","bits","rows","chips","floating"] (spInitB ah (csOf ad ae ac af ag)):=zdU (C:=ah) dE T (mn zS) ai nk nr aH
 have nu:Mak l.prog w K mg base 7 "Board" ah [] (dP [.int 0]) (spInitB ah (csOf ad ae ac af ag)):=zfd (mo kQ) kR kT kW kS nt (dE.kbinds (ps:=["self","bits","rows","chips","floating"]) (ks:=[]) (g:=dP [.int 0 bh]) kU rfl (fun _ _ _ _ _ _ us ws hl=>(by have hl':us.length=4:=(by have h:=hl;unfold dP at h;rw [Xay] at h;have h2:(["self","bits","rows","chips","floating"]:List Str).length=5:=rfl;simp only [Xar,XbE] at h;omega);exact (by apply ln4 us hl';intro _ _ _ _;exact ⟨_,rfl,rfl⟩))) (Vals.dP (show Vals [V.int 0] [Value.int 0 bh] from .cons ⟨_,rfl⟩ .nil)))
 have nv:=mm ai.cls kX kY dF.kp (zeK (C:=ah) dF T ai aG aO) (by walk_at "bd")
 have ny:Mth l.prog w K mg base 2 ah "in_bits" [] (fun vs _=>vs) (spInBits ah):=za3 nv zmU
 have nz:=mm ai.cls kZ k4 dG.kp (zcm (C:=ah) dG T ny) (by walk_at "bd")
 have nA:=mm ai.cls k6 k7 dH.kp (zeL (C:=ah) dH T ai) (by walk_at "bd")
 have nB:=mm ai.cls k8 k9 dI.kp (ze7 (C:=ah) dI T ai) (by walk_at "bd")
 have fm:=mm ai.cls lc ld dJ.kp (zhx (C:=ah) dJ T ai eJ eF nz MK) (by walk_at "bd")
 have nC:FnOk l.prog w K mg base CX0 7 aX _ ["self","address","quiet"] (spRdB ah (csOf ad ae ac af ag)):=zgq (C:=ah) bB T N ai fm nA nB MK MR
 have nD:Mth l.prog w K mg base 7 ah "read" ["quiet"] k21 (spRdB ah (csOf ad ae ac af ag)):=zjQ ai.cls le lg bB.kp nC (bB.kbinds (ps:=["self","address","quiet"]) (ks:=["quiet"]) (g:=k21) lf rfl (fun _ _ _ _ _ _ us ws hl=>(match us,ws,hl with | [_,_],[_],_=>⟨_,rfl,rfl⟩ | [],_,h=>nomatch h | [_],_,h=>nomatch h | [_,_],[],h=>nomatch h | [_,_],_ :: _ :: _,h=>nomatch h | _ :: _ :: _ :: _,_,h=>nomatch h)) zkM)
 have nE:=cm (zgk dL T) (mo lh) dL.kp (by walk_at "bd")
 have bF:=cm (zhs dM T) (mo lj) dM.kp (by walk_at "bd")
 have nF:Cal l.prog w K mg base 0 "_law_same" ["found","due"] (fun _ _ _ _=>False):=⟨bu,ck,⟨fun _ _ _ _ h=>h.elim,fun _ _ _ _ _ _ _ _ _ _ _ _ _ h=>h.elim⟩,mo bC,aN.kp,(by walk_at "bd")⟩
 have nG:Cal l.prog w K mg base 1 "_law_same" ["found","due"] (spSameL 0):=zgH (zeG aN T nF (fun k e=>by cases e <;> rfl)) (mo bC) aN.kp (by walk_at "bd")
 have fo:Cal l.prog w K mg base 2 "_law_same" ["found","due"] (spSameL 1):=zgH (zeG aN T nG (fun k e=>by cases e <;> rfl)) (mo bC) aN.kp (by walk_at "bd")
 have nH:=cm (ziM dO T bF) (mo ll) dO.kp (by walk_at "bd")
 have nI:=cm (zhq dQ T) (mo lq) dQ.kp (by walk_at "bd")
 have nJ:=cm (zhu (cs:=(csOf ad ae ac af ag)) dR T m5 ni m7 ng mZ) (mo lr) dR.kp (by walk_at "bd")
 have nK:=cm (zgl (cs:=(csOf ad ae ac af ag)) dS T nJ) (mo lx) dS.kp (by walk_at "bd")
 have nM:=cm (ziK (cs:=(csOf ad ae ac af ag)) dU T nH nI) (mo ly) dU.kp (by walk_at "bd")
 have nN:=cm (zhr dW T (mn zS)) (mo lz) dW.kp (by walk_at "bd")
 have nP:=cm (ziL (cs:=(csOf ad ae ac af ag)) dX T nM nN) (mo lA) dX.kp (by walk_at "bd")
 have nQ:=cm (zgn (cs:=(csOf ad ae ac af ag)) dY T nK nP) (mo lB) dY.kp (by walk_at "bd")
 have nR:=cm (zeH dZ T bF) (mo lC) dZ.kp (by walk_at "bd")
 have nS:=cm (ziJ d3 T nR) (mo lD) d3.kp (by walk_at "bd")
 have nU:=cm (zgm (CT:=au) (cs:=(csOf ad ae ac af ag)) d4 T bF mw fo) (mo lE) d4.kp (by walk_at "bd")
 have nV:=cm (zgj (C:=ah) (cs:=(csOf ad ae ac af ag)) d5 T nS fo fm nD eE eF eJ mE mF MK) (mo lF) d5.kp (by walk_at "bd")
 have nW:=cm (zht (C:=ah) (cs:=(csOf ad ae ac af ag)) d6 T nE nQ nu nV nU MW) (mo lG) d6.kp (by walk_at "bd")
 exact oklaw mi T nW
theorem walk {l:W.OpenLaw}{q:Program}{loose:List Str}{XP:(Str→Option Value)→Heap→Prop}{YP:World→Heap→Prop}{d:DefRec}{K:Params→W.Frag}(hn:l.most=some 63)(hdf:d.params.defaults=[])
  (hY:∀ (w:World) (h:Heap),YP w h→(K w.params).In h)
  (F:∀ (w:World) (mg:Str→Option Value) (fa:Addr) (h:Heap),(K w.params).In h→h.Ns mainGlobals mg→mg d.name=some (.ref fa) →
   ∃ fd:FuncData,(∀ (s:Shared) (u:Value),BindsTo s fd ⟨[u],[]⟩ [("script",u)])∧∀ base:Heap,(K w.params).In base→base.Ns mainGlobals mg→FnOk l.prog w (K w.params) mg base CX0 10 fa fd ["script"] (spLaw (K w.params))) :
  W.WalkO q loose XP YP l.row.toRowW d [] (fun f vs=>PySem.call f vs):=
 L2.walk_ofB (n:=63) (k:=10) (x := "script") (CX:=fun _=>CX0) (sp:=fun w=>spLaw (K w.params)) hn (by decide) hdf ⟨rfl,by decide,by decide,rfl⟩ hY F (fun _ _ a ns hl hb _ hS=>⟨a,ns,rfl,hS,hl,hb,fun _=>rfl⟩) fun _ _ _ _ _ z=>z
end Cb
open PySem PySem.W PyProof.Rows Cb L2
local macro_rules | `(tactic| walk_at "fm")=>`(tactic| (refine' zl6 ?l ?c ?k;(case l=>k_is);(case c=>k_is);(case k=>k_is)))
local macro_rules | `(tactic| walk_at "fd")=>`(tactic| (refine' zmZ ?l ?c ?k;(case l=>k_is);(case c=>k_is);(case k=>k_is)))
local macro_rules | `(tactic| walk_at "na")=>`(tactic| (show W.findIn _ _ _=_;k_is))
local macro_rules | `(tactic| walk_at "nr")=>`(tactic| (show W.nsIn _ _ _=some (some _);k_is))
local macro_rules | `(tactic| walk_at "nf")=>`(tactic| (show W.findIn _ _ _=some (some _);k_is))
local macro_rules | `(tactic| walk_at "ni")=>`(tactic| (show W.isFn _ _=true;k_is))
local macro_rules | `(tactic| walk_at "cs")=>`(tactic| exact ⟨by k_is,by k_is,by k_is,by k_is⟩)
local macro_rules | `(tactic| walk_at "cl")=>`(tactic| exact ⟨by walk_at "cs",by walk_at "na",by walk_at "na",by walk_at "na"⟩)
local macro_rules | `(tactic| walk_at "cb")=>`(tactic| exact ⟨by walk_at "cs",by walk_at "na",by walk_at "na",by walk_at "na",by walk_at "na",by walk_at "na",by walk_at "na",by walk_at "na"⟩)
local macro_rules | `(tactic| walk_at "cw")=>`(tactic| exact ⟨by walk_at "cs",by walk_at "na",by walk_at "na",by walk_at "na",by walk_at "na"⟩)
local macro_rules | `(tactic| walk_at "cv")=>`(tactic| exact ⟨by walk_at "cs",by walk_at "na",by walk_at "na",by walk_at "na",by walk_at "na",by walk_at "na",by walk_at "na"⟩)
set_option maxRecDepth 1000000 in
set_option maxHeartbeats 0 in
theorem PySem.Challenge.cw_chipbus_k43_whole_every_address_holds : PySem.Challenge.rw_chipbus_k43_whole_every_address.Holds := by
 refine Hd.top ?_
 k_fill
 refine Cb.walk (l:=PySem.Challenge.rw_chipbus_k43_whole_every_address) rfl rfl (fun w h Y=>PySem.W.kIn_of Y) ?F
 case F =>
  intro w mg fa h KX G hmg
  refine' Cb.all_mk KX G hmg ?_ ?_ ?_ ?_ ?_ ?_ ?_ ?_ ?_ ?_ ?_ ?_ ?_ ?_ ?_ ?_ ?_ ?_ ?_ ?_ ?_ ?_ ?_ ?_ ?_ ?_ ?_ ?_ ?_ ?_ ?_ ?_ ?_ ?_ ?_ ?_ ?_ ?_ ?_ ?_ ?_ ?_ ?_ ?_ ?_ ?_ ?_ ?_ ?_ ?_ ?_ ?_ ?_ ?_ ?_ ?_ ?_ ?_ ?_ ?_ ?_ ?_ ?_ ?_ ?_ ?_ ?_ ?_ ?_ ?_ ?_ ?_ ?_ ?_ ?_ ?_ ?_ ?_ ?_ ?_ ?_ ?_ ?_ ?_ ?_ ?_ ?_ ?_ ?_ ?_ ?_ ?_ ?_ ?_ ?_ ?_ ?_ ?_ ?_ ?_ ?_ ?_ ?_ ?_ ?_ ?_ ?_ ?_ ?_ ?_ ?_ ?_ ?_ ?_ ?_ ?_ ?_ ?_ ?_ ?_ ?_ ?_ ?_ ?_ ?_ ?_ ?_ ?_ ?_ ?_ ?_ ?_ ?_ ?_ ?_ ?_ ?_ ?_ ?_ ?_ ?_ ?_ ?_ ?_ ?_ ?_ ?_ ?_ ?_ ?_ ?_ ?_ ?_ ?_ ?_ ?_ ?_ ?_ ?_ ?_ ?_ ?_ ?_ ?_ ?_ ?_ ?_ ?_ ?_ ?_ ?_ ?_ ?_ ?_ ?_ ?_ ?_ ?_ ?_ ?_ ?_ ?_ ?_ ?_ ?_ ?_ ?_ ?_ ?_ ?_ ?_ ?_ ?_ ?_ ?_ ?_ ?_ ?_ ?_ ?_ ?_ ?_ ?_ ?_ ?_ ?_ ?_ ?_ ?_ ?_ ?_ ?_ ?_ ?_ ?_ ?_ ?_ ?_ ?_ ?_ ?_ ?_ ?_ ?_ ?_ ?_ ?_ ?_ ?_ ?_ ?_ ?_ ?_ ?_ ?_ ?_ ?_ ?_ ?_ ?_ ?_ ?_ ?_ ?_ ?_ ?_ ?_ ?_ ?_ ?_ ?_ ?_ ?_ ?_ ?_ ?_ ?_ ?_ ?_ ?_ ?_
  all_goals first | walk_at "nr" | walk_at "fm" | walk_at "cl" | walk_at "nf" | walk_at "ni" | walk_at "fd" | walk_at "cb" | k_is | rfl | skip
#print axioms PySem.Challenge.cw_chipbus_k43_whole_every_address_holds
