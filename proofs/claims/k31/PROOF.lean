import PyProof.Rows.All
import Wide.All
import OpenK.AllK
import Wide.FinOn
import Lean
import PyProof.EqAt
import PyProof.EqKinds
import PyProof.TupleCall
import PyProof.NeKinds
import PyProof.DelItemList
import PyProof.StationsW
import PyProof.Rows.Own
import PyProof.RulesDel
import PyProof.RulesAs
import PyProof.ExcBaseAll.ValueError
import KE.KTryMore
import PyProof.ExcArgs
import KE.KIsAll
import PyProof.ListRange
import PyProof.Rows.RuleM_int
import PyProof.Draws
import PyProof.EnumMake
import KE.KDictSum
import KE.KItemsList
import KE.KSortTup
import PyProof.MinMaxWalk
import PyProof.WalkInts
import PyProof.CallTypeRange
import KE.KEqDict
import PyProof.FitsInt
import PyProof.Rows.StrNews
import KE.KIntText
import PyProof.StrWalks
import PyProof.Rows.StrRules
import KE.KUnpackStar
import PyProof.StrLawsTight
import PyProof.StrLawsChain
import PyProof.Rows.StrClose
import PyProof.SetRoads
import PyProof.DictCompW
import PyProof.ReprRoads
import PyProof.ReprLen
import PyProof.AttrMissHeap
import KE.KDictOf
import PyProof.DictWalks
import PyProof.SeqI3
import PySem.Challenge.RW_chipbus_k31_boards_made
set_option genSizeOf false
set_option bootstrap.genMatcherCode false
set_option tactic.hygienic false
section
open PySem PySem.W PySem.Spec PyProof.Rows
def Xaa:=@wpAny_bind
def Xab:=@Heap.get?_push_of_some
def Xac:=@wpAny_pure
def Xad:=@List.mem_singleton
def Xae:=@Nat.le_refl
def Xaf:=@List.length_map
def Xag:=@List.getElem?_eq_some_iff
def Xah:=@decide_eq_true
def Xai:=@decide_eq_false
def Xaj:=@Heap.get?_push_size
def Xak:=@Nat.lt_of_lt_of_le
def Xal:=@Heap.lt_size
def Xam:=@Bool.false_ne_true
def Xan:=@List.size_toArray
def Xao:=@List.mem_cons
def Xap:=@Int.toNat_natCast
def Xaq:=@List.length_append
def Xar:=@Nat.le_trans
def Xas:=@wpAny_mono
def Xat:=@List.getElem?_map
def Xau:=@List.length_cons
def Xav:=@List.getElem?_eq_getElem
def Xaw:=@Nat.ne_of_lt
def Xax:=@List.mem_cons_of_mem
def Xay:=@List.mem_of_getElem?
def Xaz:=@List.map_cons
def XaA:=@List.mem_append_right
def XaB:=@List.mem_cons_self
def XaC:=@List.mem_map
def XaD:=@List.getElem?_eq_none
def XaE:=@Option.map_eq_some_iff
def XaF:=@List.mem_append
def XaG:=@Nat.testBit_and
def XaH:=@List.map_append
def XaI:=@Heap.size_push
def XaJ:=@Heap.get?_update_self
def XaK:=@Array.getElem?_eq_getElem
def XaL:=@wpAny_newObj_type
def XaM:=@Nat.lt_of_le_of_lt
def XaN:=@wpAny_field
def XaO:=@List.nodup_append
def XaP:=@Heap.get?_update_other
def XaQ:=@Nat.pow_le_pow_right
def XaR:=@Nat.lt_irrefl
def XaS:=@wpAny_call_entry
def XaT:=@Bool.and_eq_true
def XaU:=@wpAny_truthy_bool
def XaV:=@wpAny_holding
def XaW:=@wpAny_standAt
def XaX:=@wpAny_setField
def XaY:=@List.length_nil
def XaZ:=@Nat.lt_succ_self
def Xa0:=@wpAny_askSetting
def Xa1:=@List.replicate_succ
def Xa2:=@of_decide_eq_true
def Xa3:=@List.length_take
def Xa4:=@List.length_drop
def Xa5:=@Nat.testBit_succ
def Xa6:=@Nat.mod_two_eq_zero_or_one
def Xa7:=@List.map_map
def Xa8:=@List.take_of_length_le
def Xa9:=@wpAny_setState_of
def Xba:=@List.pairwise_iff_getElem
def Xbb:=@wpAny_Call_Name_kw
def Xbc:=@List.mem_nil_iff
def Xbd:=@List.all_eq_true
def Xbe:=@Nat.pow_succ
def Xbf:=@wpAny_seqItems
def Xbg:=@List.nodup_nil
def Xbh:=@List.getElem_mem
def Xbi:=@List.getElem_map
def Xbj:=@List.length_replicate
def Xbk:=@Array.getElem?_toList
def Xbl:=@Int.emod_lt_of_pos
def Xbm:=@List.append_nil
def Xbn:=@Nat.lt_of_succ_lt
def Xbo:=@Nat.testBit_two_pow
def Xbp:=@decide_eq_decide
def Xbq:=@Nat.le_succ
def Xbr:=@Nat.ne_of_gt
def Xbs:=@codeAny_mono
def Xbt:=@wpAny_passesOwn
def Xbu:=@Nat.not_lt_zero
def Xbv:=@Int.emod_nonneg
def Xbw:=@Nat.two_pow_pos
def Xbx:=@Array.getElem?_eq_some_iff
def Xby:=@List.getD_eq_getElem?_getD
def Xbz:=@Heap.get?_none_of_le
def XbA:=@List.mem_append_left
def XbB:=@List.getElem?_eq_none_iff
def XbC:=@wpAny_rule
def XbD:=@List.getElem_toArray
def XbE:=@List.mem_of_mem_drop
def XbF:=@List.findIdx?_eq_some_iff_getElem
def XbG:=@Bool.and_false
def XbH:=@Nat.le_of_lt
def XbI:=@Nat.lt_trans
def XbJ:=@wpAny_comprehension_free
def XbK:=@Nat.and_le_right
def XbL:=@List.map_congr_left
def XbM:=@wpAny_pyIter_tuple
def XbN:=@Bool.eq_iff_iff
def XbO:=@List.nodup_cons
def XbP:=@List.length_set
def XbQ:=@wpAny_setField_rec
def XbR:=@List.map_replicate
end
set_option Elab.async false
set_option linter.all false
set_option maxRecDepth 100000
set_option maxHeartbeats 4000000
local macro_rules | `(tactic| omega)=>`(tactic| lia)
section
set_option maxRecDepth 1000000
set_option maxHeartbeats 0
namespace Hd
open PySem PySem.W
noncomputable def runQ (p:Program)(w:World)(n₀:Nat)(ann:Option Value)(N:Nat):SharedT→Thread→Option SharedT:=
 @Nat.rec (fun _=>SharedT→Thread→Option SharedT) (fun _ _=>none) (fun _ ih s t=>match through t with
  | true=>some s
  | false=>match Fast.tw6613529449190102663 n₀ ann t with
   | false=>none
   | true=>match Fast.tw10156331382660048174 (Fast.tw11892475500146522536 Fast.tw14364793385576792824) p w s t with
    | some (s',t')=>ih s' t'
    | none=>none) N
theorem zli {p:Program}{w:World}{n₀:Nat}{ann:Option Value}:∀ {N:Nat} {s s':SharedT} {t:Thread},runQ p w n₀ ann N s t=some s'→topRun treeTable p w n₀ ann N s.abs t=some s'.abs
 | 0,s,s',t,h=>by cases h
 | N+1,s,s',t,h=>by
  have h:(match through t with
  | true=>some s
  | false=>match Fast.tw6613529449190102663 n₀ ann t with
   | false=>none
   | true=>match Fast.tw10156331382660048174 (Fast.tw11892475500146522536 Fast.tw14364793385576792824) p w s t with
    | some (s',t')=>runQ p w n₀ ann N s' t'
    | none=>none)=some s':=h
  rw [← Fast.te6613529449190102663,← Fast.te10156331382660048174,← Fast.te11892475500146522536,← Fast.te14364793385576792824] at h
  unfold topRun
  cases ht:through t with
  | true=>rw [ht] at h;cases h;rfl
  | false =>
   rw [ht] at h
   cases hk:stepOk n₀ ann t with
   | false=>rw [hk] at h;cases h
   | true =>
    rw [hk] at h
    cases hs:stepT (denote treeTable) p w s t with
    | none=>rw [hs] at h;cases h
    | some r=>obtain ⟨s₂,t₂⟩:=r;rw [hs] at h;dsimp only;rw [stepT_spec hs];exact zli h
noncomputable def treeL:List Obj→Nat→BT→BT:=@List.rec Obj (fun _=>Nat→BT→BT) (fun _ t=>t) (fun o _ ih n t=>ih (n+1) (t.ins n o))
noncomputable def zmJ (P:Params):BT:=treeL (boot_heap P).objs.toList 0 .nil
theorem zk8 (P:Params):absHeap (zmJ P) 11 (boot_heap P).life=boot_heap P:=by kernel_rfl
theorem zkc (P:Params):((boot_heap P).isNs mainGlobals && (Array.mk []:Array GenState).size == 0,(boot_heap P).objs.size,(boot_heap P).nsMap mainGlobals "__annotations__")=(true,11,some (.ref 6)):=by kernel_rfl
noncomputable def zfK (P:Params)(os:OsState):SharedT:=⟨zmJ P,11,(boot_heap P).life,Array.mk [],boot_drawn,boot_toks,os⟩
noncomputable def getT (s:SharedT)(a:Addr):Option Obj:=match Nat.blt a s.n with
 | true=>match s.tree.get a with
  | some o=>alive o
  | none=>none
 | false=>none
theorem zmB {s:SharedT}{a:Addr}{o:Obj}(h:getT s a=some o):s.abs.heap.get? a=some o:=by
 unfold getT at h
 cases e:Nat.blt a s.n with
 | false=>rw [e] at h;cases h
 | true =>
  rw [e] at h
  cases g:s.tree.get a with
  | none=>rw [g] at h;cases h
  | some x=>rw [g] at h;exact (abs_get (Nat.le_of_ble_eq_true e) g).trans h
theorem zhN {s:SharedT}:∀ {as:List Addr} {L:List (Nat×Obj)},as.map (getT s)=L.map (fun p=>some p.2)→as.map s.abs.heap.get? = L.map (fun p=>some p.2)
 | [],[],_=>rfl
 | [],_ :: _,h=>by cases h
 | _ :: _,[],h=>by cases h
 | a :: as,p :: L,h=>by
  obtain ⟨h1,h2⟩:=List.cons.inj h
  exact List.cons_eq_cons.mpr ⟨zmB h1,zhN h2⟩
abbrev zhW (p q:Program)(loose:List Str)(Xt:Shared→Bool)(N:Nat)(g0:Bool)(w:World)(os:OsState):Prop:=(runQ p w 11 (some (.ref 6)) N (zfK w.params os) (topStub p)).map (fun s =>
   ((staticsOk (importedModules p.main.body) (boot_heap w.params) s.abs.heap && namesBound p s.abs.heap && gensDone s.abs && laidKept (boot_heap w.params) s.abs.heap),openSeen q loose (importedModules p.main.body) Xt g0 s.abs))=some (true,openGood q loose)
def zlK (p q:Program)(loose:List Str)(Xt:Shared→Bool)(N:Nat)(g0:Bool):Prop:=∀ (w:World) (os:OsState),zhW p q loose Xt N g0 w os
def SeenF (row:String)(b:Bool)(p q:Program)(loose:List Str)(Xt:Shared→Bool)(N:Nat)(g0:Bool):Prop:=∀ (w:World) (os:OsState),zhW p q loose Xt N g0 (w.withFollow row b) os
theorem zhl {p q:Program}{loose:List Str}{Xt:Shared→Bool}{K:Params→Frag}{as:List Addr}{ex:∀ P,as=(K P).map (·.1)}{N:Nat}{g0:Bool}{w:World}(h:∀ os,zhW p q loose Xt N g0 w os)(e:opening p=plainProg p.main.scope.names)(f:∀ s,fenceModules? p s=some s)(hN:Nat.ble 600 N=true)
  (hK:∀ os:OsState,(runQ p w 11 (some (.ref 6)) N (zfK w.params os) (topStub p)).map (fun s=>as.map (getT s))=some ((K w.params).map fun p=>some p.2)) :
  (openEnds treeTable p w N).map (fun s=>(openSeen q loose (importedModules p.main.body) Xt g0 s,(kHook K as ex).obs s))=some (openGood q loose,(kHook K as ex).val w):=by
 have ho:=boot_open e hN f w
 obtain ⟨⟨hh,gs,d,k,os⟩,e1,e2⟩:=XaE.mp ho
 obtain ⟨rfl,rfl,rfl,rfl⟩:hh=boot_heap w.params∧gs=Array.mk []∧d=boot_drawn∧k=boot_toks:=by simpa using e2
 obtain ⟨z1,z2,z3⟩:_∧_∧_:=by simpa only [Prod.mk.injEq] using zkc w.params
 obtain ⟨s,r,l⟩:=XaE.mp (h os)
 obtain ⟨s',r',l'⟩:=XaE.mp (hK os)
 rw [r] at r'
 cases r'
 have l3:=zhN l'
 obtain ⟨l1,l2⟩:_∧_:=by simpa only [Prod.mk.injEq] using l
 have r:=zli r
 have ea:(zfK w.params os).abs=⟨boot_heap w.params,Array.mk [],boot_drawn,boot_toks,os⟩:=by
  show (⟨absHeap (zmJ w.params) 11 (boot_heap w.params).life,Array.mk [],boot_drawn,boot_toks,os⟩:Shared)=_
  rw [zk8]
 rw [ea] at r
 have t:topFrom treeTable p w N ⟨boot_heap w.params,Array.mk [],boot_drawn,boot_toks,os⟩=some s.abs:=by
  unfold topFrom
  dsimp only
  rw [z1,z2,z3,r]
  show (match staticsOk (importedModules p.main.body) (boot_heap w.params) s.abs.heap && namesBound p s.abs.heap && gensDone s.abs && laidKept (boot_heap w.params) s.abs.heap with | true=>_ | false=>_)=_
  rw [l1]
 unfold openEnds
 rw [e1]
 show (topFrom treeTable p w N _).map _=_
 rw [t]
 exact congrArg some (Prod.ext l2 l3)
open PySem.Calls PyProof.Rows in
abbrev G1 (p q:Program)(N:Nat)(w:World)(os:OsState):Prop:=(runQ p w 11 (some (.ref 6)) N (zfK w.params os) (topStub p)).map (fun s =>
   ((staticsOk (importedModules p.main.body) (boot_heap w.params) s.abs.heap && namesBound p s.abs.heap && gensDone s.abs && laidKept (boot_heap w.params) s.abs.heap),seen ((recsOf q).map (·.name)) (ownsOf q) [] { s.abs with gens:=#[] }))=some (true,expectedOf q)
open PySem.Calls PyProof.Rows in
abbrev G2 (p q:Program)(loose:List Str)(Xt:Shared→Bool)(N:Nat)(g0:Bool)(w:World)(os:OsState):Prop:=(runQ p w 11 (some (.ref 6)) N (zfK w.params os) (topStub p)).map (fun s =>
   (s.abs.heap.bltView,s.abs.heap.keysOk (looseW q loose) ((recsOf q).map (·.name)) ((litsOf q).map (·.1)) ((clssOf q (looseW q loose)).map (·.name)) && s.abs.heap.accountedOkI (importedModules p.main.body) && s.abs.heap.isNs mainGlobals && s.abs.heap.isNs builtinsNs && tablesOk q s.abs.heap && Xt s.abs && (if g0 then s.abs.gens.size == 0 else !leftWithCleanup s.abs.gens),tabsOk q s.abs,pinSeenD q (drecsOf q) s.abs))=some (bltViewBooted,true,true,pinGoodD (drecsOf q))
open PySem.Calls PyProof.Rows in
abbrev G3 (p q:Program)(loose:List Str)(N:Nat)(w:World)(os:OsState):Prop:=(runQ p w 11 (some (.ref 6)) N (zfK w.params os) (topStub p)).map (fun s =>
   (plainSeenE q (looseW q loose) s.abs,plainSeenD q loose s.abs,wideSeen q s.abs,clsSeenW q loose s.abs))=some (plainGoodE q (looseW q loose),plainGoodD q loose,wideGood q,clsGoodW q loose)
theorem nine {α A B C D E F G H I J:Type}{o:Option α}{f:α→A}{g:α→B}{f1:α→C}{f2:α→D}{f3:α→E}{f4:α→F}{f5:α→G}{f6:α→H}{f7:α→I}{f8:α→J}{a:A}{b:B}{c:C}{d:D}{e:E}{i:F}{j:G}{k:H}{l:I}{m:J}(h:o.map (fun s=>(f s,g s))=some (a,b))(h':o.map (fun s=>(f1 s,f2 s,f3 s,f4 s))=some (c,d,e,i))(h'':o.map (fun s=>(f5 s,f6 s,f7 s,f8 s))=some (j,k,l,m)) :
  o.map (fun s=>(f s,g s,f1 s,f2 s,f3 s,f4 s,f5 s,f6 s,f7 s,f8 s))=some (a,b,c,d,e,i,j,k,l,m):=by
 cases o with
 | none=>cases h
 | some s=>cases h;cases h';cases h'';rfl
theorem zl3 {p q:Program}{loose:List Str}{Xt:Shared→Bool}{N:Nat}{g0:Bool}{w:World}{os:OsState}(h:G1 p q N w os)(h':G2 p q loose Xt N g0 w os)(h'':G3 p q loose N w os):zhW p q loose Xt N g0 w os:=nine h h' h''
theorem left_of {p q:Program}{loose:List Str}{Xt:Shared→Bool}{K:Params→Frag}{as:List Addr}{ex:∀ P,as=(K P).map (·.1)}{N:Nat}{g0:Bool}(h:zlK p q loose Xt N g0)(e:opening p=plainProg p.main.scope.names)(f:∀ s,fenceModules? p s=some s)(hN:Nat.ble 600 N=true)
  (hK:∀ (w:World) (os:OsState),(runQ p w 11 (some (.ref 6)) N (zfK w.params os) (topStub p)).map (fun s=>as.map (getT s))=some ((K w.params).map fun p=>some p.2)) :
  LeftO p q loose Xt (kHook K as ex).obs (kHook K as ex).val N g0:=fun w=>zhl (h w) e f hN (hK w)
theorem left_split {p q:Program}{loose:List Str}{Xt:Shared→Bool}{K:Params→Frag}{as:List Addr}{ex:∀ P,as=(K P).map (·.1)}{N:Nat}{g0:Bool}(row:String)(h:SeenF row false p q loose Xt N g0)(h':SeenF row true p q loose Xt N g0)(e:opening p=plainProg p.main.scope.names)(f:∀ s,fenceModules? p s=some s)(hN:Nat.ble 600 N=true)
  (hK:∀ (w:World) (os:OsState),(runQ p (w.withFollow row false) 11 (some (.ref 6)) N (zfK (w.withFollow row false).params os) (topStub p)).map (fun s=>as.map (getT s))=some ((K (w.withFollow row false).params).map fun p=>some p.2))
  (hK':∀ (w:World) (os:OsState),(runQ p (w.withFollow row true) 11 (some (.ref 6)) N (zfK (w.withFollow row true).params os) (topStub p)).map (fun s=>as.map (getT s))=some ((K (w.withFollow row true).params).map fun p=>some p.2)) :
  LeftO p q loose Xt (kHook K as ex).obs (kHook K as ex).val N g0:=fun w=>by
 have z:=World.withFollow_self w row
 cases hb:w.params.followText row <;> rw [hb] at z
 ·have:=zhl (ex:=ex) (h w) e f hN (hK w)
  rw [z] at this;exact this
 ·have:=zhl (ex:=ex) (h' w) e f hN (hK' w)
  rw [z] at this;exact this
end Hd
end
section
set_option maxRecDepth 1000000
set_option maxHeartbeats 0
namespace Hd
open PySem PySem.W
def vw:Program:=PySem.W.view PySem.Challenge.pw_chipbus_k31_boards_made [0,2,3,4,5,6,7,8,9,11,12,13,15,16,17,19,20,21,22,24,25,26,27,28,29,30,31,33,34,35,36,37,38,39,40,42,43,44,45,46,47,48,50,51,52,53,54,55,56,57,58,60,61,62,63,64,65,66,67,68,69,70,71,72,73,74,75,76,77,78,79]
def ls:List Str:=["Store","Latch","Meter","Pipe","Board"]
theorem g1:∀ (w:World) (os:OsState),G1 PySem.Challenge.rw_chipbus_k31_boards_made.row.prog vw 12718 w os:=by
 intro w os
 kernel_rfl
theorem g2:∀ (w:World) (os:OsState),G2 PySem.Challenge.rw_chipbus_k31_boards_made.row.prog vw ls (fun s=>xlAt vw [] s && recOk (RowW.records (OpenRow.toRowW (OpenLaw.row PySem.Challenge.rw_chipbus_k31_boards_made))) s) 12718 true w os:=by
 intro w os
 kernel_rfl
theorem g3:∀ (w:World) (os:OsState),G3 PySem.Challenge.rw_chipbus_k31_boards_made.row.prog vw ls 12718 w os:=by
 intro w os
 kernel_rfl
theorem h1:zlK PySem.Challenge.rw_chipbus_k31_boards_made.row.prog vw ls (fun s=>xlAt vw [] s && recOk (RowW.records (OpenRow.toRowW (OpenLaw.row PySem.Challenge.rw_chipbus_k31_boards_made))) s) 12718 true:=fun w os=>zl3 (g1 w os) (g2 w os) (g3 w os)
end Hd
open PySem PySem.W in
local macro_rules | `(tactic| o_head $H)=>`(tactic| (
 refine holds_open (q:=Hd.vw) (loose:=Hd.ls) (Xt:=fun s=>xlAt Hd.vw [] s && recOk (RowW.records (OpenRow.toRowW (OpenLaw.row PySem.Challenge.rw_chipbus_k31_boards_made))) s) (XP:=XL Hd.vw []) (Yf:=Hook.obs $H) (Ya:=Hook.val $H) (YP:=Hook.says $H) (N:=12718) ?hl (Hook.of $H) (Hook.keeps $H) (fun s e=>xl_of s (Bool.and_eq_true_iff.mp e).1) XL.keeps (by rfl) (by rfl) (by rfl) (fun s e=>recFacts_of (Bool.and_eq_true_iff.mp e).2) (by rfl) (by first | assumption | decide +kernel) (by decide +kernel) ⟨rfl,rfl,rfl,rfl,rfl,by decide +kernel⟩ ?hw ?hc
 (case hl=>refine Hd.left_of Hd.h1 (by kernel_rfl) (fun s=>by kernel_rfl) rfl ?h2;(case h2=>(intro w os;kernel_rfl)))))
open_top Hd.top for PySem.Challenge.rw_chipbus_k31_boards_made
end
section
namespace L2
open PySem PySem.Spec PyProof.Rows
abbrev Key:=Sum Int Str
def zhm:Key→Value→Bool
 | .inl k,v=>Value.isInt k v
 | .inr x,v=>Value.isStrOf x v
def keyH (w:World):Key→Int
 | .inl k=>hashInt k
 | .inr x=>hashStr w x
theorem zaI:∀ {k:Key} {v:Value},zhm k v=true→(∃ i t,k=Sum.inl i∧v=Value.int i t)∨(∃ x t,k=Sum.inr x∧v=Value.str x t)
 | .inl i,v,h=>by
  obtain ⟨t,e⟩:=Value.isInt_shape (k:=i) (v:=v) h
  exact .inl ⟨i,t,rfl,e⟩
 | .inr x,v,h=>by
  obtain ⟨t,e⟩:=Value.isStrOf_shape (x:=x) (v:=v) h
  exact .inr ⟨x,t,rfl,e⟩
theorem zjC (i:Int)(t:Tok):zhm (.inl i) (.int i t)=true:=by simp [zhm,Value.isInt]
theorem zjB (x:Str)(t:Tok):zhm (.inr x) (.str x t)=true:=by simp [zhm,Value.isStrOf]
theorem key_ll (a b:Int):decide ((Sum.inl a:Key)=Sum.inl b)=(a == b):=by
 by_cases e:a=b
 ·subst e;simp
 ·have h:¬ (Sum.inl a:Key)=Sum.inl b:=fun q=>e (Sum.inl.inj q)
  rw [Xai h]
  exact (beq_eq_false_iff_ne.mpr e).symm
theorem key_rr (a b:Str):decide ((Sum.inr a:Key)=Sum.inr b)=decide (a=b):=by
 by_cases e:a=b
 ·subst e;simp
 ·have h:¬ (Sum.inr a:Key)=Sum.inr b:=fun q=>e (Sum.inr.inj q)
  rw [Xai h,Xai e]
theorem key_lr (a:Int)(b:Str):decide ((Sum.inl a:Key)=Sum.inr b)=false:=Xai (fun q=>nomatch q)
theorem key_rl (a:Str)(b:Int):decide ((Sum.inr a:Key)=Sum.inl b)=false:=Xai (fun q=>nomatch q)
def zaE (prog:Program)(w:World):PySem.KeyKind prog w Key where
 is:=zhm
 hash:=keyH w
 inj:=fun v a b ha hb=>by
  rcases zaI ha with ⟨i,t,rfl,rfl⟩ | ⟨x,t,rfl,rfl⟩
  ·rcases zaI hb with ⟨j,u,rfl,e⟩ | ⟨y,u,rfl,e⟩
   ·injection e with e1 _;rw [e1]
   ·exact nomatch e
  ·rcases zaI hb with ⟨j,u,rfl,e⟩ | ⟨y,u,rfl,e⟩
   ·exact nomatch e
   ·injection e with e1 _;rw [e1]
 byValue:=fun k v h=>by
  rcases zaI h with ⟨i,t,rfl,rfl⟩ | ⟨x,t,rfl,rfl⟩ <;> rfl
 pyHash:=fun hv h=>by
  rcases zaI hv with ⟨i,t,rfl,rfl⟩ | ⟨x,t,rfl,rfl⟩
  ·exact wpAny_pyHash_int h
  ·exact wpAny_pyHash_str h
 eqBool:=fun hu hv h=>by
  rcases zaI hu with ⟨i,t,rfl,rfl⟩ | ⟨x,t,rfl,rfl⟩
  ·rcases zaI hv with ⟨j,u,rfl,rfl⟩ | ⟨y,u,rfl,rfl⟩
   ·rw [key_ll] at h;exact wpAny_eqBool_int h
   ·rw [key_lr] at h;exact SeqAt.EqAt.int_str i t y u _ _ _ _ h
  ·rcases zaI hv with ⟨j,u,rfl,rfl⟩ | ⟨y,u,rfl,rfl⟩
   ·rw [key_rl] at h;exact SeqAt.EqAt.str_int x t j u _ _ _ _ h
   ·rw [key_rr] at h;exact wpAny_eqBool_str h
 «strs»:=fun k x t v h=>by
  rcases zaI h with ⟨i,u,rfl,e⟩ | ⟨y,u,rfl,e⟩
  ·exact nomatch e
  ·injection e with e1 _
   subst e1
   cases v <;> rfl
theorem zhi (prog:Program)(w:World)(i:Int)(t:Tok):(zaE prog w).is (.inl i) (.int i t)=true:=zjC i t
theorem zhh (prog:Program)(w:World)(x:Str)(t:Tok):(zaE prog w).is (.inr x) (.str x t)=true:=zjB x t
inductive V where
 | non | bl (b:Bool) | int (i:Int) | str (x:Str) | byt (b:Array UInt8) | flt (b:UInt64) | ref (a:Addr) | ty (n:String)
 deriving DecidableEq
def RelV:V→Value→Prop
 | .non,u=>u=Value.none
 | .bl b,u=>u=Value.bool b
 | .int i,u=>∃ t,u=Value.int i t
 | .str x,u=>∃ t,u=Value.str x t
 | .byt b,u=>∃ t,u=Value.bytes b t
 | .flt b,u=>∃ t,u=Value.float b t
 | .ref a,u=>u=Value.ref a
 | .ty n,u=>u=Value.type n
abbrev Vals:List V→List Value→Prop:=Paired RelV
theorem Vals.length {xs:List V}{us:List Value}(r:Vals xs us):xs.length=us.length:=Paired.length r
theorem Vals.get:∀ {xs:List V} {us:List Value} {i:Nat} {x:V},Vals xs us→xs[i]? = some x→∃ u,us[i]? = some u∧RelV x u
 | _,_,_,_,.nil,e=>by simp at e
 | _,_,0,_,.cons r _,e=>by simp at e;subst e;exact ⟨_,rfl,r⟩
 | _,_,i+1,x,.cons _ t,e=>by
  obtain ⟨u,h1,h2⟩:=Vals.get (i:=i) (x:=x) t (by simpa using e)
  exact ⟨u,by simpa using h1,h2⟩
theorem Vals.set {x:V}{u:Value}(r:RelV x u):∀ {xs:List V} {us:List Value} (i:Nat),Vals xs us→Vals (xs.set i x) (us.set i u)
 | _,_,_,.nil=>.nil
 | _,_,0,.cons _ t=>.cons r t
 | _,_,i+1,.cons q t=>.cons q (Vals.set r i t)
theorem Vals.append:∀ {xs ys:List V} {us ws:List Value},Vals xs us→Vals ys ws→Vals (xs ++ ys) (us ++ ws)
 | _,_,_,_,.nil,s=>s
 | _,_,_,_,.cons r t,s=>.cons r (Vals.append t s)
theorem Vals.take:∀ {xs:List V} {us:List Value} (n:Nat),Vals xs us→Vals (xs.take n) (us.take n)
 | _,_,0,_=>.nil
 | _,_,_+1,.nil=>.nil
 | _,_,n+1,.cons r t=>.cons r (Vals.take n t)
theorem Vals.drop:∀ {xs:List V} {us:List Value} (n:Nat),Vals xs us→Vals (xs.drop n) (us.drop n)
 | _,_,0,r=>r
 | _,_,_+1,.nil=>.nil
 | _,_,n+1,.cons _ t=>Vals.drop n t
def RelO:Option V→Option Value→Prop
 | some v,some u=>RelV v u
 | none,none=>True
 | _,_=>False
def KV {κ:Type}:List (κ×V)→List (κ×Value)→Prop:=Paired fun (p:κ×V) (q:κ×Value)=>p.1=q.1∧RelV p.2 q.2
def kV:Key→V
 | .inl i=>.int i
 | .inr x=>.str x
inductive HO where
 
 | lst (xs:List V)
 
 | tup (xs:List V)
 
 | dK (kvs:List (Key×V)) | dT (kvs:List (List Key×V))
 
 | set (S:Int→Bool) (n:Nat)
 
 | ins (C dx:Addr) (fs:List (Str×V))
 
 | own (x:Addr)
 
 | xd (fs:List (Str×V))
 
 | met (f x:Addr)
 
 | rng (lo hi:Int)
 
 | frz (o:Obj) (u:HO)
 
 | tbl (ps:Array Value)
 
 | ext (φ:Heap→Prop)
abbrev Hp:=Addr→Option HO
def upd (H:Hp)(a:Addr)(o:HO):Hp:=fun b=>if b=a then some o else H b
theorem zac {H:Hp}{a:Addr}{o:HO}:upd H a o a=some o:=by unfold upd;rw [if_pos rfl]
theorem zag {H:Hp}{a b:Addr}{o:HO}(h:b≠a):upd H a o b=H b:=by unfold upd;rw [if_neg h]
theorem ne_of {H:Hp}{a b:Addr}{o u:HO}(h:H a=some o)(h':H b=some u)(d:o≠u):a≠b:=by
 intro e;subst e;rw [h] at h';exact d (Option.some.inj h')
theorem zaj {H:Hp}{a b:Addr}{o:HO}(h:H a=some o)(h':H b=none):a≠b:=by
 intro e;subst e;rw [h] at h';cases h'
section
variable (P:Program)(w:World)
def ObjOk (H:Hp)(h:Heap)(a:Addr):HO→Prop
 | .lst xs=>xs.length≤sizeLine∧∃ (its:List Value) (n:Nat),Vals xs its∧h.get? a=some { cls:=.type "list",data:=.seq its.toArray n }
 | .tup xs=>(xs.length≤sizeLine∧∃ o,h.get? a=some o∧o.dict=none)∧∃ its:List Value,Vals xs its∧IsTup h a its.toArray
 | .dK kvs=>kvs.length≤sizeLine∧(a == sysModules)=false∧∃ vs,KV kvs vs∧h.DictOf (zaE P w) a vs
 | .dT kvs=>kvs.length≤sizeLine∧(a == sysModules)=false∧∃ xs:List (List Key×Addr×Value),
   Paired (fun (p:List Key×V) (q:List Key×Addr×Value)=>p.1=q.1∧H q.2.1=some (.tup (p.1.map kV))∧RelV p.2 q.2.2) kvs xs ∧
   ∃ o es ep,h.get? a=some o∧o.ExactDict∧o.data = .dict es ep∧es.toList=xs.map (entryOfKey (tupleKind (zaE P w)))∧(xs.map (·.1)).Nodup
 | .set S n=>h.SetOf (intKind P w) a S n
 | .ins C dx fs=>H dx=some (.own a)∧fs.length≤1000∧dx≠a∧h.get? a=some (W.instObj C dx) ∧
   ∃ mA,h.Ns1 dx mA∧(∀ f,RelO (fs.lookup f) (mA f))∧PySem.Within mA (fs.map (·.1))
 | .own _=>∃ o,h.get? a=some o
 | .xd fs=>∃ mA,h.Ns1 a mA∧∀ f,RelO (fs.lookup f) (mA f)
 | .rng lo hi=>∃ t u v,h.get? a=some { cls:=.type "range",data:=.fields #[.int lo t,.int hi u,.int 1 v] }
 | .frz o u=>h.get? a=some o∧ObjOk H h a u
 | .tbl ps=>h.get? a=some { cls:=.none,data:=.fields ps }
 | .met f x=>h.get? a=some (W.methodObj (.ref f) (.ref x))
 | .ext φ=>φ h∧(∃ o,h.get? a=some o)∧∀ h1 h2:Heap,φ h1→(∀ o,h1.get? a=some o→h2.get? a=some o)→φ h2
def HOk (H:Hp)(h:Heap):Prop:=∀ a o,H a=some o→ObjOk P w H h a o
end
section
variable {P:Program}{w:World}{H H':Hp}{h h':Heap}{a:Addr}{o:HO}
theorem ObjOk.lt (x:ObjOk P w H h a o):a<h.objs.size:=by
 cases o with
 | lst xs=>obtain ⟨_,_,_,_,e⟩:=x;exact Xal e
 | tup xs=>obtain ⟨_,_,_,p⟩:=x;exact p.lt
 | dK kvs=>obtain ⟨_,_,_,_,o,_,_,e,_⟩:=x;exact Xal e
 | dT kvs=>obtain ⟨_,_,_,_,o,_,_,e,_⟩:=x;exact Xal e
 | set S n=>obtain ⟨o,_,_,_,e,_⟩:=x;exact Xal e
 | ins C dx fs=>obtain ⟨_,_,_,e,_⟩:=x;exact Xal e
 | own y=>obtain ⟨_,e⟩:=x;exact Xal e
 | xd fs=>obtain ⟨_,⟨_,_,_,e,_⟩,_⟩:=x;exact Xal e
 | rng lo hi=>obtain ⟨_,_,_,e⟩:=x;exact Xal e
 | frz ob u=>obtain ⟨e,_⟩:=x;exact Xal e
 | tbl ps=>exact Xal (show h.get? a=some _ from x)
 | met f y=>exact Xal (show h.get? a=some _ from x)
 | ext φ=>obtain ⟨_,⟨_,e⟩,_⟩:=x;exact Xal e
theorem Paired.mapP {α β:Type}{F G:α→β→Prop}:∀ {l₁:List α} {l₂:List β},Paired F l₁ l₂→(∀ a b,F a b→G a b)→Paired G l₁ l₂
 | _,_,.nil,_=>.nil
 | _,_,.cons r t,f=>.cons (f _ _ r) (Paired.mapP t f)
theorem ObjOk.stay (x:ObjOk P w H h a o)(k:∀ b u,(b=a∨H b=some (.own a))→h.get? b=some u→h'.get? b=some u)
  (ho:∀ b,H b=some (.own a)→H' b=some (.own a)) (ht:∀ b xs,H b=some (.tup xs)→H' b=some (.tup xs)):ObjOk P w H' h' a o:=by
 induction o with
 | lst xs=>obtain ⟨z,its,n,r,e⟩:=x;exact ⟨z,its,n,r,k _ _ (.inl rfl) e⟩
 | tup xs=>obtain ⟨⟨z,o,eo,dn⟩,its,r,ob,e,c⟩:=x;exact ⟨⟨z,o,k _ _ (.inl rfl) eo,dn⟩,its,r,ob,k _ _ (.inl rfl) e,c⟩
 | dK kvs=>obtain ⟨z,y,vs,r,ob,es,ep,e,c⟩:=x;exact ⟨z,y,vs,r,ob,es,ep,k _ _ (.inl rfl) e,c⟩
 | dT kvs =>
  obtain ⟨z,y,xs,r,ob,es,ep,e,c⟩:=x
  exact ⟨z,y,xs,Paired.mapP r fun p q z=>⟨z.1,ht _ _ z.2.1,z.2.2⟩,ob,es,ep,k _ _ (.inl rfl) e,c⟩
 | set S n=>obtain ⟨ob,es,ep,t,e,c⟩:=x;exact ⟨ob,es,ep,t,k _ _ (.inl rfl) e,c⟩
 | ins C dx fs =>
  obtain ⟨d,z,ne,e,mA,⟨od,es,ep,e2,c⟩,r⟩:=x
  exact ⟨ho _ d,z,ne,k _ _ (.inl rfl) e,mA,⟨od,es,ep,k _ _ (.inr d) e2,c⟩,r⟩
 | own y=>obtain ⟨ob,e⟩:=x;exact ⟨ob,k _ _ (.inl rfl) e⟩
 | xd fs=>obtain ⟨mA,⟨od,es,ep,e,c⟩,r⟩:=x;exact ⟨mA,⟨od,es,ep,k _ _ (.inl rfl) e,c⟩,r⟩
 | rng lo hi=>obtain ⟨t,u,v,e⟩:=x;exact ⟨t,u,v,k _ _ (.inl rfl) e⟩
 | frz ob u ih=>obtain ⟨e,q⟩:=x;exact ⟨k _ _ (.inl rfl) e,ih q⟩
 | tbl ps =>
  have e:h.get? a=some { cls:=.none,data:=.fields ps }:=x
  show h'.get? a=some { cls:=.none,data:=.fields ps }
  exact k a _ (.inl rfl) e
 | met f y =>
  have e:h.get? a=some (W.methodObj (.ref f) (.ref y)):=x
  show h'.get? a=some (W.methodObj (.ref f) (.ref y))
  exact k a _ (.inl rfl) e
 | ext φ=>obtain ⟨p,⟨o,e⟩,st⟩:=x;exact ⟨st _ _ p fun o q=>k _ _ (.inl rfl) q,⟨o,k _ _ (.inl rfl) e⟩,st⟩
theorem HOk.lt (x:HOk P w H h)(e:H a=some o):a<h.objs.size:=(x a o e).lt
theorem HOk.fresh (x:HOk P w H h)(e:h.objs.size≤a):H a=none:=by
 cases q:H a with
 | none=>rfl
 | some u=>exact absurd (Xak (x.lt q) e) (XaR _)
theorem HOk.kept (x:HOk P w H h)(k:∀ b u,h.get? b=some u→h'.get? b=some u):HOk P w H h':=fun a o e =>
 (x a o e).stay (fun b u _ q=>k b u q) (fun _ q=>q) fun _ _ q=>q
theorem HOk.laid (x:HOk P w H h)(k:∀ b u,h.get? b=some u→h'.get? b=some u)(hp:h.objs.size≤a)(new:ObjOk P w (upd H a o) h' a o):HOk P w (upd H a o) h':=fun b u e=>by
 have hn:=x.fresh hp
 by_cases hb:b=a
 ·subst hb;rw [zac] at e;cases e;exact new
 ·rw [zag hb] at e
  exact (x b u e).stay (fun c v _ q=>k c v q) (fun c q=>by rw [zag (zaj q hn)];exact q) fun c xs q=>by rw [zag (zaj q hn)];exact q
end
def Rd (H:Hp)(a:Addr)(u:HO):Prop:=H a=some u∨∃ o,H a=some (.frz o u)
theorem Rd.ok {P:Program}{w:World}{H:Hp}{h:Heap}{a:Addr}{u:HO}(r:Rd H a u)(x:HOk P w H h):ObjOk P w H h a u:=by
 rcases r with r | ⟨o,r⟩
 ·exact x a u r
 ·obtain ⟨_,q⟩:=x a _ r
  exact q
def Mut:Option HO→Prop
 | some (.lst _)=>True
 | some (.dK _)=>True
 | some (.dT _)=>True
 | some (.set _ _)=>True
 | some (.ins _ _ _)=>True
 | some (.ext _)=>True
 | _=>False
section
variable {P:Program}{w:World}{H:Hp}{h h':Heap}{x e:Addr}{o':HO}
theorem HOk.write (ok:HOk P w H h)(mu:Mut (H x))(he:e=x∨H e=some (.own x))(k:∀ b u,b≠e→h.get? b=some u→h'.get? b=some u)(heo:∃ u,h'.get? e=some u)
  (new:ObjOk P w (upd H x o') h' x o'):HOk P w (upd H x o') h':=fun b u q=>by
 have nown:∀ c y,H c=some (.own y)→c≠x:=fun c y r z=>by subst z;rw [r] at mu;exact mu
 have ntup:∀ c xs,H c=some (.tup xs)→c≠x:=fun c xs r z=>by subst z;rw [r] at mu;exact mu
 by_cases hb:b=x
 ·subst hb;rw [zac] at q;cases q;exact new
 ·rw [zag hb] at q
  by_cases hbe:b=e
  ·have q':H b=some (.own x):=by
    rcases he with z | z
    ·exact absurd (hbe.trans z) hb
    ·rw [hbe];exact z
   rw [q] at q';cases q'
   obtain ⟨v,hv⟩:=heo
   exact ⟨v,by rw [hbe];exact hv⟩
  ·refine (ok b u q).stay (fun c v hc r=>k c v ?_ r) (fun c r=>by rw [zag (nown c b r)];exact r) fun c xs r=>by rw [zag (ntup c xs r)];exact r
   rcases hc with rfl | hc
   ·exact hbe
   ·rintro rfl
    rcases he with z | z
    ·exact nown c b hc z
    ·rw [hc] at z;cases z;exact hb rfl
end
structure Un (fs ex:List Addr)(H H':Hp)(h h':Heap):Prop where
 keep:∀ b o,h.get? b=some o→H b=none→b ∉ fs→b ∉ ex→h'.get? b=some o
 slot:∀ b o,h.get? b=some o→H b=none→b∈fs→b ∉ ex→∃ sl,h'.get? b=some { o with slots:=sl }
 free:∀ b o,h.get? b=some o→H b=none→b ∉ ex→H' b=none
 there:∀ b o,h.get? b=some o→b ∉ ex→∃ o',h'.get? b=some o'
 tups:∀ b xs,H b=some (.tup xs)→H' b=some (.tup xs)
 frzs:∀ b o u,H b=some (.frz o u)→H' b=some (.frz o u)
 tbls:∀ b ps,H b=some (.tbl ps)→∃ more,H' b=some (.tbl (ps ++ more))
section
variable {fs fs' ex ex':List Addr}{H H1 H2:Hp}{h h1 h2 h':Heap}{a x e:Addr}{o:HO}
theorem Un.any (u:Un fs ex H H1 h h1){b:Addr}{ob:Obj}(q:h.get? b=some ob)(n:H b=none)(hx:b ∉ ex):∃ sl,h1.get? b=some { ob with slots:=sl }:=by
 by_cases hb:b∈fs
 ·exact u.slot b ob q n hb hx
 ·exact ⟨ob.slots,u.keep b ob q n hb hx⟩
theorem Un.kept (k:∀ b u,h.get? b=some u→h'.get? b=some u):Un fs ex H H h h':=
 ⟨fun b ob q _ _ _=>k b ob q,fun b ob q _ _ _=>⟨ob.slots,k b ob q⟩,fun _ _ _ n _=>n,fun b ob q _=>⟨ob,k b ob q⟩,fun _ _ q=>q,fun _ _ _ q=>q,fun _ ps q=>⟨#[],by rw [q];simp⟩⟩
theorem Un.refl:Un fs ex H H h h:=Un.kept fun _ _ q=>q
theorem Un.laid (k:∀ b u,h.get? b=some u→h'.get? b=some u)(hp:h.objs.size≤a)(hn:H a=none):Un fs ex H (upd H a o) h h' where
 keep:=fun b u q _ _ _=>k b u q
 slot:=fun b u q _ _ _=>⟨u.slots,k b u q⟩
 free:=fun b u q n _=>by rw [zag (Xaw (Xak (Xal q) hp))];exact n
 there:=fun b u q _=>⟨u,k b u q⟩
 tups:=fun b xs q=>by rw [zag (zaj q hn)];exact q
 frzs:=fun b u xs q=>by rw [zag (zaj q hn)];exact q
 tbls:=fun b ps q=>⟨#[],by rw [zag (zaj q hn),q];simp⟩
theorem Un.write (mu:Mut (H x))(he:e=x∨H e=some (.own x))(k:∀ b u,b≠e→h.get? b=some u→h'.get? b=some u)(heo:∃ u,h'.get? e=some u):Un fs ex H (upd H x o) h h':=by
 have hx:∀ b,H b=none→b≠x:=fun b n z=>by subst z;rw [n] at mu;exact mu
 have hb:∀ b,H b=none→b≠e:=fun b n z=>by
  subst z
  rcases he with r | r
  ·exact hx b n r
  ·rw [n] at r;cases r
 have hm:∀ b u,H b=some u→¬ Mut (some u)→b≠x:=fun b u q nm z=>by subst z;rw [q] at mu;exact nm mu
 refine ⟨fun b u q n _ _=>k b u (hb b n) q,fun b u q n _ _=>⟨u.slots,k b u (hb b n) q⟩,fun b u q n _=>by rw [zag (hx b n)];exact n,fun b u q _=>?_,
  fun b xs q=>by rw [zag (hm b _ q fun z=>z)];exact q,fun b u xs q=>by rw [zag (hm b _ q fun z=>z)];exact q,fun b ps q=>⟨#[],by rw [zag (hm b _ q fun z=>z),q];simp⟩⟩
 by_cases hbe:b=e
 ·subst hbe;exact heo
 ·exact ⟨u,k b u hbe q⟩
end
def trk (h:Heap)(H:Hp):List Addr:=(List.range h.objs.size).filter fun a=>(H a).isSome
def hidT (h:Heap)(H:Hp):Heap:=W.hideAll h (trk h H)
theorem zjI (h:Heap)(H:Hp):(hidT h H).objs.size=h.objs.size:=W.hideAll_size _ _
theorem zkX {h:Heap}{H:Hp}{b:Addr}{o:Obj}(e:h.get? b=some o)(n:H b=none):(hidT h H).get? b=some o:=
 W.hideAll_get _ e fun hm=>by
  have q:(H b).isSome=true:=(List.mem_filter.mp hm).2
  rw [n] at q;simp at q
theorem zmv {h:Heap}{H:Hp}{b:Addr}{o:Obj}(e:(hidT h H).get? b=some o):h.get? b=some o∧H b=none:=by
 have e':h.get? b=some o:=W.of_hideAll (trk h H) e
 refine ⟨e',?_⟩
 cases q:H b with
 | none=>rfl
 | some x =>
  have hm:b∈trk h H:=List.mem_filter.mpr ⟨List.mem_range.mpr (Xal e'),by simp [q]⟩
  have z:(hidT h H).get? b=none:=W.hideAll_none (trk h H) hm
  rw [z] at e;cases e
structure Mod (K:W.Frag)(mg:Str→Option Value)(base:Heap):Prop where
 kin:K.In base
 glob:base.Ns mainGlobals mg
 blt:∃ mb,base.Ns builtinsNs mb∧∀ x:Str,x ≠ "__name__" → mb x=bootBuiltins x
 nolimit:base.NoLimit
structure Cx where
 prog:Program
 w:World
 K:W.Frag
 mg:Str→Option Value
 base:Heap
 A:Around
 N:List Str
 s₀:Shared
 H₀:Hp
 env:Env
 outer:List Env
 stack:List Env
 ex:List Addr
 fn:Str→Bool
 calm:Bool
 pn:List (Addr×Obj)
 xe:Value→Shared→Prop
def frs (l:List Env):List Addr:=l.filterMap (·.frame)
abbrev Cx.fs (X:Cx):List Addr:=frs X.outer
def Vis (sc:Scope)(x:Str):Prop:=sc.names.lookup x=some .local∨sc.names.lookup x=some .cell∨sc.names.lookup x=some .free
def Loc (sc:Scope)(x:Str):Prop:=sc.names.lookup x=some .local∨sc.names.lookup x=some .cell
def Look (env:Env)(h:Heap)(m:Str→Option Value)(x:Str)(u:Value):Prop:=
 (env.kindOf x=some .local∧m x=some u)∨((env.kindOf x=some .cell∨env.kindOf x=some .free)∧∃ c,env.cells.lookup x=some c∧h.IsCell c (some u))
structure Cx.Ok (X:Cx):Prop where
 mod:Mod X.K X.mg X.base
 kind:X.env.scope.kind = .function
 glob:X.env.globals=mainGlobals
 blt:X.env.builtins=builtinsNs
 above:X.s₀.heap.objs.size≤X.env.locals
 inj:∀ x y c,X.env.cells.lookup x=some c→X.env.cells.lookup y=some c→x=y
 has:∀ x,(X.env.kindOf x=some .cell∨X.env.kindOf x=some .free)→∃ c,X.env.cells.lookup x=some c
 cab:∀ x c,X.fn x=true→X.env.cells.lookup x=some c→X.s₀.heap.objs.size≤c
 hd:X.calm=true→X.A.handled=none
 frames:X.A.frames=some X.stack
 stk:X.stack=X.outer∨(X.stack=X.env :: X.outer∧X.env.frame=some X.env.locals)
 exf:∀ b∈X.ex,b≠X.env.locals∧∀ x c,X.env.cells.lookup x=some c→c≠b
 bs:∀ b o,X.base.get? b=some o→X.s₀.heap.get? b=some o∧X.H₀ b=none
 bsz:X.base.objs.size≤X.s₀.heap.objs.size
 noex:∀ b o,X.base.get? b=some o→b ∉ X.ex
 exfs:∀ b∈X.ex,b ∉ X.fs
 funs:X.s₀.heap.FunFrames X.base X.outer
 frf:∀ b∈X.fs,X.H₀ b=none
structure Inv (X:Cx)(pins:List (Addr×Obj))(σ:List (Option V))(H:Hp)(s:Shared):Prop where
 ok:X.Ok
 os:s.os=X.s₀.os
 bare:AllBare s.gens
 base:Un X.fs X.ex X.H₀ H X.s₀.heap s.heap
 loc:∃ m,s.heap.Ns X.env.locals m∧∀ (i:Nat) (x:Str) (v:V),X.N[i]? = some x→σ[i]? = some (some v)→Vis X.env.scope x→∃ u,RelV v u∧Look X.env s.heap m x u
 cell:∀ x c,X.env.cells.lookup x=some c→∃ v,s.heap.IsCell c v
 free:H X.env.locals=none
 freeC:∀ x c,X.env.cells.lookup x=some c→H c=none
 pin:∀ p∈X.pn ++ pins,s.heap.get? p.1=some p.2∧H p.1=none∧p.1≠X.env.locals∧p.1 ∉ X.fs∧∀ v,p.2.data≠.cell v
 hok:HOk X.prog X.w H s.heap
 len:σ.length=X.N.length
section
variable {X:Cx}{pins:List (Addr×Obj)}{σ:List (Option V)}{H H':Hp}{s:Shared}{h':Heap}
theorem Cx.Ok.nofr (ok:X.Ok){b:Addr}{o:Obj}(e:X.base.get? b=some o):b ∉ X.fs:=fun hb=>by
 have:=(ok.funs.mem hb).1
 rw [e] at this;cases this
theorem Inv.bs (I:Inv X pins σ H s):∀ b o,X.base.get? b=some o→s.heap.get? b=some o∧H b=none:=fun b o e =>
 ⟨I.base.keep b o (I.ok.bs b o e).1 (I.ok.bs b o e).2 (I.ok.nofr e) (I.ok.noex b o e),I.base.free b o (I.ok.bs b o e).1 (I.ok.bs b o e).2 (I.ok.noex b o e)⟩
theorem Inv.bk (I:Inv X pins σ H s):∀ b o,X.base.get? b=some o→s.heap.get? b=some o:=fun b o e=>(I.bs b o e).1
theorem Inv.mod (I:Inv X pins σ H s):Mod X.K X.mg X.base:=I.ok.mod
theorem Inv.kIn (I:Inv X pins σ H s):X.K.In s.heap:=I.ok.mod.kin.keeps I.bk
theorem Inv.fr (I:Inv X pins σ H s):∃ m,Fr X.base X.env.locals s.heap m:=
 let ⟨m,hn,_⟩:=I.loc
 ⟨m,hn,I.bk,Xar I.ok.bsz I.ok.above⟩
theorem Inv.lt (I:Inv X pins σ H s):X.env.locals<s.heap.objs.size:=let ⟨_,hn,_⟩:=I.loc;hn.lt
theorem Inv.sz (I:Inv X pins σ H s):X.s₀.heap.objs.size≤s.heap.objs.size:=Xar I.ok.above (XbH I.lt)
theorem Inv.nofs (I:Inv X pins σ H s){a:Addr}(h:s.heap.objs.size≤a):a ∉ X.fs:=fun hb=>by
 obtain ⟨_,o,ho,_⟩:=I.ok.funs.mem hb
 exact absurd (Xak (Xal ho) (Xar I.sz h)) (XaR _)
theorem Inv.cne (I:Inv X pins σ H s):∀ x c,X.env.cells.lookup x=some c→c≠X.env.locals:=fun x c e z=>by
 obtain ⟨v,o,ho,hd⟩:=I.cell x c e
 obtain ⟨m,⟨o',es,ep,ho',hd',_⟩,_⟩:=I.loc
 rw [z,ho'] at ho;cases ho;rw [hd'] at hd;cases hd
theorem Inv.funs (I:Inv X pins σ H s):s.heap.FunFrames X.base X.outer:=by
 have all:∀ (l:List Env),(∀ b∈frs l,b∈X.fs)→X.s₀.heap.FunFrames X.base l→s.heap.FunFrames X.base l:=by
  intro l
  induction l with
  | nil=>intro _ _;trivial
  | cons env r ih =>
   intro hs hl
   obtain ⟨hk,⟨L,o,hf,hn,ho,hd⟩,hr⟩:=hl
   have hL:L∈X.fs:=hs L (by unfold frs;rw [List.filterMap_cons,hf];exact XaB)
   obtain ⟨sl,e⟩:=I.base.slot L o ho (I.ok.frf L hL) hL fun z=>I.ok.exfs L z hL
   exact ⟨hk,⟨L,_,hf,hn,e,hd⟩,ih (fun b hb=>hs b (by unfold frs;rw [List.filterMap_cons,hf];exact Xax _ hb)) hr⟩
 exact all X.outer (fun _ hb=>hb) I.ok.funs
theorem Inv.stack (I:Inv X pins σ H s):s.heap.FunFrames X.base X.stack:=by
 rcases I.ok.stk with e | ⟨e,hf⟩
 ·rw [e];exact I.funs
 ·rw [e]
  obtain ⟨m,hn,_⟩:=I.loc
  refine .cons (by rw [I.ok.kind];decide) hf hn ?_ I.funs
  exact Xbz (Xar I.ok.bsz I.ok.above)
theorem Inv.stkSub (I:Inv X pins σ H s):∀ b∈frs X.stack,b∈X.env.locals :: X.fs:=fun b hb=>by
 rcases I.ok.stk with e | ⟨e,hf⟩
 ·rw [e] at hb;exact Xax _ hb
 ·rw [e] at hb
  unfold frs at hb
  rw [List.filterMap_cons,hf] at hb
  exact hb
theorem Inv.stkFree (I:Inv X pins σ H s):∀ b∈frs X.stack,H b=none:=fun b hb=>by
 rcases Xao.mp (I.stkSub b hb) with e | hb
 ·rw [e];exact I.free
 ·obtain ⟨_,o,ho,_⟩:=I.ok.funs.mem hb
  exact I.base.free b o ho (I.ok.frf b hb) fun z=>I.ok.exfs b z hb
theorem Inv.step {g':Array GenState}{t':Nat}{d':Drawn}{ch:List Addr}(I:Inv X pins σ H s)
  (hch:∀ b∈ch,(b∈X.ex∨X.s₀.heap.objs.size≤b)∧b≠X.env.locals∧(∀ x c,X.env.cells.lookup x=some c→c≠b)∧∀ p∈X.pn ++ pins,p.1≠b)
  (keep:∀ b o,b≠X.env.locals→b ∉ X.fs→b ∉ ch→s.heap.get? b=some o→H b=none→h'.get? b=some o)
  (slot:∀ b o,b≠X.env.locals→b∈X.fs→b ∉ ch→s.heap.get? b=some o→H b=none→∃ sl,h'.get? b=some { o with slots:=sl }) (free:∀ b o,b ∉ ch→s.heap.get? b=some o→H b=none→H' b=none)
  (there:∀ b o,b ∉ ch→s.heap.get? b=some o→∃ o',h'.get? b=some o')
  (tups:∀ b xs,H b=some (.tup xs)→H' b=some (.tup xs)) (frzs:∀ b o u,H b=some (.frz o u)→H' b=some (.frz o u)) (tbls:∀ b ps,H b=some (.tbl ps)→∃ more,H' b=some (.tbl (ps ++ more)))
  (ns:∀ m,s.heap.Ns X.env.locals m→h'.Ns X.env.locals m) (hok:HOk X.prog X.w H' h') (hg:AllBare g') :
  Inv X pins σ H' { s with heap:=h',gens:=g',drawn:=d',toks:=t' }:=by
 have neL:∀ b o,X.s₀.heap.get? b=some o→b≠X.env.locals:=fun b o e=>Xaw (Xak (Xal e) I.ok.above)
 have neC:∀ b o,X.s₀.heap.get? b=some o→b ∉ X.ex→b ∉ ch:=fun b o e hx hb=>by
  rcases (hch b hb).1 with z | z
  ·exact hx z
  ·exact absurd (Xak (Xal e) z) (XaR _)
 have cellK:∀ x c,X.env.cells.lookup x=some c→∀ v,s.heap.IsCell c v→h'.IsCell c v:=fun x c e v ⟨o,ho,hd⟩=>by
  have nch:c ∉ ch:=fun z=>(hch c z).2.2.1 x c e rfl
  by_cases hc:c∈X.fs
  ·obtain ⟨sl,q⟩:=slot c o (I.cne x c e) hc nch ho (I.freeC x c e)
   exact ⟨_,q,hd⟩
  ·exact ⟨o,keep c o (I.cne x c e) hc nch ho (I.freeC x c e),hd⟩
 refine ⟨I.ok,I.os,hg,⟨fun b o e n hb hx=>?_,fun b o e n hb hx=>?_,fun b o e n hx=>?_,fun b o e hx=>?_,fun b xs e=>tups b xs (I.base.tups b xs e),fun b o xs e=>frzs b o xs (I.base.frzs b o xs e),fun b ps e=>?_⟩,?_,fun x c e=>?_,?_,fun x c e=>?_,fun p hp=>?_,hok,I.len⟩
 ·exact keep b o (neL b o e) hb (neC b o e hx) (I.base.keep b o e n hb hx) (I.base.free b o e n hx)
 ·obtain ⟨sl,e1⟩:=I.base.slot b o e n hb hx
  obtain ⟨sl',e2⟩:=slot b _ (neL b o e) hb (neC b o e hx) e1 (I.base.free b o e n hx)
  exact ⟨sl',e2⟩
 ·obtain ⟨o',e1⟩:=I.base.there b o e hx
  exact free b o' (neC b o e hx) e1 (I.base.free b o e n hx)
 ·obtain ⟨o',e1⟩:=I.base.there b o e hx
  exact there b o' (neC b o e hx) e1
 ·obtain ⟨m1,e1⟩:=I.base.tbls b ps e
  obtain ⟨m2,e2⟩:=tbls b _ e1
  exact ⟨m1 ++ m2,by rw [e2,Array.append_assoc]⟩
 ·obtain ⟨m,hn,hl⟩:=I.loc
  refine ⟨m,ns m hn,fun i x v e1 e2 e3=>?_⟩
  obtain ⟨u,r,l⟩:=hl i x v e1 e2 e3
  refine ⟨u,r,?_⟩
  rcases l with l | ⟨k,c,e,z⟩
  ·exact .inl l
  ·exact .inr ⟨k,c,e,cellK x c e _ z⟩
 ·obtain ⟨v,z⟩:=I.cell x c e
  exact ⟨v,cellK x c e v z⟩
 ·obtain ⟨m,⟨o,_,_,ho,_⟩,_⟩:=I.loc
  exact free _ o (fun z=>(hch _ z).2.1 rfl) ho I.free
 ·obtain ⟨v,o,ho,hd⟩:=I.cell x c e
  exact free c o (fun z=>(hch c z).2.2.1 x c e rfl) ho (I.freeC x c e)
 ·obtain ⟨e,n,ne,nf,d⟩:=I.pin p hp
  have nch:p.1 ∉ ch:=fun z=>(hch p.1 z).2.2.2 p hp rfl
  exact ⟨keep p.1 p.2 ne nf nch e n,free p.1 p.2 nch e n,ne,nf,d⟩
theorem Inv.un {t':Nat}(I:Inv X pins σ H s)(u:Un X.fs [] H H' s.heap h')(hok:HOk X.prog X.w H' h'):Inv X pins σ H' { s with heap:=h',toks:=t' }:=by
 obtain ⟨m,⟨o,es,ep,ho,r⟩,_⟩:=id I.loc
 obtain ⟨sl,hL⟩:=u.any ho I.free (by simp)
 exact I.step (g':=s.gens) (d':=s.drawn) (ch:=[]) (fun _ z=>nomatch z) (fun b o _ hb _ e n=>u.keep b o e n hb (by simp)) (fun b o _ hb _ e n=>u.slot b o e n hb (by simp)) (fun b o _ e n=>u.free b o e n (by simp)) (fun b o _ e=>u.there b o e (by simp)) u.tups u.frzs u.tbls (fun m' hm=>by
  obtain ⟨o',es',ep',ho',r'⟩:=hm
  rw [ho] at ho';cases ho'
  exact ⟨_,es',ep',hL,r'⟩) hok I.bare
theorem Inv.call {g':Array GenState}{t':Nat}{d':Drawn}{ch:List Addr}(I:Inv X pins σ H s)(u:Un (frs X.stack) ch H H' s.heap h')(hok:HOk X.prog X.w H' h')(hg:AllBare g')
  (hch:∀ b∈ch,(b∈X.ex∨X.s₀.heap.objs.size≤b)∧b≠X.env.locals∧(∀ x c,X.env.cells.lookup x=some c→c≠b)∧∀ p∈X.pn ++ pins,p.1≠b) :
  Inv X pins σ H' { s with heap:=h',gens:=g',drawn:=d',toks:=t' }:=by
 obtain ⟨m,⟨o,es,ep,ho,r⟩,_⟩:=id I.loc
 obtain ⟨sl,hL⟩:=u.any ho I.free fun z=>(hch _ z).2.1 rfl
 exact I.step (ch:=ch) hch (fun b o hL hb hc e n=>u.keep b o e n (fun z=>(Xao.mp (I.stkSub b z)).elim hL hb) hc) (fun b o _ _ hc e n=>u.any e n hc) (fun b o hc e n=>u.free b o e n hc) (fun b o hc e=>u.there b o e hc) u.tups u.frzs u.tbls (fun m' hm=>by
  obtain ⟨o',es',ep',ho',r'⟩:=hm
  rw [ho] at ho';cases ho'
  exact ⟨_,es',ep',hL,r'⟩) hok hg
theorem Inv.turned {t':Nat}{it:Addr}(I:Inv X pins σ H s)(k:∀ b o,b≠it→s.heap.get? b=some o→h'.get? b=some o)(hn:H it=none)(hL:it≠X.env.locals)
  (h1:it∈X.ex∨X.s₀.heap.objs.size≤it) (h2:∀ x c,X.env.cells.lookup x=some c→c≠it) (h3:∀ p∈X.pn ++ pins,p.1≠it):Inv X pins σ H { s with heap:=h',toks:=t' }:=by
 have nit:∀ b u,H b=some u→b≠it:=fun b u e z=>by rw [z,hn] at e;cases e
 refine I.step (g':=s.gens) (d':=s.drawn) (ch:=[it]) (fun b hb=>?_) (fun b o _ _ hc e _=>k b o (fun z=>hc (by simp [z])) e) (fun b o _ _ hc e _=>⟨o.slots,k b o (fun z=>hc (by simp [z])) e⟩) (fun _ _ _ _ n=>n)
  (fun b o hc e=>⟨o,k b o (fun z=>hc (by simp [z])) e⟩) (fun _ _ e=>e) (fun _ _ _ e=>e) (fun b ps e=>⟨#[],by rw [e];simp⟩) (fun m hm=>?_) (fun b u e=>?_) I.bare
 ·have e:b=it:=by simpa using hb
  subst e
  exact ⟨h1,hL,h2,h3⟩
 ·obtain ⟨o,es,ep,ho,r⟩:=hm
  exact ⟨o,es,ep,k _ o (Ne.symm hL) ho,r⟩
 ·refine (I.hok b u e).stay (fun c v hc q=>k c v ?_ q) (fun _ q=>q) fun _ _ q=>q
  rcases hc with z | z
  ·rw [z];exact nit b u e
  ·exact nit c _ z
theorem Inv.tok (I:Inv X pins σ H s)(t:Nat):Inv X pins σ H { s with toks:=t }:=I.un (h':=s.heap) (t':=t) Un.refl I.hok
theorem Inv.kept {t':Nat}(I:Inv X pins σ H s)(k:∀ b u,s.heap.get? b=some u→h'.get? b=some u):Inv X pins σ H { s with heap:=h',toks:=t' }:=I.un (Un.kept k) (I.hok.kept k)
theorem Inv.laid {a:Addr}{o:HO}{t':Nat}(I:Inv X pins σ H s)(k:∀ b u,s.heap.get? b=some u→h'.get? b=some u)(hp:s.heap.objs.size≤a)(new:ObjOk X.prog X.w (upd H a o) h' a o) :
  Inv X pins σ (upd H a o) { s with heap:=h',toks:=t' }:=I.un (Un.laid k hp (I.hok.fresh hp)) (I.hok.laid k hp new)
theorem Inv.write {x e:Addr}{o:HO}{t':Nat}(I:Inv X pins σ H s)(mu:Mut (H x))(he:e=x∨H e=some (.own x))(k:∀ b u,b≠e→s.heap.get? b=some u→h'.get? b=some u)(heo:∃ u,h'.get? e=some u)
  (new:ObjOk X.prog X.w (upd H x o) h' x o):Inv X pins σ (upd H x o) { s with heap:=h',toks:=t' }:=I.un (Un.write mu he k heo) (I.hok.write mu he k heo new)
theorem Inv.pins_of {pins':List (Addr×Obj)}(I:Inv X pins σ H s)(h:∀ p∈pins',s.heap.get? p.1=some p.2∧H p.1=none∧p.1≠X.env.locals∧p.1 ∉ X.fs∧∀ v,p.2.data≠.cell v):Inv X pins' σ H s:=
 ⟨I.ok,I.os,I.bare,I.base,I.loc,I.cell,I.free,I.freeC,fun p hp=>(XaF.mp hp).elim (fun z=>I.pin p (XbA _ z)) (h p),I.hok,I.len⟩
theorem zhJ {N:List Str}(hN:N.Nodup){i j:Nat}{x:Str}(a:N[i]? = some x)(b:N[j]? = some x):i=j:=by
 obtain ⟨h1,e1⟩:=Xag.mp a
 obtain ⟨h2,e2⟩:=Xag.mp b
 exact (List.getElem_inj hN).mp (e1.trans e2.symm)
theorem zd6 {M:Model}{A:Around}{E:Value→Shared→Prop}{i:Nat}{x:Str}{v:V}{u:Value}{Q:Unit→Shared→Prop}(I:Inv X pins σ H s)(hN:X.N.Nodup)(hi:X.N[i]? = some x)(hx:Loc X.env.scope x)(r:RelV v u)
  (h:∀ s',Inv X pins (σ.set i (some v)) H s'→(∃ a,Heap.SameBut a s.heap s'.heap∧(a=X.env.locals∨X.env.cells.lookup x=some a))→Q () s') (hf:X.fn x=true∨X.env.scope.names.lookup x=some .local:=by first | exact .inl rfl | exact .inr rfl | assumption):wpAny M A (storeName X.env x u) Q E s:=by
 obtain ⟨m,hn,hl⟩:=id I.loc
 have hcls:(X.env.scope.kind == .class || (X.env.scope.kind == .module && X.env.locals != X.env.globals))=false:=by rw [I.ok.kind];rfl
 have hiσ:i<σ.length:=by rw [I.len];exact (Xag.mp hi).1
 have cne:=I.cne
 have tracked:∀ {a:Addr} {h':Heap},(∃ o,s.heap.get? a=some o∧H a=none)→Heap.SameBut a s.heap h'→HOk X.prog X.w H h':=fun {a h'} ha hs b ob e=>by
  obtain ⟨_,_,hfree⟩:=ha
  refine (I.hok b ob e).stay (fun c w' hc q=>(hs.2 c ?_).trans q) (fun _ q=>q) fun _ _ q=>q
  rintro rfl
  rcases hc with rfl | hc
  ·rw [hfree] at e;cases e
  ·rw [hfree] at hc;cases hc
 rcases hx with hk | hk
 ·refine wpAny_storeName_local hk hn (fun h' hn' hs=>?_) hcls
  obtain ⟨oL,_,_,hoL,_⟩:=id hn
  refine h _ ⟨I.ok,I.os,I.bare,⟨fun b o e n hb hx=>?_,fun b o e n hb hx=>?_,I.base.free,fun b o e hx=>?_,I.base.tups,I.base.frzs,I.base.tbls⟩,⟨_,hn',fun j y v' e1 e2 e3=>?_⟩,fun y c e=>?_,I.free,I.freeC,fun p hp=>?_,tracked ⟨oL,hoL,I.free⟩ hs,by simpa using I.len⟩ ⟨_,hs,.inl rfl⟩
  ·exact (hs.2 b (Xaw (Xak (Xal e) I.ok.above))).trans (I.base.keep b o e n hb hx)
  ·obtain ⟨sl,e1⟩:=I.base.slot b o e n hb hx
   exact ⟨sl,(hs.2 b (Xaw (Xak (Xal e) I.ok.above))).trans e1⟩
  ·obtain ⟨o',e1⟩:=I.base.there b o e hx
   exact ⟨o',(hs.2 b (Xaw (Xak (Xal e) I.ok.above))).trans e1⟩
  ·by_cases hj:j=i
   ·subst hj
    rw [hi] at e1;cases e1
    rw [List.getElem?_set_self hiσ] at e2
    cases e2
    exact ⟨u,r,.inl ⟨hk,by simp⟩⟩
   ·rw [List.getElem?_set_ne (Ne.symm hj)] at e2
    obtain ⟨u',r',q⟩:=hl j y v' e1 e2 e3
    refine ⟨u',r',?_⟩
    rcases q with ⟨k,e⟩ | ⟨k,c,e,z⟩
    ·refine .inl ⟨k,?_⟩
     have:y≠x:=fun e=>hj (zhJ hN e1 (e ▸ hi))
     simp [this,e]
    ·exact .inr ⟨k,c,e,z.sameBut hs (cne y c e)⟩
  ·obtain ⟨w',z⟩:=I.cell y c e
   exact ⟨w',z.sameBut hs (cne y c e)⟩
  ·obtain ⟨e,n,ne,nf,d⟩:=I.pin p hp
   exact ⟨(hs.2 p.1 ne).trans e,n,ne,nf,d⟩
 ·have hfn:X.fn x=true:=by
   rcases hf with z | z
   ·exact z
   ·rw [z] at hk;cases hk
  obtain ⟨c,hc⟩:=I.ok.has x (.inl hk)
  obtain ⟨w',z⟩:=I.cell x c hc
  refine wpAny_storeName_cell I.ok.kind hk hc z (fun h' hc' hs=>?_)
  obtain ⟨oc,hoc,hocd⟩:=id z
  refine h { s with heap:=h' } ⟨I.ok,I.os,I.bare,⟨fun b o e n hb hx=>?_,fun b o e n hb hx=>?_,I.base.free,fun b o e hx=>?_,I.base.tups,I.base.frzs,I.base.tbls⟩,⟨m,hn.sameBut hs (Ne.symm (cne x c hc)),fun j y v' e1 e2 e3=>?_⟩,fun y c' e=>?_,I.free,I.freeC,fun p hp=>?_,tracked ⟨oc,hoc,I.freeC x c hc⟩ hs,by simpa using I.len⟩ ⟨c,hs,.inr hc⟩
  ·exact (hs.2 b (Xaw (Xak (Xal e) (I.ok.cab x c hfn hc)))).trans (I.base.keep b o e n hb hx)
  ·obtain ⟨sl,e1⟩:=I.base.slot b o e n hb hx
   exact ⟨sl,(hs.2 b (Xaw (Xak (Xal e) (I.ok.cab x c hfn hc)))).trans e1⟩
  ·obtain ⟨o',e1⟩:=I.base.there b o e hx
   exact ⟨o',(hs.2 b (Xaw (Xak (Xal e) (I.ok.cab x c hfn hc)))).trans e1⟩
  ·by_cases hj:j=i
   ·subst hj
    rw [hi] at e1;cases e1
    rw [List.getElem?_set_self hiσ] at e2
    cases e2
    exact ⟨u,r,.inr ⟨.inl hk,c,hc,hc'⟩⟩
   ·rw [List.getElem?_set_ne (Ne.symm hj)] at e2
    obtain ⟨u',r',q⟩:=hl j y v' e1 e2 e3
    refine ⟨u',r',?_⟩
    rcases q with q | ⟨k,c',e,z'⟩
    ·exact .inl q
    ·refine .inr ⟨k,c',e,z'.sameBut hs ?_⟩
     rintro rfl
     exact hj (zhJ hN e1 (I.ok.inj _ _ _ e hc ▸ hi))
  ·by_cases hcc:c'=c
   ·subst hcc;exact ⟨_,hc'⟩
   ·obtain ⟨w2,z2⟩:=I.cell y c' e
    exact ⟨w2,z2.sameBut hs hcc⟩
  ·obtain ⟨e,n,ne,nf,d⟩:=I.pin p hp
   refine ⟨(hs.2 p.1 ?_).trans e,n,ne,nf,d⟩
   intro q
   rw [q,hoc] at e
   have q':oc=p.2:=Option.some.inj e
   exact d w' (by rw [← q'];exact hocd)
theorem zff {M:Model}{A:Around}{E:Value→Shared→Prop}{i:Nat}{x:Str}{v:V}{u:Value}{Q:Unit→Shared→Prop}(I:Inv X pins σ H s)(hN:X.N.Nodup)(hi:X.N[i]? = some x)(hx:Loc X.env.scope x)(r:RelV v u)
  (h:∀ s',Inv X pins (σ.set i (some v)) H s'→Q () s') (hf:X.fn x=true∨X.env.scope.names.lookup x=some .local:=by first | exact .inl rfl | exact .inr rfl | assumption):wpAny M A (storeName X.env x u) Q E s:=
 zd6 I hN hi hx r (fun s' I' _=>h s' I') hf
theorem Inv.call' {s':Shared}{ch:List Addr}(I:Inv X pins σ H s)(ho:s'.os=s.os)(u:Un (frs X.stack) ch H H' s.heap s'.heap)(hok:HOk X.prog X.w H' s'.heap)(hg:AllBare s'.gens)
  (hch:∀ b∈ch,(b∈X.ex∨X.s₀.heap.objs.size≤b)∧b≠X.env.locals∧(∀ x c,X.env.cells.lookup x=some c→c≠b)∧∀ p∈X.pn ++ pins,p.1≠b):Inv X pins σ H' s':=by
 obtain ⟨h',g',d',t',o'⟩:=s'
 have e:o'=s.os:=ho
 subst e
 exact I.call (g':=g') (t':=t') (d':=d') u hok hg hch
end
abbrev XK:=Value→Option Addr→Hp→Prop
abbrev St:=List (Option V)
abbrev VK:=V→Hp→Prop
abbrev TE:=St→Hp→VK→Prop
abbrev TT:=St→Hp→(Bool→Hp→Prop)→Prop
abbrev TA:=St→Hp→(List V→Hp→Prop)→Prop
structure Ends where
 nx:St→Hp→Prop
 rt:VK
 bk:St→Hp→Prop:=fun _ _=>False
 ct:St→Hp→Prop:=fun _ _=>False
abbrev TS:=Ends→St→Hp→Prop
inductive EP (X:Cx)(pins:List (Addr×Obj))(σ:St)(Q:VK)(u:Value)(s':Shared):Prop
 | mk (v:_) (H':_) (z0_:Inv X pins σ H' s') (z1_:RelV v u) (z2_:Q v H')
inductive TP (X:Cx)(pins:List (Addr×Obj))(σ:St)(Q:Bool→Hp→Prop)(b:Bool)(s':Shared):Prop
 | mk (H':_) (z0_:Inv X pins σ H' s') (z1_:Q b H')
inductive AP (X:Cx)(pins:List (Addr×Obj))(σ:St)(Q:List V→Hp→Prop)(us:List Value)(s':Shared):Prop
 | mk (vs:_) (H':_) (z0_:Inv X pins σ H' s') (z1_:Vals vs us) (z2_:Q vs H')
def SP (X:Cx)(pins:List (Addr×Obj))(D:Ends)(f:Flow)(s':Shared):Prop:=
 match f with
 | .next=>∃ σ' H',Inv X pins σ' H' s'∧D.nx σ' H'
 | .brk=>∃ σ' H',Inv X pins σ' H' s'∧D.bk σ' H'
 | .cont=>∃ σ' H',Inv X pins σ' H' s'∧D.ct σ' H'
 | .ret u=>∃ v σ' H',Inv X pins σ' H' s'∧RelV v u∧D.rt v H'
def PE (X:Cx)(e:Expr)(t:TE):Prop:=
 ∀ (pins:List (Addr×Obj)) (s:Shared) (σ:St) (H:Hp) (Q:VK),Inv X pins σ H s→t σ H Q→wpAny (model X.prog X.w) X.A (eval e X.env) (EP X pins σ Q) X.xe s
def PT (X:Cx)(e:Expr)(t:TT):Prop:=
 ∀ (pins:List (Addr×Obj)) (s:Shared) (σ:St) (H:Hp) (Q:Bool→Hp→Prop),Inv X pins σ H s→t σ H Q→wpAny (model X.prog X.w) X.A (isTrue e X.env (eval e X.env)) (TP X pins σ Q) X.xe s
def PW (X:Cx)(e:Expr)(t:TT):Prop:=
 ∀ (whole:Sem Value) (pins:List (Addr×Obj)) (s:Shared) (σ:St) (H:Hp) (Q:Bool→Hp→Prop),Inv X pins σ H s→t σ H Q→wpAny (model X.prog X.w) X.A (isTrue e X.env whole) (TP X pins σ Q) X.xe s
theorem PW.pt {X:Cx}{e:Expr}{t:TT}(h:PW X e t):PT X e t:=h _
def PA (X:Cx)(es:List Expr)(t:TA):Prop:=
 ∀ (pos:Pos) (pins:List (Addr×Obj)) (s:Shared) (σ:St) (H:Hp) (Q:List V→Hp→Prop),Inv X pins σ H s→t σ H Q→wpAny (model X.prog X.w) X.A (spliced (backTo pos (starEach es X.env))) (AP X pins σ Q) X.xe s
def PS (X:Cx)(st:Stmt)(t:TS):Prop:=
 ∀ (pins:List (Addr×Obj)) (s:Shared) (σ:St) (H:Hp) (D:Ends),Inv X pins σ H s→t D σ H→wpAny (model X.prog X.w) X.A (exec st X.env) (SP X pins D) X.xe s
def PSs (X:Cx)(st:List Stmt)(t:TS):Prop:=
 ∀ (pins:List (Addr×Obj)) (s:Shared) (σ:St) (H:Hp) (D:Ends),Inv X pins σ H s→t D σ H→wpAny (model X.prog X.w) X.A (execs st X.env) (SP X pins D) X.xe s
theorem thn {α:Type}{t:Sem α}{Q Q':α→Shared→Prop}{M:Model}{A:Around}{E:Value→Shared→Prop}{s:Shared}(h:wpAny M A t Q E s)(hQ:∀ a s,Q a s→Q' a s):wpAny M A t Q' E s:=Xas h hQ fun _ _ x=>x
section
variable {X:Cx}
inductive tVar (i:Nat)(σ:St)(H:Hp)(Q:VK):Prop
 | mk (v:_) (z0_:σ[i]? = some (some v)) (z1_:Q v H)
def tC (v:V):TE:=fun _ H Q=>Q v H
theorem pe_var {i:Nat}{x:Str}{pos:Pos}(hN:X.N[i]? = some x)(hv:Vis X.env.scope x)(hd:(x == ("__debug__" : Str))=false:=by decide)(hcd:(x == ("__classdict__" : Str))=false:=by decide):PE X (.Name x pos) (tVar i):=by
 intro pins s σ H Q I h
 obtain ⟨v,e,h⟩:=h
 obtain ⟨m,hn,hl⟩:=I.loc
 obtain ⟨u,r,l⟩:=hl i x v hN e hv
 have fin:EP X pins σ Q u s:=⟨v,H,I,r,h⟩
 rcases l with ⟨hk,hm⟩ | ⟨hk,c,hc,hcell⟩
 ·exact wpAny_Name (wpAny_loadName_local I.ok.kind hk hn hm fin) hd
 ·rcases hk with hk | hk
  ·exact wpAny_Name (wpAny_loadName_cell I.ok.kind hk hc hcell fin) hd
  ·exact wpAny_Name (wpAny_loadName_free I.ok.kind hk hc hcell fin hcd) hd
theorem zad {i j pos}:PE X (.Constant (.int i) j pos) (tC (.int i)):=fun _ _ _ H _ I h=>wpAny_Constant_int ⟨.int i,H,I.tok _,⟨_,rfl⟩,h⟩
theorem zb3 {b j pos}:PE X (.Constant (.bool b) j pos) (tC (.bl b)):=fun _ _ _ H _ I h=>Constant_bool ⟨.bl b,H,I,rfl,h⟩
theorem ze1 {j pos}:PE X (.Constant .none j pos) (tC .non):=fun _ _ _ H _ I h=>Constant_none ⟨.non,H,I,rfl,h⟩
theorem zaQ {x j pos}:PE X (.Constant (.str x) j pos) (tC (.str x)):=fun _ _ _ H _ I h=>Calls.Constant_str ⟨.str x,H,I.tok _,⟨_,rfl⟩,h⟩
def Gl (X:Cx)(x:Str):Prop:=X.env.kindOf x=some .globalImplicit
theorem zb5 {E:Value→Shared→Prop}{pins:List (Addr×Obj)}{s:Shared}{σ:St}{H:Hp}{x:Str}{u:Value}{pos:Pos}{Q:Value→Shared→Prop}(I:Inv X pins σ H s)(hg:Gl X x)(hm:X.mg x=some u)(h:Q u s)
  (hd:(x == ("__debug__" : Str))=false:=by decide):wpAny (model X.prog X.w) X.A (eval (.Name x pos) X.env) Q E s:=
 Calls.Name_function_global I.ok.kind hg (Calls.loadGlobal_global (by rw [I.ok.glob];exact I.mod.glob.keeps I.bk) hm h) hd
theorem zc5 {E:Value→Shared→Prop}{pins:List (Addr×Obj)}{s:Shared}{σ:St}{H:Hp}{x:Str}{u:Value}{pos:Pos}{Q:Value→Shared→Prop}(I:Inv X pins σ H s)(hg:Gl X x)(hm:X.mg x=none)(hv:bootBuiltins x=some u)(h:Q u s)
  (hn:x ≠ "__name__" := by decide) (hd:(x == ("__debug__" : Str))=false:=by decide):wpAny (model X.prog X.w) X.A (eval (.Name x pos) X.env) Q E s:=by
 obtain ⟨mb,h1,h2⟩:=I.mod.blt
 exact Calls.Name_function_global I.ok.kind hg (Calls.loadGlobal_builtin (by rw [I.ok.glob];exact I.mod.glob.keeps I.bk) hm (by rw [I.ok.blt];exact h1.keeps I.bk) ((h2 x hn).trans hv) h) hd
theorem zg1 {x:Str}{v:V}{u:Value}{pos:Pos}(hg:Gl X x)(hm:X.mg x=some u)(r:RelV v u)(hd:(x == ("__debug__" : Str))=false:=by decide):PE X (.Name x pos) (tC v):=
 fun _ _ _ H _ I h=>zb5 I hg hm ⟨v,H,I,r,h⟩ hd
theorem zcl {x:Str}{v:V}{u:Value}{pos:Pos}(hg:Gl X x)(hm:X.mg x=none)(hv:bootBuiltins x=some u)(r:RelV v u)(hn:x ≠ "__name__" := by decide)(hd:(x == ("__debug__" : Str))=false:=by decide):PE X (.Name x pos) (tC v):=
 fun _ _ _ H _ I h=>zc5 I hg hm hv ⟨v,H,I,r,h⟩ hn hd
variable {a b:Expr}{ta tb:TE}{pos:Pos}
def PC (X:Cx)(op:CmpOp)(a b:Expr)(t:TE):Prop:=
 ∀ (pins:List (Addr×Obj)) (s:Shared) (σ:St) (H:Hp) (Q:VK),Inv X pins σ H s→t σ H Q →
  wpAny (model X.prog X.w) X.A (eval a X.env) (fun v s₁=>wpAny (model X.prog X.w) X.A (eval b X.env) (fun u s₂=>wpAny (model X.prog X.w) X.A (compareOp op v u) (EP X pins σ Q) X.xe s₂) X.xe s₁) X.xe s
theorem zhK (b:Expr){op:CmpOp}(h:op≠.In)(h2:op≠.NotIn):behindInMarks op b=false:=by
 have e1:(op == CmpOp.In)=false:=by cases op <;> first | rfl | exact absurd rfl h
 have e2:(op == CmpOp.NotIn)=false:=by cases op <;> first | rfl | exact absurd rfl h2
 cases b <;> simp [behindInMarks,e1,e2]
def tIsN (ta:TE):TE:=fun σ H Q=>ta σ H fun x H1=>Q (.bl (decide (x = .non))) H1
def tNotN (ta:TE):TE:=fun σ H Q=>ta σ H fun x H1=>Q (.bl (!decide (x = .non))) H1
theorem RelV.none_iff {x:V}{v:Value}(r:RelV x v):(v == Value.none)=decide (x = .non):=by
 cases x with
 | non=>cases r;rfl
 | bl _=>cases r;rfl
 | int _=>obtain ⟨t,rfl⟩:=r;rfl
 | str _=>obtain ⟨t,rfl⟩:=r;rfl
 | byt _=>obtain ⟨t,rfl⟩:=r;rfl
 | flt _=>obtain ⟨t,rfl⟩:=r;rfl
 | ref _=>cases r;rfl
 | ty _=>cases r;rfl
theorem ze2 {j pos'}(ha:PE X a ta):PC X .Is a (.Constant .none j pos') (tIsN ta):=by
 intro pins s σ H Q I h
 refine thn (ha pins s σ H _ I h) fun v s1 hh_=>?_
 obtain ⟨x,H1,I1,r1,q1⟩:=hh_
 exact Constant_none (is_none_gen ⟨.bl _,H1,I1,by rw [r1.none_iff];rfl,q1⟩)
theorem zcR {j pos'}(ha:PE X a ta):PC X .IsNot a (.Constant .none j pos') (tNotN ta):=by
 intro pins s σ H Q I h
 refine thn (ha pins s σ H _ I h) fun v s1 hh_=>?_
 obtain ⟨x,H1,I1,r1,q1⟩:=hh_
 exact Constant_none (isnot_none_gen ⟨.bl _,H1,I1,by rw [r1.none_iff];rfl,q1⟩)
inductive tB_1 (Q:Bool→Hp→Prop)(x:V)(H1:Hp):Prop
 | mk (c:_) (z0_:x = .bl c) (z1_:Q c H1)
def tB (t:TE):TT:=fun σ H Q=>t σ H (tB_1 Q)
theorem zlq {op:CmpOp}{t:TE}(h:PC X op a b t)(h1:behindInMarks op b=false:=by first | exact zhK _ (by decide) (by decide) | rfl):PE X (.Compare a [op] [b] pos) t:=fun pins s σ H Q I hw=>wpAny_Compare1 (h pins s σ H Q I hw) h1
theorem zb9 {op:CmpOp}{t:TE}(h:PC X op a b t)(h1:behindInMarks op b=false:=by first | exact zhK _ (by decide) (by decide) | rfl):PT X (.Compare a [op] [b] pos) (tB t):=by
 intro pins s σ H Q I hw
 refine wpAny_isTrue_Compare1 (thn (h pins s σ H _ I hw) fun v s1 h1=>thn h1 fun u s2 h2=>thn h2 fun c s3 hh_=>?_) h1
 obtain ⟨x,H1,I1,r1,q1⟩:=hh_
 obtain ⟨d,rfl,q⟩:=q1
 cases r1
 exact XaU ⟨H1,I1,q⟩
theorem zaG {e:Expr}{t:TE}(h:PE X e t)(he:∀ whole,isTrue e X.env whole=(do let v ← whole;standAt e.pos;holding [v] (truthy v)):=by intro _;rfl):PT X e (tB t):=by
 intro pins s σ H Q I hw
 refine isTrue_plain (thn (h pins s σ H _ I hw) fun v s1 hh_=>?_) (he _)
 obtain ⟨x,H1,I1,r1,q1⟩:=hh_
 obtain ⟨d,rfl,q⟩:=q1
 cases r1
 exact XaU ⟨H1,I1,q⟩
variable {tA tB':TT}{rest:List Expr}
def tAnd (t u:TT):TT:=fun σ H Q=>t σ H fun c H1=>if c=true then u σ H1 Q else Q false H1
def tOr (t u:TT):TT:=fun σ H Q=>t σ H fun c H1=>if c=true then Q true H1 else u σ H1 Q
def tNot (t:TT):TT:=fun σ H Q=>t σ H fun c H1=>Q (!c) H1
theorem zgY (ha:PT X a tA):PW X (.BoolOp .And [a] pos) tA:=by
 intro wh pins s σ H Q I h
 refine isTrue_and (thn (ha pins s σ H Q I h) fun c s1 e=>?_)
 cases c with
 | true=>exact isTrue_and_nil e
 | false=>exact e
theorem zbA (ha:PT X a tA):PW X (.BoolOp .Or [a] pos) tA:=by
 intro wh pins s σ H Q I h
 refine isTrue_or (thn (ha pins s σ H Q I h) fun c s1 e=>?_)
 cases c with
 | false=>exact isTrue_or_nil e
 | true=>exact e
theorem zi9 (ha:PT X a tA)(hb:PW X (.BoolOp .And (b :: rest) pos) tB'):PW X (.BoolOp .And (a :: b :: rest) pos) (tAnd tA tB'):=by
 intro wh pins s σ H Q I h
 refine isTrue_and (thn (ha pins s σ H _ I h) fun c s1 ⟨H1,I1,q1⟩=>?_)
 cases c with
 | true=>exact hb wh pins s1 σ H1 Q I1 q1
 | false=>exact ⟨H1,I1,q1⟩
theorem zbN (ha:PT X a tA)(hb:PW X (.BoolOp .Or (b :: rest) pos) tB'):PW X (.BoolOp .Or (a :: b :: rest) pos) (tOr tA tB'):=by
 intro wh pins s σ H Q I h
 refine isTrue_or (thn (ha pins s σ H _ I h) fun c s1 ⟨H1,I1,q1⟩=>?_)
 cases c with
 | true=>exact ⟨H1,I1,q1⟩
 | false=>exact hb wh pins s1 σ H1 Q I1 q1
theorem zaK (ha:PT X a tA):PT X (.UnaryOp .Not a pos) (tNot tA):=by
 intro pins s σ H Q I h
 exact isTrue_not (thn (ha pins s σ H (fun c H1=>Q (!c) H1) I h) fun c s1 ⟨H1,I1,q1⟩=>⟨H1,I1,q1⟩)
inductive tAndV_1 (tb:TE)(σ:St)(Q:VK)(x:V)(H1:Hp):Prop
 | mk (c:_) (z0_:x = .bl c) (z1_:if c=true then tb σ H1 Q else Q (.bl false) H1)
def tAndV (ta tb:TE):TE:=fun σ H Q=>ta σ H (tAndV_1 tb σ Q)
inductive tOrV_1 (tb:TE)(σ:St)(Q:VK)(x:V)(H1:Hp):Prop
 | mk (c:_) (z0_:x = .bl c) (z1_:if c=true then Q (.bl true) H1 else tb σ H1 Q)
def tOrV (ta tb:TE):TE:=fun σ H Q=>ta σ H (tOrV_1 tb σ Q)
inductive tNotV_1 (Q:VK)(x:V)(H1:Hp):Prop
 | mk (c:_) (z0_:x = .bl c) (z1_:Q (.bl (!c)) H1)
def tNotV (ta:TE):TE:=fun σ H Q=>ta σ H (tNotV_1 Q)
theorem zca {op}{t:TE}(h:PE X a t):PE X (.BoolOp op [a] pos) t:=fun pins s σ H Q I hw=>BoolOp_one (h pins s σ H Q I hw)
theorem zbQ (ha:PE X a ta)(hb:PE X (.BoolOp .And (b :: rest) pos) tb):PE X (.BoolOp .And (a :: b :: rest) pos) (tAndV ta tb):=by
 intro pins s σ H Q I h
 refine BoolOp_and (thn (ha pins s σ H _ I h) fun v s1 hh_=>?_)
 obtain ⟨x,H1,I1,r1,q1⟩:=hh_
 obtain ⟨c,rfl,q1⟩:=q1
 cases r1
 refine XaU ?_
 cases c with
 | true=>exact hb pins s1 σ H1 Q I1 q1
 | false=>exact ⟨.bl false,H1,I1,rfl,q1⟩
theorem pe_or (ha:PE X a ta)(hb:PE X (.BoolOp .Or (b :: rest) pos) tb):PE X (.BoolOp .Or (a :: b :: rest) pos) (tOrV ta tb):=by
 intro pins s σ H Q I h
 refine BoolOp_or (thn (ha pins s σ H _ I h) fun v s1 hh_=>?_)
 obtain ⟨x,H1,I1,r1,q1⟩:=hh_
 obtain ⟨c,rfl,q1⟩:=q1
 cases r1
 refine XaU ?_
 cases c with
 | false=>exact hb pins s1 σ H1 Q I1 q1
 | true=>exact ⟨.bl true,H1,I1,rfl,q1⟩
theorem zlp (ha:PE X a ta):PE X (.UnaryOp .Not a pos) (tNotV ta):=by
 intro pins s σ H Q I h
 refine UnaryOp_ (thn (ha pins s σ H _ I h) fun v s1 hh_=>?_)
 obtain ⟨x,H1,I1,r1,q1⟩:=hh_
 obtain ⟨c,rfl,q1⟩:=q1
 cases r1
 exact not_of (XaU ⟨.bl (!c),H1,I1,rfl,q1⟩)
def tIf (t:TT)(ta tb:TE):TE:=fun σ H Q=>t σ H fun c H1=>if c=true then ta σ H1 Q else tb σ H1 Q
theorem zhD {c:Expr}(hc:PT X c tA)(ha:PE X a ta)(hb:PE X b tb):PE X (.IfExp c a b pos) (tIf tA ta tb):=by
 intro pins s σ H Q I h
 refine wpAny_IfExp (thn (hc pins s σ H _ I h) fun d s1 ⟨H1,I1,q1⟩=>?_)
 cases d with
 | true=>exact ha pins s1 σ H1 Q I1 q1
 | false=>exact hb pins s1 σ H1 Q I1 q1
end
def SqL (K:W.Frag)(H:Hp)(a:Addr)(xs:List V):Prop:=
 Rd H a (.lst xs) ∨
  ∃ (o:Obj) (its:Array Value) (n:Nat),K.lookup a=some o∧o.cls = .type "list" ∧ o.dict=none∧o.data = .seq its n∧its.size≤sizeLine∧Vals xs its.toList
def SqT (K:W.Frag)(H:Hp)(a:Addr)(xs:List V):Prop:=
 Rd H a (.tup xs) ∨
  ∃ (o:Obj) (its:Array Value) (n:Nat),K.lookup a=some o∧o.cls = .type "tuple" ∧ o.data = .seq its n∧its.size≤sizeLine∧Vals xs its.toList
def absV:Value→Option V
 | .none=>some .non
 | .bool b=>some (.bl b)
 | .int i _=>some (.int i)
 | .str x _=>some (.str x)
 | .bytes b _=>some (.byt b)
 | .float b _=>some (.flt b)
 | .ref a=>some (.ref a)
 | .type n=>some (.ty n)
 | _=>none
theorem RelV.abs {x:V}{u:Value}(r:RelV x u):absV u=some x:=by
 cases x with
 | non=>cases r;rfl
 | bl _=>cases r;rfl
 | int _=>obtain ⟨t,rfl⟩:=r;rfl
 | str _=>obtain ⟨t,rfl⟩:=r;rfl
 | byt _=>obtain ⟨t,rfl⟩:=r;rfl
 | flt _=>obtain ⟨t,rfl⟩:=r;rfl
 | ref _=>cases r;rfl
 | ty _=>cases r;rfl
theorem RelV.inj {x y:V}{u:Value}(r:RelV x u)(q:RelV y u):x=y:=Option.some.inj (r.abs.symm.trans q.abs)
theorem Vals.inj:∀ {xs ys:List V} {us:List Value},Vals xs us→Vals ys us→xs=ys
 | _,_,_,.nil,.nil=>rfl
 | _,_,_,.cons r t,.cons r' t'=>by rw [r.inj r',Vals.inj t t']
section
variable {X:Cx}{pins:List (Addr×Obj)}{σ:St}{H:Hp}{s:Shared}{a:Addr}{xs ys:List V}
theorem SqL.of {K:W.Frag}(h:H a=some (.lst xs)):SqL K H a xs:=.inl (.inl h)
theorem SqT.of {K:W.Frag}(h:H a=some (.tup xs)):SqT K H a xs:=.inl (.inl h)
theorem Inv.list (I:Inv X pins σ H s)(h:SqL X.K H a xs):∃ its:List Value,Vals xs its∧PlainL s.heap a its.toArray∧xs.length≤sizeLine:=by
 rcases h with h | ⟨o,its,n,hk,hc,hd,hs,hz,r⟩
 ·obtain ⟨z,its,n,r,e⟩:=h.ok I.hok
  exact ⟨its,r,⟨_,n,e,rfl,rfl,rfl⟩,z⟩
 ·refine ⟨its.toList,r,⟨o,n,I.kIn a o hk,hc,hd,by simpa using hs⟩,?_⟩
  have e:=r.length
  simp only [Array.length_toList] at e
  omega
theorem Inv.tuple (I:Inv X pins σ H s)(h:SqT X.K H a xs):∃ its:List Value,Vals xs its∧IsTup s.heap a its.toArray∧xs.length≤sizeLine:=by
 rcases h with h | ⟨o,its,n,hk,hc,hs,hz,r⟩
 ·obtain ⟨z,its,r,p⟩:=h.ok I.hok
  exact ⟨its,r,p,z.1⟩
 ·refine ⟨its.toList,r,⟨o,I.kIn a o hk,hc,n,by simpa using hs⟩,?_⟩
  have e:=r.length
  simp only [Array.length_toList] at e
  omega
theorem Inv.list_inj (I:Inv X pins σ H s)(h:SqL X.K H a xs)(h':SqL X.K H a ys):xs=ys:=by
 obtain ⟨its,r,⟨o,n,e,_,_,d⟩,_⟩:=I.list h
 obtain ⟨its',r',⟨o',n',e',_,_,d'⟩,_⟩:=I.list h'
 rw [e] at e';cases e'
 rw [d] at d'
 injection d' with d1 _
 have:its=its':=by simpa using congrArg Array.toList d1
 subst this
 exact r.inj r'
theorem Inv.tuple_inj (I:Inv X pins σ H s)(h:SqT X.K H a xs)(h':SqT X.K H a ys):xs=ys:=by
 obtain ⟨its,r,⟨o,e,_,n,d⟩,_⟩:=I.tuple h
 obtain ⟨its',r',⟨o',e',_,n',d'⟩,_⟩:=I.tuple h'
 rw [e] at e';cases e'
 rw [d] at d'
 injection d' with d1 _
 have:its=its':=by simpa using congrArg Array.toList d1
 subst this
 exact r.inj r'
end
abbrev Cx.wish (X:Cx)(E:Value→Shared→Prop):Cx:={ X with xe:=E }
abbrev Cx.nox (X:Cx):Cx:=X.wish fun _ _=>False
theorem Cx.Ok.wish {X:Cx}(ok:X.Ok)(E:Value→Shared→Prop):(X.wish E).Ok:=
 ⟨ok.mod,ok.kind,ok.glob,ok.blt,ok.above,ok.inj,ok.has,ok.cab,ok.hd,ok.frames,ok.stk,ok.exf,ok.bs,ok.bsz,ok.noex,ok.exfs,ok.funs,ok.frf⟩
theorem Cx.Ok.unwish {X:Cx}{E:Value→Shared→Prop}(ok:(X.wish E).Ok):X.Ok:=
 ⟨ok.mod,ok.kind,ok.glob,ok.blt,ok.above,ok.inj,ok.has,ok.cab,ok.hd,ok.frames,ok.stk,ok.exf,ok.bs,ok.bsz,ok.noex,ok.exfs,ok.funs,ok.frf⟩
section
variable {X:Cx}{pins:List (Addr×Obj)}{σ:St}{H:Hp}{s:Shared}{E:Value→Shared→Prop}
theorem Inv.wish (I:Inv X pins σ H s)(E:Value→Shared→Prop):Inv (X.wish E) pins σ H s:=⟨I.ok.wish E,I.os,I.bare,I.base,I.loc,I.cell,I.free,I.freeC,I.pin,I.hok,I.len⟩
theorem Inv.unwish (I:Inv (X.wish E) pins σ H s):Inv X pins σ H s:=⟨I.ok.unwish,I.os,I.bare,I.base,I.loc,I.cell,I.free,I.freeC,I.pin,I.hok,I.len⟩
theorem SP.unwish {D:Ends}{f:Flow}{s':Shared}(h:SP (X.wish E) pins D f s'):SP X pins D f s':=by
 cases f with
 | next=>obtain ⟨σ',H',I,q⟩:=h;exact ⟨σ',H',I.unwish,q⟩
 | brk=>obtain ⟨σ',H',I,q⟩:=h;exact ⟨σ',H',I.unwish,q⟩
 | cont=>obtain ⟨σ',H',I,q⟩:=h;exact ⟨σ',H',I.unwish,q⟩
 | ret u=>obtain ⟨v,σ',H',I,r,q⟩:=h;exact ⟨v,σ',H',I.unwish,r,q⟩
theorem PT.nox {e:Expr}{t:TT}(h:PT X.nox e t):PT X e t:=fun pins s σ H Q I hw =>
 Xas (h pins s σ H Q (I.wish _) hw) (fun _ _ ⟨H',I',q⟩=>⟨H',I'.unwish,q⟩) fun _ _ z=>False.elim z
theorem PSs.nox {st:List Stmt}{t:TS}(h:PSs X.nox st t):PSs X st t:=fun pins s σ H D I hw =>
 Xas (h pins s σ H D (I.wish _) hw) (fun _ _ q=>q.unwish) fun _ _ z=>False.elim z
end
section
variable {X:Cx}{st:Stmt}{rest:List Stmt}{t u:TS}{e:Expr}{te:TE}{pos:Pos}
def tNext:TS:=fun D σ H=>D.nx σ H
def tSeq (t u:TS):TS:=fun D σ H=>t { D with nx:=u D } σ H
theorem zan:PSs X [] tNext:=fun _ _ σ H _ I h=>wpAny_execs_nil ⟨σ,H,I,h⟩
theorem zab (h1:PS X st t)(h2:PSs X rest u):PSs X (st :: rest) (tSeq t u):=by
 intro pins s σ H D I h
 refine wpAny_execs_cons (thn (h1 pins s σ H { D with nx:=u D } I h) fun f s1 q=>?_)
 cases f with
 | next =>
  obtain ⟨σ',H',I',q⟩:=q
  exact h2 pins s1 σ' H' D I' q
 | ret v=>exact q
 | brk=>exact q
 | cont=>exact q
theorem zaf (h1:PS X st t):PSs X [st] t:=by
 intro pins s σ H D I h
 refine wpAny_execs_cons (thn (h1 pins s σ H D I h) fun f s1 q=>?_)
 cases f with
 | next=>exact wpAny_execs_nil q
 | ret v=>exact q
 | brk=>exact q
 | cont=>exact q
theorem Inv.quiet {pins:List (Addr×Obj)}{σ:St}{H:Hp}{s:Shared}(I:Inv X pins σ H s):interactive X.env=false:=by simp [interactive,I.ok.kind]
def tDrop (te:TE):TS:=fun D σ H=>te σ H fun _ H1=>D.nx σ H1
theorem zau (he:PE X e te)(hs:swapsWith e none pos.line X.env=pure false:=by rfl):PS X (.Expr e pos) (tDrop te):=by
 intro pins s σ H D I h
 exact wpAny_Expr_any (thn (he pins s σ H _ I h) fun v s1 ⟨x,H1,I1,r1,q1⟩=>⟨σ,H1,I1,q1⟩) I.quiet hs
def tRet (te:TE):TS:=fun D σ H=>te σ H D.rt
theorem zam (he:PE X e te):PS X (.Return (some e) pos) (tRet te):=by
 intro pins s σ H D I h
 exact wpAny_Return_some (thn (he pins s σ H _ I h) fun v s1 ⟨x,H1,I1,r1,q1⟩=>⟨x,σ,H1,I1,r1,q1⟩)
def tIfS (c:TT)(t u:TS):TS:=fun D σ H=>c σ H fun b H1=>if b=true then t D σ H1 else u D σ H1
theorem zay {c:Expr}{a b:List Stmt}{tc:TT}(hc:PT X c tc)(ha:PSs X a t)(hb:PSs X b u):PS X (.If c a b pos) (tIfS tc t u):=by
 intro pins s σ H D I h
 refine wpAny_If (thn (hc pins s σ H _ I h) fun d s1 ⟨H1,I1,q1⟩=>?_)
 cases d with
 | true=>exact ha pins s1 σ H1 D I1 q1
 | false=>exact hb pins s1 σ H1 D I1 q1
def tNever:TS:=fun _ _ _=>False
theorem zaJ:PS X st tNever:=fun _ _ _ _ _ _ h=>h.elim
end
abbrev TG:=V→St→Hp→(St→Hp→Prop)→Prop
abbrev TGs:=List V→St→Hp→(St→Hp→Prop)→Prop
def PG (X:Cx)(target:Expr)(t:TG):Prop:=
 ∀ (pins:List (Addr×Obj)) (s:Shared) (σ:St) (H:Hp) (v:V) (u:Value) (Q:St→Hp→Prop),Inv X pins σ H s→RelV v u→t v σ H Q →
  wpAny (model X.prog X.w) X.A (assign target X.env u) (fun _ s'=>∃ σ' H',Inv X pins σ' H' s'∧Q σ' H') X.xe s
def PGs (X:Cx)(ts:List Expr)(t:TGs):Prop:=
 ∀ (pins:List (Addr×Obj)) (s:Shared) (σ:St) (H:Hp) (vs:List V) (us:List Value) (Q:St→Hp→Prop),Inv X pins σ H s→Vals vs us→t vs σ H Q →
  wpAny (model X.prog X.w) X.A (assignInOrder ((assignEach ts X.env).map (·.2)) us) (fun _ s'=>∃ σ' H',Inv X pins σ' H' s'∧Q σ' H') X.xe s
abbrev TSet:=V→V→V→Hp→(Hp→Prop)→Prop
def PSet (X:Cx)(t:TSet):Prop:=
 ∀ (pins:List (Addr×Obj)) (s:Shared) (σ:St) (H:Hp) (o i v:V) (ov iv u:Value) (Q:Hp→Prop),Inv X pins σ H s→RelV o ov→RelV i iv→RelV v u→t o i v H Q →
  wpAny (model X.prog X.w) X.A (setItem ov iv u) (fun _ s'=>∃ H',Inv X pins σ H' s'∧Q H') X.xe s
abbrev TIp:=V→V→Hp→VK→Prop
def PIp (X:Cx)(op:Operator)(t:TIp):Prop:=
 ∀ (pins:List (Addr×Obj)) (s:Shared) (σ:St) (H:Hp) (x y:V) (v u:Value) (Q:VK),Inv X pins σ H s→RelV x v→RelV y u→t x y H Q →
  wpAny (model X.prog X.w) X.A (inplaceOp op v u) (EP X pins σ Q) X.xe s
section
variable {X:Cx}{pos:Pos}
def za6 (i:Nat):TG:=fun v σ H Q=>Q (σ.set i (some v)) H
theorem zme {i:Nat}{x:Str}(hN:X.N.Nodup)(hi:X.N[i]? = some x)(hx:Loc X.env.scope x)(hf:X.fn x=true∨X.env.scope.names.lookup x=some .local:=by first | exact .inl rfl | exact .inr rfl | assumption):PG X (.Name x pos) (za6 i):=by
 intro pins s σ H v u Q I r h
 exact wpAny_assign_Name (zff I hN hi hx r (fun s' I'=>⟨_,H,I',h⟩) hf)
def gNil:TGs:=fun vs σ H Q=>vs=[]∧Q σ H
inductive gCons (t:TG)(u:TGs)(vs:List V)(σ:St)(H:Hp)(Q:St→Hp→Prop):Prop
 | mk (v:_) (r:_) (z0_:vs=v :: r) (z1_:t v σ H fun σ' H'=>u r σ' H' Q)
theorem zaV:PGs X [] gNil:=by
 intro pins s σ H vs us Q I r h
 obtain ⟨e,h⟩:=h
 subst e
 cases r
 exact assignInOrder_nil ⟨σ,H,I,h⟩
theorem zao {e:Expr}{es:List Expr}{t:TG}{u:TGs}(h1:PG X e t)(h2:PGs X es u)
  (hs:(assignEach (e :: es) X.env).map (·.2)=assign e X.env :: (assignEach es X.env).map (·.2):=by rfl):PGs X (e :: es) (gCons t u):=by
 intro pins s σ H vs us Q I r h
 obtain ⟨v,vr,e1,h⟩:=h
 subst e1
 cases r with
 | cons r rr =>
  rw [hs]
  refine assignInOrder_cons (thn (h1 pins s σ H _ _ _ I r h) fun _ s1 ⟨σ1,H1,I1,q1⟩=>?_)
  exact h2 pins s1 σ1 H1 _ _ Q I1 rr q1
inductive gTup (K:W.Frag)(n:Nat)(t:TGs)(v:V)(σ:St)(H:Hp)(Q:St→Hp→Prop):Prop
 | mk (a:_) (xs:_) (z0_:v = .ref a) (z1_:SqT K H a xs) (z2_:xs.length=n) (z3_:t xs σ H Q)
theorem zbu {es:List Expr}{k:Nat}{t:TGs}{n:Nat}(hc:X.calm=true)(h:PGs X es t)
  (hn:(assignEach es X.env).length=n:=by rfl) (hst:(assignEach es X.env).findIdx? (·.1)=none:=by rfl):PG X (.Tuple es k pos) (gTup X.K n t):=by
 intro pins s σ H v u Q I r hw
 obtain ⟨a,xs,e1,hq,hl,hw⟩:=hw
 subst e1
 cases r
 obtain ⟨its,rv,ht,hz⟩:=I.tuple hq
 refine assign_Tuple_tuple (I.ok.hd hc) ht (by simp [hn,← hl,rv.length]) hst fun h' hx=>?_
 have I1:Inv X pins σ H { s with heap:=h' }:=I.kept (t':=s.toks) fun b o e=>hx b o (Xaw (Xal e)) e
 exact h pins _ σ H xs _ Q I1 (by simpa using rv) hw
def gSub (to ti:TE)(t:TSet):TG:=fun v σ H Q=>to σ H fun o H1=>ti σ H1 fun i H2=>t o i v H2 fun H3=>Q σ H3
theorem zjh {o i:Expr}{to ti:TE}{t:TSet}(ho:PE X o to)(hi:PE X i ti)(hs:PSet X t)
  (ha:∀ v,assign (.Subscript o i pos) X.env v=(do
   let ov ← holding [v] (eval o X.env)
   let iv ← holding [v,ov] (eval i X.env)
   standAt pos
   holding [v,ov,iv] (setItem ov iv v)
   release [v,ov,iv] []):=by intro _;rfl):PG X (.Subscript o i pos) (gSub to ti t):=by
 intro pins s σ H v u Q I r h
 rw [ha]
 refine Xaa (XaV (thn (ho pins s σ H _ I h) fun ov s1 hh_=>?_))
 obtain ⟨x,H1,I1,r1,q1⟩:=hh_
 refine Xaa (XaV (thn (hi pins s1 σ H1 _ I1 q1) fun iv s2 hh_=>?_))
 obtain ⟨y,H2,I2,r2,q2⟩:=hh_
 refine Xaa (XaW (Xaa (XaV (thn (hs pins s2 σ H2 x y v ov iv u _ I2 r1 r2 r q2) fun _ s3 ⟨H3,I3,q3⟩=>?_))))
 exact wpAny_release ⟨σ,H3,I3,q3⟩
def tAsg (te:TE)(g:TG):TS:=fun D σ H=>te σ H fun x H1=>g x σ H1 D.nx
theorem zbP {tg e:Expr}{te:TE}{g:TG}(he:PE X e te)(hg:PG X tg g)(hs:swapsWithSole [tg] e pos.line X.env=pure false:=by rfl)(hw:swappedStores [tg] e X.env=pure none:=by rfl)
  (h1:(assignEach [tg] X.env).map (·.2)=[assign tg X.env]:=by rfl):PS X (.Assign [tg] e pos) (tAsg te g):=by
 intro pins s σ H D I h
 refine wpAny_Assign_stores (thn (he pins s σ H _ I h) fun v s1 hh_=>?_) hs hw
 obtain ⟨x,H1,I1,r1,q1⟩:=hh_
 rw [h1]
 exact thn (hg pins s1 σ H1 x v _ I1 r1 q1) fun _ s2 q=>q
theorem zll {i:Nat}{x:Str}{e:Expr}{te:TE}{pos':Pos}(hN:X.N.Nodup)(hi:X.N[i]? = some x)(hx:Loc X.env.scope x)(he:PE X e te)(hs:swapsWith e (some (.Name x pos')) pos.line X.env=pure false:=by rfl)(hf:X.fn x=true∨X.env.scope.names.lookup x=some .local:=by first | exact .inl rfl | exact .inr rfl | assumption) :
  PS X (.Assign [.Name x pos'] e pos) (tAsg te (za6 i)):=by
 intro pins s σ H D I h
 refine wpAny_Assign_Name (thn (he pins s σ H _ I h) fun v s1 hh_=>?_) hs
 obtain ⟨y,H1,I1,r1,q1⟩:=hh_
 exact zff I1 hN hi hx r1 (fun s2 I2=>⟨_,H1,I2,q1⟩) hf
inductive tAug (i:Nat)(te:TE)(ti:TIp)(D:Ends)(σ:St)(H:Hp):Prop
 | mk (x:_) (z0_:σ[i]? = some (some x)) (z1_:te σ H fun y H1=>ti x y H1 fun z H2=>D.nx (σ.set i (some z)) H2)
theorem zlm {i:Nat}{x:Str}{e:Expr}{te:TE}{op:Operator}{ti:TIp}{pos':Pos}(hN:X.N.Nodup)(hi:X.N[i]? = some x)(hx:Loc X.env.scope x)(he:PE X e te)(ho:PIp X op ti)(hf:X.fn x=true∨X.env.scope.names.lookup x=some .local:=by first | exact .inl rfl | exact .inr rfl | assumption) :
  PS X (.AugAssign (.Name x pos') op e pos) (tAug i te ti):=by
 intro pins s σ H D I h
 obtain ⟨v,e1,h⟩:=h
 obtain ⟨m,hn,hl⟩:=I.loc
 have vis:Vis X.env.scope x:=by rcases hx with k | k;exact .inl k;exact .inr (.inl k)
 obtain ⟨u,r,l⟩:=hl i x v hi e1 vis
 refine wpAny_AugAssign_Name ?_
 have go:wpAny (model X.prog X.w) X.A (eval e X.env) (fun w s₂=>wpAny (model X.prog X.w) X.A (inplaceOp op u w) (fun r s₃=>wpAny (model X.prog X.w) X.A (storeName X.env x r) (fun _=>SP X pins D .next) X.xe s₃) X.xe s₂) X.xe s:=by
  refine thn (he pins s σ H _ I h) fun w s1 hh_=>?_
  obtain ⟨y,H1,I1,r1,q1⟩:=hh_
  refine thn (ho pins s1 σ H1 v y u w _ I1 r r1 q1) fun z s2 hh_=>?_
  obtain ⟨zv,H2,I2,r2,q2⟩:=hh_
  exact zff I2 hN hi hx r2 (fun s3 I3=>⟨_,H2,I3,q2⟩) hf
 rcases l with ⟨hk,hm⟩ | ⟨hk,c,hc,hcell⟩
 ·exact wpAny_loadName_local I.ok.kind hk hn hm go
 ·rcases hk with hk | hk
  ·exact wpAny_loadName_cell I.ok.kind hk hc hcell go
  ·rcases hx with k | k
   ·have:X.env.scope.names.lookup x=some .free:=hk
    rw [k] at this;cases this
   ·have:X.env.scope.names.lookup x=some .free:=hk
    rw [k] at this;cases this
end
section
variable {X:Cx}{pos:Pos}
def zlf (c:TT)(tb:TS):TS:=fun D σ H=>∃ W:Nat→St→Hp→Prop,(∃ m,W m σ H)∧∀ m σ H,W m σ H →
 c σ H fun b H1=>if b=true then ∃ N:St→Hp→Prop,(∀ σ' H',N σ' H'→∃ m',m'<m∧W m' σ' H')∧tb { D with nx:=N,ct:=N,bk:=D.nx } σ H1 else D.nx σ H1
theorem zfs {c:Expr}{body:List Stmt}{tc:TT}{tb:TS}(hp:PassesOwn (model X.prog X.w) X.A X.env X.xe)(hc:PT X c tc)(hb:PSs X body tb):PS X (.While c body [] pos) (zlf tc tb):=by
 intro pins s σ H D I h
 obtain ⟨W,⟨m0,w0⟩,turn⟩:=h
 refine wpAny_While (codeAny_whileLoop (fun n s'=>∃ σ' H',Inv X pins σ' H' s'∧W n σ' H') ?_ m0 ⟨σ,H,I,w0⟩)
 rintro n s1 ⟨σ1,H1,I1,w1⟩
 refine Xbt hp (thn (hc pins s1 σ1 H1 _ I1 (turn n σ1 H1 w1)) fun b s2 ⟨H2,I2,q2⟩=>?_)
 cases b with
 | true =>
  obtain ⟨N,hN,q2⟩:=q2
  rw [if_pos rfl]
  refine Xbt hp (thn (hb pins s2 σ1 H2 _ I2 q2) fun f s3 q3=>?_)
  cases f with
  | next =>
   obtain ⟨σ3,H3,I3,n3⟩:=q3
   obtain ⟨m',hm,w3⟩:=hN σ3 H3 n3
   exact ⟨m',hm,σ3,H3,I3,w3⟩
  | cont =>
   obtain ⟨σ3,H3,I3,n3⟩:=q3
   obtain ⟨m',hm,w3⟩:=hN σ3 H3 n3
   exact ⟨m',hm,σ3,H3,I3,w3⟩
  | brk=>exact q3
  | ret v=>exact q3
 | false =>
  rw [if_neg Xam]
  exact wpAny_execs_nil ⟨σ1,H2,I2,q2⟩
end
structure It where
 go:Nat→Hp→Prop
 yld:Nat→Hp→V→Hp→Prop
 stop:Nat→Hp→Prop
def FpOk (X:Cx)(pins:List (Addr×Obj))(H:Hp)(b:Addr):Prop:=
 H b=none∧b≠X.env.locals∧b ∉ X.fs∧(b∈X.ex∨X.s₀.heap.objs.size≤b)∧(∀ x c,X.env.cells.lookup x=some c→c≠b)∧∀ p∈X.pn ++ pins,p.1≠b
theorem Inv.fpOk {X:Cx}{pins:List (Addr×Obj)}{σ:St}{H H':Hp}{s:Shared}{b:Addr}(I:Inv X pins σ H s)(hb:s.heap.objs.size≤b)(hn:H' b=none):FpOk X pins H' b:=by
 refine ⟨hn,Xbr (Xak I.lt hb),I.nofs hb,.inr (Xar I.sz hb),fun x c e z=>?_,fun p hp z=>?_⟩
 ·obtain ⟨v,q⟩:=I.cell x c e
  exact absurd (Xak q.lt (by rw [z];exact hb)) (XaR _)
 ·exact absurd (Xak (Xal (I.pin p hp).1) (by rw [z];exact hb)) (XaR _)
structure Turn (P:Program)(w:World)(K:W.Frag)(tg:Expr)(J:It)(fp:List Addr)(it:Addr)(tn:Nat→Heap→Prop):Prop where
 mem:it∈fp
 obj:∀ i h,tn i h→∀ b∈fp,∃ o,h.get? b=some o∧∀ v,o.data≠.cell v
 keep:∀ i h h',tn i h→(∀ b∈fp,∀ o,h.get? b=some o→h'.get? b=some o)→tn i h'
 item:∀ (X:Cx),X.prog=P→X.w=w→X.K=K→X.calm=true→∀ (i:Nat) (pins:List (Addr×Obj)) (s:Shared) (σ:St) (H:Hp) (E:Value→Shared→Prop),Inv X pins σ H s→(∀ b∈fp,FpOk X pins H b)→tn i s.heap→J.go i H →
  wpAny (model P w) X.A (pyNext (.ref it)) (fun r s1=>∃ u,r=some u ∧
   wpAny (model P w) X.A (letOwnedTupleGo tg (.ref it) u) (fun _ s2=>∃ x H',Inv X pins σ H' s2∧RelV x u∧J.yld i H x H'∧tn (i+1) s2.heap∧∀ b∈fp,H' b=none) E s1) E s
 done:∀ (X:Cx),X.prog=P→X.w=w→X.K=K→X.calm=true→∀ (i:Nat) (pins:List (Addr×Obj)) (s:Shared) (σ:St) (H:Hp) (E:Value→Shared→Prop),Inv X pins σ H s→(∀ b∈fp,FpOk X pins H b)→tn i s.heap→J.stop i H →
  wpAny (model P w) X.A (pyNext (.ref it)) (fun r s1=>r=none∧Inv X pins σ H s1) E s
 self:∀ (A:Around) (i:Nat) (s:Shared) (Q:Value→Shared→Prop) (E:Value→Shared→Prop),tn i s.heap→Q (.ref it) s→wpAny (model P w) A (pyIter (.ref it)) Q E s
abbrev TI:=St→Hp→(It→Hp→Prop)→Prop
def PIE (X:Cx)(pins:List (Addr×Obj))(σ:St)(tg:Expr)(R:It→Hp→Prop)(itv:Value)(s2:Shared):Prop:=
 ∃ (it:Addr) (fp:List Addr) (tn:Nat→Heap→Prop) (J:It) (H':Hp),itv = .ref it∧Inv X pins σ H' s2∧Turn X.prog X.w X.K tg J fp it tn∧tn 0 s2.heap∧(∀ b∈fp,FpOk X pins H' b)∧R J H'
def PI (X:Cx)(tg iter:Expr)(wi:TI):Prop:=
 ∀ (pins:List (Addr×Obj)) (s:Shared) (σ:St) (H:Hp) (R:It→Hp→Prop),Inv X pins σ H s→wi σ H R →
  wpAny (model X.prog X.w) X.A (eval iter X.env) (fun v s1=>wpAny (model X.prog X.w) X.A (pyIter v) (PIE X pins σ tg R) X.xe s1) X.xe s
theorem zjL {M:Model}{A:Around}{E:Value→Shared→Prop}{s:Shared}{tg:Expr}{it:Addr}{u:Value}{o:Obj}{n:String}{vs:Array Value}{Q:Unit→Shared→Prop}(ho:s.heap.get? it=some o)(hc:o.cls = .type n)(hd:o.data = .fields vs)
    (hn:["enumerate","zip","dict_itemiterator","dict_reverseitemiterator","odict_iterator","itertools.zip_longest","itertools.pairwise"].contains n=false) (hQ:Q () s):wpAny M A (letOwnedTupleGo tg (.ref it) u) Q E s:=by
  unfold letOwnedTupleGo
  cases tg <;> first
    | exact Xac hQ
    | (cases u <;> first
        | exact Xac hQ
        | (refine Xaa (wpAny_load ho ?_)
           rw [hc,hd]
           show wpAny M A (if (["enumerate","zip","dict_itemiterator","dict_reverseitemiterator","odict_iterator","itertools.zip_longest","itertools.pairwise"].contains n && vs[0]? == some (rawInt _))=true then _ else _) Q E s
           rw [if_neg (by intro h;rw [hn,Bool.false_and] at h;cases h)]
           exact Xac hQ))
def Itl (K:W.Frag)(a:Addr):It:=
 ⟨fun i H=>∃ xs x,SqL K H a xs∧xs[i]? = some x,fun i H x H'=>H'=H∧∀ xs,SqL K H a xs→xs[i]? = some x,fun i H=>∃ xs,SqL K H a xs∧xs.length≤i⟩
def Itt (K:W.Frag)(a:Addr):It:=
 ⟨fun i H=>∃ xs x,SqT K H a xs∧xs[i]? = some x,fun i H x H'=>H'=H∧∀ xs,SqT K H a xs→xs[i]? = some x,fun i H=>∃ xs,SqT K H a xs∧xs.length≤i⟩
def Itr (lo:Int)(n:Nat):It:=⟨fun i _=>i<n,fun i H x H'=>H'=H∧x = .int (lo+i),fun i _=>n≤i⟩
theorem ziQ {P:Program}{w:World}{K:W.Frag}{tg:Expr}(a it:Addr):Turn P w K tg (Itl K a) [it] it (fun i h=>h.IsListIter it a i) where
 mem:=by simp
 obj:=fun i h st b hb=>by
  have e:b=it:=by simpa using hb
  subst e
  obtain ⟨o,e,c,d⟩:=st
  exact ⟨o,e,fun v z=>by rw [d] at z;cases z⟩
 keep:=fun i h h' st k=>st.at fun o e=>k it (by simp) o e
 item:=by
  intro X hP hw hK hc i pins s σ H E I hf st hg
  subst hP hw hK
  obtain ⟨xs,x,hq,hx⟩:=hg
  obtain ⟨its,rv,p,hz⟩:=I.list hq
  obtain ⟨u,hu,ru⟩:=rv.get hx
  obtain ⟨f0,f1,f2,f3,f4,f5⟩:=hf it (by simp)
  refine wpAny_pyNext_list_item st p.isList (x:=u) (by simpa using hu) fun h' st' sb=>?_
  have I1:Inv X pins σ H { s with heap:=h' }:=I.turned (t':=s.toks) (fun b o hb e=>(sb.2 b hb).trans e) f0 f1 f3 f4 f5
  obtain ⟨o,e,c,d⟩:=id st'
  exact ⟨u,rfl,zjL (s:={ s with heap:=h' }) e c d (by decide) ⟨x,H,I1,ru,⟨rfl,fun ys hy=>by rw [I.list_inj hy hq];exact hx⟩,st',fun b hb=>(hf b hb).1⟩⟩
 done:=by
  intro X hP hw hK hc i pins s σ H E I hf st hg
  subst hP hw hK
  obtain ⟨xs,hq,hx⟩:=hg
  obtain ⟨its,rv,p,hz⟩:=I.list hq
  obtain ⟨f0,f1,f2,f3,f4,f5⟩:=hf it (by simp)
  have hl:=rv.length
  exact wpAny_pyNext_list_end (I.ok.hd hc) st p.isList (by simp;omega) fun h' eb=>⟨rfl,I.turned (t':=s.toks) (fun b o hb e=>eb b o hb e) f0 f1 f3 f4 f5⟩
 self:=fun _ _ _ _ _ st h=>wpAny_pyIter_listiter st h
theorem zhZ {P:Program}{w:World}{K:W.Frag}{tg:Expr}(a it:Addr):Turn P w K tg (Itt K a) [it] it (fun i h=>h.IsTupleIter it a i) where
 mem:=by simp
 obj:=fun i h st b hb=>by
  have e:b=it:=by simpa using hb
  subst e
  obtain ⟨o,e,c,d⟩:=st
  exact ⟨o,e,fun v z=>by rw [d] at z;cases z⟩
 keep:=fun i h h' st k=>st.at fun o e=>k it (by simp) o e
 item:=by
  intro X hP hw hK hc i pins s σ H E I hf st hg
  subst hP hw hK
  obtain ⟨xs,x,hq,hx⟩:=hg
  obtain ⟨its,rv,p,hz⟩:=I.tuple hq
  obtain ⟨u,hu,ru⟩:=rv.get hx
  obtain ⟨f0,f1,f2,f3,f4,f5⟩:=hf it (by simp)
  refine wpAny_pyNext_tuple_item st (show s.heap.IsTuple a its.toArray from p) (x:=u) (by simpa using hu) fun h' st' sb=>?_
  have I1:Inv X pins σ H { s with heap:=h' }:=I.turned (t':=s.toks) (fun b o hb e=>(sb.2 b hb).trans e) f0 f1 f3 f4 f5
  obtain ⟨o,e,c,d⟩:=id st'
  exact ⟨u,rfl,zjL (s:={ s with heap:=h' }) e c d (by decide) ⟨x,H,I1,ru,⟨rfl,fun ys hy=>by rw [I.tuple_inj hy hq];exact hx⟩,st',fun b hb=>(hf b hb).1⟩⟩
 done:=by
  intro X hP hw hK hc i pins s σ H E I hf st hg
  subst hP hw hK
  obtain ⟨xs,hq,hx⟩:=hg
  obtain ⟨its,rv,p,hz⟩:=I.tuple hq
  obtain ⟨f0,f1,f2,f3,f4,f5⟩:=hf it (by simp)
  have hl:=rv.length
  exact wpAny_pyNext_tuple_end (I.ok.hd hc) st (show s.heap.IsTuple a its.toArray from p) (by simp;omega) fun h' eb=>⟨rfl,I.turned (t':=s.toks) (fun b o hb e=>eb b o hb e) f0 f1 f3 f4 f5⟩
 self:=fun _ _ _ _ _ st h=>wpAny_pyIter_tupleiter st h
theorem zh0 {P:Program}{w:World}{K:PySem.W.Frag}{tg:Expr}(it:Addr)(lo:Int)(n:Nat):Turn P w K tg (Itr lo n) [it] it (fun i h=>IsRangeIter h it (lo+(i:Nat) * 1) ((n:Int) - (i:Nat)) 1) where
 mem:=by simp
 obj:=fun i h st b hb=>by
  have e:b=it:=by simpa using hb
  subst e
  exact ⟨_,st,fun v z=>by
   have z':Data.fields _=Data.cell v:=z
   cases z'⟩
 keep:=fun i h h' st k=>k it (by simp) _ st
 item:=by
  intro X hP hw hK hc i pins s σ H E I hf st hg
  subst hP hw hK
  obtain ⟨f0,f1,f2,f3,f4,f5⟩:=hf it (by simp)
  have W:=Walks.range (prog:=X.prog) (w:=X.w) (I.ok.hd hc) it lo 1 n
  refine W.item i s _ _ hg st fun v h' tk hv st' kk=>?_
  obtain ⟨t,rfl⟩:=hv
  have I1:Inv X pins σ H { s with heap:=h',toks:=tk }:=I.turned (fun b o hb e=>kk b o (by simpa using hb) e) f0 f1 f3 f4 f5
  refine ⟨_,rfl,zjL (s:={ s with heap:=h',toks:=tk }) (n := "range_iterator") st' rfl rfl (by decide) ⟨.int (lo+i),H,I1,⟨t,?_⟩,⟨rfl,rfl⟩,st',fun b hb=>(hf b hb).1⟩⟩
  rw [Int.mul_one]
 done:=by
  intro X hP hw hK hc i pins s σ H E I hf st hg
  subst hP hw hK
  obtain ⟨f0,f1,f2,f3,f4,f5⟩:=hf it (by simp)
  exact wpAny_pyNext_range_end (I.ok.hd hc) st (by have:n≤i:=hg;omega) fun h' eb=>⟨rfl,I.turned (t':=s.toks) (fun b o hb e=>eb b o hb e) f0 f1 f3 f4 f5⟩
 self:=fun _ _ _ _ _ st h=>wpAny_pyIter_rangeiter st h
section
variable {X:Cx}{tg:Expr}
inductive iList_1 (K:W.Frag)(R:It→Hp→Prop)(x:V)(H1:Hp):Prop
 | mk (a:_) (z0_:x = .ref a) (z1_:(∃ xs,SqL K H1 a xs)) (z2_:R (Itl K a) H1)
def iList (K:W.Frag)(tl:TE):TI:=fun σ H R=>tl σ H (iList_1 K R)
inductive iTup_1 (K:W.Frag)(R:It→Hp→Prop)(x:V)(H1:Hp):Prop
 | mk (a:_) (z0_:x = .ref a) (z1_:(∃ xs,SqT K H1 a xs)) (z2_:R (Itt K a) H1)
def iTup (K:W.Frag)(tl:TE):TI:=fun σ H R=>tl σ H (iTup_1 K R)
theorem zcP {l:Expr}{tl:TE}(hl:PE X l tl):PI X tg l (iList X.K tl):=by
 intro pins s σ H R I h
 refine thn (hl pins s σ H _ I h) fun v s1 hh_=>?_
 obtain ⟨x,H1,I1,r1,q1⟩:=hh_
 obtain ⟨a,e,⟨xs,hq⟩,q⟩:=q1
 subst e
 cases r1
 obtain ⟨its,rv,p,hz⟩:=I1.list hq
 refine wpAny_pyIter_list p.isList ?_
 refine ⟨s1.heap.objs.size,[s1.heap.objs.size],_,_,H1,rfl,I1.kept (t':=s1.toks) fun b o e=>Xab _ e,ziQ a _,⟨_,Xaj _ rfl,rfl,rfl⟩,fun b hb=>?_,q⟩
 have e:b=s1.heap.objs.size:=by simpa using hb
 subst e
 exact I1.fpOk (Xae _) (I1.hok.fresh (Xae _))
theorem zlo {l:Expr}{tl:TE}(hl:PE X l tl):PI X tg l (iTup X.K tl):=by
 intro pins s σ H R I h
 refine thn (hl pins s σ H _ I h) fun v s1 hh_=>?_
 obtain ⟨x,H1,I1,r1,q1⟩:=hh_
 obtain ⟨a,e,⟨xs,hq⟩,q⟩:=q1
 subst e
 cases r1
 obtain ⟨its,rv,p,hz⟩:=I1.tuple hq
 refine XbM (show s1.heap.IsTuple a its.toArray from p) ?_
 refine ⟨s1.heap.objs.size,[s1.heap.objs.size],_,_,H1,rfl,I1.kept (t':=s1.toks) fun b o e=>Xab _ e,zhZ a _,⟨_,Xaj _ rfl,rfl,rfl⟩,fun b hb=>?_,q⟩
 have e:b=s1.heap.objs.size:=by simpa using hb
 subst e
 exact I1.fpOk (Xae _) (I1.hok.fresh (Xae _))
theorem zkz {pins:List (Addr×Obj)}{σ:St}{H:Hp}{s:Shared}{R:It→Hp→Prop}{E:Value→Shared→Prop}{lo hi:Int}{t u v:Tok}{tk:Nat}(I:Inv X pins σ H s)(h1:-(2 ^ 62)≤lo)(h2:lo<2 ^ 62)(h3:-(2 ^ 62)≤hi)(h4:hi<2 ^ 62)
  (q:R (Itr lo (hi - lo).toNat) H):wpAny (model X.prog X.w) X.A (pyIter (.ref s.heap.objs.size)) (PIE X pins σ tg R) E { s with heap:=s.heap.push { cls:=.type "range",data:=.fields #[.int lo t,.int hi u,.int 1 v] },toks:=tk }:=by
 refine wpAny_pyIter_range (IsRange.new ..) (small_one h1 h2 h3 h4) ?_
 have I1:Inv X pins σ H { s with heap:=s.heap.push { cls:=.type "range",data:=.fields #[.int lo t,.int hi u,.int 1 v] },toks:=tk }:=I.kept fun b o e=>Xab _ e
 refine ⟨(s.heap.push { cls:=.type "range",data:=.fields #[.int lo t,.int hi u,.int 1 v] }).objs.size,[(s.heap.push { cls:=.type "range",data:=.fields #[.int lo t,.int hi u,.int 1 v] }).objs.size],_,_,H,rfl,
  I1.kept (t':=tk) fun b o e=>Xab _ e,zh0 _ lo (hi - lo).toNat,?_,fun b hb=>?_,q⟩
 ·have e1:lo+((0:Nat):Int) * 1=lo:=by simp
  have e2:(((hi - lo).toNat:Nat):Int) - ((0:Nat):Int)=Builtin.Range.rangeSize lo hi 1:=by rw [rangeSize_one];split <;> omega
  show IsRangeIter _ _ (lo+((0:Nat):Int) * 1) ((((hi - lo).toNat:Nat):Int) - ((0:Nat):Int)) 1
  rw [e1,e2]
  exact Xaj _ rfl
 ·have e:b=(s.heap.push { cls:=.type "range",data:=.fields #[.int lo t,.int hi u,.int 1 v] }).objs.size:=by simpa using hb
  subst e
  exact I1.fpOk (Xae _) (I1.hok.fresh (Xae _))
inductive iRng1_1 (R:It→Hp→Prop)(vs:List V)(H1:Hp):Prop
 | mk (j:Int) (z0_:vs=[.int j]) (z1_:-(2 ^ 62)≤j) (z2_:j<2 ^ 62) (z3_:R (Itr 0 j.toNat) H1)
def iRng1 (ta:TA):TI:=fun σ H R=>ta σ H (iRng1_1 R)
theorem zck {a:Expr}{ta:TA}{p pos:Pos}(hg:Gl X "range")(hm:X.mg "range" = none)(ha:PA X [a] ta)(hs:starEach [a] X.env=[(false,eval a X.env)]:=by rfl):PI X tg (.Call (.Name "range" p) [a] [] pos) (iRng1 ta):=by
 intro pins s σ H R I h
 refine Call_ (zc5 I hg hm boot_range (PyProof.Rows.callWith_type1 (thn (ha pos pins s σ H _ I h) fun us s1 hh_=>?_) hs rfl))
 obtain ⟨vs,H1,I1,r1,q1⟩:=hh_
 obtain ⟨j,e,q1,q2,q⟩:=q1
 subst e
 cases r1 with
 | cons r rr =>
  cases rr
  obtain ⟨t,rfl⟩:=r
  exact call_range_1 (zkz I1 (by omega) (by omega) q1 q2 (by simpa using q))
def tFor (wi:TI)(g:TG)(tb:TS):TS:=fun D σ H=>wi σ H fun J H1=>∃ W:Nat→Nat→St→Hp→Prop,(∃ m,W 0 m σ H1)∧∀ i m σ H,W i m σ H →
 (J.stop i H∧D.nx σ H)∨(J.go i H∧∃ N:St→Hp→Prop,(∀ σ' H',N σ' H'→∃ m',m'<m∧W (i+1) m' σ' H')∧∀ x H',J.yld i H x H'→g x σ H' fun σ2 H2=>tb { D with nx:=N,ct:=N,bk:=D.nx } σ2 H2)
def zfZ (fp:List Addr)(h:Heap):List (Addr×Obj):=fp.filterMap fun b=>(h.get? b).map fun o=>(b,o)
theorem zcs {fp:List Addr}{h:Heap}{b:Addr}{o:Obj}(hb:b∈fp)(e:h.get? b=some o):(b,o)∈zfZ fp h:=List.mem_filterMap.mpr ⟨b,hb,by rw [e];rfl⟩
theorem zjs {fp:List Addr}{h:Heap}{p:Addr×Obj}(hp:p∈zfZ fp h):p.1∈fp∧h.get? p.1=some p.2:=by
 obtain ⟨b,hb,e⟩:=List.mem_filterMap.mp hp
 cases q:h.get? b with
 | none=>rw [q] at e;cases e
 | some o =>
  rw [q] at e
  have e':(b,o)=p:=Option.some.inj e
  subst e'
  exact ⟨hb,q⟩
theorem Inv.pinned {pins:List (Addr×Obj)}{σ:St}{H:Hp}{s:Shared}{fp:List Addr}(I:Inv X pins σ H s)(hf:∀ b∈fp,FpOk X pins H b)(ho:∀ b∈fp,∃ o,s.heap.get? b=some o∧∀ v,o.data≠.cell v):Inv X (pins ++ zfZ fp s.heap) σ H s:=
 I.pins_of fun p hp=>(XaF.mp hp).elim (fun z=>I.pin p (XaA _ z)) fun z=>by
  obtain ⟨hb,e⟩:=zjs z
  obtain ⟨f0,f1,f2,_⟩:=hf p.1 hb
  obtain ⟨o,e',d⟩:=ho p.1 hb
  rw [e] at e';cases e'
  exact ⟨e,f0,f1,f2,d⟩
theorem Inv.unpinned {pins pl:List (Addr×Obj)}{σ:St}{H:Hp}{s:Shared}(I:Inv X (pins ++ pl) σ H s):Inv X pins σ H s:=I.pins_of fun p hp=>I.pin p (XaA _ (XbA _ hp))
theorem zbO {iter:Expr}{body:List Stmt}{wi:TI}{g:TG}{tb:TS}{pos:Pos}(hp:PassesOwn (model X.prog X.w) X.A X.env X.xe)(hc:X.calm=true)(hi:PI X tg iter wi)(hg:PG X tg g)(hb:PSs X body tb)
  (hs:∀ x,foldedSetIterable iter X.env x=pure x:=by intro _;rfl):PS X (.For tg iter body [] pos) (tFor wi g tb):=by
 intro pins s σ H D I h
 refine wpAny_For (thn (hi pins s σ H _ I h) fun v s1 h1=>thn h1 fun itv s2 h2=>?_) hs
 obtain ⟨it,fp,tn,J,H2,e,I2,T,st2,f2,W,⟨m0,w0⟩,turn⟩:=h2
 subst e
 
 have stat:∀ {H':Hp},(∀ b∈fp,H' b=none)→∀ b∈fp,FpOk X pins H' b:=fun hn b hb=>⟨hn b hb,(f2 b hb).2⟩
 refine codeAny_forLoop_any (fun n s'=>∃ i σ' H',Inv X pins σ' H' s'∧tn i s'.heap∧(∀ b∈fp,H' b=none)∧W i n σ' H') ?_ m0 ⟨0,σ,H2,I2,st2,fun b hb=>(f2 b hb).1,w0⟩
 rintro n s3 ⟨i,σ3,H3,I3,st3,fr3,w3⟩
 rcases turn i n σ3 H3 w3 with ⟨stop,qn⟩ | ⟨go,N,hN,step⟩
 ·refine Xbt hp (thn (T.done X rfl rfl rfl hc i pins s3 σ3 H3 X.xe I3 (stat fr3) st3 stop) fun r s4 ⟨hr,I4⟩=>?_)
  subst hr
  exact wpAny_execs_nil ⟨σ3,H3,I4,qn⟩
 ·refine Xbt hp (thn (T.item X rfl rfl rfl hc i pins s3 σ3 H3 X.xe I3 (stat fr3) st3 go) fun r s4 ⟨u,hr,h4⟩=>?_)
  subst hr
  refine Xbt hp (thn h4 fun _ s5 hh_=>?_)
  obtain ⟨x,H5,I5,r5,y5,st5,fr5⟩:=hh_
  have I5':=I5.pinned (stat fr5) (T.obj _ _ st5)
  refine Xbt hp (thn (hg _ s5 σ3 H5 x u _ I5' r5 (step x H5 y5)) fun _ s6 ⟨σ6,H6,I6,q6⟩=>?_)
  refine Xbt hp (thn (hb _ s6 σ6 H6 _ I6 q6) fun f s7 q7=>?_)
  have again:∀ {σ7:St} {H7:Hp},Inv X (pins ++ zfZ fp s5.heap) σ7 H7 s7→N σ7 H7→∃ m,m<n∧∃ i σ' H',Inv X pins σ' H' s7∧tn i s7.heap∧(∀ b∈fp,H' b=none)∧W i m σ' H':=fun {σ7 H7} I7 n7=>by
   obtain ⟨m',hm,w7⟩:=hN σ7 H7 n7
   refine ⟨m',hm,i+1,σ7,H7,I7.unpinned,T.keep _ _ _ st5 fun b hb o e=>(I7.pin (b,o) (XaA _ (XaA _ (zcs hb e)))).1,fun b hb=>?_,w7⟩
   obtain ⟨o,e,d⟩:=T.obj _ _ st5 b hb
   exact (I7.pin (b,o) (XaA _ (XaA _ (zcs hb e)))).2.1
  cases f with
  | next=>obtain ⟨σ7,H7,I7,n7⟩:=q7;exact again I7 n7
  | cont=>obtain ⟨σ7,H7,I7,n7⟩:=q7;exact again I7 n7
  | brk=>obtain ⟨σ7,H7,I7,q7⟩:=q7;exact ⟨σ7,H7,I7.unpinned,q7⟩
  | ret v=>obtain ⟨x7,σ7,H7,I7,r7,q7⟩:=q7;exact ⟨x7,σ7,H7,I7.unpinned,r7,q7⟩
end
theorem zfI {K:PySem.W.Frag}{a:Addr}{xs:List V}{g:TG}{tb:TS}{D:Ends}{σ:St}{H:Hp}(Pv:Nat→St→Hp→Prop)(h0:Pv 0 σ H)(hl:∀ i σ H,i≤xs.length→Pv i σ H→SqL K H a xs)
  (hs:∀ i x σ H,xs[i]? = some x→Pv i σ H→g x σ H fun σ2 H2=>tb { D with nx:=Pv (i+1),ct:=Pv (i+1),bk:=D.nx } σ2 H2) (hd:∀ σ H,Pv xs.length σ H→D.nx σ H) :
  ∃ W:Nat→Nat→St→Hp→Prop,(∃ m,W 0 m σ H)∧∀ i m σ H,W i m σ H →
   ((Itl K a).stop i H∧D.nx σ H)∨((Itl K a).go i H∧∃ N:St→Hp→Prop,(∀ σ' H',N σ' H'→∃ m',m'<m∧W (i+1) m' σ' H')∧∀ x H',(Itl K a).yld i H x H'→g x σ H' fun σ2 H2=>tb { D with nx:=N,ct:=N,bk:=D.nx } σ2 H2):=by
 refine ⟨fun i m σ H=>m=xs.length - i∧i≤xs.length∧Pv i σ H,⟨xs.length,by simp,Nat.zero_le _,h0⟩,?_⟩
 rintro i m σ H ⟨rfl,hi,p⟩
 have q:=hl i σ H hi p
 by_cases hlt:i<xs.length
 ·refine .inr ⟨⟨xs,xs[i],q,by simp [hlt]⟩,Pv (i+1),fun σ' H' p'=>⟨xs.length - (i+1),by omega,rfl,hlt,p'⟩,fun x H' y=>?_⟩
  obtain ⟨e,y⟩:=y
  subst e
  exact hs i x σ _ (y xs q) p
 ·have e:i=xs.length:=by omega
  subst e
  exact .inl ⟨⟨xs,q,Xae _⟩,hd σ H p⟩
theorem zeJ {lo:Int}{n:Nat}{g:TG}{tb:TS}{D:Ends}{σ:St}{H:Hp}(Pv:Nat→St→Hp→Prop)(h0:Pv 0 σ H)
  (hs:∀ i σ H,i<n→Pv i σ H→g (.int (lo+i)) σ H fun σ2 H2=>tb { D with nx:=Pv (i+1),ct:=Pv (i+1),bk:=D.nx } σ2 H2) (hd:∀ σ H,Pv n σ H→D.nx σ H) :
  ∃ W:Nat→Nat→St→Hp→Prop,(∃ m,W 0 m σ H)∧∀ i m σ H,W i m σ H →
   ((Itr lo n).stop i H∧D.nx σ H)∨((Itr lo n).go i H∧∃ N:St→Hp→Prop,(∀ σ' H',N σ' H'→∃ m',m'<m∧W (i+1) m' σ' H')∧∀ x H',(Itr lo n).yld i H x H'→g x σ H' fun σ2 H2=>tb { D with nx:=N,ct:=N,bk:=D.nx } σ2 H2):=by
 refine ⟨fun i m σ H=>m=n - i∧i≤n∧Pv i σ H,⟨n,by simp,Nat.zero_le _,h0⟩,?_⟩
 rintro i m σ H ⟨rfl,hi,p⟩
 by_cases hlt:i<n
 ·refine .inr ⟨hlt,Pv (i+1),fun σ' H' p'=>⟨n - (i+1),by omega,rfl,hlt,p'⟩,fun x H' y=>?_⟩
  obtain ⟨e,y⟩:=y
  subst e y
  exact hs i σ _ hlt p
 ·have e:i=n:=by omega
  subst e
  exact .inl ⟨Xae _,hd σ H p⟩
theorem zfd {c:TT}{tb:TS}{D:Ends}{σ:St}{H:Hp}(Pv:St→Hp→Prop)(μ:St→Hp→Nat)(h0:Pv σ H)
  (hs:∀ σ H,Pv σ H→c σ H fun b H1=>if b=true then tb { D with nx:=fun σ' H'=>Pv σ' H'∧μ σ' H'<μ σ H,ct:=fun σ' H'=>Pv σ' H'∧μ σ' H'<μ σ H,bk:=D.nx } σ H1 else D.nx σ H1)
  (mono:∀ σ H Q Q',(∀ b H1,Q b H1→Q' b H1)→c σ H Q→c σ H Q'):zlf c tb D σ H:=by
 refine ⟨fun m σ H=>m=μ σ H∧Pv σ H,⟨_,rfl,h0⟩,?_⟩
 rintro m σ H ⟨rfl,p⟩
 refine mono σ H _ _ (fun b H1 q=>?_) (hs σ H p)
 cases b with
 | true=>exact ⟨_,fun σ' H' ⟨p',l⟩=>⟨_,l,rfl,p'⟩,q⟩
 | false=>exact q
abbrev R2:=V→V→Hp→VK→Prop
def OpR (X:Cx)(f:Value→Value→Sem Value)(r:R2):Prop:=
 ∀ (pins:List (Addr×Obj)) (s:Shared) (σ:St) (H:Hp) (x y:V) (v u:Value) (Q:VK),Inv X pins σ H s→RelV x v→RelV y u→r x y H Q →
  wpAny (model X.prog X.w) X.A (f v u) (EP X pins σ Q) X.xe s
def UnR (X:Cx)(f:Value→Sem Value)(r:V→Hp→VK→Prop):Prop:=
 ∀ (pins:List (Addr×Obj)) (s:Shared) (σ:St) (H:Hp) (x:V) (v:Value) (Q:VK),Inv X pins σ H s→RelV x v→r x H Q →
  wpAny (model X.prog X.w) X.A (f v) (EP X pins σ Q) X.xe s
def zdc (X:Cx)(f:Value)(r:List V→Hp→VK→Prop):Prop:=
 ∀ (pins:List (Addr×Obj)) (s:Shared) (σ:St) (H:Hp) (xs:List V) (us:List Value) (Q:VK),Inv X pins σ H s→Vals xs us→r xs H Q →
  wpAny (model X.prog X.w) X.A (call f us) (EP X pins σ Q) X.xe s
def TruR (X:Cx)(r:V→Hp→(Bool→Hp→Prop)→Prop):Prop:=
 ∀ (pins:List (Addr×Obj)) (s:Shared) (σ:St) (H:Hp) (x:V) (v:Value) (Q:Bool→Hp→Prop),Inv X pins σ H s→RelV x v→r x H Q →
  wpAny (model X.prog X.w) X.A (truthy v) (TP X pins σ Q) X.xe s
def tOp (r:R2)(ta tb:TE):TE:=fun σ H Q=>ta σ H fun x H1=>tb σ H1 fun y H2=>r x y H2 Q
def tUn (r:V→Hp→VK→Prop)(ta:TE):TE:=fun σ H Q=>ta σ H fun x H1=>r x H1 Q
inductive rI (C:Int→Int→Prop)(g:Int→Int→V)(x:V)(y:V)(H:Hp)(Q:VK):Prop
 | mk (i:_) (j:_) (z0_:x = .int i) (z1_:y = .int j) (z2_:C i j) (z3_:Q (g i j) H)
inductive rI0 (g:Int→Int→V)(x:V)(y:V)(H:Hp)(Q:VK):Prop
 | mk (i:_) (j:_) (z0_:x = .int i) (z1_:y = .int j) (z2_:Q (g i j) H)
inductive rU (g:Int→V)(x:V)(H:Hp)(Q:VK):Prop
 | mk (i:_) (z0_:x = .int i) (z1_:Q (g i) H)
section
variable {X:Cx}{a b c:Expr}{ta tb tc:TE}{pos:Pos}
theorem binT (ha:PE X a ta)(hb:PE X b tb){pins:List (Addr×Obj)}{s:Shared}{σ:St}{H:Hp}{R:V→V→Hp→Prop}(I:Inv X pins σ H s)
  (h:ta σ H fun x H1=>tb σ H1 fun y H2=>R x y H2) {Q:Value→Shared→Prop} {f:Value→Value→Sem Value}
  (hf:∀ v u s2 x y H2,Inv X pins σ H2 s2→RelV x v→RelV y u→R x y H2→wpAny (model X.prog X.w) X.A (f v u) Q X.xe s2) :
  wpAny (model X.prog X.w) X.A (eval a X.env) (fun v s₁=>wpAny (model X.prog X.w) X.A (eval b X.env) (fun u s₂=>wpAny (model X.prog X.w) X.A (f v u) Q X.xe s₂) X.xe s₁) X.xe s:=by
 refine thn (ha pins s σ H _ I h) fun v s1 hh_=>?_
 obtain ⟨x,H1,I1,r1,q1⟩:=hh_
 refine thn (hb pins s1 σ H1 _ I1 q1) fun u s2 hh_=>?_
 obtain ⟨y,H2,I2,r2,q2⟩:=hh_
 exact hf v u s2 x y H2 I2 r1 r2 q2
theorem zak {op:Operator}{r:R2}(ho:OpR X (binaryOp op) r)(ha:PE X a ta)(hb:PE X b tb):PE X (.BinOp a op b pos) (tOp r ta tb):=by
 intro pins s σ H Q I h
 exact wpAny_BinOp (binT ha hb I h fun v u s2 x y H2 I2 rx ry q=>ho pins s2 σ H2 x y v u Q I2 rx ry q)
theorem pe_un {op:UnaryOp}{r:V→Hp→VK→Prop}(ho:UnR X (unaryOp op) r)(ha:PE X a ta):PE X (.UnaryOp op a pos) (tUn r ta):=by
 intro pins s σ H Q I h
 exact UnaryOp_ (thn (ha pins s σ H _ I h) fun v s1 ⟨x,H1,I1,r1,q1⟩=>ho pins s1 σ H1 x v Q I1 r1 q1)
theorem opI {f:Value→Value→Sem Value}{C:Int→Int→Prop}{g:Int→Int→Int}
  (rule:∀ (i j:Int) (t u:Tok) (s:Shared) (Q:Value→Shared→Prop) (E:Value→Shared→Prop),C i j→Q (.int (g i j) s.toks) { s with toks:=s.toks+1 }→wpAny (model X.prog X.w) X.A (f (.int i t) (.int j u)) Q E s) :
  OpR X f (rI C fun i j=>.int (g i j)):=by
 intro pins s σ H x y v u Q I rx ry h
 obtain ⟨i,j,rfl,rfl,hc,q⟩:=h
 obtain ⟨t,rfl⟩:=rx
 obtain ⟨t',rfl⟩:=ry
 exact rule i j t t' s _ _ hc ⟨.int (g i j),H,I.tok _,⟨_,rfl⟩,q⟩
theorem opI0 {f:Value→Value→Sem Value}{g:Int→Int→Int}
  (rule:∀ (i j:Int) (t u:Tok) (s:Shared) (Q:Value→Shared→Prop) (E:Value→Shared→Prop),Q (.int (g i j) s.toks) { s with toks:=s.toks+1 }→wpAny (model X.prog X.w) X.A (f (.int i t) (.int j u)) Q E s) :
  OpR X f (rI0 fun i j=>.int (g i j)):=by
 intro pins s σ H x y v u Q I rx ry h
 obtain ⟨i,j,rfl,rfl,q⟩:=h
 obtain ⟨t,rfl⟩:=rx
 obtain ⟨t',rfl⟩:=ry
 exact rule i j t t' s _ _ ⟨.int (g i j),H,I.tok _,⟨_,rfl⟩,q⟩
theorem opB0 {f:Value→Value→Sem Value}{g:Int→Int→Bool}
  (rule:∀ (i j:Int) (t u:Tok) (s:Shared) (Q:Value→Shared→Prop) (E:Value→Shared→Prop),Q (.bool (g i j)) s→wpAny (model X.prog X.w) X.A (f (.int i t) (.int j u)) Q E s) :
  OpR X f (rI0 fun i j=>.bl (g i j)):=by
 intro pins s σ H x y v u Q I rx ry h
 obtain ⟨i,j,rfl,rfl,q⟩:=h
 obtain ⟨t,rfl⟩:=rx
 obtain ⟨t',rfl⟩:=ry
 exact rule i j t t' s _ _ ⟨.bl (g i j),H,I,rfl,q⟩
def CPow (i j:Int):Prop:=0≤j∧j≤1000000∧i.natAbs<2 ^ 64
theorem zhY (k:Nat):(0:Int)≤2 ^ k:=by
 rw [two_pow_cast]
 exact Int.natCast_nonneg _
theorem zaR:OpR X (binaryOp .Add) (rI0 fun i j=>.int (i+j)):=opI0 fun _ _ _ _ _ _ _ q=>add_int q
theorem zbR:OpR X (binaryOp .Sub) (rI0 fun i j=>.int (i - j)):=opI0 fun _ _ _ _ _ _ _ q=>sub_int q
theorem zaB:OpR X (binaryOp .Mod) (rI (fun _ j=>0<j) fun i j=>.int (i % j)):=opI fun i j _ _ _ _ _ hc q=>by
 have h1:(0:Int)<j:=hc
 exact mod_int' (by omega) (by rw [Int.fmod_eq_emod_of_nonneg i (by omega)];exact q)
theorem zhH:OpR X (binaryOp .Pow) (rI CPow fun i j=>.int (i ^ j.toNat)):=opI fun _ _ _ _ _ _ _ hc q=>pow_int_small hc.1 hc.2.1 hc.2.2 q
theorem zdI:OpR X (binaryOp .LShift) (rI CPow fun i j=>.int (i * 2 ^ j.toNat)):=opI fun _ _ _ _ _ _ _ hc q=>lshift_int_small hc.1 hc.2.1 hc.2.2 q
theorem op_shr:OpR X (binaryOp .RShift) (rI (fun _ j=>0≤j) fun i j=>.int (i / 2 ^ j.toNat)):=opI fun i j _ _ _ _ _ hc q =>
 rshift_int hc (by rw [Int.fdiv_eq_ediv_of_nonneg i (zhY _)];exact q)
theorem zaW:OpR X (binaryOp .BitAnd) (rI0 fun i j=>.int (Builtin.bitAnd i j)):=opI0 fun _ _ _ _ _ _ _ q=>and_int q
theorem zml:OpR X (binaryOp .BitOr) (rI0 fun i j=>.int (Builtin.bitOr i j)):=opI0 fun _ _ _ _ _ _ _ q=>or_int q
theorem zjm:OpR X (binaryOp .BitXor) (rI0 fun i j=>.int (Builtin.bitXor i j)):=opI0 fun _ _ _ _ _ _ _ q=>xor_int q
theorem zjG:OpR X (inplaceOp .Add) (rI0 fun i j=>.int (i+j)):=opI0 fun _ _ _ _ _ _ _ q=>iadd_int q
theorem unI {f:Value→Sem Value}{g:Int→Int}
  (rule:∀ (i:Int) (t:Tok) (s:Shared) (Q:Value→Shared→Prop) (E:Value→Shared→Prop),Q (.int (g i) s.toks) { s with toks:=s.toks+1 }→wpAny (model X.prog X.w) X.A (f (.int i t)) Q E s) :
  UnR X f (rU fun i=>.int (g i)):=by
 intro pins s σ H x v Q I rx h
 obtain ⟨i,rfl,q⟩:=h
 obtain ⟨t,rfl⟩:=rx
 exact rule i t s _ _ ⟨.int (g i),H,I.tok _,⟨_,rfl⟩,q⟩
theorem un_neg:UnR X (unaryOp .USub) (rU fun i=>.int (-i)):=unI fun _ _ _ _ _ q=>neg_int q
end
def scal:V→V→Bool
 | .non,.non=>true | .non,.int _=>true | .int _,.non=>true | .non,.bl _=>true | .bl _,.non=>true | .non,.str _=>true | .str _,.non=>true
 | .int _,.int _=>true | .bl _,.bl _=>true | .str _,.str _=>true | .byt _,.byt _=>true
 | .int _,.str _=>true | .str _,.int _=>true | .bl _,.str _=>true | .str _,.bl _=>true
 | _,_=>false
def rEq:R2:=fun x y H Q=>scal x y=true∧Q (.bl (decide (x=y))) H
def rNe:R2:=fun x y H Q=>scal x y=true∧Q (.bl (!decide (x=y))) H
theorem zjV {i j:Int}:decide (V.int i=V.int j)=(i == j):=by
 rw [XbN]
 simp
theorem zlE {i j:Bool}:decide (V.bl i=V.bl j)=(i == j):=by
 rw [XbN]
 simp
theorem zjU {i j:Str}:decide (V.str i=V.str j)=(i == j):=by
 rw [XbN]
 simp
theorem zjW {i j:Array UInt8}:decide (V.byt i=V.byt j)=(i.toList == j.toList):=by
 rw [XbN]
 cases i
 cases j
 simp
section
variable {X:Cx}{a b c:Expr}{ta tb tc:TE}{pos:Pos}
theorem zaF {pins:List (Addr×Obj)}{σ:St}{H:Hp}{s:Shared}{Q:VK}{k k':Bool}(I:Inv X pins σ H s)(q:Q (.bl k) H)(e:k=k'):EP X pins σ Q (.bool k') s:=by
 subst e
 exact ⟨.bl k,H,I,rfl,q⟩
theorem zby:OpR X (compareOp .Eq) rEq:=by
 intro pins s σ H x y v u Q I rx ry h
 obtain ⟨hs,q⟩:=h
 cases x with
 | non =>
  cases rx
  cases y with
  | non=>cases ry;exact PySem.EqNone.eq_none_none (zaF I q (by simp))
  | bl j=>cases ry;exact PySem.EqNone.eq_none_bool (zaF I q (by simp))
  | int j=>obtain ⟨t',rfl⟩:=ry;exact PySem.EqNone.eq_none_int (zaF I q (by simp))
  | str j=>obtain ⟨t',rfl⟩:=ry;exact PySem.EqNone.eq_none_str (zaF I q (by simp))
  | _=>exact absurd (show false=true from hs) Xam
 | bl i =>
  cases rx
  cases y with
  | non=>cases ry;exact PySem.EqNone.eq_bool_none (zaF I q (by simp))
  | bl j=>cases ry;exact eq_bool (zaF I q zlE)
  | str j=>obtain ⟨t',rfl⟩:=ry;exact PySem.EqMixed.eq_bool_str (zaF I q (by simp))
  | _=>exact absurd (show false=true from hs) Xam
 | int i =>
  obtain ⟨t,rfl⟩:=rx
  cases y with
  | non=>cases ry;exact PySem.EqNone.eq_int_none (zaF I q (by simp))
  | int j=>obtain ⟨t',rfl⟩:=ry;exact eq_int (zaF I q zjV)
  | str j=>obtain ⟨t',rfl⟩:=ry;exact PySem.EqMixed.eq_int_str (zaF I q (by simp))
  | _=>exact absurd (show false=true from hs) Xam
 | str i =>
  obtain ⟨t,rfl⟩:=rx
  cases y with
  | non=>cases ry;exact PySem.EqNone.eq_str_none (zaF I q (by simp))
  | bl j=>cases ry;exact PySem.EqMixed.eq_str_bool (zaF I q (by simp))
  | int j=>obtain ⟨t',rfl⟩:=ry;exact PySem.EqMixed.eq_str_int (zaF I q (by simp))
  | str j=>obtain ⟨t',rfl⟩:=ry;exact eq_str (zaF I q zjU)
  | _=>exact absurd (show false=true from hs) Xam
 | byt i =>
  obtain ⟨t,rfl⟩:=rx
  cases y with
  | byt j=>obtain ⟨t',rfl⟩:=ry;exact W.eq_bytes (zaF I q zjW)
  | _=>exact absurd (show false=true from hs) Xam
 | _=>cases y <;> exact absurd (show false=true from hs) Xam
theorem zeR:OpR X (compareOp .NotEq) rNe:=by
 intro pins s σ H x y v u Q I rx ry h
 obtain ⟨hs,q⟩:=h
 cases x with
 | non =>
  cases rx
  cases y with
  | non=>cases ry;exact PySem.EqNone.ne_none_none (zaF I q (by simp))
  | bl j=>cases ry;exact PySem.EqNone.ne_none_bool (zaF I q (by simp))
  | int j=>obtain ⟨t',rfl⟩:=ry;exact PySem.EqNone.ne_none_int (zaF I q (by simp))
  | str j=>obtain ⟨t',rfl⟩:=ry;exact PySem.EqNone.ne_none_str (zaF I q (by simp))
  | _=>exact absurd (show false=true from hs) Xam
 | bl i =>
  cases rx
  cases y with
  | non=>cases ry;exact PySem.EqNone.ne_bool_none (zaF I q (by simp))
  | bl j=>cases ry;exact ne_bool (zaF I q (congrArg not zlE))
  | str j=>obtain ⟨t',rfl⟩:=ry;exact PySem.EqMixed.ne_bool_str (zaF I q (by simp))
  | _=>exact absurd (show false=true from hs) Xam
 | int i =>
  obtain ⟨t,rfl⟩:=rx
  cases y with
  | non=>cases ry;exact PySem.EqNone.ne_int_none (zaF I q (by simp))
  | int j=>obtain ⟨t',rfl⟩:=ry;exact ne_int (zaF I q (congrArg not zjV))
  | str j=>obtain ⟨t',rfl⟩:=ry;exact PySem.EqMixed.ne_int_str (zaF I q (by simp))
  | _=>exact absurd (show false=true from hs) Xam
 | str i =>
  obtain ⟨t,rfl⟩:=rx
  cases y with
  | non=>cases ry;exact PySem.EqNone.ne_str_none (zaF I q (by simp))
  | bl j=>cases ry;exact PySem.EqMixed.ne_str_bool (zaF I q (by simp))
  | int j=>obtain ⟨t',rfl⟩:=ry;exact PySem.EqMixed.ne_str_int (zaF I q (by simp))
  | str j=>obtain ⟨t',rfl⟩:=ry;exact ne_str (zaF I q (congrArg not zjU))
  | _=>exact absurd (show false=true from hs) Xam
 | byt i =>
  obtain ⟨t,rfl⟩:=rx
  cases y with
  | byt j=>obtain ⟨t',rfl⟩:=ry;exact W.ne_bytes (zaF I q (congrArg not zjW))
  | _=>exact absurd (show false=true from hs) Xam
 | _=>cases y <;> exact absurd (show false=true from hs) Xam
theorem zh8:OpR X (compareOp .Lt) (rI0 fun i j=>.bl (decide (i<j))):=opB0 fun _ _ _ _ _ _ _ q=>lt_int q
theorem zh9:OpR X (compareOp .LtE) (rI0 fun i j=>.bl (decide (i≤j))):=opB0 fun _ _ _ _ _ _ _ q=>le_int q
theorem zf5:OpR X (compareOp .Gt) (rI0 fun i j=>.bl (decide (j<i))):=opB0 fun _ _ _ _ _ _ _ q=>gt_int q
theorem op_ge:OpR X (compareOp .GtE) (rI0 fun i j=>.bl (decide (j≤i))):=opB0 fun _ _ _ _ _ _ _ q=>ge_int q
theorem zat (b:Expr){op:CmpOp}(h:op≠.In:=by decide)(h2:op≠.NotIn:=by decide):behindInMarks op b=false:=by
 have e1:(op == CmpOp.In)=false:=by cases op <;> first | rfl | exact absurd rfl h
 have e2:(op == CmpOp.NotIn)=false:=by cases op <;> first | rfl | exact absurd rfl h2
 cases b <;> simp [behindInMarks,e1,e2]
theorem zbv {op:CmpOp}{r:R2}(ho:OpR X (compareOp op) r)(ha:PE X a ta)(hb:PE X b tb)(hm:behindInMarks op b=false):PE X (.Compare a [op] [b] pos) (tOp r ta tb):=by
 intro pins s σ H Q I h
 exact wpAny_Compare1 (binT ha hb I h fun v u s2 x y H2 I2 rx ry q=>ho pins s2 σ H2 x y v u Q I2 rx ry q) hm
inductive tTest_1 (Q:Bool→Hp→Prop)(x:V)(H':Hp):Prop
 | mk (k:_) (z0_:x = .bl k) (z1_:Q k H')
def zlU (t:TE):TT:=fun σ H Q=>t σ H (tTest_1 Q)
theorem zas {op:CmpOp}{r:R2}(ho:OpR X (compareOp op) r)(ha:PE X a ta)(hb:PE X b tb)(hm:behindInMarks op b=false):PT X (.Compare a [op] [b] pos) (zlU (tOp r ta tb)):=by
 intro pins s σ H Q I h
 refine wpAny_isTrue_Compare1 (thn (ha pins s σ H _ I h) fun v s1 ⟨x,H1,I1,r1,q1⟩=>thn (hb pins s1 σ H1 _ I1 q1) fun u s2 ⟨y,H2,I2,r2,q2⟩ =>
  thn (ho pins s2 σ H2 x y v u _ I2 r1 r2 q2) fun c s3 ⟨z,H3,I3,r3,k,e,q3⟩=>?_) hm
 subst e
 cases r3
 exact XaU ⟨H3,I3,q3⟩
inductive tChain_1 (r':R2)(tc:TE)(σ:St)(Q:VK)(y:V)(z:V)(H3:Hp):Prop
 | mk (k:_) (z0_:z = .bl k) (z1_:(if k=true then tc σ H3 fun w' H4=>r' y w' H4 Q else Q (.bl false) H3))
def zlg (r r':R2)(ta tb tc:TE):TE:=fun σ H Q=>ta σ H fun x H1=>tb σ H1 fun y H2=>r x y H2 (tChain_1 r' tc σ Q y)
theorem zkK {op op':CmpOp}{r r':R2}(ho:OpR X (compareOp op) r)(ho':OpR X (compareOp op') r')(ha:PE X a ta)(hb:PE X b tb)(hc:PE X c tc)
  (hm:lastMarks [op,op'] [b,c]=false:=by with_unfolding_all rfl):PE X (.Compare a [op,op'] [b,c] pos) (zlg r r' ta tb tc):=by
 intro pins s σ H Q I h
 refine Compare_chain (thn (ha pins s σ H _ I h) fun v s1 ⟨x,H1,I1,r1,q1⟩=>chain_link (thn (hb pins s1 σ H1 _ I1 q1) fun u s2 ⟨y,H2,I2,r2,q2⟩ =>
  thn (ho pins s2 σ H2 x y v u _ I2 r1 r2 q2) fun d s3 ⟨z,H3,I3,r3,k,e,q3⟩=>?_)) hm
 subst e
 cases r3
 refine XaU ?_
 cases k with
 | false=>exact ite_ff ⟨.bl false,H3,I3,rfl,q3⟩
 | true=>exact ite_tt (chain_last (thn (hc pins s3 σ H3 _ I3 q3) fun w' s4 ⟨z',H4,I4,r4,q4⟩=>ho' pins s4 σ H4 y z' u w' Q I4 r2 r4 q4))
theorem zkD {op op':CmpOp}{r r':R2}(ho:OpR X (compareOp op) r)(ho':OpR X (compareOp op') r')(ha:PE X a ta)(hb:PE X b tb)(hc:PE X c tc)
  (hm:lastMarks [op,op'] [b,c]=false:=by with_unfolding_all rfl):PT X (.Compare a [op,op'] [b,c] pos) (zlU (zlg r r' ta tb tc)):=by
 intro pins s σ H Q I h
 refine isTrue_chain (thn (ha pins s σ H _ I h) fun v s1 ⟨x,H1,I1,r1,q1⟩=>test_link (thn (hb pins s1 σ H1 _ I1 q1) fun u s2 ⟨y,H2,I2,r2,q2⟩ =>
  thn (ho pins s2 σ H2 x y v u _ I2 r1 r2 q2) fun d s3 ⟨z,H3,I3,r3,k,e,q3⟩=>?_)) hm
 subst e
 cases r3
 refine XaU ?_
 cases k with
 | false =>
  obtain ⟨k',e',q'⟩:=q3
  cases e'
  exact ite_ff ⟨H3,I3,q'⟩
 | true =>
  refine ite_tt (test_last (thn (hc pins s3 σ H3 _ I3 q3) fun w' s4 ⟨z',H4,I4,r4,q4⟩=>thn (ho' pins s4 σ H4 y z' u w' _ I4 r2 r4 q4) fun d' s5 hh_=>?_))
  obtain ⟨z2,H5,I5,r5,k2,e2,q5⟩:=hh_
  subst e2
  cases r5
  exact XaU ⟨H5,I5,q5⟩
def TruV (K:W.Frag)(x:V)(H:Hp)(k:Bool):Prop:=
 match x with
 | .non=>k=false
 | .bl b=>k=b
 | .int i=>k=(i != 0)
 | .str y=>y.length≤sizeLine∧k=((y.length:Int) != 0)
 | .byt y=>y.size≤sizeLine∧k=((y.size:Int) != 0)
 | .ref p=>(∃ xs,SqL K H p xs∧k = !xs.isEmpty)∨(∃ xs,SqT K H p xs∧k = !xs.isEmpty)∨∃ kvs,H p=some (.dK kvs)∧k = !kvs.isEmpty
 | _=>False
theorem ziq {κ:Type}{kvs:List (κ×V)}{vs:List (κ×Value)}(r:KV kvs vs):(!vs.isEmpty) = !kvs.isEmpty:=by
 cases r <;> rfl
theorem ze4 {xs:List V}{its:List Value}(r:Vals xs its):(!its.toArray.isEmpty) = !xs.isEmpty:=by
 cases r <;> simp
theorem ze3:(sizeLine:Nat)<2 ^ 63:=by rw [sizeLine_eq];decide
theorem tru_ok:TruR X (fun x H Q=>∃ k,TruV X.K x H k∧Q k H):=by
 intro pins s σ H x v Q I rx h
 obtain ⟨k,e,q⟩:=h
 have hl:=ze3
 have hs:sizeLine=16777216:=sizeLine_eq
 cases x with
 | non =>
  cases rx
  have e':k=false:=e
  subst e'
  exact truthy_none ⟨H,I,q⟩
 | bl b =>
  cases rx
  have e':k=b:=e
  subst e'
  exact XaU ⟨H,I,q⟩
 | int i =>
  obtain ⟨t,rfl⟩:=rx
  have e':k=(i != 0):=e
  subst e'
  exact PySem.P.truthy_int ⟨H,I,q⟩
 | str y =>
  obtain ⟨t,rfl⟩:=rx
  obtain ⟨hy,e'⟩:y.length≤sizeLine∧k=((y.length:Int) != 0):=e
  subst e'
  exact PySem.P.truthy_str (by omega) ⟨H,I.tok _,q⟩
 | byt y =>
  obtain ⟨t,rfl⟩:=rx
  obtain ⟨hy,e'⟩:y.size≤sizeLine∧k=((y.size:Int) != 0):=e
  subst e'
  exact W.truthy_bytes (by omega) ⟨H,I.tok _,q⟩
 | ref p =>
  cases rx
  have e':(∃ xs,SqL X.K H p xs∧k = !xs.isEmpty)∨(∃ xs,SqT X.K H p xs∧k = !xs.isEmpty)∨∃ kvs,H p=some (.dK kvs)∧k = !kvs.isEmpty:=e
  rcases e' with ⟨xs,hx,e'⟩ | ⟨xs,hx,e'⟩ | ⟨kvs,hx,e'⟩
  ·subst e'
   obtain ⟨its,r,pl,hz⟩:=I.list hx
   have hlen:=r.length
   exact wpAny_truthy_list pl.isList (by simp only [Xan];omega) ⟨H,I.tok _,by rw [ze4 r];exact q⟩
  ·subst e'
   obtain ⟨its,r,pl,hz⟩:=I.tuple hx
   have hlen:=r.length
   exact truthy_tuple pl (by simp only [Xan];omega) ⟨H,I.tok _,by rw [ze4 r];exact q⟩
  ·subst e'
   obtain ⟨hz,hS,vs,r,m⟩:kvs.length≤sizeLine∧(p == sysModules)=false∧∃ vs,KV kvs vs∧s.heap.DictOf (zaE X.prog X.w) p vs:=I.hok p _ hx
   have hlen:kvs.length=vs.length:=Paired.length r
   exact wpAny_truthy_dict hS m (by omega) ⟨H,I.tok _,by rw [ziq r];exact q⟩
 | _=>exact (show False from e).elim
theorem zfr (ha:PE X a ta)(he:∀ whole,isTrue a X.env whole=(do let v ← whole;standAt a.pos;holding [v] (truthy v))) :
  PT X a (fun σ H Q=>ta σ H fun x H'=>∃ k,TruV X.K x H' k∧Q k H'):=by
 intro pins s σ H Q I h
 exact isTrue_plain (thn (ha pins s σ H _ I h) fun v s1 ⟨x,H1,I1,r1,q1⟩=>tru_ok pins s1 σ H1 x v Q I1 r1 q1) (he _)
theorem zib:OpR X (binaryOp .Add) (fun x y H Q=>∃ i j,x = .str i∧y = .str j∧i.length+j.length≤sizeLine∧Q (.str (i ++ j)) H):=by
 intro pins s σ H x y v u Q I rx ry h
 obtain ⟨i,j,rfl,rfl,hz,q⟩:=h
 obtain ⟨t,rfl⟩:=rx
 obtain ⟨t',rfl⟩:=ry
 exact add_str (fun t' tk=>⟨.str (i ++ j),H,I.tok _,⟨_,rfl⟩,q⟩) hz
theorem zdL {x:V}{us:List Value}(r:Vals [x] us):∃ u,us=[u]∧RelV x u:=by
 cases r with
 | cons r1 r2=>cases r2;exact ⟨_,rfl,r1⟩
theorem zkn {x y:V}{us:List Value}(r:Vals [x,y] us):∃ u w',us=[u,w']∧RelV x u∧RelV y w':=by
 cases r with
 | cons r1 r2 =>
  cases r2 with
  | cons r3 r4=>cases r4;exact ⟨_,_,rfl,r1,r3⟩
theorem zj7 (hc:X.calm=true):zdc X (.builtin "max") (fun xs H Q=>∃ i j,xs=[.int i,.int j]∧Q (.int (if j > i then j else i)) H):=by
 intro pins s σ H xs us Q I r h
 obtain ⟨i,j,rfl,q⟩:=h
 obtain ⟨u,w',rfl,⟨t,rfl⟩,⟨t',rfl⟩⟩:=zkn r
 refine max_two_ints (I.ok.hd hc) fun h' tk k=>⟨_,H,I.kept k,?_,q⟩
 by_cases hj:j > i
 ·rw [if_pos hj,if_pos hj];exact ⟨_,rfl⟩
 ·rw [if_neg hj,if_neg hj];exact ⟨_,rfl⟩
theorem zj8:zdc X (.type "int") (fun xs H Q=>(∃ i,xs=[.int i]∧Q (.int i) H)∨∃ k,xs=[.bl k]∧Q (.int (if k then 1 else 0)) H):=by
 intro pins s σ H xs us Q I r h
 rcases h with ⟨i,rfl,q⟩ | ⟨k,rfl,q⟩
 ·obtain ⟨u,rfl,t,rfl⟩:=zdL r
  exact call_int_int ⟨.int i,H,I,⟨_,rfl⟩,q⟩
 ·obtain ⟨u,rfl,r1⟩:=zdL r
  cases r1
  exact call_int_bool ⟨.int (if k then 1 else 0),H,I.tok _,⟨_,rfl⟩,q⟩
end
structure ObjM (h:Heap)(x dx C:Addr)(mA:Str→Option Value):Prop where
 obj:h.get? x=some (W.instObj C dx)
 ns:h.Ns1 dx mA
 ne:dx≠x
set_option tactic.hygienic true in
theorem zjy {h:Heap}{dx:Addr}{mA:Str→Option Value}(n:h.Ns1 dx mA):∃ od,h.get? dx=some od∧∀ name,W.lookIn name od=some (mA name):=by
 obtain ⟨o,es,ep,ho,hd,hk,_,hm⟩:=n
 refine ⟨o,ho,fun name=>?_⟩
 have e:=hm name
 unfold nsFind findBy at e
 rw [← Array.find?_toList] at e
 unfold W.lookIn
 rw [hd]
 dsimp only
 split
 ·rename_i y q
  rw [q] at e
  exact congrArg some e
 ·rename_i q
  rw [q] at e
  have a:es.toList.any (·.refKey)=false:=by
   rw [List.any_eq_false]
   intro y hy
   obtain ⟨z,t,hkey⟩:=hk y (Array.mem_toList_iff.mp hy)
   simp [DictEntry.refKey,hkey]
  have a':¬ es.toList.any (·.refKey)=true:=by rw [a];exact Xam
  rw [if_neg a']
  exact congrArg some e
theorem ObjM.look {h:Heap}{x dx C:Addr}{mA:Str→Option Value}(I:ObjM h x dx C mA):∃ od,W.InstAt h x (W.instObj C dx) C (some od)∧∀ name,W.lookIn name od=some (mA name):=
 let ⟨od,ho,hl⟩:=zjy I.ns
 ⟨od,⟨I.obj,rfl,rfl,ho⟩,hl⟩
section
variable {prog:Program}{w:World}{A:Around}{E:Value→Shared→Prop}{s:Shared}{K:W.Frag}{x dx C f:Addr}{mA:Str→Option Value}{name:Str}{v:Value}
theorem zmA {expr:Bool}{Q:Value→Shared→Prop}(X:K.In s.heap)(I:ObjM s.heap x dx C mA)(hg:W.plainGet K C name=true)(hh:W.hasDictIn K C=true)
  (ha:W.findIn K (.ref C) name=some none) (hv:mA name=some v) (hv':W.handedIn v=true) (h:Q v { s with toks:=s.toks+1 }) :
  wpAny (model prog w) A (getAttr (.ref x) name expr) Q E s:=by
 obtain ⟨od,J,hl⟩:=I.look
 exact W.get_value X J (W.plainGet_of hg).1 (W.findObj_own hh ha rfl (by rw [hl,hv])) hv' h
theorem zkZ {pl:Sem Bool}{Q:Value×List Value→Shared→Prop}(X:K.In s.heap)(I:ObjM s.heap x dx C mA)(hg:W.plainGet K C name=true)
  (hf:W.findIn K (.ref C) name=some (some (.ref f))) (ht:W.isFn K (.ref f)=true) (hv:mA name=none) (h:Q (.ref f,[.ref x]) s) :
  wpAny (model prog w) A (getMethod (.ref x) name pl) Q E s:=by
 obtain ⟨od,J,hl⟩:=I.look
 exact W.method_fn X J (W.plainGet_of hg).1 (W.plainGet_of hg).2 hf (beq_iff_eq.mp ht) (by show (W.lookIn name od).map (·.isSome)=some false;rw [hl,hv];rfl) h
theorem zl1 {ns:List Str}{Q:Unit→Shared→Prop}(X:K.In s.heap)(I:ObjM s.heap x dx C mA)
  (hs:W.findIn K (.ref C) "__setattr__" = some (some (.builtin "object.__setattr__"))) (hp:W.plainOver K C=true) (ht:W.takerIn K C name=some none) (hh:W.hasDictIn K C=true)
  (hw:PySem.Within mA ns) (hsz:ns.length≤sizeLine)
  (h:∀ h',ObjM h' x dx C (fun y=>if y=name then some v else mA y)→Heap.SameBut dx s.heap h'→Q () { s with heap:=h',toks:=s.toks+2 }) :
  wpAny (model prog w) A (setAttr (.ref x) name v) Q E s:=by
 obtain ⟨od,J,hl⟩:=I.look
 refine W.set_plain X J hs (W.osa_open (s:={ s with toks:=s.toks+1 }) (r:=none) X J hp ht fun b=>?_)
 obtain ⟨cd,hc,hd'⟩:=W.any_some hh
 have hx:s.heap.get? x=some ⟨.ref C,some dx,.plain,#[]⟩:=I.obj
 refine Xaa (Xac (Xaa (Xaa (wpAny_loadPart hx (Xaa (W.Looks.here (s:={ s with toks:=s.toks+1 }) (W.looks_clsIn X hc) ?_))))))
 rw [hd']
 refine Xac (a:=some dx) (Xaa (Xac (Xaa ?_)))
 refine wpAny_nsSet1 (s:={ s with toks:=s.toks+1 }) I.ns fun h' hn2 hs2=>?_
 obtain ⟨oD,esD,epD,hoD,hdD,hcD⟩:=hn2.count (PySem.Within.cons name v hw)
 refine Xaa (wpAny_lookBehind hoD (by rw [hdD];exact pastItsLine_dict (Xar hcD (by rw [Xau];omega))) ?_)
 exact Xac (h _ ⟨(hs2.2 _ (Ne.symm I.ne)).trans I.obj,hn2,I.ne⟩ hs2)
theorem zkP {R:Result→Shared→Prop}{vs:List Value}{kw:List (Str×Value)}(X:K.In s.heap)(hm:W.makesIn K C=true)
  (hi:W.findIn K (.ref C) "__init__" = some (some (.ref f))) (hf:W.typeIn K (.ref f)=some (.type "function"))
  (h:codeAny (model prog w) (A.under (.builtin "type.__call__" ⟨.ref C :: vs,kw⟩)) (.call (.ref f) ⟨.ref (s.heap.objs.size+1) :: vs,kw⟩) (W.InitBack (s.heap.objs.size+1) R)
   { s with heap:=(s.heap.push W.emptyDict).push (W.instObj C s.heap.objs.size) }) :
  codeAny (model prog w) A (.call (.ref C) ⟨vs,kw⟩) R s:=by
 obtain ⟨hh,g,d,t,os⟩:=s
 exact W.make_core (W.makes_of X hm) (W.looks_findIn X hi) (fun self=>W.bind_fn X self hf) (.inl rfl) h
end
def putF (f:Str)(v:V):List (Str×V)→List (Str×V)
 | []=>[(f,v)]
 | (g,x) :: r=>if g=f then (g,v) :: r else (g,x) :: putF f v r
theorem zeD (f g:Str)(v:V):∀ fs:List (Str×V),(putF f v fs).lookup g=if g=f then some v else fs.lookup g
 | []=>by
  show List.lookup g [(f,v)]=_
  by_cases h:g=f
  ·have hb:(g == f)=true:=beq_iff_eq.mpr h
   simp only [List.lookup,hb,if_pos h]
  ·have hb:(g == f)=false:=beq_eq_false_iff_ne.mpr h
   simp only [List.lookup,hb,if_neg h]
 | (k,x) :: r=>by
  have ih:=zeD f g v r
  rw [show putF f v ((k,x) :: r)=(if k=f then (k,v) :: r else (k,x) :: putF f v r) from rfl]
  by_cases hk:k=f
  ·rw [if_pos hk]
   by_cases h:g=k
   ·have hb:(g == k)=true:=beq_iff_eq.mpr h
    simp only [List.lookup,hb,if_pos (h.trans hk)]
   ·have hb:(g == k)=false:=beq_eq_false_iff_ne.mpr h
    simp only [List.lookup,hb,if_neg (fun e:g=f=>h (e.trans hk.symm))]
  ·rw [if_neg hk]
   by_cases h:g=k
   ·have hb:(g == k)=true:=beq_iff_eq.mpr h
    simp only [List.lookup,hb,if_neg (fun e:g=f=>hk (h.symm.trans e))]
   ·have hb:(g == k)=false:=beq_eq_false_iff_ne.mpr h
    simp only [List.lookup,hb]
    exact ih
theorem zeH (f:Str)(v:V):∀ fs:List (Str×V),f∈(putF f v fs).map (·.1)∧∀ g,g∈fs.map (·.1)→g∈(putF f v fs).map (·.1)
 | []=>⟨by simp [putF],fun g h=>by simp at h⟩
 | (k,x) :: r=>by
  obtain ⟨i1,i2⟩:=zeH f v r
  rw [show putF f v ((k,x) :: r)=(if k=f then (k,v) :: r else (k,x) :: putF f v r) from rfl]
  by_cases hk:k=f
  ·rw [if_pos hk]
   subst hk
   exact ⟨by simp,fun g h=>by simpa using h⟩
  ·rw [if_neg hk]
   refine ⟨?_,fun g h=>?_⟩
   ·rw [Xaz]
    exact Xax _ i1
   ·rw [Xaz] at h ⊢
    rcases Xao.mp h with e | e
    ·exact Xao.mpr (.inl e)
    ·exact Xax _ (i2 g e)
theorem zeF (f:Str)(v:V):∀ fs:List (Str×V),(putF f v fs).length≤fs.length+1
 | []=>by simp [putF]
 | (k,x) :: r=>by
  have ih:=zeF f v r
  rw [show putF f v ((k,x) :: r)=(if k=f then (k,v) :: r else (k,x) :: putF f v r) from rfl]
  by_cases hk:k=f
  ·rw [if_pos hk,Xau,Xau];omega
  ·rw [if_neg hk,Xau,Xau];omega
theorem RelO.some_of {v:V}{o:Option Value}(r:RelO (some v) o):∃ u,o=some u∧RelV v u:=by
 cases o with
 | none=>exact (show False from r).elim
 | some u=>exact ⟨u,rfl,r⟩
theorem RelO.none_of {o:Option Value}(r:RelO none o):o=none:=by
 cases o with
 | none=>rfl
 | some u=>exact (show False from r).elim
theorem zjK {v:V}{u:Value}(r:RelV v u):W.handedIn u=true:=by
 cases v with
 | non=>cases (show u=Value.none from r);rfl
 | bl b=>cases (show u=Value.bool b from r);rfl
 | int i=>obtain ⟨t,e⟩:=(show ∃ t,u=Value.int i t from r);cases e;rfl
 | str x=>obtain ⟨t,e⟩:=(show ∃ t,u=Value.str x t from r);cases e;rfl
 | byt b=>obtain ⟨t,e⟩:=(show ∃ t,u=Value.bytes b t from r);cases e;rfl
 | flt b=>obtain ⟨t,e⟩:=(show ∃ t,u=Value.float b t from r);cases e;rfl
 | ref a=>cases (show u=Value.ref a from r);rfl
 | ty n=>cases (show u=Value.type n from r);rfl
section
variable {P:Program}{w:World}{H H':Hp}{h h':Heap}{a C dx:Addr}{fs fs':List (Str×V)}
theorem zcU (hok:HOk P w H h)(e:H a=some (.ins C dx fs)):∃ mA,ObjM h a dx C mA∧(∀ f,RelO (fs.lookup f) (mA f))∧PySem.Within mA (fs.map (·.1))∧fs.length≤1000∧H dx=some (.own a):=by
 obtain ⟨d,z,ne,ob,mA,n,r,q⟩:=(show ObjOk P w H h a (.ins C dx fs) from hok a _ e)
 exact ⟨mA,⟨ob,n,ne⟩,r,q,z,d⟩
end
structure Cls (K:W.Frag)(C:Addr):Prop where
 pg:W.plainGet K C Str.empty=true
 hd:W.hasDictIn K C=true
 po:W.plainOver K C=true
 sa:W.findIn K (.ref C) "__setattr__" = some (some (.builtin "object.__setattr__"))
theorem Cls.get {K:W.Frag}{C:Addr}(c:Cls K C)(f:Str):W.plainGet K C f=true:=c.pg
def NoAttr (K:W.Frag)(C:Addr)(f:Str):Prop:=W.findIn K (.ref C) f=some none
theorem NoAttr.taker {K:W.Frag}{C:Addr}{f:Str}(n:NoAttr K C f):W.takerIn K C f=some none:=by
 unfold W.takerIn
 rw [show W.findIn K (.ref C) f=some none from n]
 rfl
structure Meth (K:W.Frag)(C:Addr)(m:Str)(f:Addr):Prop where
 at_:W.findIn K (.ref C) m=some (some (.ref f))
 fn:W.isFn K (.ref f)=true
 kp:W.keepIn K (.ref f)=true
section
variable {X:Cx}{pins:List (Addr×Obj)}{σ:St}{H:Hp}{s:Shared}{a C dx:Addr}{fs:List (Str×V)}{f:Str}{v:V}{A:Around}{E:Value→Shared→Prop}
theorem ze5 {b:Bool}{Q:Value→Shared→Prop}(I:Inv X pins σ H s)(e:H a=some (.ins C dx fs))(c:Cls X.K C)(n:NoAttr X.K C f)(l:fs.lookup f=some v)
  (h:∀ u s',Inv X pins σ H s'→RelV v u→Q u s'):wpAny (model X.prog X.w) A (getAttr (.ref a) f b) Q E s:=by
 obtain ⟨mA,O,r,_,_,_⟩:=zcU I.hok e
 obtain ⟨u,hu,ru⟩:=RelO.some_of (v:=v) (o:=mA f) (by rw [← l];exact r f)
 exact zmA I.kIn O (c.get f) c.hd n hu (zjK ru) (h u _ (I.tok _) ru)
theorem zcu {m:Str}{g:Addr}{pl:Sem Bool}{Q:Value×List Value→Shared→Prop}(I:Inv X pins σ H s)(e:H a=some (.ins C dx fs))(c:Cls X.K C)(k:Meth X.K C m g)(l:fs.lookup m=none)
  (h:Q (.ref g,[.ref a]) s):wpAny (model X.prog X.w) A (getMethod (.ref a) m pl) Q E s:=by
 obtain ⟨mA,O,r,_,_,_⟩:=zcU I.hok e
 have hn:mA m=none:=RelO.none_of (by rw [← l];exact r m)
 exact zkZ I.kIn O (c.get m) k.at_ k.fn hn h
theorem zeY {y:V}{u:Value}{Q:Unit→Shared→Prop}(I:Inv X pins σ H s)(e:H a=some (.ins C dx fs))(c:Cls X.K C)(n:NoAttr X.K C f)(hl:fs.length<1000)(ry:RelV y u)
  (h:∀ s',Inv X pins σ (upd H a (.ins C dx (putF f y fs))) s'→Q () s'):wpAny (model X.prog X.w) A (setAttr (.ref a) f u) Q E s:=by
 obtain ⟨mA,O,r,wi,_,ho⟩:=zcU I.hok e
 have hz:(fs.map (·.1)).length≤sizeLine:=by rw [Xaf,sizeLine_eq];omega
 refine zl1 I.kIn O c.sa c.po n.taker c.hd wi hz fun h' O' sb=>h _ ?_
 have hd:∃ o,h'.get? dx=some o:=let ⟨o,_,_,e',_⟩:=O'.ns;⟨o,e'⟩
 refine I.write (x:=a) (e:=dx) (by rw [e];exact True.intro) (.inr ho) (fun b q hb z=>(sb.2 b hb).trans z) hd ?_
 refine ⟨by rw [zag O.ne];exact ho,?_,O.ne,O'.obj,_,O'.ns,fun g=>?_,fun g hg=>?_⟩
 ·have:=zeF f y fs;omega
 ·show RelO ((putF f y fs).lookup g) (if g=f then some u else mA g)
  rw [zeD]
  by_cases q:g=f
  ·rw [if_pos q,if_pos q];exact ry
  ·rw [if_neg q,if_neg q];exact r g
 ·by_cases q:g=f
  ·rw [q];exact (zeH f y fs).1
  ·refine (zeH f y fs).2 g (wi g fun z=>hg ?_)
   show (if g=f then some u else mA g)=none
   rw [if_neg q];exact z
theorem Inv.made (I:Inv X pins σ H s):Inv X pins σ (upd (upd H s.heap.objs.size (.own (s.heap.objs.size+1))) (s.heap.objs.size+1) (.ins C s.heap.objs.size []))
  { s with heap:=(s.heap.push W.emptyDict).push (W.instObj C s.heap.objs.size) }:=by
 have e1:(s.heap.push W.emptyDict).get? s.heap.objs.size=some W.emptyDict:=Xaj s.heap rfl
 have e2:((s.heap.push W.emptyDict).push (W.instObj C s.heap.objs.size)).get? (s.heap.objs.size+1)=some (W.instObj C s.heap.objs.size):=by
  have:=Xaj (s.heap.push W.emptyDict) (o:=W.instObj C s.heap.objs.size) rfl
  rwa [XaI] at this
 have e3:(s.heap.push W.emptyDict).Ns s.heap.objs.size (fun _=>none):=⟨W.emptyDict,#[],_,e1,rfl,(fun e he=>absurd he (by simp)),fun _=>rfl⟩
 have I1:=I.laid (a:=s.heap.objs.size) (o:=.own (s.heap.objs.size+1)) (h':=s.heap.push W.emptyDict) (t':=s.toks) (fun b u q=>Xab _ q) (Xae _) ⟨_,e1⟩
 refine I1.laid (a:=s.heap.objs.size+1) (o:=.ins C s.heap.objs.size []) (t':=s.toks) (fun b u q=>Xab _ q) (Nat.le_of_eq (XaI _ _)) ?_
 have ne:s.heap.objs.size≠s.heap.objs.size+1:=Xaw (XaZ _)
 refine ⟨by rw [zag ne,zac],Nat.zero_le _,ne,e2,fun _=>none,(Heap.Ns1.of_empty e3).at fun o q=>Xab _ q,fun _=>True.intro,fun y hy=>absurd rfl hy⟩
theorem zmL {prog:Program}{w:World}{env:Env}{e:Expr}{f:Str}{pos:Pos}{s:Shared}{Q:Value→Shared→Prop}(hb:attributeBase e f env (eval e env)=eval e env)
  (h:wpAny (model prog w) A (eval e env) (fun o s₁=>wpAny (model prog w) A (getAttr o f true) Q E s₁) E s):wpAny (model prog w) A (eval (.Attribute e f pos) env) Q E s:=
 Attribute_any_ h (by rw [arm_eval_Attribute,hb])
end
inductive tFld_1 (K:W.Frag)(f:Str)(Q:VK)(x:V)(H1:Hp):Prop
 | mk (a:_) (C:_) (dx:_) (fs:_) (v:_) (z0_:x = .ref a) (z1_:H1 a=some (.ins C dx fs)) (z2_:Cls K C) (z3_:NoAttr K C f) (z4_:fs.lookup f=some v) (z5_:Q v H1)
def tFld (K:W.Frag)(ta:TE)(f:Str):TE:=fun σ H Q=>ta σ H (tFld_1 K f Q)
inductive sFld_1 (K:W.Frag)(f:Str)(D:Ends)(σ:St)(y:V)(x:V)(H2:Hp):Prop
 | mk (a:_) (C:_) (dx:_) (fs:_) (z0_:x = .ref a) (z1_:H2 a=some (.ins C dx fs)) (z2_:Cls K C) (z3_:NoAttr K C f) (z4_:fs.length<1000) (z5_:D.nx σ (upd H2 a (.ins C dx (putF f y fs))))
def sFld (K:W.Frag)(ta tv:TE)(f:Str):TS:=fun D σ H=>tv σ H fun y H1=>ta σ H1 (sFld_1 K f D σ y)
def InOp (X:Cx)(op:Operator)(rd:V→V→Hp→VK→Prop):Prop:=
 ∀ (pins:List (Addr×Obj)) (s:Shared) (σ:St) (H:Hp) (x y:V) (u v:Value) (Q:VK),Inv X pins σ H s→RelV x u→RelV y v→rd x y H Q→wpAny (model X.prog X.w) X.A (inplaceOp op u v) (EP X pins σ Q) X.xe s
def zl5 (K:W.Frag)(ta tv:TE)(rd:V→V→Hp→VK→Prop)(f:Str):TS:=fun D σ H=>ta σ H fun x H1=>∃ a C dx fs v,x = .ref a∧H1 a=some (.ins C dx fs)∧Cls K C∧NoAttr K C f∧fs.lookup f=some v ∧
 tv σ H1 fun y H2=>rd v y H2 fun z H3=>∃ dx' fs',H3 a=some (.ins C dx' fs')∧fs'.length<1000∧D.nx σ (upd H3 a (.ins C dx' (putF f z fs')))
section
variable {X:Cx}{o e value:Expr}{f:Str}{pos pos' tpos:Pos}{ta tv:TE}
theorem zaz (he:PE X e ta)(hb:attributeBase e f X.env (eval e X.env)=eval e X.env):PE X (.Attribute e f pos) (tFld X.K ta f):=by
 intro pins s σ H Q I h
 refine zmL hb (thn (he pins s σ H _ I h) fun u s1 hh_=>?_)
 obtain ⟨x,H1,I1,rx,a,C,dx,fs,v,ex,ea,c,n,l,q⟩:=hh_
 subst ex
 obtain rfl:u=Value.ref a:=rx
 exact ze5 I1 ea c n l fun u' s2 I2 ru=>⟨v,H1,I2,ru,q⟩
theorem zbe (ha:PE X o ta)(hv:PE X value tv)(hs:swapsWith value (some (.Attribute o f pos')) pos.line X.env=pure false):PS X (.Assign [.Attribute o f pos'] value pos) (sFld X.K ta tv f):=by
 intro pins s σ H D I h
 refine plainObj_wpAny_Assign_Attribute (thn (hv pins s σ H _ I h) fun u s1 ⟨y,H1,I1,ry,q⟩=>thn (ha pins s1 σ H1 _ I1 q) fun ov s2 hh_=>?_) hs
 obtain ⟨x,H2,I2,rx,a,C,dx,fs,ex,ea,c,n,l,q2⟩:=hh_
 subst ex
 obtain rfl:ov=Value.ref a:=rx
 exact zeY I2 ea c n l ry fun s3 I3=>⟨σ,_,I3,q2⟩
theorem zjc {op:Operator}{rd:V→V→Hp→VK→Prop}(ha:PE X o ta)(hv:PE X value tv)(hop:InOp X op rd):PS X (.AugAssign (.Attribute o f tpos) op value pos) (zl5 X.K ta tv rd f):=by
 intro pins s σ H D I h
 refine wpAny_AugAssign_AttributeAny (thn (ha pins s σ H _ I h) fun ov s1 hh_=>?_)
 obtain ⟨x,H1,I1,rx,a,C,dx,fs,v,ex,ea,c,n,l,q⟩:=hh_
 subst ex
 obtain rfl:ov=Value.ref a:=rx
 refine ze5 I1 ea c n l fun u s2 I2 ru=>thn (hv pins s2 σ H1 _ I2 q) fun w3 s3 ⟨y,H2,I3,ry,q3⟩=>thn (hop pins s3 σ H2 v y u w3 _ I3 ru ry q3) fun w4 s4 hh_=>?_
 obtain ⟨z,H3,I4,rz,dx',fs',ea',l',q4⟩:=hh_
 exact zeY I4 ea' c n l' rz fun s5 I5=>⟨σ,_,I5,q4⟩
inductive rAdd (x:V)(y:V)(H:Hp)(Q:VK):Prop
 | mk (i:_) (j:_) (z0_:x = .int i) (z1_:y = .int j) (z2_:Q (.int (i+j)) H)
theorem in_add:InOp X .Add rAdd:=by
 rintro pins s σ H x y u v Q I rx ry ⟨i,j,rfl,rfl,q⟩
 obtain ⟨t,rfl⟩:=(show ∃ t,u=Value.int i t from rx)
 obtain ⟨t',rfl⟩:=(show ∃ t',v=Value.int j t' from ry)
 exact PyProof.Rows.iadd_int ⟨.int (i+j),H,I.tok _,⟨_,rfl⟩,q⟩
end
section
variable {X:Cx}{pins:List (Addr×Obj)}{σ:St}{H:Hp}{s:Shared}{A:Around}{E:Value→Shared→Prop}{Q:Value→Shared→Prop}{c:Value}{b:Bool}
inductive TyOf (K:W.Frag)(H:Hp):V→Value→Prop where
 | non:TyOf K H .non (.type "NoneType")
 | bl (x:Bool):TyOf K H (.bl x) (.type "bool")
 | int (i:Int):TyOf K H (.int i) (.type "int")
 | str (x:Str):TyOf K H (.str x) (.type "str")
 | flt (x:UInt64):TyOf K H (.flt x) (.type "float")
 | lst {a:Addr} {xs:List V} (e:H a=some (.lst xs)):TyOf K H (.ref a) (.type "list")
 | frz {a:Addr} {o:Obj} {xs:List V} (e:H a=some (.frz o (.lst xs))):TyOf K H (.ref a) (.type "list")
 | tup {a:Addr} {xs:List V} (e:H a=some (.tup xs)):TyOf K H (.ref a) (.type "tuple")
 | dK {a:Addr} {kvs:List (Key×V)} (e:H a=some (.dK kvs)):TyOf K H (.ref a) (.type "dict")
 | dT {a:Addr} {kvs:List (List Key×V)} (e:H a=some (.dT kvs)):TyOf K H (.ref a) (.type "dict")
 | ins {a C dx:Addr} {fs:List (Str×V)} (e:H a=some (.ins C dx fs)) (cl:Cls K C) (ha:W.findIn K (.ref C) "__class__" = some (some (.builtin "object.__class__")))
   (hn:W.specialIn K (.builtin "object.__class__") "__get__" = some (some (.builtin "getset_descriptor.__get__"))) (htk:W.takesIn K (.builtin "object.__class__")=some true)
   (hm:W.mroIn K C (.type "object")=some true):TyOf K H (.ref a) (.ref C)
theorem zgn {x:V}{u t:Value}(I:Inv X pins σ H s)(rx:RelV x u)(ty:TyOf X.K H x t)(e:W.kitOne X.K t c=some b)(h:∀ tk,Q (.bool b) { s with toks:=tk }) :
  wpAny (model X.prog X.w) A (call (.builtin "isinstance") [u,c]) Q E s:=by
 cases ty with
 | non=>cases (show u=Value.none from rx);exact W.kia_one W.kitx_none I.kIn True.intro e (fun z=>nomatch z) h
 | bl y=>cases (show u=Value.bool y from rx);exact W.kia_one W.kitx_bool I.kIn True.intro e (fun z=>nomatch z) h
 | int i=>obtain ⟨t,q⟩:=(show ∃ t,u=Value.int i t from rx);cases q;exact W.kia_one W.kitx_int I.kIn True.intro e (fun z=>nomatch z) h
 | str y=>obtain ⟨t,q⟩:=(show ∃ t,u=Value.str y t from rx);cases q;exact W.kia_one W.kitx_str I.kIn True.intro e (fun z=>nomatch z) h
 | flt y=>obtain ⟨t,q⟩:=(show ∃ t,u=Value.float y t from rx);cases q;exact W.kia_one W.kitx_float I.kIn True.intro e (fun z=>nomatch z) h
 | @lst a xs ea =>
  cases (show u=Value.ref a from rx)
  obtain ⟨_,_,n,_,h1⟩:=(show ObjOk X.prog X.w H s.heap a (.lst xs) from I.hok a _ ea)
  exact W.kia_one W.kitx_list I.kIn ⟨_,h1,rfl⟩ e (fun z=>nomatch z) h
 | @frz a ob xs ea =>
  cases (show u=Value.ref a from rx)
  obtain ⟨_,_,_,n,_,h1⟩:=(show ObjOk X.prog X.w H s.heap a (.frz ob (.lst xs)) from I.hok a _ ea)
  exact W.kia_one W.kitx_list I.kIn ⟨_,h1,rfl⟩ e (fun z=>nomatch z) h
 | @tup a xs ea =>
  cases (show u=Value.ref a from rx)
  obtain ⟨_,_,_,p⟩:=(show ObjOk X.prog X.w H s.heap a (.tup xs) from I.hok a _ ea)
  obtain ⟨o,h1,h2,_⟩:=p
  exact W.kia_one W.kitx_tuple I.kIn ⟨o,h1,h2⟩ e (fun z=>nomatch z) h
 | @dK a kvs ea =>
  cases (show u=Value.ref a from rx)
  obtain ⟨_,_,vs,_,p⟩:=(show ObjOk X.prog X.w H s.heap a (.dK kvs) from I.hok a _ ea)
  obtain ⟨o,es,ep,h1,h2,_⟩:=p
  exact W.kia_one W.kitx_dict I.kIn ⟨o,h1,h2.1⟩ e (fun z=>nomatch z) h
 | @dT a kvs ea =>
  cases (show u=Value.ref a from rx)
  obtain ⟨_,_,xs,_,o,es,ep,h1,h2,_⟩:=(show ObjOk X.prog X.w H s.heap a (.dT kvs) from I.hok a _ ea)
  exact W.kia_one W.kitx_dict I.kIn ⟨o,h1,h2.1⟩ e (fun z=>nomatch z) h
 | @ins a C dx fs ea cl ha hn htk hm =>
  cases (show u=Value.ref a from rx)
  obtain ⟨mA,O,_⟩:=zcU I.hok ea
  obtain ⟨od,J,_⟩:=O.look
  exact W.kia_one (W.kitx_own (cl.get _) cl.hd ha hn htk hm) I.kIn J e (fun z=>nomatch z) h
end
structure Room (k:Nat)(A:Around):Prop where
 hd:A.handled=none
 dp:A.depth+3 * k+5<recursionLimit
 un:A.units+16 * k+200<cLine
 gd:A.guards=some []
theorem Room.mono {j k:Nat}{A:Around}(r:Room k A)(h:j≤k):Room j A:=⟨r.hd,by have:=r.dp;omega,by have:=r.un;omega,r.gd⟩
theorem Room.deeper {k:Nat}{A:Around}(r:Room (k+1) A)(env:Env):Room k (A.deeper env):=
 ⟨r.hd,by have:=r.dp;show A.depth+1+3 * k+5<_;omega,by have:=r.un;show A.units+3+16 * k+200<_;omega,r.gd⟩
theorem Room.in1 {k:Nat}{A:Around}(r:Room (k+1) A):Room k A.in1:=
 ⟨r.hd,by have:=r.dp;show A.depth+3 * k+5<_;omega,by have:=r.un;show A.units+1+16 * k+200<_;omega,r.gd⟩
theorem zin {A:Around}{C:Addr}{us:List Value}{kw:List (Str×Value)}:(A.under (.builtin "type.__call__" ⟨.ref C :: us,kw⟩)).depth=A.depth+1:=by
 first | rfl | simp [Around.under,Code.weight,Code.isCreation,Code.isGuard,Code.isCaller,Code.frames,Code.isFrame,guardIds]
theorem zim {A:Around}{C:Addr}{us:List Value}{kw:List (Str×Value)}:(A.under (.builtin "type.__call__" ⟨.ref C :: us,kw⟩)).units=A.units+1:=by
 first | rfl | simp [Around.under,Code.cUnits,Code.frames,Code.isFrame]
theorem zhk {A:Around}{C:Addr}{us:List Value}{kw:List (Str×Value)}(h:A.guards=some []):(A.under (.builtin "type.__call__" ⟨.ref C :: us,kw⟩)).guards=some []:=by
 have hc:(Code.builtin "type.__call__" ⟨Value.ref C :: us,kw⟩).guards=[]:=by
  first | rfl | (simp [Code.guards,Code.isGuard,guardIds];done) | (unfold Code.guards;rw [if_neg];decide +kernel) | skip
 simp only [Around.under,h,hc]
 rfl
theorem Room.make {k:Nat}{A:Around}(r:Room (k+1) A)(C:Addr)(us:List Value)(kw:List (Str×Value)):Room k (A.under (.builtin "type.__call__" ⟨.ref C :: us,kw⟩)):=
 ⟨r.hd,by have:=r.dp;rw [zin];omega,by have:=r.un;rw [zim];omega,zhk r.gd⟩
theorem Room.depth {k:Nat}{A:Around}(r:Room k A):A.depth<recursionLimit:=by have:=r.dp;omega
theorem Room.units {k:Nat}{A:Around}(r:Room k A):A.units+64<cLine:=by have:=r.un;omega
theorem Room.units0 {k:Nat}{A:Around}(r:Room k A):A.units<cLine:=by have:=r.un;omega
def tNil:TA:=fun _ H Q=>Q [] H
def tCons (ta:TE)(tr:TA):TA:=fun σ H Q=>ta σ H fun x H1=>tr σ H1 fun xs H2=>Q (x :: xs) H2
section
variable {X:Cx}{e:Expr}{es:List Expr}{te:TE}{t:TA}{pos:Pos}
theorem zae:PA X [] tNil:=fun _ _ _ _ H Q I h=>Calls.spliced_nil ⟨[],H,I,.nil,h⟩
theorem zaa (ha:PE X e te)(hr:PA X es t)(hs:starEach (e :: es) X.env=(false,eval e X.env) :: starEach es X.env:=by rfl):PA X (e :: es) (tCons te t):=by
 intro pos pins s σ H Q I h
 rw [hs]
 show wpAny _ _ (spliced ((false,eval e X.env) :: backTo pos (starEach es X.env))) _ _ s
 refine Calls.spliced_cons (thn (ha pins s σ H _ I h) fun u s1 hh_=>?_)
 obtain ⟨x,H1,I1,r1,q1⟩:=hh_
 exact thn (hr pos pins s1 σ H1 _ I1 q1) fun us s2 ⟨xs,H2,I2,r2,q2⟩=>⟨x :: xs,H2,I2,.cons r1 r2,q2⟩
def tTup (t:TA):TE:=fun σ H Q=>t σ H fun xs H1=>xs.length≤sizeLine∧∀ p,H1 p=none→Q (.ref p) (upd H1 p (.tup xs))
def tLst (t:TA):TE:=fun σ H Q=>t σ H fun xs H1=>xs.length≤sizeLine∧∀ p,H1 p=none→Q (.ref p) (upd H1 p (.lst xs))
theorem za7 {x1}(h:PA X es t):PE X (.Tuple es x1 pos) (tTup t):=by
 intro pins s σ H Q I hq
 refine wpAny_Tuple_spliced (thn (h pos pins s σ H _ I hq) fun us s1 ⟨xs,H1,I1,r,z,q⟩=>⟨by rw [← r.length];exact z,?_⟩)
 have hf:H1 s1.heap.objs.size=none:=I1.hok.fresh (Xae _)
 refine ⟨.ref s1.heap.objs.size,upd H1 s1.heap.objs.size (.tup xs),I1.laid (t':=s1.toks) (fun b u e=>Xab _ e) (Xae _) ?_,rfl,q _ hf⟩
 exact ⟨⟨z,_,Xaj _ rfl,rfl⟩,us,r,⟨_,Xaj _ rfl,rfl,_,rfl⟩⟩
theorem zax (h:PA X es t):PE X (.List es pos) (tLst t):=by
 intro pins s σ H Q I hq
 refine wpAny_List_spliced (thn (h pos pins s σ H _ I hq) fun us s1 ⟨xs,H1,I1,r,z,q⟩=>⟨by rw [← r.length];exact z,?_⟩)
 have hf:H1 s1.heap.objs.size=none:=I1.hok.fresh (Xae _)
 refine ⟨.ref s1.heap.objs.size,upd H1 s1.heap.objs.size (.lst xs),I1.laid (t':=s1.toks) (fun b u e=>Xab _ e) (Xae _) ?_,rfl,q _ hf⟩
 exact ⟨z,us,0,r,Xaj _ rfl⟩
end
abbrev Sp:=List V→Hp→VK→XK→Prop
abbrev CXT:=List Env→Hp→Shared→XK→Value→Shared→Prop
structure Env0 (P:Program)(w:World)(K:W.Frag)(mg:Str→Option Value)(base:Heap)(A:Around)(outer:List Env)(s:Shared)(H:Hp):Prop where
 frames:A.frames=some outer
 mod:Mod K mg base
 bs:∀ b o,base.get? b=some o→s.heap.get? b=some o∧H b=none
 bsz:base.objs.size≤s.heap.objs.size
 funs:s.heap.FunFrames base outer
 frf:∀ b∈frs outer,H b=none
 hok:HOk P w H s.heap
 bare:AllBare s.gens
def CE (outer:List Env)(P:Program)(w:World)(H:Hp)(s:Shared)(Q:VK)(u:Value)(s':Shared):Prop:=
 ∃ v H',s'.os=s.os∧AllBare s'.gens∧Un (frs outer) [] H H' s.heap s'.heap∧HOk P w H' s'.heap∧RelV v u∧Q v H'
def CR (CX:CXT)(outer:List Env)(P:Program)(w:World)(H:Hp)(s:Shared)(Q:VK)(E:XK)(r:Result)(s':Shared):Prop:=
 match r with
 | .ok (.ret u)=>CE outer P w H s Q u s'
 | .ok _=>False
 | .error e=>CX outer H s E e s'
structure FnOk (P:Program)(w:World)(K:W.Frag)(mg:Str→Option Value)(base:Heap)(CX:CXT)(k:Nat)(f:Addr)(fd:FuncData)(ps:List Str)(sp:Sp):Prop where
 len:∀ vs H Q E,sp vs H Q E→vs.length=ps.length
 run:∀ (A:Around) (outer:List Env) (s:Shared) (H:Hp) (args:Args) (us:List Value) (vs:List V) (Q:VK) (E:XK),Room k A→Env0 P w K mg base A outer s H→BindsTo s fd args (ps.zip us)→Vals vs us→sp vs H Q E →
  codeAny (model P w) A (.call (.ref f) args) (CR CX outer P w H s Q E) s
theorem FnOk.mono {P:Program}{w:World}{K:W.Frag}{mg:Str→Option Value}{base:Heap}{CX:CXT}{j k:Nat}{f:Addr}{fd:FuncData}{ps:List Str}{sp:Sp}(F:FnOk P w K mg base CX j f fd ps sp)(h:j≤k) :
  FnOk P w K mg base CX k f fd ps sp:=⟨F.len,fun A outer s H args us vs Q E hr=>F.run A outer s H args us vs Q E (hr.mono h)⟩
theorem FnOk.imp {P:Program}{w:World}{K:W.Frag}{mg:Str→Option Value}{base:Heap}{CX:CXT}{k:Nat}{f:Addr}{fd:FuncData}{ps:List Str}{sp sp':Sp}(F:FnOk P w K mg base CX k f fd ps sp)
  (h:∀ vs H Q E,sp' vs H Q E→sp vs H Q E):FnOk P w K mg base CX k f fd ps sp':=
 ⟨fun vs H Q E q=>F.len vs H Q E (h _ _ _ _ q),fun A outer s H args us vs Q E hr he hb hv hs=>F.run A outer s H args us vs Q E hr he hb hv (h _ _ _ _ hs)⟩
theorem Env0.make {P:Program}{w:World}{K:W.Frag}{mg:Str→Option Value}{base:Heap}{A:Around}{outer:List Env}{s:Shared}{H:Hp}(e:Env0 P w K mg base A outer s H)(C:Addr)(us:List Value)(kw:List (Str×Value)) :
  Env0 P w K mg base (A.under (.builtin "type.__call__" ⟨.ref C :: us,kw⟩)) outer s H:=⟨by first | exact e.frames | (simpa [Around.under,Code.envs,Code.isFrame,pushEnvs] using e.frames),e.mod,e.bs,e.bsz,e.funs,e.frf,e.hok,e.bare⟩
theorem Env0.in1 {P:Program}{w:World}{K:W.Frag}{mg:Str→Option Value}{base:Heap}{A:Around}{outer:List Env}{s:Shared}{H:Hp}(e:Env0 P w K mg base A outer s H) :
  Env0 P w K mg base A.in1 outer s H:=⟨e.frames,e.mod,e.bs,e.bsz,e.funs,e.frf,e.hok,e.bare⟩
section
variable {X:Cx}{pins:List (Addr×Obj)}{σ:St}{H:Hp}{s s':Shared}
theorem Inv.env0 (I:Inv X pins σ H s):Env0 X.prog X.w X.K X.mg X.base X.A X.stack s H:=
 ⟨I.ok.frames,I.ok.mod,I.bs,Xar I.ok.bsz I.sz,I.stack,I.stkFree,I.hok,I.bare⟩
theorem Inv.after {Q:VK}{u:Value}(I:Inv X pins σ H s)(h:CE X.stack X.prog X.w H s Q u s'):EP X pins σ Q u s':=by
 obtain ⟨v,H',os,bare,un,hok,r,q⟩:=h
 obtain ⟨hh,g,d,t,os'⟩:=s'
 obtain rfl:os'=s.os:=os
 exact ⟨v,H',I.call (h':=hh) (g':=g) (d':=d) (t':=t) (ch:=[]) un hok bare (fun b z=>absurd z (by simp)),r,q⟩
end
def zkr (sp:Sp)(dvs:List V)(E:XK)(t:TA):TE:=fun σ H Q=>t σ H fun vs H1=>sp (vs ++ dvs) H1 Q E
def Binds (K:W.Frag)(fd:FuncData)(ps:List Str)(ds:List Value):Prop:=
 ∀ (s:Shared) (us:List Value),K.In s.heap→(us ++ ds).length=ps.length→BindsTo s fd ⟨us,[]⟩ (ps.zip (us ++ ds))
theorem Binds.all {K:W.Frag}{fd:FuncData}{ps:List Str}(h:∀ us:List Value,us.length=ps.length→bindArgs fd ⟨us,[]⟩=pure (ps.zip us)):Binds K fd ps []:=fun s us _ hl=>by
 rw [Xbm] at hl ⊢
 exact .of_eq (h us hl)
def Passes (CX:CXT)(X:Cx)(E:XK):Prop:=∀ (pins:List (Addr×Obj)) (σ:St) (H:Hp) (s:Shared) (e:Value) (s':Shared),Inv X pins σ H s→CX X.stack H s E e s'→X.xe e s'
section
variable {X:Cx}{CX:CXT}{k:Nat}{f C:Addr}{fd:FuncData}{ps:List Str}{sp:Sp}{dvs:List V}{ds:List Value}{E:XK}{x m:Str}{p pos apos:Pos}{e o:Expr}{es:List Expr}{ta:TE}{t:TA}
theorem zlj {pins:List (Addr×Obj)}{σ:St}{H:Hp}{s:Shared}{Q:VK}{us:List Value}{vs:List V}(F:FnOk X.prog X.w X.K X.mg X.base CX k f fd ps sp)(hr:Room k X.A)(hb:Binds X.K fd ps ds)(hd:Vals dvs ds)(hx:Passes CX X E)
  (I:Inv X pins σ H s) (r:Vals vs us) (h:sp (vs ++ dvs) H Q E):wpAny (model X.prog X.w) X.A (call (.ref f) us) (EP X pins σ Q) X.xe s:=by
 have r2:Vals (vs ++ dvs) (us ++ ds):=r.append hd
 have hl:(us ++ ds).length=ps.length:=by rw [← r2.length];exact F.len _ _ _ _ h
 refine wpAny_call (Xbs (F.run X.A X.stack s H ⟨us,[]⟩ (us ++ ds) (vs ++ dvs) Q E hr I.env0 (hb s us I.kIn hl) r2 h) fun r s' hq=>?_)
 cases r with
 | error e=>exact hx pins σ H s e s' I hq
 | ok fl =>
  cases fl with
  | ret u=>exact I.after hq
  | next=>exact False.elim hq
  | brk=>exact False.elim hq
  | cont=>exact False.elim hq
theorem zmk (F:FnOk X.prog X.w X.K X.mg X.base CX k f fd ps sp)(hr:Room k X.A)(hg:Gl X x)(hm:X.mg x=some (.ref f))(hk:W.keepIn X.K (.ref f)=true)(hb:Binds X.K fd ps ds)(hd:Vals dvs ds)(hx:Passes CX X E)
  (ha:PA X (e :: es) t) (hdb:(x == ("__debug__" : Str))=false:=by decide) (he:starEach (e :: es) X.env=(false,eval e X.env) :: starEach es X.env:=by rfl) (hpl:(backTo pos (starEach es X.env)).any (·.1)=false:=by rfl) :
  PE X (.Call (.Name x p) (e :: es) [] pos) (zkr sp dvs E t):=by
 intro pins s σ H Q I h
 refine Xbb (zb5 I hg hm ?_ hdb)
 refine W.callWith_K (h₀:=X.base) I.ok.mod.kin hk (thn (ha pos pins s σ H _ I h) fun us s1 ⟨vs,H1,I1,r,q⟩=>⟨I1.kIn,?_⟩) he hpl
 exact zlj F hr hb hd hx I1 r q
structure Mk (K:W.Frag)(C f:Addr):Prop where
 makes:W.makesIn K C=true
 init:W.findIn K (.ref C) "__init__" = some (some (.ref f))
 fn:W.isFn K (.ref f)=true
 kp:W.keepIn K (.ref C)=true
end
def PK (X:Cx)(kws:List Keyword)(t:TA):Prop:=
 ∀ (pos:Pos) (pins:List (Addr×Obj)) (s:Shared) (σ:St) (H:Hp) (Q:List V→Hp→Prop),Inv X pins σ H s→t σ H Q→wpAny (model X.prog X.w) X.A (evalAll ((backToKw pos (keywordEach kws X.env)).map (·.2))) (AP X pins σ Q) X.xe s
section
variable {X:Cx}{CX:CXT}{k:Nat}{f C:Addr}{fd:FuncData}{ps ks:List Str}{sp:Sp}{E:XK}{x m:Str}{p pos apos kpos:Pos}{e o:Expr}{es:List Expr}{kws:List Keyword}{te ta:TE}{t tk:TA}{nm:Option Str}
theorem zc2:PK X [] tNil:=fun _ _ _ _ H Q I h=>wpAny_evalAll_nil ⟨[],H,I,.nil,h⟩
theorem zaO (ha:PE X e te)(hr:PK X kws t):PK X (⟨nm,e,kpos⟩ :: kws) (tCons te t):=by
 intro pos pins s σ H Q I h
 show wpAny _ _ (evalAll ((do let v ← eval e X.env;standAt pos;pure v) :: (backToKw pos (keywordEach kws X.env)).map (·.2))) _ _ s
 refine wpAny_evalAll_cons (Xaa (thn (ha pins s σ H _ I h) fun u s1 ⟨x,H1,I1,r1,q1⟩=>Xaa (XaW (Xac ?_))))
 exact thn (hr pos pins s1 σ H1 _ I1 q1) fun us s2 ⟨xs,H2,I2,r2,q2⟩=>⟨x :: xs,H2,I2,.cons r1 r2,q2⟩
structure KBinds (K:W.Frag)(fd:FuncData)(ps ks:List Str)(g:List Value→List Value→List Value)(gV:List V→List V→List V):Prop where
 to:∀ (s:Shared) (us ws:List Value),K.In s.heap→(g us ws).length=ps.length→BindsTo s fd ⟨us,ks.zip ws⟩ (ps.zip (g us ws))
 rel:∀ {vs:List V} {us:List Value} {zs:List V} {ws:List Value},Vals vs us→Vals zs ws→Vals (gV vs zs) (g us ws)
variable {g:List Value→List Value→List Value}{gV:List V→List V→List V}
theorem zfq {pins:List (Addr×Obj)}{σ:St}{H:Hp}{s:Shared}{Q:VK}{us ws:List Value}{vs zs:List V}(F:FnOk X.prog X.w X.K X.mg X.base CX k f fd ps sp)(hr:Room k X.A)(hb:KBinds X.K fd ps ks g gV)(hx:Passes CX X E)
  (I:Inv X pins σ H s) (r:Vals vs us) (rz:Vals zs ws) (h:sp (gV vs zs) H Q E):wpAny (model X.prog X.w) X.A (call (.ref f) us (ks.zip ws)) (EP X pins σ Q) X.xe s:=by
 have r2:=hb.rel r rz
 have hl:(g us ws).length=ps.length:=by rw [← r2.length];exact F.len _ _ _ _ h
 refine wpAny_call (Xbs (F.run X.A X.stack s H ⟨us,ks.zip ws⟩ (g us ws) (gV vs zs) Q E hr I.env0 (hb.to s us ws I.kIn hl) r2 h) fun r s' hq=>?_)
 cases r with
 | error e=>exact hx pins σ H s e s' I hq
 | ok fl =>
  cases fl with
  | ret u=>exact I.after hq
  | next=>exact False.elim hq
  | brk=>exact False.elim hq
  | cont=>exact False.elim hq
end
structure FnScope (N P:List Str)(sc:Scope):Prop where
 kind:sc.kind = .function
 co:sc.isCoroutine=false
 gen:sc.isGenerator=false
 nd:N.Nodup
 pre:N.take P.length=P
 par:∀ x∈P,sc.names.lookup x=some .local∨sc.names.lookup x=some .cell
 nofree:∀ y∈sc.names,y.2≠.free
theorem zgC {kindOf:Str→Option NameKind}{x:Str}:∀ {binds:List (Str×Value)} {m:Str→Option Value},(∀ v,(x,v) ∉ binds)→bindL kindOf binds m x=m x
 | [],_,_=>rfl
 | (n,v) :: r,m,h=>by
  unfold bindL
  rw [zgC fun w hw=>h w (Xax _ hw)]
  split
  ·have:x≠n:=by rintro rfl;exact h v XaB
   simp [this]
  ·rfl
theorem zgE {kindOf:Str→Option NameKind}{x:Str}:∀ {binds:List (Str×Value)} {m:Str→Option Value},(∀ v,(x,v) ∉ binds)→bindC kindOf binds m x=m x
 | [],_,_=>rfl
 | (n,v) :: r,m,h=>by
  unfold bindC
  rw [zgE fun w hw=>h w (Xax _ hw)]
  split
  ·rfl
  ·have:x≠n:=by rintro rfl;exact h v XaB
   simp [this]
theorem zgD {kindOf:Str→Option NameKind}{x:Str}{v:Value}:∀ {P:List Str} {vs:List Value} {i:Nat} {m:Str→Option Value},P.Nodup→P[i]? = some x→vs[i]? = some v→kindOf x=some .local →
  bindL kindOf (P.zip vs) m x=some v
 | [],_,_,_,_,h,_,_=>by simp at h
 | _ :: _,[],_,_,_,_,h,_=>by simp at h
 | p :: P,w :: vs,0,m,nd,h1,h2,hk=>by
  simp at h1 h2;subst h1;subst h2
  show bindL kindOf ((p,w) :: P.zip vs) m p=_
  unfold bindL
  rw [zgC fun v hv=>(XbO.mp nd).1 (List.of_mem_zip hv).1,if_pos hk]
  simp
 | p :: P,w :: vs,i+1,m,nd,h1,h2,hk=>by
  show bindL kindOf ((p,w) :: P.zip vs) m x=_
  unfold bindL
  exact zgD (i:=i) (XbO.mp nd).2 (by simpa using h1) (by simpa using h2) hk
theorem zgF {kindOf:Str→Option NameKind}{x:Str}{v:Value}:∀ {P:List Str} {vs:List Value} {i:Nat} {m:Str→Option Value},P.Nodup→P[i]? = some x→vs[i]? = some v→kindOf x≠some .local →
  bindC kindOf (P.zip vs) m x=some v
 | [],_,_,_,_,h,_,_=>by simp at h
 | _ :: _,[],_,_,_,_,h,_=>by simp at h
 | p :: P,w :: vs,0,m,nd,h1,h2,hk=>by
  simp at h1 h2;subst h1;subst h2
  show bindC kindOf ((p,w) :: P.zip vs) m p=_
  unfold bindC
  rw [zgE fun v hv=>(XbO.mp nd).1 (List.of_mem_zip hv).1,if_neg hk]
  simp
 | p :: P,w :: vs,i+1,m,nd,h1,h2,hk=>by
  show bindC kindOf ((p,w) :: P.zip vs) m x=_
  unfold bindC
  exact zgF (i:=i) (XbO.mp nd).2 (by simpa using h1) (by simpa using h2) hk
def start (N:List Str)(vs:List V):St:=vs.map some ++ List.replicate (N.length - vs.length) none
def cxOf (CX:CXT)(P:Program)(w:World)(K:W.Frag)(mg:Str→Option Value)(base:Heap)(N:List Str)(qual:Str)(scope:Scope)(f:Addr)(cd:Value)(A:Around)(outer:List Env)(s:Shared)(H:Hp)(E:XK):Cx where
 prog:=P
 w:=w
 K:=K
 mg:=mg
 base:=base
 A:=A.deeper (envOfC qual scope s.heap.objs.size f cd)
 N:=N
 s₀:=s
 H₀:=H
 env:=envOfC qual scope s.heap.objs.size f cd
 outer:=outer
 stack:=envOfC qual scope s.heap.objs.size f cd :: outer
 ex:=[]
 calm:=true
 fn:=fun _=>true
 pn:=[]
 xe:=fun e s'=>wpAny (model P w) (A.deeper (envOfC qual scope s.heap.objs.size f cd)) (leaving (envOfC qual scope s.heap.objs.size f cd) e) (fun _ s''=>CX outer H s E e s'') (fun e' s''=>CX outer H s E e' s'') s'
theorem zhS {sc:Scope}{n:Nat}{x:Str}(h:sc.names.lookup x=some .cell):∃ c,(cellsFrom n sc.names []).lookup x=some c:=by
 have q:=W.cellsFrom_some sc.names n [] (.inl h)
 exact Option.isSome_iff_exists.mp q
theorem zjH {CX:CXT}{P:Program}{w:World}{K:W.Frag}{mg:Str→Option Value}{base:Heap}{N ps:List Str}{qual:Str}{scope:Scope}{f:Addr}{cd:Value}{A:Around}{outer:List Env}{s s1:Shared}{H:Hp}{E:XK}{us:List Value}{vs:List V}
  (S:FnScope N ps scope) (hd:A.handled=none) (e0:Env0 P w K mg base A outer s H) (hl:vs.length=ps.length) (r:Vals vs us)
  (x:InCallC s s.heap.objs.size (bindL (envOfC qual scope s.heap.objs.size f cd).kindOf (ps.zip us) fun _=>none) (cellsFrom (s.heap.objs.size+1) scope.names []) (bindC (envOfC qual scope s.heap.objs.size f cd).kindOf (ps.zip us) fun _=>none) s1) :
  Inv (cxOf CX P w K mg base N qual scope f cd A outer s H E) [] (start N vs) H s1:=by
 have hpl:ps.length≤N.length:=by have:=congrArg List.length S.pre;rw [Xa3] at this;omega
 obtain ⟨h1,tk,rfl,hk⟩:=x.done
 have noA:∀ b:Addr,b ∉ (cxOf CX P w K mg base N qual scope f cd A outer s H E).ex:=fun b z=>absurd (show b∈([]:List Addr) from z) (by simp)
 refine ⟨⟨e0.mod,S.kind,rfl,rfl,Xae _,fun y z c h1 h2=>?_,fun y hy=>?_,fun y c _ h=>?_,fun _=>hd,Around.frames_deeper e0.frames,.inr ⟨rfl,rfl⟩,fun b z=>absurd z (noA b),e0.bs,e0.bsz,fun b _ _=>noA b,fun b z=>absurd z (noA b),e0.funs,e0.frf⟩,
  rfl,e0.bare,Un.kept hk,⟨_,x.toInCall.ns,fun i y v h1 h2 h3=>?_⟩,fun y c h=>⟨_,x.cell y c h⟩,e0.hok.fresh (Xae _),fun y c h=>?_,fun p hp=>absurd (show p∈([]:List (Addr×Obj)) from hp) (by simp),e0.hok.kept hk,?_⟩
 ·exact name_of_addr x.apart (PySem.mem_of_lookup h1) (PySem.mem_of_lookup h2)
 ·have hy:scope.names.lookup y=some .cell∨scope.names.lookup y=some .free:=hy
  rcases hy with hy | hy
  ·exact zhS hy
  ·exact absurd rfl (S.nofree _ (PySem.mem_of_lookup hy))
 ·exact XbH (x.above y c (PySem.mem_of_lookup h))
 ·have hi:i<vs.length:=by
   unfold start at h2
   by_cases hi:i<vs.length
   ·exact hi
   ·rw [List.getElem?_append_right (by simpa using hi)] at h2
    rw [List.getElem?_replicate] at h2
    split at h2 <;> cases h2
  have ha:vs[i]? = some v:=by
   unfold start at h2
   rw [List.getElem?_append_left (by simpa using hi),Xat] at h2
   cases e:vs[i]? with
   | none=>rw [e] at h2;cases h2
   | some a=>rw [e] at h2;cases h2;rfl
  obtain ⟨u,hu,rv⟩:=r.get ha
  have hp:ps[i]? = some y:=by
   rw [← S.pre,List.getElem?_take_of_lt (by omega)];exact h1
  have ndP:ps.Nodup:=by rw [← S.pre];exact S.nd.sublist (List.take_sublist _ _)
  refine ⟨u,rv,?_⟩
  rcases S.par y (Xay hp) with k | k
  ·exact .inl ⟨k,zgD ndP hp hu k⟩
  ·obtain ⟨c,e⟩:=zhS (n:=s.heap.objs.size+1) k
   refine .inr ⟨.inl k,c,e,?_⟩
   have q:=x.cell y c e
   rw [zgF ndP hp hu (by show scope.names.lookup y≠_;rw [k];decide)] at q
   exact q
 ·exact e0.hok.fresh (XbH (x.above y c (PySem.mem_of_lookup h)))
 ·unfold start
  show _=N.length
  rw [Xaq,Xaf,Xbj]
  omega
theorem zk1 {CX:CXT}{P:Program}{w:World}{K:W.Frag}{mg:Str→Option Value}{base:Heap}{k:Nat}{f:Addr}{name qual:Str}{params:Arguments}{body:List Stmt}{scope:Scope}{dV kV doc pm cdv ct oc:Value}{an od:Option Addr}
  {osl:Array (Option Value)} {N ps:List Str} {sp:Sp} (lk:K.lookup f=some ⟨oc,od,.func (W.fnOf name qual params body scope dV kV doc pm an cdv ct),osl⟩) (hcd:W.codeIn K cdv qual=true) (S:FnScope N ps scope)
  (len:∀ vs H Q E,sp vs H Q E→vs.length=ps.length)
  (hbody:∀ (A:Around) (outer:List Env) (s:Shared) (H:Hp) (vs:List V) (Q:VK) (E:XK),Room k (A.deeper (envOfC qual scope s.heap.objs.size f cdv))→sp vs H Q E →
   ∃ t,PSs (cxOf CX P w K mg base N qual scope f cdv A outer s H E) body t∧t { nx:=fun _ H'=>Q .non H',rt:=Q } (start N vs) H) :
  FnOk P w K mg base CX (k+1) f (W.fnOf name qual params body scope dV kV doc pm an cdv ct) ps sp:=by
 refine ⟨len,fun A outer s H args us vs Q E hr e0 hb r hsp=>?_⟩
 have hl:=len _ _ _ _ hsp
 have KX:K.In s.heap:=e0.mod.kin.keeps fun b o e=>(e0.bs b o e).1
 have lim:s.heap.NoLimit:=e0.mod.nolimit.keeps fun b o e=>(e0.bs b o e).1
 have hkind:∀ y∈ps.zip us,scope.names.lookup y.1=some .local∨(scope.names.lookup y.1=some .cell∧((cellsFrom (s.heap.objs.size+1) scope.names []).lookup y.1).isSome=true):=fun ⟨n,v⟩ hy=>by
  rcases S.par n (List.of_mem_zip hy).1 with q | q
  ·exact .inl q
  ·exact .inr ⟨q,W.cellsFrom_some _ _ _ (.inl q)⟩
 refine codeAny_call_function hr.depth (KX _ _ lk) rfl S.co S.gen rfl (W.codeRec_of KX hcd) (hb _ _ _ _ ?_)
 refine wpAny_newFunctionEnv_cells S.kind hkind fun env he s1 x=>?_
 subst he
 refine ⟨lim.keeps x.toInCall.keep,codeAny_func ?_⟩
 obtain ⟨t,ht,hq⟩:=hbody A outer s H vs Q E (hr.deeper _) hsp
 have I:Inv (cxOf CX P w K mg base N qual scope f cdv A outer s H E) [] (start N vs) H s1:=zjH S hr.hd e0 hl r x
 refine Xas (ht [] s1 (start N vs) H _ I hq) (fun fl s' hs=>?_) fun e s' hs=>hs
 have fin:∀ {σ':St} {H':Hp} {v:V} {u:Value},Inv (cxOf CX P w K mg base N qual scope f cdv A outer s H E) [] σ' H' s'→RelV v u→Q v H'→CE outer P w H s Q u s':=
  fun {σ' H' v u} J rv q=>⟨v,H',J.os,J.bare,J.base,J.hok,rv,q⟩
 cases fl with
 | ret u =>
  obtain ⟨v,σ',H',J,rv,q⟩:=hs
  exact fin J rv q
 | next =>
  obtain ⟨σ',H',J,q⟩:=hs
  exact fin (v:=V.non) (u:=Value.none) J rfl q
 | brk =>
  obtain ⟨_,_,_,q⟩:=hs
  exact False.elim q
 | cont =>
  obtain ⟨_,_,_,q⟩:=hs
  exact False.elim q
section
variable {X:Cx}{x:Str}{p pos:Pos}{e:Expr}{es:List Expr}{t:TA}{id T:String}{r:List V→Hp→VK→Prop}
def tCB (r:List V→Hp→VK→Prop)(t:TA):TE:=fun σ H Q=>t σ H fun vs H1=>r vs H1 Q
theorem zap (hc:zdc X (.builtin id) r)(hg:Gl X x)(hm:X.mg x=none)(hv:bootBuiltins x=some (.builtin id))(ha:PA X (e :: es) t)(hn:x ≠ "__name__" := by decide)(hdb:(x == ("__debug__" : Str))=false:=by decide)
  (he:starEach (e :: es) X.env=(false,eval e X.env) :: starEach es X.env:=by rfl) (hpl:(backTo pos (starEach es X.env)).any (·.1)=false:=by rfl):PE X (.Call (.Name x p) (e :: es) [] pos) (tCB r t):=by
 intro pins s σ H Q I h
 refine Xbb (zc5 I hg hm hv ?_ hn hdb)
 exact PyProof.Rows.callWith_builtin1 (thn (ha pos pins s σ H _ I h) fun us s1 ⟨vs,H1,I1,r1,q1⟩=>hc pins s1 σ H1 vs us Q I1 r1 q1) he hpl
theorem za4 (hc:zdc X (.type T) r)(hg:Gl X x)(hm:X.mg x=none)(hv:bootBuiltins x=some (.type T))(ha:PA X (e :: es) t)(hn:x ≠ "__name__" := by decide)(hdb:(x == ("__debug__" : Str))=false:=by decide)
  (he:starEach (e :: es) X.env=(false,eval e X.env) :: starEach es X.env:=by rfl) (hpl:(backTo pos (starEach es X.env)).any (·.1)=false:=by rfl):PE X (.Call (.Name x p) (e :: es) [] pos) (tCB r t):=by
 intro pins s σ H Q I h
 refine Xbb (zc5 I hg hm hv ?_ hn hdb)
 exact PyProof.Rows.callWith_type1 (thn (ha pos pins s σ H _ I h) fun us s1 ⟨vs,H1,I1,r1,q1⟩=>hc pins s1 σ H1 vs us Q I1 r1 q1) he hpl
end
end L2
namespace HT
open PySem PyProof.Rows
section
open PySem.SeqAt
open PySem.AutoSeq1 (wpAny_loadPart')
open PySem.MeetsSeq PySem.MeetsSeq2 PySem.MeetsSeq3
end
section
variable {prog:Program}{w:World}{A:Around}{E:Value→Shared→Prop}{s:Shared}
def sIx (n d:Nat):Option Int→Nat
 | none=>d
 | some v=>if v<0 then (v+(n:Int)).toNat else min v.toNat n
theorem sIx_none (n d:Nat):sIx n d none=d:=rfl
theorem sIx_nat (n d k:Nat):sIx n d (some (k:Int))=min k n:=by
 show (if (k:Int)<0 then ((k:Int)+(n:Int)).toNat else min (k:Int).toNat n)=min k n
 rw [if_neg (by omega),Xap]
theorem sIx_le (n d:Nat)(hd:d≤n)(o:Option Int):sIx n d o≤n:=by
 cases o with
 | none=>exact hd
 | some v =>
  show (if v<0 then (v+(n:Int)).toNat else min v.toNat n)≤n
  by_cases hv:v<0
  ·rw [if_pos hv];omega
  ·rw [if_neg hv];exact Nat.min_le_right _ _
theorem zj4 (v:Int)(n d:Nat):(if v<0 then max (v+(n:Int)) 0 else min v (n:Int))=((sIx n d (some v):Nat):Int):=by
 show (if v<0 then max (v+(n:Int)) 0 else min v (n:Int))=(((if v<0 then (v+(n:Int)).toNat else min v.toNat n):Nat):Int)
 by_cases hv:v<0
 ·simp only [if_pos hv];omega
 ·simp only [if_neg hv];omega
theorem ziD (lo hi:Option Int)(n:Nat):Builtin.Slice.sliceAdjust lo hi 1 (n:Int)=(((sIx n 0 lo:Nat):Int),((sIx n n hi:Nat):Int)):=by
 have h1:¬ ((1:Int)<0):=by omega
 unfold Builtin.Slice.sliceAdjust
 simp only [h1,if_false]
 refine Prod.ext ?_ ?_
 ·cases lo with
  | none=>rfl
  | some v=>exact zj4 v n 0
 ·cases hi with
  | none=>rfl
  | some v=>exact zj4 v n n
theorem zh5 (i j:Nat):Builtin.Slice.slicePlaces (i:Int) (j:Int) 1=j - i:=by
 unfold Builtin.Slice.slicePlaces
 have h1:(1:Int) > 0:=by omega
 simp only [h1,if_true,Int.ediv_one]
 split <;> omega
theorem zeW {v:Value}{o:Option Int}{Q:Option Int→Shared→Prop}(p:IsPart v o)(h:Q o s):wpAny (model prog w) A (Builtin.Slice.slicePartIndex v) Q E s:=by
 cases p with
 | none=>exact slicePart_none h
 | int i t=>exact slicePart_int h
theorem zb8 {sl:Addr}{vl vu:Value}{lo hi:Option Int}{n:Nat}{Q:Int×Int×Nat→Shared→Prop}(hs:s.heap.IsSliceOf sl vl vu .none)(pl:IsPart vl lo)(pu:IsPart vu hi)
  (h:Q (((sIx n 0 lo:Nat):Int),1,sIx n n hi - sIx n 0 lo) s):wpAny (model prog w) A (Builtin.Slice.sliceApplied (.ref sl) (pure (n:Int))) Q E s:=by
 obtain ⟨os,hos,hcs,hds⟩:=id hs
 unfold Builtin.Slice.sliceApplied Builtin.Slice.sliceFields
 refine Xaa (Xaa (XaN hos hds (x:=vl) rfl (Xaa (XaN hos hds (x:=vu) rfl (Xaa (XaN hos hds (x:=.none) rfl (Xac ?_)))))))
 refine Xaa (slicePart_none ?_)
 show wpAny _ _ (if ((1:Int) == 0)=true then _ else _) _ _ s
 rw [if_neg (by decide)]
 refine Xaa (zeW pl (Xaa (zeW pu (Xaa (Xac ?_)))))
 show wpAny _ _ (match Builtin.Slice.sliceAdjust lo hi 1 (n:Int) with | (lo,hi)=>pure (lo,(1:Int),Builtin.Slice.slicePlaces lo hi 1)) _ _ s
 rw [ziD lo hi n]
 show wpAny _ _ (pure (((sIx n 0 lo:Nat):Int),(1:Int),Builtin.Slice.slicePlaces ((sIx n 0 lo:Nat):Int) ((sIx n n hi:Nat):Int) 1)) _ _ s
 rw [zh5]
 exact Xac h
theorem zkF (xs:Array Value)(i k:Nat):((List.range k).filterMap fun (m:Nat)=>xs[((i:Int)+(m:Int) * 1).toNat]?).toArray=((xs.toList.drop i).take k).toArray:=by
 have e:(fun (m:Nat)=>xs[((i:Int)+(m:Int) * 1).toNat]?)=fun m=>xs[i+m]?:=by
  funext m
  have:((i:Int)+(m:Int) * 1).toNat=i+m:=by omega
  rw [this]
 rw [e]
 have:=pick_run xs i k
 rw [List.filterMap_map] at this
 have e2:((fun x=>xs[x]?) ∘ fun x=>i+x)=fun m=>xs[i+m]?:=rfl
 rw [e2] at this
 rw [this]
theorem getItem_tuple_cut {t sl:Addr}{items:Array Value}{vl vu:Value}{lo hi:Option Int}{Q:Value→Shared→Prop}(ht:IsTup s.heap t items)(hs:s.heap.IsSliceOf sl vl vu .none)(pl:IsPart vl lo)(pu:IsPart vu hi)
  (hw:¬ (sIx items.size 0 lo=0∧sIx items.size items.size hi=items.size))
  (h:Q (.ref s.heap.objs.size) { s with heap:=s.heap.push { cls:=.type "tuple",data:=.seq ((items.toList.drop (sIx items.size 0 lo)).take (sIx items.size items.size hi - sIx items.size 0 lo)).toArray } })
  (hsz:items.size≤sizeLine):wpAny (model prog w) A (getItem (.ref t) (.ref sl)) Q E s:=by
 have htake:sizeOk (.seq ((items.toList.drop (sIx items.size 0 lo)).take (sIx items.size items.size hi - sIx items.size 0 lo)).toArray):=by
  show ((items.toList.drop (sIx items.size 0 lo)).take (sIx items.size items.size hi - sIx items.size 0 lo)).toArray.size≤sizeLine
  rw [Xan,Xa3,Xa4,Array.length_toList]
  omega
 have hj:sIx items.size items.size hi≤items.size:=sIx_le _ _ (Xae _) hi
 obtain ⟨os,hos,hcs,hds⟩:=id hs
 have hTs:s.TypeIs (.ref sl) "slice" := ⟨os,hos,hcs⟩
 unfold getItem
 try with_reducible refine XaV ?_
 first | refine Xaa (Xac ?_) | skip
 refine Xaa (wpAny_sequenceKey ht.typeIs (by decide) ?_)
 refine Xaa (wpAny_callSpecial?_slot (name:=Str.ofString "__getitem__") ht.typeIs PyProof.Rows.slot_tuple_getitem
  (XaS PyProof.Rows.slot_tuple_getitem ht.typeIs entry_tuple_getitem ?_ (args_tuple_getitem _ _)))
 show wpAny _ _ (Builtin.Tuple.tupleItemsOf (.ref t) >>= _) _ _ s
 refine Xaa (tupleItemsOf_ ht ?_)
 refine Xaa (wpAny_typeOf hTs ?_)
 rw [if_pos (by decide)]
 refine Xaa (zb8 hs pl pu ?_)
 have hno:¬ ((((sIx items.size 0 lo:Nat):Int) == 0 && (1:Int) == 1 && (sIx items.size items.size hi - sIx items.size 0 lo) == items.size)=true):=by
  intro q
  rw [XaT,XaT] at q
  have q1:((sIx items.size 0 lo:Nat):Int)=0:=eq_of_beq q.1.1
  have q2:sIx items.size items.size hi - sIx items.size 0 lo=items.size:=eq_of_beq q.2
  exact hw ⟨by omega,by omega⟩
 show wpAny _ _ (if (((sIx items.size 0 lo:Nat):Int) == 0 && (1:Int) == 1 && (sIx items.size items.size hi - sIx items.size 0 lo) == items.size)=true then _ else _) _ _ s
 rw [if_neg hno,zkF]
 first
  | exact Xaa (m:=Builtin.Tuple.tupleExact _) (XaL (Xac ⟨_,rfl,Xac h⟩) htake)
  | exact Xaa (m:=Builtin.Tuple.tupleExact _) (XaL (Xaa (Xac (Xac ⟨_,rfl,Xac h⟩))) htake)
  | exact Xaa (Xaa (m:=Builtin.Tuple.tupleExact _) (XaL (Xac (Xac ⟨_,rfl,Xac h⟩)) htake))
  | exact Xaa (Xaa (m:=Builtin.Tuple.tupleExact _) (XaL (Xac ⟨_,rfl,Xac h⟩) htake))
end
end HT
namespace L2
open PySem PySem.Spec PyProof.Rows
abbrev TO:=St→Hp→(Option Int→Hp→Prop)→Prop
def PO (X:Cx)(e:Option Expr)(t:TO):Prop:=
 ∀ (pins:List (Addr×Obj)) (s:Shared) (σ:St) (H:Hp) (Q:Option Int→Hp→Prop),Inv X pins σ H s→t σ H Q →
  wpAny (model X.prog X.w) X.A (evalPart e X.env) (fun u s'=>∃ o H',Inv X pins σ H' s'∧IsPart u o∧Q o H') X.xe s
def zlW:TO:=fun _ H Q=>Q none H
inductive tPart_1 (Q:Option Int→Hp→Prop)(x:V)(H1:Hp):Prop
 | mk (i:_) (z0_:x = .int i) (z1_:Q (some i) H1)
def tPart (t:TE):TO:=fun σ H Q=>t σ H (tPart_1 Q)
theorem zir {ns:List Int}:∀ {us:List Value},Vals (ns.map V.int) us→IntsAre us ns:=by
 induction ns with
 | nil=>intro us r;rw [List.map_nil] at r;cases r;exact .nil
 | cons n ns ih =>
  intro us r
  rw [Xaz] at r
  cases r with
  | cons r1 r2 =>
   obtain ⟨t,e⟩:=r1
   subst e
   exact .cons n t (ih r2)
section
variable {X:Cx}{e:Expr}{te:TE}{lo hi:Option Expr}{tl th:TO}{pos p2:Pos}
theorem zft:PO X none zlW:=by
 intro pins s σ H Q I h
 rw [evalPart_none]
 exact Xac ⟨none,H,I,.none,h⟩
theorem zbt (h:PE X e te):PO X (some e) (tPart te):=by
 intro pins s σ H Q I hw
 rw [evalPart_some]
 refine thn (h pins s σ H _ I hw) fun u s1 hh_=>?_
 obtain ⟨x,H1,I1,r1,q1⟩:=hh_
 obtain ⟨i,rfl,q⟩:=q1
 obtain ⟨t,rfl⟩:=r1
 exact ⟨some i,H1,I1,.int i t,q⟩
def SlR (X:Cx)(r:V→Option Int→Option Int→Hp→VK→Prop):Prop:=
 ∀ (pins:List (Addr×Obj)) (s:Shared) (σ:St) (H:Hp) (x:V) (v vl vu:Value) (lo hi:Option Int) (sl:Addr) (Q:VK),Inv X pins σ H s→RelV x v→s.heap.IsSliceOf sl vl vu .none→IsPart vl lo→IsPart vu hi→r x lo hi H Q →
  ∃ T id,typeLookup (.type T) "__getitem__" = pure (some (.builtin id))∧s.TypeIs v T∧wpAny (model X.prog X.w) X.A (getItem v (.ref sl)) (EP X pins σ Q) X.xe s
def tSl (r:V→Option Int→Option Int→Hp→VK→Prop)(te:TE)(tl th:TO):TE:=fun σ H Q=>te σ H fun x H1=>tl σ H1 fun l H2=>th σ H2 fun u H3=>r x l u H3 Q
theorem zb0 {r:V→Option Int→Option Int→Hp→VK→Prop}(hr:SlR X r)(he:PE X e te)(hl:PO X lo tl)(hu:PO X hi th):PE X (.Subscript e (.Slice lo hi none p2) pos) (tSl r te tl th):=by
 intro pins s σ H Q I h
 refine Subscript_ (thn (he pins s σ H _ I h) fun v s1 hh_=>?_)
 obtain ⟨x,H1,I1,r1,q1⟩:=hh_
 refine wpAny_Slice (thn (hl pins s1 σ H1 _ I1 q1) fun vl s2 ⟨l,H2,I2,pl,q2⟩=>thn (hu pins s2 σ H2 _ I2 q2) fun vu s3 hh_=>?_)
 obtain ⟨u,H3,I3,pu,q3⟩:=hh_
 rw [evalPart_none]
 refine Xac ?_
 have I4:Inv X pins σ H3 { s3 with heap:=s3.heap.push { cls:=.type "slice",data:=.fields #[vl,vu,.none] } }:=I3.kept (t':=s3.toks) fun b ob q=>Xab _ q
 obtain ⟨T,id,hT,ht,hg⟩:=hr pins { s3 with heap:=s3.heap.push { cls:=.type "slice",data:=.fields #[vl,vu,.none] } } σ H3 x v vl vu l u s3.heap.objs.size Q I4 r1 (Heap.IsSliceOf.new ..) pl pu q3
 show wpAny (model X.prog X.w) X.A (subscriptTail e (.Slice lo hi none p2) v (.ref s3.heap.objs.size)) (EP X pins σ Q) X.xe { s3 with heap:=s3.heap.push { cls:=.type "slice",data:=.fields #[vl,vu,.none] } }
 exact tail_any (ops:=[.ref s3.heap.objs.size,v]) ht hT hg (by with_unfolding_all rfl)
def cutV (xs:List V)(lo hi:Option Int):List V:=(xs.drop (HT.sIx xs.length 0 lo)).take (HT.sIx xs.length xs.length hi - HT.sIx xs.length 0 lo)
theorem zcV (xs:List V)(lo hi:Option Int):(cutV xs lo hi).length≤xs.length:=by
 unfold cutV
 rw [Xa3,Xa4]
 omega
inductive rSlT (K:W.Frag)(x:V)(lo:Option Int)(hi:Option Int)(H:Hp)(Q:VK):Prop
 | mk (a:_) (xs:_) (z0_:x = .ref a) (z1_:SqT K H a xs) (z2_:¬ (HT.sIx xs.length 0 lo=0∧HT.sIx xs.length xs.length hi=xs.length)) (z3_:∀ p,H p=none→Q (.ref p) (upd H p (.tup (cutV xs lo hi))))
theorem sl_tup:SlR X (rSlT X.K):=by
 intro pins s σ H x v vl vu lo hi sl Q I rx hs pl pu h
 obtain ⟨a,xs,rfl,hx,hw,q⟩:=h
 cases rx
 obtain ⟨its,r,ht,hz⟩:=I.tuple hx
 have hlen:its.toArray.size=xs.length:=by rw [Xan];exact r.length.symm
 refine ⟨"tuple",_,PyProof.Rows.slot_tuple_getitem.lookup,ht.typeIs,?_⟩
 refine HT.getItem_tuple_cut ht hs pl pu (by rw [hlen];exact hw) ?_ (by rw [hlen];exact hz)
 rw [hlen]
 refine ⟨.ref s.heap.objs.size,_,I.laid (t':=s.toks) (o:=.tup (cutV xs lo hi)) (fun b ob q=>Xab _ q) (Xae _) ?_,rfl,q _ (I.hok.fresh (Xae _))⟩
 exact ⟨⟨Xar (zcV xs lo hi) hz,_,Xaj _ rfl,rfl⟩,_,(r.drop (HT.sIx xs.length 0 lo)).take (HT.sIx xs.length xs.length hi - HT.sIx xs.length 0 lo),IsTup.new _ _⟩
theorem Vals.nil_iff {xs:List V}{us:List Value}(r:Vals xs us):us=[]↔xs=[]:=by
 cases r with
 | nil=>simp
 | cons _ _=>simp
end
def ixN (n:Nat)(i:Int):Option Nat:=if 0≤i then (if i<n then some i.toNat else none) else if -(n:Int)≤i then some (i+n).toNat else none
def atI {α:Type}(xs:List α)(i:Int):Option α:=(ixN xs.length i).bind fun j=>xs[j]?
theorem zjD {n:Nat}{i:Int}{j:Nat}(h:ixN n i=some j):seqIndex? i n=some j∧j<n∧-(n:Int)≤i∧i<n:=by
 unfold ixN at h
 by_cases h0:0≤i
 ·rw [if_pos h0] at h
  by_cases h1:i<n
  ·rw [if_pos h1] at h
   have e:i.toNat=j:=Option.some.inj h
   exact ⟨by rw [seqIndex_of h0 h1,e],by omega,by omega,h1⟩
  ·rw [if_neg h1] at h;cases h
 ·rw [if_neg h0] at h
  by_cases h1:-(n:Int)≤i
  ·rw [if_pos h1] at h
   have e:(i+n).toNat=j:=Option.some.inj h
   exact ⟨by rw [seqIndex_neg (by omega) h1,e],by omega,h1,by omega⟩
  ·rw [if_neg h1] at h;cases h
theorem zht {α:Type}{xs:List α}{i:Int}{v:α}(h:atI xs i=some v):∃ j,seqIndex? i xs.length=some j∧xs[j]? = some v∧j<xs.length∧-(xs.length:Int)≤i∧i<xs.length:=by
 unfold atI at h
 cases e:ixN xs.length i with
 | none=>rw [e] at h;cases h
 | some j =>
  rw [e] at h
  obtain ⟨h1,h2,h3,h4⟩:=zjD e
  exact ⟨j,h1,h,h2,h3,h4⟩
theorem zaP {α:Type}{xs:List α}{j:Nat}{v:α}(h:xs[j]? = some v):atI xs (j:Int)=some v:=by
 have hj:j<xs.length:=(Xag.mp h).1
 have e:ixN xs.length (j:Int)=some j:=by
  unfold ixN
  rw [if_pos (by omega),if_pos (by omega)];simp
 unfold atI;rw [e];exact h
theorem zdb {α:Type}(xs:List α)(v:α):atI (xs ++ [v]) (-1)=some v:=by
 have hl:(xs ++ [v]).length=xs.length+1:=by simp
 have e:ixN (xs ++ [v]).length (-1)=some xs.length:=by
  unfold ixN
  rw [hl,if_neg (by decide),if_pos (by omega)]
  congr 1
  omega
 unfold atI
 rw [e]
 show (xs ++ [v])[xs.length]? = some v
 simp
def zkh (b:Expr):Prop:=∀ o i,subscripted b false o i=operate [o,i] (getItem o i)
def IxR (X:Cx)(r:R2):Prop:=
 ∀ (value slice:Expr) (pins:List (Addr×Obj)) (s:Shared) (σ:St) (H:Hp) (x y:V) (v u:Value) (Q:VK),Inv X pins σ H s→RelV x v→RelV y u→r x y H Q →
  subscripted slice false v u=operate [v,u] (getItem v u)→wpAny (model X.prog X.w) X.A (subscriptTail value slice v u) (EP X pins σ Q) X.xe s
def MtR (X:Cx)(id:String)(r:V→List V→Hp→VK→Prop):Prop:=
 ∀ (pins:List (Addr×Obj)) (s:Shared) (σ:St) (H:Hp) (x:V) (xs:List V) (v:Value) (us:List Value) (Q:VK),Inv X pins σ H s→RelV x v→Vals xs us→r x xs H Q →
  wpAny (model X.prog X.w) X.A (call (.builtin id) (v :: us)) (EP X pins σ Q) X.xe s
section
variable {X:Cx}{a b:Expr}{ta tb:TE}{pos:Pos}
theorem pe_ix {r:R2}(hr:IxR X r)(ha:PE X a ta)(hb:PE X b tb)(hs:zkh b):PE X (.Subscript a b pos) (tOp r ta tb):=by
 intro pins s σ H Q I h
 exact Subscript_ (binT ha hb I h fun v u s2 x y H2 I2 rx ry q=>hr a b pins s2 σ H2 x y v u Q I2 rx ry q (hs _ _))
inductive rIxL (K:W.Frag)(x:V)(y:V)(H:Hp)(Q:VK):Prop
 | mk (p:_) (xs:_) (i:_) (v:_) (z0_:x = .ref p) (z1_:y = .int i) (z2_:SqL K H p xs) (z3_:atI xs i=some v) (z4_:Q v H)
inductive rIxT (K:W.Frag)(x:V)(y:V)(H:Hp)(Q:VK):Prop
 | mk (p:_) (xs:_) (i:_) (v:_) (z0_:x = .ref p) (z1_:y = .int i) (z2_:SqT K H p xs) (z3_:atI xs i=some v) (z4_:Q v H)
inductive rIxS (x:V)(y:V)(H:Hp)(Q:VK):Prop
 | mk (z:_) (i:_) (c:_) (z0_:x = .str z) (z1_:y = .int i) (z2_:z.length≤sizeLine) (z3_:atI z.cps.toList i=some c) (z4_:Q (.str ⟨#[c]⟩) H)
theorem zal:IxR X (rIxL X.K):=by
 intro value slice pins s σ H x y v u Q I rx ry h hs
 obtain ⟨p,xs,i,z,rfl,rfl,hq,he,q⟩:=h
 cases rx
 obtain ⟨t,rfl⟩:=ry
 obtain ⟨its,r,pl,hz⟩:=I.list hq
 obtain ⟨j,h1,h2,h3,h4,h5⟩:=zht he
 obtain ⟨w,ew,rw'⟩:=r.get h2
 have hl:=r.length
 have hn:=ze3
 have fin:EP X pins σ Q w s:=⟨z,H,I,rw',q⟩
 by_cases h0:0≤i
 ·have hj:i.toNat=j:=by
   rw [seqIndex_of h0 h5] at h1
   exact Option.some.inj h1
  exact item_listR pl.isList h0 (by omega) (by rw [hj];simpa using ew) fin hs
 ·have hj:(i+(its.toArray.size:Int)).toNat=j:=by
   rw [seqIndex_neg (by omega) h4] at h1
   rw [Xan,← hl]
   exact Option.some.inj h1
  exact subscriptTail_builtinR (x:=w) pl.isList.typeIs slot_list_getitem.lookup
   (wpAny_getItem_list_neg (Q:=fun r s'=>r=w∧EP X pins σ Q r s') pl.isList (by omega) (by rw [Xan] <;> omega) (by omega) (by rw [hj];simpa using ew) ⟨rfl,fin⟩) hs
theorem zaA:IxR X (rIxT X.K):=by
 intro value slice pins s σ H x y v u Q I rx ry h hs
 obtain ⟨p,xs,i,z,rfl,rfl,hq,he,q⟩:=h
 cases rx
 obtain ⟨t,rfl⟩:=ry
 obtain ⟨its,r,pl,hz⟩:=I.tuple hq
 obtain ⟨j,h1,h2,h3,h4,h5⟩:=zht he
 obtain ⟨w,ew,rw'⟩:=r.get h2
 have hl:=r.length
 have hn:=ze3
 have fin:EP X pins σ Q w s:=⟨z,H,I,rw',q⟩
 exact subscriptTail_builtinR (x:=w) pl.typeIs slot_tuple_getitem.lookup
  (getItem_tuple (j:=j) (Q:=fun r s'=>r=w∧EP X pins σ Q r s') pl (by omega) (by omega) (by rw [Xan,← hl];exact h1) (by simpa using ew) ⟨rfl,fin⟩) hs
theorem ix_str:IxR X rIxS:=by
 intro value slice pins s σ H x y v u Q I rx ry h hs
 obtain ⟨z,i,c,rfl,rfl,hz,he,q⟩:=h
 obtain ⟨t,rfl⟩:=rx
 obtain ⟨t',rfl⟩:=ry
 obtain ⟨j,h1,h2,h3,h4,h5⟩:=zht he
 have hl:z.cps.toList.length=z.length:=by simp [Str.length]
 rw [hl] at h1 h4 h5
 have hn:=ze3
 exact tail_any (typeIs_str s z t) slot_str_getitem.lookup (getItem_str (c:=c) (by
  have e1:decide (i < -(2 ^ 63:Int))=false:=Xai (by omega)
  have e2:decide (i ≥ 2 ^ 63)=false:=Xai (by omega)
  rw [e1,e2,Bool.or_false]) (by rw [h1];simpa using h2) ⟨.str ⟨#[c]⟩,H,I.tok _,⟨_,rfl⟩,q⟩) hs
theorem zil (its:List Value)(n j:Nat)(u:Value):Obj.mapSeq (·.setIfInBounds j u) { cls:=.type "list",data:=.seq its.toArray n }={ cls:=.type "list",data:=.seq (its.set j u).toArray n }:=by
 simp [Obj.mapSeq]
theorem Inv.lst {pins:List (Addr×Obj)}{σ:St}{H:Hp}{s:Shared}{p:Addr}{xs:List V}(I:Inv X pins σ H s)(h:H p=some (.lst xs)) :
  ∃ (its:List Value) (n:Nat),Vals xs its∧s.heap.get? p=some { cls:=.type "list",data:=.seq its.toArray n }∧xs.length≤sizeLine:=by
 obtain ⟨z,its,n,r,e⟩:=I.hok p _ h
 exact ⟨its,n,r,e,z⟩
theorem Inv.lstUpd {pins:List (Addr×Obj)}{σ:St}{H:Hp}{s:Shared}{p:Addr}{xs ys:List V}{its its':List Value}{n n':Nat}{f:Obj→Obj}(I:Inv X pins σ H s)(h:H p=some (.lst xs))
  (ho:s.heap.get? p=some { cls:=.type "list",data:=.seq its.toArray n }) (hf:f { cls:=.type "list",data:=.seq its.toArray n }={ cls:=.type "list",data:=.seq its'.toArray n' }) (r:Vals ys its') (hz:ys.length≤sizeLine) (t:Nat) :
  Inv X pins σ (upd H p (.lst ys)) { s with heap:=s.heap.update p f,toks:=t }:=by
 have e:(s.heap.update p f).get? p=some { cls:=.type "list",data:=.seq its'.toArray n' }:=by
  rw [XaJ f ho (by rw [hf] <;> rfl),hf]
 refine I.write (x:=p) (e:=p) (by rw [h];trivial) (.inl rfl) (fun b u hb q=>(XaP _ _ (Ne.symm hb)).trans q) ⟨_,e⟩ ?_
 exact ⟨hz,its',n',r,e⟩
inductive rSetL (o:V)(i:V)(v:V)(H:Hp)(Q:(Hp→Prop)):Prop
 | mk (p:_) (xs:_) (k:_) (j:_) (z0_:o = .ref p) (z1_:i = .int k) (z2_:H p=some (.lst xs)) (z3_:ixN xs.length k=some j) (z4_:Q (upd H p (.lst (xs.set j v))))
theorem zfl:PSet X rSetL:=by
 intro pins s σ H o i v ov iv u Q I ro ri rv h
 obtain ⟨p,xs,k,j,rfl,rfl,hp,hj,q⟩:=h
 cases ro
 obtain ⟨t,rfl⟩:=ri
 obtain ⟨its,n,r,ho,hz⟩:=I.lst hp
 obtain ⟨h1,h2,h3,h4⟩:=zjD hj
 have hl:=r.length
 have hn:=ze3
 have I':Inv X pins σ (upd H p (.lst (xs.set j v))) { s with heap:=s.heap.update p (Obj.mapSeq (·.setIfInBounds j u)) }:=
  I.lstUpd hp ho (zil its n j u) (r.set rv j) (by rw [XbP];exact hz) s.toks
 by_cases h0:0≤k
 ·have hk:k.toNat=j:=by
   rw [seqIndex_of h0 h4] at h1
   exact Option.some.inj h1
  exact W.ki_setAt ho h0 (by omega) (by rw [Xan,← hl];exact h4) (by rw [hk];exact ⟨_,I',q⟩)
 ·have hk:(k+(its.toArray.size:Int)).toNat=j:=by
   rw [seqIndex_neg (by omega) h3] at h1
   rw [Xan,← hl]
   exact Option.some.inj h1
  exact W.ki_setBack ho (by omega) (by rw [Xan,← hl];exact h3) (by omega) (by rw [hk];exact ⟨_,I',q⟩)
theorem zfR (lo hi:Option Int)(n:Nat):(sliceBounds lo hi none n).1=((HT.sIx n 0 lo:Nat):Int)∧(sliceBounds lo hi none n).2.1=((HT.sIx n n hi:Nat):Int)∧(sliceBounds lo hi none n).2.2=1:=by
 refine ⟨?_,?_,rfl⟩
 ·cases lo with
  | none=>simp [sliceBounds,HT.sIx]
  | some i =>
   simp only [sliceBounds,HT.sIx,Option.getD_none,show (1:Int) > 0 by decide,if_true]
   by_cases h:i<0
   ·simp only [h,if_true] <;> omega
   ·simp only [h,if_false] <;> omega
 ·cases hi with
  | none=>simp [sliceBounds,HT.sIx]
  | some i =>
   simp only [sliceBounds,HT.sIx,Option.getD_none,show (1:Int) > 0 by decide,if_true]
   by_cases h:i<0
   ·simp only [h,if_true] <;> omega
   ·simp only [h,if_false] <;> omega
theorem zfj (its:List Value)(lo hi:Option Int):slicePick its.toArray lo hi none=((its.drop (HT.sIx its.length 0 lo)).take (HT.sIx its.length its.length hi - HT.sIx its.length 0 lo)).toArray:=by
 obtain ⟨h1,h2,h3⟩:=zfR lo hi its.toArray.size
 unfold slicePick
 rw [h1,h2,h3]
 simp only [sliceRange_one,pick_run,Xan] <;> rfl
inductive rSlL (K:W.Frag)(x:V)(lo:Option Int)(hi:Option Int)(H:Hp)(Q:VK):Prop
 | mk (a:_) (xs:_) (z0_:x = .ref a) (z1_:SqL K H a xs) (z2_:∀ p,H p=none→Q (.ref p) (upd H p (.lst (cutV xs lo hi))))
theorem zea:SlR X (rSlL X.K):=by
 intro pins s σ H x v vl vu lo hi sl Q I rx hs pl pu h
 obtain ⟨a,xs,rfl,hx,q⟩:=h
 cases rx
 obtain ⟨its,r,ht,hz⟩:=I.list hx
 have hlen:=r.length
 refine ⟨"list",_,slot_list_getitem.lookup,ht.isList.typeIs,?_⟩
 refine wpAny_getItem_list_slice ht.isList hs pl pu .none (by simp) ?_ (by rw [Xan] <;> omega)
 rw [zfj,← hlen]
 refine ⟨.ref s.heap.objs.size,_,I.laid (t':=s.toks) (o:=.lst (cutV xs lo hi)) (fun b ob q=>Xab _ q) (Xae _) ?_,rfl,q _ (I.hok.fresh (Xae _))⟩
 exact ⟨Xar (zcV xs lo hi) hz,_,0,(r.drop (HT.sIx xs.length 0 lo)).take (HT.sIx xs.length xs.length hi - HT.sIx xs.length 0 lo),Xaj _ rfl⟩
def zgs:V→Bool
 | .non=>true
 | .bl _=>true
 | .int _=>true
 | .str _=>true
 | _=>false
def eqV:V→V→Bool
 | .non,.non=>true
 | .bl a,.bl b=>a == b
 | .bl a,.int b=>(if a then 1 else 0) == b
 | .int a,.bl b=>a == (if b then 1 else 0)
 | .int a,.int b=>a == b
 | .str a,.str b=>a == b
 | _,_=>false
theorem eqAt_V {A:Around}{s:Shared}{y x:V}{u v:Value}(ry:RelV y u)(rx:RelV x v)(fy:zgs y=true)(fx:zgs x=true):SeqAt.EqAt A s u v (eqV y x):=by
 cases y with
 | non =>
  cases ry
  cases x with
  | non=>cases rx;exact SeqAt.EqAt.same _
  | bl b=>cases rx;exact SeqAt.EqAt.none_bool b
  | int b=>obtain ⟨t,rfl⟩:=rx;exact SeqAt.EqAt.none_int b t
  | str b=>obtain ⟨t,rfl⟩:=rx;exact SeqAt.EqAt.none_str b t
  | _=>exact absurd (show false=true from fx) Xam
 | bl a =>
  cases ry
  cases x with
  | non=>cases rx;exact SeqAt.EqAt.bool_none a
  | bl b=>cases rx;exact SeqAt.EqAt.bool_bool a b
  | int b=>obtain ⟨t,rfl⟩:=rx;exact SeqAt.EqAt.bool_int a b t
  | str b=>obtain ⟨t,rfl⟩:=rx;exact SeqAt.EqAt.bool_str a b t
  | _=>exact absurd (show false=true from fx) Xam
 | int a =>
  obtain ⟨t',rfl⟩:=ry
  cases x with
  | non=>cases rx;exact SeqAt.EqAt.int_none a t'
  | bl b=>cases rx;exact SeqAt.EqAt.int_bool a t' b
  | int b=>obtain ⟨t,rfl⟩:=rx;exact SeqAt.EqAt.int_int a t' b t
  | str b=>obtain ⟨t,rfl⟩:=rx;exact SeqAt.EqAt.int_str a t' b t
  | _=>exact absurd (show false=true from fx) Xam
 | str a =>
  obtain ⟨t',rfl⟩:=ry
  cases x with
  | non=>cases rx;exact SeqAt.EqAt.str_none a t'
  | bl b=>cases rx;exact SeqAt.EqAt.str_bool a t' b
  | int b=>obtain ⟨t,rfl⟩:=rx;exact SeqAt.EqAt.str_int a t' b t
  | str b=>obtain ⟨t,rfl⟩:=rx;exact SeqAt.EqAt.str_str a t' b t
  | _=>exact absurd (show false=true from fx) Xam
 | _=>exact absurd (show false=true from fy) Xam
def eqU (x:V)(u:Value):Bool:=match u with
 | .none=>eqV .non x
 | .bool b=>eqV (.bl b) x
 | .int i _=>eqV (.int i) x
 | .str z _=>eqV (.str z) x
 | _=>false
theorem zlB {x y:V}{u:Value}(r:RelV y u)(f:zgs y=true):eqU x u=eqV y x:=by
 cases y with
 | non=>cases r;rfl
 | bl b=>cases r;rfl
 | int i=>obtain ⟨t,rfl⟩:=r;rfl
 | str z=>obtain ⟨t,rfl⟩:=r;rfl
 | _=>exact absurd (show false=true from f) Xam
theorem zeN {x:V}:∀ {xs:List V} {us:List Value},Vals xs us→xs.all zgs=true→us.any (eqU x)=xs.any fun y=>eqV y x
 | _,_,.nil,_=>rfl
 | y :: xs,u :: us,.cons r t,f=>by
  rw [List.all_cons,XaT] at f
  rw [List.any_cons,List.any_cons,zlB r f.1,zeN t f.2]
theorem zc4 {A:Around}{s:Shared}{x:V}{v:Value}(rx:RelV x v)(fx:zgs x=true):∀ {xs:List V} {us:List Value},Vals xs us→xs.all zgs=true→∀ u∈us,SeqAt.EqAt A s u v (eqU x u)
 | _,_,.nil,_=>fun u hu=>by cases hu
 | y :: xs,u :: us,.cons r t,f=>fun u' hu=>by
  rw [List.all_cons,XaT] at f
  rcases Xao.mp hu with rfl | hu
  ·rw [zlB r f.1];exact eqAt_V r rx f.1 fx
  ·exact zc4 rx fx t f.2 u' hu
def inV (x:V)(xs:List V):Bool:=xs.any fun y=>eqV y x
inductive rIn (K:W.Frag)(neg:Bool)(x:V)(y:V)(H:Hp)(Q:VK):Prop
 | mk (p:_) (xs:_) (z0_:y = .ref p) (z1_:(SqL K H p xs∨SqT K H p xs)) (z2_:zgs x=true) (z3_:xs.all zgs=true) (z4_:Q (.bl (if neg then !inV x xs else inV x xs)) H)
theorem zjn:OpR X (compareOp .In) (rIn X.K false):=by
 intro pins s σ H x y v u Q I rx ry h
 obtain ⟨p,xs,rfl,hq,fx,fs,q⟩:=h
 cases ry
 rcases hq with hq | hq
 ·obtain ⟨its,r,pl,hz⟩:=I.list hq
  refine SeqAt.in_listAt (eqU x) pl.isList (fun w hw=>zc4 rx fx r fs w (by simpa using hw)) ⟨.bl _,H,I,rfl,?_⟩
  rw [show its.toArray.any (eqU x)=its.any (eqU x) by simp,zeN r fs]
  exact q
 ·obtain ⟨its,r,pl,hz⟩:=I.tuple hq
  refine SeqAt.in_tupleAt (eqU x) pl (fun w hw=>zc4 rx fx r fs w (by simpa using hw)) ⟨.bl _,H,I,rfl,?_⟩
  rw [show its.toArray.any (eqU x)=its.any (eqU x) by simp,zeN r fs]
  exact q
theorem zf4:OpR X (compareOp .NotIn) (rIn X.K true):=by
 intro pins s σ H x y v u Q I rx ry h
 obtain ⟨p,xs,rfl,hq,fx,fs,q⟩:=h
 cases ry
 rcases hq with hq | hq
 ·obtain ⟨its,r,pl,hz⟩:=I.list hq
  refine SeqAt.notIn_listAt (eqU x) pl.isList (fun w hw=>zc4 rx fx r fs w (by simpa using hw)) ⟨.bl _,H,I,rfl,?_⟩
  rw [show its.toArray.any (eqU x)=its.any (eqU x) by simp,zeN r fs]
  exact q
 ·obtain ⟨its,r,pl,hz⟩:=I.tuple hq
  refine SeqAt.notIn_tupleAt (eqU x) pl (fun w hw=>zc4 rx fx r fs w (by simpa using hw)) ⟨.bl _,H,I,rfl,?_⟩
  rw [show its.toArray.any (eqU x)=its.any (eqU x) by simp,zeN r fs]
  exact q
theorem zar:zdc X (.builtin "len") (fun xs H Q=>∃ p ys,xs=[.ref p]∧(SqL X.K H p ys∨SqT X.K H p ys)∧Q (.int ys.length) H):=by
 intro pins s σ H xs us Q I r h
 obtain ⟨p,ys,rfl,hq,q⟩:=h
 obtain ⟨u,rfl,rx⟩:=zdL r
 cases rx
 have hn:=ze3
 rcases hq with hq | hq
 ·obtain ⟨its,r',pl,hz⟩:=I.list hq
  have hlen:=r'.length
  exact Calls.call_len_list pl.isList (by simp only [Xan] <;> omega) ⟨.int ys.length,H,I.tok _,⟨s.toks+1,by rw [Xan,hlen]⟩,q⟩
 ·obtain ⟨its,r',pl,hz⟩:=I.tuple hq
  have hlen:=r'.length
  exact len_tuple pl (by simp only [Xan] <;> omega) ⟨.int ys.length,H,I.tok _,⟨s.toks+1,by rw [Xan,hlen]⟩,q⟩
theorem zbb:zdc X (.type "list") (fun xs H Q=>∃ p ys,xs=[.ref p]∧(SqL X.K H p ys∨SqT X.K H p ys)∧∀ l,H l=none→Q (.ref l) (upd H l (.lst ys))):=by
 intro pins s σ H xs us Q I r h
 obtain ⟨p,ys,rfl,hq,q⟩:=h
 obtain ⟨u,rfl,rx⟩:=zdL r
 cases rx
 have fin:∀ (its:List Value),Vals ys its→ys.length≤sizeLine→∀ (h':Heap) (c':Nat),(∀ b o',s.heap.get? b=some o'→h'.get? b=some o') →
   h'.get? s.heap.objs.size=some { cls:=.type "list",dict:=none,data:=.seq its.toArray c',slots:=#[] }→EP X pins σ Q (.ref s.heap.objs.size) { s with heap:=h' }:=fun its r' hz h' c' kp e =>
  ⟨.ref s.heap.objs.size,_,I.laid (t':=s.toks) kp (Xae _) (show ObjOk X.prog X.w _ h' _ (.lst ys) from ⟨hz,its,c',r',e⟩),rfl,q _ (I.hok.fresh (Xae _))⟩
 rcases hq with hq | hq
 ·obtain ⟨its,r',pl,hz⟩:=I.list hq
  have hlen:=r'.length
  obtain ⟨o,ho,hc,n,hd⟩:=pl.isList
  exact call_list_seq p (.inl rfl) ho hc hd (fun h' c' kp e=>fin its r' hz h' c' kp e) (by simp only [Xan] <;> omega)
 ·obtain ⟨its,r',pl,hz⟩:=I.tuple hq
  have hlen:=r'.length
  obtain ⟨o,ho,hc,n,hd⟩:=pl
  exact call_list_seq p (.inr rfl) ho hc hd (fun h' c' kp e=>fin its r' hz h' c' kp e) (by simp only [Xan] <;> omega)
theorem zb6:zdc X (.type "tuple") (fun xs H Q=>∃ p ys,xs=[.ref p]∧((SqL X.K H p ys∧∀ l,H l=none→Q (.ref l) (upd H l (.tup ys)))∨(SqT X.K H p ys∧Q (.ref p) H))):=by
 intro pins s σ H xs us Q I r h
 obtain ⟨p,ys,rfl,h⟩:=h
 obtain ⟨u,rfl,rx⟩:=zdL r
 cases rx
 rcases h with ⟨hq,q⟩ | ⟨hq,q⟩
 ·obtain ⟨its,r',pl,hz⟩:=I.list hq
  have hlen:=r'.length
  refine call_tuple_list pl.isList (fun h' kp=>?_) (by simp only [Xan] <;> omega)
  have I1:Inv X pins σ H { s with heap:=h' }:=I.kept (t':=s.toks) kp
  have I2:Inv X pins σ (upd H h'.objs.size (.tup ys)) { s with heap:=h'.push { cls:=.type "tuple",data:=.seq its.toArray } }:=
   I1.laid (t':=s.toks) (fun b o e=>Xab _ e) (Xae _) (show ObjOk X.prog X.w _ _ _ (.tup ys) from ⟨⟨hz,_,Xaj _ rfl,rfl⟩,its,r',IsTup.new _ _⟩)
  exact ⟨.ref h'.objs.size,_,I2,rfl,q _ (I1.hok.fresh (Xae _))⟩
 ·obtain ⟨its,r',pl,hz⟩:=I.tuple hq
  exact call_tuple_same pl ⟨.ref p,H,I,rfl,q⟩
def tyV (K:W.Frag)(T:String)(x:V)(H:Hp):Prop:=match x with
 | .str _=>T = "str"
 | .int _=>T = "int"
 | .ref p=>(T = "list" ∧ ∃ xs,SqL K H p xs)∨(T = "tuple" ∧ ∃ o,K.lookup p=some o∧o.cls = .type "tuple" ∧ o.dict=none) ∨
   (T = "dict" ∧ ((∃ kvs,H p=some (.dK kvs))∨∃ kvs,H p=some (.dT kvs)))∨(T = "set" ∧ ∃ S n,H p=some (.set S n))
 | _=>False
theorem zle {pins:List (Addr×Obj)}{σ:St}{H:Hp}{s:Shared}{T:String}{x:V}{v:Value}(I:Inv X pins σ H s)(r:RelV x v)(ty:tyV X.K T x H) :
  s.TypeIs v T∧∀ a,v = .ref a→∃ ob,s.heap.get? a=some ob∧ob.dict=none:=by
 cases x with
 | str z =>
  obtain ⟨t,rfl⟩:=r
  cases (show T = "str" from ty)
  exact ⟨typeIs_str s z t,fun _ e=>nomatch e⟩
 | int i =>
  obtain ⟨t,rfl⟩:=r
  cases (show T = "int" from ty)
  exact ⟨typeIs_int s i t,fun _ e=>nomatch e⟩
 | ref p =>
  cases r
  rcases ty with ⟨rfl,xs,hq⟩ | ⟨rfl,o,hk,hc,hd⟩ | ⟨rfl,hk⟩ | ⟨rfl,S,n,hk⟩
  ·obtain ⟨its,_,pl,_⟩:=I.list hq
   refine ⟨pl.isList.typeIs,fun a e=>?_⟩
   cases e
   obtain ⟨o,n,e,c,hd,_⟩:=pl
   exact ⟨o,e,hd⟩
  ·refine ⟨⟨o,I.kIn p o hk,hc⟩,fun a e=>?_⟩
   cases e
   exact ⟨o,I.kIn _ o hk,hd⟩
  ·have z:∃ o,s.heap.get? p=some o∧o.ExactDict:=by
    rcases hk with ⟨kvs,hk⟩ | ⟨kvs,hk⟩
    ·obtain ⟨_,_,_,_,o,_,_,e,ex,_⟩:=I.hok p _ hk
     exact ⟨o,e,ex⟩
    ·obtain ⟨_,_,_,_,o,_,_,e,ex,_⟩:=I.hok p _ hk
     exact ⟨o,e,ex⟩
   obtain ⟨o,e,ex⟩:=z
   refine ⟨⟨o,e,ex.1⟩,fun a e2=>?_⟩
   cases e2
   exact ⟨o,e,ex.2.1⟩
  ·obtain ⟨o,_,_,_,e,ex,_⟩:=I.hok p _ hk
   refine ⟨⟨o,e,ex.1⟩,fun a e2=>?_⟩
   cases e2
   exact ⟨o,e,ex.2.1⟩
 | _=>exact False.elim ty
def tBM0 (K:W.Frag)(T:String)(r:V→List V→Hp→VK→Prop)(to:TE):TE:=fun σ H Q=>to σ H fun x H1=>tyV K T x H1∧r x [] H1 Q
def tBM (K:W.Frag)(T:String)(r:V→List V→Hp→VK→Prop)(to:TE)(t:TA):TE:=fun σ H Q=>to σ H fun x H1=>tyV K T x H1∧t σ H1 fun xs H2=>r x xs H2 Q
variable {o e:Expr}{es:List Expr}{to:TE}{t:TA}{name:Str}{apos cpos:Pos}{T id:String}{r:V→List V→Hp→VK→Prop}
theorem zf2 (pa:PlainAttrs T)(slot:Slot T name id)(hty:typeOf (.builtin id)=pure (.type "method_descriptor"))(hm:MtR X id r)(ho:PE X o to)
  (hbase:attributeBase o name X.env (eval o X.env)=eval o X.env:=by rfl) (hline:(apos.endLine == cpos.line)=true:=by rfl):PE X (.Call (.Attribute o name apos) [] [] cpos) (tBM0 X.K T r to):=by
 intro pins s σ H Q I h
 refine wpAny_Call_method0_late hbase hline (thn (ho pins s σ H _ I h) fun v s1 hh_=>?_)
 obtain ⟨x,H1,I1,r1,ty,q1⟩:=hh_
 obtain ⟨h1,h2⟩:=zle I1 r1 ty
 exact ⟨T,id,pa,slot,hty,h1,h2,Calls.callWith_builtin rfl (PySem.evalArgs_none (hm pins s1 σ H1 x [] v [] Q I1 r1 .nil q1))⟩
theorem zdy (pa:PlainAttrs T)(slot:Slot T name id)(hty:typeOf (.builtin id)=pure (.type "method_descriptor"))(hm:MtR X id r)(ho:PE X o to)(ha:PA X (e :: es) t)
  (hbase:attributeBase o name X.env (eval o X.env)=eval o X.env:=by rfl)
  (hfew:((backTo cpos (starEach (e :: es) X.env)).all (fun x=>!x.1) && (backToKw cpos (keywordEach [] X.env)).all (fun x=>x.1.isSome)
   && decide ((e :: es).length+([]:List Keyword).length+(if ([]:List Keyword).isEmpty then 0 else 1)<30))=true:=by rfl)
  (hline:(apos.endLine == cpos.line)=true:=by rfl) (hs:starEach (e :: es) X.env=(false,eval e X.env) :: starEach es X.env:=by rfl) (hplain:(backTo cpos (starEach es X.env)).any (·.1)=false:=by rfl) :
  PE X (.Call (.Attribute o name apos) (e :: es) [] cpos) (tBM X.K T r to t):=by
 intro pins s σ H Q I h
 refine wpAny_Call_method_late hbase hfew hline rfl (thn (ho pins s σ H _ I h) fun v s1 hh_=>?_)
 obtain ⟨x,H1,I1,r1,ty,q1⟩:=hh_
 obtain ⟨h1,h2⟩:=zle I1 r1 ty
 refine ⟨T,id,pa,slot,hty,h1,h2,?_⟩
 have hA:=ha cpos pins s1 σ H1 _ I1 q1
 rw [hs] at hA ⊢
 refine Calls.callWith_builtin (by show (false || (backTo cpos (starEach es X.env)).any (·.1))=false;rw [hplain] <;> rfl) (Calls.evalArgs_plain ?_)
 exact thn hA fun us s2 ⟨vs,H2,I2,r2,q2⟩=>hm pins s2 σ H2 x vs v us Q I2 r1 r2 q2
end
def MtM (X:Cx)(id:String)(r:V→List V→Hp→VK→Prop):Prop:=
 ∀ (pins:List (Addr×Obj)) (s:Shared) (σ:St) (H:Hp) (x:V) (xs:List V) (v:Value) (us:List Value) (Q:VK),Inv X pins σ H s→RelV x v→Vals xs us→r x xs H Q →
  wpAny (model X.prog X.w) X.A (call (.builtin id) (v :: us)) (EP X pins σ Q) X.xe s
theorem Vals.one:∀ {x:V} {us:List Value},Vals [x] us→∃ u,us=[u]∧RelV x u
 | _,_,.cons r .nil=>⟨_,rfl,r⟩
theorem Vals.zero:∀ {us:List Value},Vals [] us→us=[]
 | _,.nil=>rfl
theorem Vals.reverse {xs:List V}{us:List Value}(h:Vals xs us):Vals xs.reverse us.reverse:=by
 induction h with
 | nil=>exact .nil
 | cons r t ih=>rw [List.reverse_cons,List.reverse_cons];exact Vals.append ih (.cons r .nil)
theorem Vals.rep {xs:List V}{us:List Value}(h:Vals xs us):∀ k:Nat,Vals (List.replicate k xs).flatten (List.replicate k us).flatten
 | 0=>.nil
 | k+1=>by
  rw [Xa1,Xa1,List.flatten_cons,List.flatten_cons]
  exact Vals.append h (Vals.rep h k)
theorem zgr (its:List Value):∀ (k:Nat) (acc:List Value),
  List.foldl (fun x1 x2=>x1 ++ x2) acc.toArray (List.replicate k its.toArray)=(acc ++ (List.replicate k its).flatten).toArray
 | 0,acc=>by simp
 | k+1,acc=>by
  have e:acc.toArray ++ its.toArray=(acc ++ its).toArray:=by simp
  have e2:(acc ++ its) ++ (List.replicate k its).flatten=acc ++ (List.replicate (k+1) its).flatten:=by
   rw [Xa1,List.flatten_cons,List.append_assoc]
  rw [← e2,← zgr its k (acc ++ its),← e,Xa1,List.foldl_cons]
section
variable {X:Cx}{pins:List (Addr×Obj)}{σ:St}{H:Hp}{s:Shared}{l b:Addr}{xs ys zs:List V}
theorem Inv.lset {its its':List Value}{n:Nat}{f:Array Value→Array Value}{t':Nat}(I:Inv X pins σ H s)(hH:H l=some (.lst xs))
  (e:s.heap.get? l=some { cls:=.type "list",data:=.seq its.toArray n }) (hf:f its.toArray=its'.toArray) (hv:Vals ys its') (hz:ys.length≤sizeLine) :
  Inv X pins σ (upd H l (.lst ys)) { s with heap:=s.heap.update l (Obj.mapSeq f),toks:=t' }:=by
 have q:=PySem.IsL.update e f
 rw [hf] at q
 refine I.write (x:=l) (e:=l) (by rw [hH];exact trivial) (.inl rfl) (fun b' u hb hu=>(XaP s.heap (Obj.mapSeq f) (Ne.symm hb)).trans hu) ⟨_,q⟩ ?_
 exact ⟨hz,its',_,hv,q⟩
theorem Inv.lnew {its:List Value}{t':Nat}(I:Inv X pins σ H s)(hv:Vals ys its)(hz:ys.length≤sizeLine) :
  Inv X pins σ (upd H s.heap.objs.size (.lst ys)) { s with heap:=s.heap.push { cls:=.type "list",data:=.seq its.toArray },toks:=t' }:=
 I.laid (fun _ _ q=>Xab _ q) (Xae _) ⟨hz,its,0,hv,Xaj _ rfl⟩
theorem Inv.fresh (I:Inv X pins σ H s):H s.heap.objs.size=none:=I.hok.fresh (Xae _)
theorem Inv.lstM (I:Inv X pins σ H s)(hH:H l=some (.lst xs)):xs.length≤sizeLine∧∃ (its:List Value) (n:Nat),Vals xs its∧xs.length=its.length∧s.heap.get? l=some { cls:=.type "list",data:=.seq its.toArray n }:=by
 obtain ⟨z,its,n,r,e⟩:=I.hok l _ hH
 exact ⟨z,its,n,r,r.length,e⟩
theorem zkO {n:Nat}(h:n≤sizeLine):Builtin.List.listTooLong n=false:=by
 unfold Builtin.List.listTooLong
 exact Xai (by omega)
end
section
variable {X:Cx}
inductive rAppend (x:V)(vs:List V)(H:Hp)(Q:VK):Prop
 | mk (l:_) (xs:_) (y:_) (z0_:x = .ref l) (z1_:vs=[y]) (z2_:H l=some (.lst xs)) (z3_:xs.length<sizeLine) (z4_:Q .non (upd H l (.lst (xs ++ [y]))))
theorem zaN:MtM X "list.append" rAppend:=by
 intro pins s σ H x vs v us Q I rx rv h
 obtain ⟨l,xs,y,rfl,rfl,hH,hz,q⟩:=h
 cases rx
 obtain ⟨u,rfl,ru⟩:=rv.one
 obtain ⟨z,its,n,r,hl,e⟩:=I.lstM hH
 refine call_meets F.slot_list_append ⟨_,e,rfl⟩ F.entry_list_append (F.args_list_append_2 _ _) (PySem.list_append l its.toArray n u (by rw [Xan];omega)) ⟨e,?_⟩
 refine ⟨.non,_,I.lset (its':=its ++ [u]) hH e (by simp) (r.append (.cons ru .nil)) ?_,rfl,q⟩
 rw [Xaq,List.length_singleton]
 omega
inductive rReverse (x:V)(vs:List V)(H:Hp)(Q:VK):Prop
 | mk (l:_) (xs:_) (z0_:x = .ref l) (z1_:vs=[]) (z2_:H l=some (.lst xs)) (z3_:Q .non (upd H l (.lst xs.reverse)))
theorem zik:MtM X "list.reverse" rReverse:=by
 intro pins s σ H x vs v us Q I rx rv h
 obtain ⟨l,xs,rfl,rfl,hH,q⟩:=h
 cases rx
 have hus:=rv.zero
 subst hus
 obtain ⟨z,its,n,r,hl,e⟩:=I.lstM hH
 refine call_meets F.slot_list_reverse ⟨_,e,rfl⟩ F.entry_list_reverse (F.args_list_reverse_1 _) (AutoSeq1.list_reverse_list_0 l its.toArray n (by rw [Xan];omega)) ⟨e,?_⟩
 refine ⟨.non,_,I.lset (its':=its.reverse) hH e (by simp) r.reverse ?_,rfl,q⟩
 rw [List.length_reverse]
 omega
inductive rClear (x:V)(vs:List V)(H:Hp)(Q:VK):Prop
 | mk (l:_) (xs:_) (z0_:x = .ref l) (z1_:vs=[]) (z2_:H l=some (.lst xs)) (z3_:Q .non (upd H l (.lst [])))
theorem zfF:MtM X "list.clear" rClear:=by
 intro pins s σ H x vs v us Q I rx rv h
 obtain ⟨l,xs,rfl,rfl,hH,q⟩:=h
 cases rx
 have hus:=rv.zero
 subst hus
 obtain ⟨z,its,n,r,hl,e⟩:=I.lstM hH
 refine call_meets F.slot_list_clear ⟨_,e,rfl⟩ F.entry_list_clear (F.args_list_clear_1 _) (AutoSeq1.list_clear_list_0 l its.toArray n (by rw [Xan];omega)) ⟨e,?_⟩
 exact ⟨.non,_,I.lset (its':=[]) (ys:=[]) hH e rfl .nil (Nat.zero_le _),rfl,q⟩
inductive rRep (x:V)(y:V)(H:Hp)(Q:VK):Prop
 | mk (l:_) (k:_) (xs:_) (z0_:x = .ref l) (z1_:y = .int k) (z2_:H l=some (.lst xs)) (z3_:-(2 ^ 63)≤k) (z4_:k<2 ^ 63) (z5_:xs.length * k.toNat≤sizeLine) (z6_:∀ p,H p=none→Q (.ref p) (upd H p (.lst (List.replicate k.toNat xs).flatten)))
theorem zmy {α:Type}(xs:List α)(k:Nat):(List.replicate k xs).flatten.length=k * xs.length:=by
 induction k with
 | zero=>simp
 | succ k ih=>rw [Xa1,List.flatten_cons,Xaq,ih,Nat.succ_mul,Nat.add_comm]
theorem zlr:OpR X (binaryOp .Mult) rRep:=by
 intro pins s σ H x y v u Q I rx ry h
 obtain ⟨l,k,xs,rfl,rfl,hH,h1,h2,hz,q⟩:=h
 cases rx
 obtain ⟨t,rfl⟩:=ry
 obtain ⟨z,its,n,r,hl,e⟩:=I.lstM hH
 have hlen:its.toArray.size * k.toNat≤sizeLine:=by rw [Xan,← hl];exact hz
 have hcap:¬ its.toArray.size * k.toNat > (2 ^ 63 - 1) / 8:=by
  have:(sizeLine:Nat)≤(2 ^ 63 - 1) / 8:=by decide
  omega
 have hfit:¬ (!Builtin.List.listFitsIndex k)=true:=by
  rw [fitsIndex_both h1 h2]
  exact Xam
 have hlong:¬ Builtin.List.listTooLong (its.toArray.size * k.toNat)=true:=by
  rw [zkO hlen]
  exact Xam
 have hnew:List.foldl (fun x1 x2=>x1 ++ x2) #[] (List.replicate (if its.toArray.isEmpty=true then 0 else k.toNat) its.toArray)=(List.replicate k.toNat its).flatten.toArray:=by
  have f0:∀ m:Nat,List.foldl (fun x1 x2=>x1 ++ x2) #[] (List.replicate m its.toArray)=(List.replicate m its).flatten.toArray:=fun m=>by
   have:=zgr its m []
   rw [List.nil_append] at this
   exact this
  rw [f0]
  cases its with
  | nil=>simp
  | cons a r'=>rw [if_neg (by simp)]
 refine wpAny_binaryOp_repeat_ref (T := "list") (U := "int") (by decide) ⟨_,e,rfl⟩ (fun s'=>typeIs_int s' k t) noFill_list_mul F.fills_int_mul F.slot_int_rmul repeat_list F.slot_int_index.lookup
  (call_meets F.slot_int_rmul (typeIs_int s k t) F.entry_int_rmul (F.args_int_rmul_2 _ _) (int___rmul___int_list k t l its.toArray n)
   ⟨e,rfl,⟨_,e,rfl⟩,call_meets F.slot_list_mul ⟨_,e,rfl⟩ F.entry_list_mul (F.args_list_mul_2 _ _) (AutoListH.list___mul___list_int_3 l its.toArray n k t hfit hcap hlong) ⟨e,?_⟩⟩)
 rw [hnew]
 exact ⟨.ref _,_,I.lnew (t':=s.toks) (r.rep k.toNat) (by rw [zmy,Nat.mul_comm];exact hz),rfl,q _ I.fresh⟩
end
section
variable {prog:Program}{w:World}{A:Around}{E:Value→Shared→Prop}{s:Shared}
end
section
variable {X:Cx}
end
section
variable {κ:Type}[DecidableEq κ]
def valV (kvs:List (κ×V))(k:κ):Option V:=(kvs.find? fun kv=>decide (kv.1=k)).map (·.2)
def putK (kvs:List (κ×V))(k:κ)(v:V):List (κ×V):=
 if (kvs.any fun kv=>decide (kv.1=k))=true then kvs.map (fun kv=>if kv.1=k then (kv.1,v) else kv) else kvs ++ [(k,v)]
theorem zaT {p:κ×V}{r:List (κ×V)}{k:κ}(e:p.1=k):valV (p :: r) k=some p.2:=by simp [valV,List.find?_cons,e]
theorem zaY {p:κ×V}{r:List (κ×V)}{k:κ}(e:¬ p.1=k):valV (p :: r) k=valV r k:=by simp [valV,List.find?_cons,e]
theorem zbT (k:κ):∀ kvs:List (κ×V),(kvs.any fun kv=>decide (kv.1=k))=(valV kvs k).isSome
 | []=>rfl
 | p :: r=>by
  rw [List.any_cons]
  by_cases e:p.1=k
  ·simp only [zaT e,Xah e,Bool.true_or,Option.isSome_some]
  ·rw [zaY e,Xai e,Bool.false_or];exact zbT k r
theorem zhw (k j:κ)(y:V):∀ kvs:List (κ×V),valV (kvs.map fun kv=>if kv.1=k then (kv.1,y) else kv) j=(valV kvs j).map fun x=>if j=k then y else x
 | []=>rfl
 | p :: r=>by
  have ih:=zhw k j y r
  rw [Xaz]
  by_cases h:p.1=k
  ·rw [if_pos h]
   by_cases e:p.1=j
   ·rw [zaT (p:=(p.1,y)) e,zaT e,Option.map_some,if_pos (e.symm.trans h)]
   ·rw [zaY (p:=(p.1,y)) e,zaY e,ih]
  ·rw [if_neg h]
   by_cases e:p.1=j
   ·rw [zaT (p:=p) e,zaT e,Option.map_some,if_neg (fun z=>h (e.trans z))]
   ·rw [zaY (p:=p) e,zaY e,ih]
theorem zfP (k j:κ)(y:V):∀ kvs:List (κ×V),valV kvs k=none→valV (kvs ++ [(k,y)]) j=if j=k then some y else valV kvs j
 | [],_=>by
  by_cases e:k=j
  ·rw [if_pos e.symm];exact zaT (p:=(k,y)) e
  ·rw [if_neg (fun z=>e z.symm)];exact zaY (p:=(k,y)) e
 | p :: r,hn=>by
  rw [List.cons_append]
  have hk:¬ p.1=k:=fun z=>by rw [zaT z] at hn;cases hn
  rw [zaY hk] at hn
  have ih:=zfP k j y r hn
  by_cases e:p.1=j
  ·rw [zaT e,zaT e,if_neg (fun z=>hk (e.trans z))]
  ·rw [zaY e,zaY e,ih]
theorem zko (kvs:List (κ×V))(k j:κ)(y:V):valV (putK kvs k y) j=if j=k then some y else valV kvs j:=by
 unfold putK
 by_cases a:(kvs.any fun kv=>decide (kv.1=k))=true
 ·rw [if_pos a,zhw]
  rw [zbT] at a
  by_cases e:j=k
  ·obtain ⟨x,hx⟩:=Option.isSome_iff_exists.mp a
   rw [if_pos e,e,hx,Option.map_some,if_pos rfl]
  ·rw [if_neg e]
   cases valV kvs j with
   | none=>rfl
   | some x=>rw [Option.map_some,if_neg e]
 ·rw [if_neg a]
  refine zfP k j y kvs ?_
  rw [zbT] at a
  cases q:valV kvs k with
  | none=>rfl
  | some x=>rw [q] at a;exact (a rfl).elim
theorem zeE (kvs:List (κ×V))(k:κ)(v:V):(putK kvs k v).length≤kvs.length+1:=by
 unfold putK
 split
 ·rw [Xaf];omega
 ·rw [Xaq,Xau,XaY];omega
theorem zkC {kvs:List (κ×V)}{k:κ}(v:V)(h:valV kvs k=none):putK kvs k v=kvs ++ [(k,v)]:=by
 unfold putK
 rw [zbT,h]
 exact if_neg (by decide)
theorem RelO.isSome_eq {o:Option V}{u:Option Value}(r:RelO o u):o.isSome=u.isSome:=by
 cases o with
 | none=>cases u with
  | none=>rfl
  | some _=>exact (show False from r).elim
 | some _=>cases u with
  | none=>exact (show False from r).elim
  | some _=>rfl
theorem RelO.getD {o:Option V}{u:Option Value}{d:V}{d':Value}(r:RelO o u)(rd:RelV d d'):RelV (o.getD d) (u.getD d'):=by
 cases o with
 | none=>cases u with
  | none=>exact rd
  | some _=>exact (show False from r).elim
 | some _=>cases u with
  | none=>exact (show False from r).elim
  | some _=>exact r
theorem KV.val {kvs:List (κ×V)}{vs:List (κ×Value)}(r:KV kvs vs)(k:κ):RelO (valV kvs k) (valueAt vs k):=by
 unfold KV at r
 induction r with
 | nil=>exact True.intro
 | @cons p q ps qs h t ih =>
  obtain ⟨h1,h2⟩:=h
  by_cases e:p.1=k
  ·have e':q.1=k:=h1.symm.trans e
   have b:valueAt (q :: qs) k=some q.2:=by simp [valueAt,List.find?_cons,e']
   rw [zaT e,b];exact h2
  ·have e':¬ q.1=k:=fun z=>e (h1.trans z)
   have b:valueAt (q :: qs) k=valueAt qs k:=by simp [valueAt,List.find?_cons,e']
   rw [zaY e,b];exact ih
theorem KV.any {kvs:List (κ×V)}{vs:List (κ×Value)}(r:KV kvs vs)(k:κ):(kvs.any fun kv=>decide (kv.1=k))=vs.any fun kv=>decide (kv.1=k):=by
 unfold KV at r
 induction r with
 | nil=>rfl
 | cons h t ih=>rw [List.any_cons,List.any_cons,ih,h.1]
theorem KV.repl {kvs:List (κ×V)}{vs:List (κ×Value)}(r:KV kvs vs)(k:κ){y:V}{u:Value}(ry:RelV y u) :
  KV (kvs.map fun kv=>if kv.1=k then (kv.1,y) else kv) (vs.map fun kv=>if kv.1=k then (kv.1,u) else kv):=by
 unfold KV at r ⊢
 induction r with
 | nil=>exact .nil
 | @cons p q ps qs h t ih =>
  rw [Xaz,Xaz]
  refine .cons ?_ ih
  obtain ⟨h1,h2⟩:=h
  by_cases e:p.1=k
  ·rw [if_pos e,if_pos (h1.symm.trans e)];exact ⟨h1,ry⟩
  ·rw [if_neg e,if_neg (fun z=>e (h1.trans z))];exact ⟨h1,h2⟩
theorem KV.put {kvs:List (κ×V)}{vs:List (κ×Value)}(r:KV kvs vs)(k:κ){y:V}{u:Value}(ry:RelV y u):KV (putK kvs k y) (stored vs k u):=by
 unfold putK stored
 rw [r.any k]
 by_cases e:(vs.any fun kv=>decide (kv.1=k))=true
 ·rw [if_pos e,if_pos e];exact r.repl k ry
 ·rw [if_neg e,if_neg e];exact Paired.snoc r ⟨rfl,ry⟩
theorem KV.length {kvs:List (κ×V)}{vs:List (κ×Value)}(r:KV kvs vs):kvs.length=vs.length:=Paired.length r
end
theorem zhn {P:Program}{w:World}{k:Key}{u:Value}(r:RelV (kV k) u):(zaE P w).is k u=true:=by
 cases k with
 | inl i=>obtain ⟨t,e⟩:=(show ∃ t,u=Value.int i t from r);subst e;exact zhi P w i t
 | inr x=>obtain ⟨t,e⟩:=(show ∃ t,u=Value.str x t from r);subst e;exact zhh P w x t
theorem zgm {P:Program}{w:World}:∀ {ks:List Key} {us:List Value},Vals (ks.map kV) us→ItemsAre (zaE P w) ks us
 | [],_,r=>by rw [List.map_nil] at r;cases r;exact .nil
 | k :: ks,_,r=>by
  rw [Xaz] at r
  cases r with
  | cons h t=>exact .cons (zhn h) (zgm t)
abbrev KT (H:Hp):List (List Key×V)→List (List Key×Addr×Value)→Prop:=Paired fun p q=>p.1=q.1∧H q.2.1=some (.tup (p.1.map kV))∧RelV p.2 q.2.2
theorem KT.val {H:Hp}{kvs:List (List Key×V)}{xs:List (List Key×Addr×Value)}(r:KT H kvs xs)(k:List Key):RelO (valV kvs k) ((atKey xs k).map (·.2)):=by
 induction r with
 | nil=>exact True.intro
 | @cons p q ps qs h t ih =>
  obtain ⟨h1,_,h2⟩:=h
  by_cases e:p.1=k
  ·have e':q.1=k:=h1.symm.trans e
   have b:atKey (q :: qs) k=some q.2:=by simp [atKey,List.find?_cons,e']
   rw [zaT e,b];exact h2
  ·have e':¬ q.1=k:=fun z=>e (h1.trans z)
   have b:atKey (q :: qs) k=atKey qs k:=by simp [atKey,List.find?_cons,e']
   rw [zaY e,b];exact ih
theorem KT.repl {H:Hp}{kvs:List (List Key×V)}{xs:List (List Key×Addr×Value)}(r:KT H kvs xs)(k:List Key){y:V}{u:Value}(ry:RelV y u) :
  KT H (kvs.map fun kv=>if kv.1=k then (kv.1,y) else kv) (xs.map (putAt k u)):=by
 induction r with
 | nil=>exact .nil
 | @cons p q ps qs h t ih =>
  rw [Xaz,Xaz]
  refine .cons ?_ ih
  obtain ⟨h1,h2,h3⟩:=h
  unfold putAt
  by_cases e:p.1=k
  ·rw [if_pos e,if_pos (h1.symm.trans e)];exact ⟨h1,h2,ry⟩
  ·rw [if_neg e,if_neg (fun z=>e (h1.trans z))];exact ⟨h1,h2,h3⟩
theorem KT.put {H:Hp}{kvs:List (List Key×V)}{xs:List (List Key×Addr×Value)}(r:KT H kvs xs)(k:List Key){b:Addr}{y:V}{u:Value}(hb:H b=some (.tup (k.map kV)))(ry:RelV y u) :
  KT H (putK kvs k y) (storedH xs k b u):=by
 have e:(kvs.any fun kv=>decide (kv.1=k))=(atKey xs k).isSome:=by
  rw [zbT,(r.val k).isSome_eq,Option.isSome_map]
 unfold putK storedH
 rw [e]
 by_cases q:(atKey xs k).isSome=true
 ·rw [if_pos q,if_pos q];exact r.repl k ry
 ·rw [if_neg q,if_neg q];exact Paired.snoc r ⟨rfl,hb,ry⟩
theorem KT.keeps {H H':Hp}{kvs:List (List Key×V)}{xs:List (List Key×Addr×Value)}(r:KT H kvs xs)(ht:∀ b ys,H b=some (.tup ys)→H' b=some (.tup ys)):KT H' kvs xs:=
 Paired.mapP r fun _ _ z=>⟨z.1,ht _ _ z.2.1,z.2.2⟩
section
variable {P:Program}{w:World}{H:Hp}{h:Heap}{a:Addr}
theorem rd_of {u:HO}(ok:HOk P w H h)(e:Rd H a u):ObjOk P w H h a u:=e.ok ok
theorem ziu {kvs:List (Key×V)}(ok:HOk P w H h)(e:Rd H a (.dK kvs)):kvs.length≤sizeLine∧(a == sysModules)=false∧∃ vs,KV kvs vs∧h.DictOf (zaE P w) a vs:=
 show ObjOk P w H h a (.dK kvs) from rd_of ok e
theorem zjT {kvs:List (Key×V)}(ok:HOk P w H h)(e:H a=some (.dK kvs)):kvs.length≤sizeLine∧(a == sysModules)=false∧∃ vs,KV kvs vs∧h.DictOf (zaE P w) a vs:=ziu ok (.inl e)
theorem zgl {ks:List Key}(ok:HOk P w H h)(e:H a=some (.tup (ks.map kV))):(tupleKind (zaE P w)).is h ks a:=by
 obtain ⟨_,its,r,o,h1,h2,n,h3⟩:=(show ObjOk P w H h a (.tup (ks.map kV)) from ok a _ e)
 exact ⟨o,its.toArray,n,h1,h2,h3,by simpa using zgm r⟩
theorem zit {kvs:List (List Key×V)}(ok:HOk P w H h)(e:Rd H a (.dT kvs)):kvs.length≤sizeLine∧(a == sysModules)=false ∧
  ∃ xs,KT H kvs xs∧h.DictOfH (tupleKind (zaE P w)) a xs:=by
 obtain ⟨z,y,xs,r,o,es,ep,h1,h2,h3,h4,h5⟩:=(show ObjOk P w H h a (.dT kvs) from rd_of ok e)
 refine ⟨z,y,xs,r,o,es,ep,h1,h2,h3,h4,fun x hx=>?_,h5⟩
 have all:∀ {l:List (List Key×V)} {m:List (List Key×Addr×Value)},KT H l m→∀ x∈m,(tupleKind (zaE P w)).is h x.1 x.2.1:=by
  intro l m q
  induction q with
  | nil=>intro x hx;exact nomatch hx
  | @cons p q ps qs hq t ih =>
   intro x hx
   rcases Xao.mp hx with e | hx
   ·subst e
    exact zgl ok (by rw [← hq.1];exact hq.2.1)
   ·exact ih x hx
 exact all r x hx
theorem dt_of {kvs:List (List Key×V)}(ok:HOk P w H h)(e:H a=some (.dT kvs)):kvs.length≤sizeLine∧(a == sysModules)=false ∧
  ∃ xs,KT H kvs xs∧h.DictOfH (tupleKind (zaE P w)) a xs:=zit ok (.inl e)
end
def DGet (H:Hp)(a:Addr)(y:V)(r:Option V):Prop:=
 (∃ kvs k,Rd H a (.dK kvs)∧y=kV k∧r=valV kvs k)∨∃ kvs k b,Rd H a (.dT kvs)∧y = .ref b∧H b=some (.tup (k.map kV))∧r=valV kvs k
def DPut (H:Hp)(a:Addr)(y v:V)(H':Hp):Prop:=
 (∃ kvs k,H a=some (.dK kvs)∧y=kV k∧kvs.length<sizeLine∧H'=upd H a (.dK (putK kvs k v))) ∨
 ∃ kvs k b,H a=some (.dT kvs)∧y = .ref b∧H b=some (.tup (k.map kV))∧kvs.length<sizeLine∧H'=upd H a (.dT (putK kvs k v))
theorem DGet.k {H:Hp}{a:Addr}{kvs:List (Key×V)}{k:Key}(e:H a=some (.dK kvs)):DGet H a (kV k) (valV kvs k):=.inl ⟨kvs,k,.inl e,rfl,rfl⟩
theorem DPut.k {H:Hp}{a:Addr}{kvs:List (Key×V)}{k:Key}{v:V}(e:H a=some (.dK kvs))(hl:kvs.length<sizeLine):DPut H a (kV k) v (upd H a (.dK (putK kvs k v))):=.inl ⟨kvs,k,e,rfl,hl,rfl⟩
section
variable {X:Cx}{pins:List (Addr×Obj)}{σ:St}{H:Hp}{s:Shared}{a:Addr}{y v:V}{u r:Value}{o:Option V}{A:Around}{E:Value→Shared→Prop}
theorem Inv.big (I:Inv X pins σ H s):sysModules<s.heap.objs.size:=by
 have h:mainGlobals<s.heap.objs.size:=(I.mod.glob.keeps I.bk).lt
 exact XbI (by decide) h
theorem zjY {Q:Value→Shared→Prop}(hu:A.units+1<cLine)(I:Inv X pins σ H s)(g:DGet H a y (some v))(ry:RelV y u)(h:∀ w' s',Inv X pins σ H s'→RelV v w'→Q w' s') :
  wpAny (model X.prog X.w) A (getItem (.ref a) u) Q E s:=by
 rcases g with ⟨kvs,k,e,ey,l⟩ | ⟨kvs,k,b,e,ey,eb,l⟩
 ·subst ey
  obtain ⟨z,hd,vs,rel,dd⟩:=ziu I.hok e
  obtain ⟨w',hw,rw'⟩:=RelO.some_of (v:=v) (o:=valueAt vs k) (by rw [l];exact rel.val k)
  exact wpAny_getItem_of (zhn ry) dd.mapOf hw (h w' _ (I.tok _) rw')
 ·subst ey
  cases (show u=Value.ref b from ry)
  obtain ⟨z,hd,xs,rel,dd⟩:=zit I.hok e
  obtain ⟨w',hw,rw'⟩:=RelO.some_of (v:=v) (o:=(atKey xs k).map (·.2)) (by rw [l];exact rel.val k)
  obtain ⟨p,hp,hp2⟩:=XaE.mp hw
  refine wpAny_getItem_heap (tupleKind_room_in1 hu) (zgl I.hok eb) dd hp ?_
  rw [hp2]
  exact h w' _ (I.tok _) rw'
theorem zmH {Q:Value→Shared→Prop}(hu:A.units+1<cLine)(I:Inv X pins σ H s)(g:DGet H a y o)(ry:RelV y u)(h:∀ s',Inv X pins σ H s'→Q (.bool (!o.isSome)) s') :
  wpAny (model X.prog X.w) A (compareOp .NotIn u (.ref a)) Q E s:=by
 rcases g with ⟨kvs,k,e,ey,l⟩ | ⟨kvs,k,b,e,ey,eb,l⟩
 ·subst ey
  obtain ⟨z,hd,vs,rel,dd⟩:=ziu I.hok e
  refine wpAny_notIn_of (zhn ry) hd dd.mapOf ?_
  rw [← (rel.val k).isSome_eq,← l]
  exact h _ (I.tok _)
 ·subst ey
  cases (show u=Value.ref b from ry)
  obtain ⟨z,hd,xs,rel,dd⟩:=zit I.hok e
  refine wpAny_notIn_heap (tupleKind_room_in1 hu) (zgl I.hok eb) hd dd ?_
  have q:=(rel.val k).isSome_eq
  rw [Option.isSome_map] at q
  rw [← q,← l]
  exact h _ (I.tok _)
theorem zhs {h':Heap}{t':Nat}{ob:HO}(I:Inv X pins σ H s)(mu:Mut (H a))(hs:Heap.SameBut a s.heap h')(he:∃ q,h'.get? a=some q)(new:ObjOk X.prog X.w (upd H a ob) h' a ob) :
  Inv X pins σ (upd H a ob) { s with heap:=h',toks:=t' }:=
 I.write (x:=a) (e:=a) mu (.inl rfl) (fun b q hb z=>(hs.2 b hb).trans z) he new
theorem zlC {P:Program}{w:World}{H':Hp}{h':Heap}{kvs:List (Key×V)}{vs:List (Key×Value)}(z:kvs.length≤sizeLine)(hd:(a == sysModules)=false)(rel:KV kvs vs)(dd:h'.DictOf (zaE P w) a vs) :
  ObjOk P w H' h' a (.dK kvs):=⟨z,hd,vs,rel,dd⟩
theorem zjX {H':Hp}{Q:Unit→Shared→Prop}(hu:A.units+1<cLine)(I:Inv X pins σ H s)(g:DPut H a y v H')(ry:RelV y u)(rv:RelV v r)(h:∀ s',Inv X pins σ H' s'→Q () s') :
  wpAny (model X.prog X.w) A (setItem (.ref a) u r) Q E s:=by
 rcases g with ⟨kvs,k,e,ey,l,eH⟩ | ⟨kvs,k,b,e,ey,eb,l,eH⟩
 ·subst ey eH
  obtain ⟨z,hd,vs,rel,dd⟩:=zjT I.hok e
  have hz:vs.length≤sizeLine:=by rw [← rel.length];exact z
  have hl:(putK kvs k v).length≤sizeLine:=by have:=zeE kvs k v;omega
  refine wpAny_setItem_pairs (hsz:=hz) (zhn ry) dd fun h' dd' hs=>h _ ?_
  have he:∃ q,h'.get? a=some q:=let ⟨q,_,_,hq,_⟩:=dd';⟨q,hq⟩
  exact zhs I (by rw [e];exact True.intro) hs he (zlC hl hd (rel.put k rv) dd')
 ·subst ey eH
  cases (show u=Value.ref b from ry)
  obtain ⟨z,hd,xs,rel,dd⟩:=dt_of I.hok e
  have hz:xs.length≤sizeLine:=by rw [← Paired.length rel];exact z
  have hl:(putK kvs k v).length≤sizeLine:=by have:=zeE kvs k v;omega
  refine wpAny_setItem_heap (hsz:=hz) (tupleKind_room_in1 hu) (zgl I.hok eb) dd fun h' dd' hs=>h _ ?_
  obtain ⟨q,es,ep,hq,h2,h3,h4,_,h5⟩:=dd'
  refine zhs I (by rw [e];exact True.intro) hs ⟨q,hq⟩ ⟨hl,hd,_,(rel.put k eb rv).keeps fun c ys ec=>?_,q,es,ep,hq,h2,h3,h4,h5⟩
  rw [zag (ne_of ec e (fun z=>nomatch z))]
  exact ec
end
section
variable {X:Cx}{pins:List (Addr×Obj)}{σ:St}{H:Hp}{s:Shared}{a:Addr}{kvs:List (Key×V)}{k:Key}{u:Value}{A:Around}{E:Value→Shared→Prop}
end
def NoSl (i:Expr):Prop:=∀ ov iv,subscripted i false ov iv=operate [ov,iv] (getItem ov iv)
theorem zlY {prog:Program}{w:World}{A:Around}{E:Value→Shared→Prop}{s:Shared}{env:Env}{value slice:Expr}{pos:Pos}{T id:String}{Q:Value→Shared→Prop}
  (hl:typeLookup (.type T) "__getitem__" = pure (some (.builtin id))) (hs:NoSl slice)
  (h:wpAny (model prog w) A (eval value env) (fun o s₁=>wpAny (model prog w) A (eval slice env) (fun i s₂=>s₂.TypeIs o T∧wpAny (model prog w) A (getItem o i) Q E s₂) E s₁) E s) :
  wpAny (model prog w) A (eval (.Subscript value slice pos) env) Q E s:=by
 refine Subscript_ (Xas h (fun o s₁ h₁=>Xas h₁ (fun i s₂ h₂=>?_) fun _ _ x=>x) fun _ _ x=>x)
 obtain ⟨hT,h₂⟩:=h₂
 unfold subscriptTail
 refine Xaa ?_
 rw [getitemInPython_of_ne hT.not_modules]
 refine Xaa (wpAny_specialOf hT hl ?_)
 have fin:wpAny (model prog w) A (subscripted slice false o i) (fun r s₃=>wpAny (model prog w) A (letTemporaryGo value o r >>= fun _=>pure r) Q E s₃) E s₂:=by
  rw [hs o i]
  exact wpAny_operating (Xas h₂ (fun r s₃ h₃=>Xaa (wpAny_letTemporaryGo (Xac h₃))) fun _ _ x=>x)
 first
  | exact Xac (Xaa fin)
  | exact Xaa (Xac (Xaa fin))
  | exact Xaa fin
theorem zhr {X:Cx}{pins:List (Addr×Obj)}{σ:St}{H:Hp}{s:Shared}{a:Addr}{y:V}{o:Option V}(I:Inv X pins σ H s)(g:DGet H a y o):s.TypeIs (.ref a) "dict" := by
 rcases g with ⟨kvs,k,e,_,_⟩ | ⟨kvs,k,b,e,_,_,_⟩
 ·obtain ⟨_,_,vs,_,dd⟩:=ziu I.hok e
  exact dd.typeIs
 ·obtain ⟨_,_,xs,_,dd⟩:=zit I.hok e
  exact dd.typeIs
inductive tDGet_1 (Q:VK)(x:V)(y:V)(H2:Hp):Prop
 | mk (a:_) (v:_) (z0_:x = .ref a) (z1_:DGet H2 a y (some v)) (z2_:Q v H2)
def tDGet (td ty:TE):TE:=fun σ H Q=>td σ H fun x H1=>ty σ H1 (tDGet_1 Q x)
inductive tDNotIn_1 (Q:VK)(y:V)(x:V)(H2:Hp):Prop
 | mk (a:_) (o:_) (z0_:x = .ref a) (z1_:DGet H2 a y o) (z2_:Q (.bl (!o.isSome)) H2)
def zlX (ty td:TE):TE:=fun σ H Q=>ty σ H fun y H1=>td σ H1 (tDNotIn_1 Q y)
inductive sDPut_1 (D:Ends)(σ:St)(v:V)(x:V)(y:V)(H3:Hp):Prop
 | mk (a:_) (H4:_) (z0_:x = .ref a) (z1_:DPut H3 a y v H4) (z2_:D.nx σ H4)
def sDPut (td ty tv:TE):TS:=fun D σ H=>tv σ H fun v H1=>td σ H1 fun x H2=>ty σ H2 (sDPut_1 D σ v x)
section
variable {X:Cx}{o i e value:Expr}{pos pos' tpos:Pos}{td ty tv:TE}
theorem zfu (hu:X.A.units+1<cLine)(ho:PE X o td)(hi:PE X i ty)(hs:NoSl i):PE X (.Subscript o i pos) (tDGet td ty):=by
 intro pins s σ H Q I h
 refine zlY PySem.F.slot_dict_getitem.lookup hs (thn (ho pins s σ H _ I h) fun u s1 ⟨x,H1,I1,rx,q1⟩=>thn (hi pins s1 σ H1 _ I1 q1) fun iv s2 hh_=>?_)
 obtain ⟨y,H2,I2,ry,a,v,ex,g,q2⟩:=hh_
 subst ex
 obtain rfl:u=Value.ref a:=rx
 exact ⟨zhr I2 g,zjY hu I2 g ry fun w' s3 I3 rw'=>⟨v,H2,I3,rw',q2⟩⟩
theorem zjk (hu:X.A.units+1<cLine)(hi:PE X i ty)(ho:PE X o td):PC X .NotIn i o (zlX ty td):=by
 intro pins s σ H Q I h
 refine thn (hi pins s σ H _ I h) fun iv s1 ⟨y,H1,I1,ry,q1⟩=>thn (ho pins s1 σ H1 _ I1 q1) fun u s2 hh_=>?_
 obtain ⟨x,H2,I2,rx,a,ov,ex,g,q2⟩:=hh_
 subst ex
 obtain rfl:u=Value.ref a:=rx
 exact zmH hu I2 g ry fun s3 I3=>⟨.bl (!ov.isSome),H2,I3,rfl,q2⟩
theorem zl9 (hu:X.A.units+1<cLine)(ho:PE X o td)(hi:PE X i ty)(hv:PE X value tv)(hs:swapsWith value (some (.Subscript o i pos')) pos.line X.env=pure false) :
  PS X (.Assign [.Subscript o i pos'] value pos) (sDPut td ty tv):=by
 intro pins s σ H D I h
 refine wpAny_Assign_Subscript (thn (hv pins s σ H _ I h) fun r s1 ⟨v,H1,I1,rv,q1⟩=>thn (ho pins s1 σ H1 _ I1 q1) fun u s2 ⟨x,H2,I2,rx,q2⟩=>thn (hi pins s2 σ H2 _ I2 q2) fun iv s3 hh_=>?_) hs
 obtain ⟨y,H3,I3,ry,a,H4,ex,g,q3⟩:=hh_
 subst ex
 obtain rfl:u=Value.ref a:=rx
 exact zjX hu I3 g ry rv fun s4 I4=>⟨σ,H4,I4,q3⟩
end
theorem zk2 {P:Program}{w:World}{H:Hp}(h:Heap)(hb:sysModules<h.objs.size):ObjOk P w H (h.push { cls:=.type "dict",data:=.dict #[] }) h.objs.size (.dK []):=
 ⟨Nat.zero_le _,beq_eq_false_iff_ne.mpr (Ne.symm (Xaw hb)),[],.nil,Heap.DictOf.new h⟩
def tDNewK:TE:=fun _ H Q=>∀ p,H p=none→Q (.ref p) (upd H p (.dK []))
section
variable {X:Cx}{pos:Pos}
theorem zhF:PE X (.Dict [] [] pos) tDNewK:=fun pins s σ H Q I h =>
 wpAny_Dict_empty ⟨.ref s.heap.objs.size,_,I.laid (a:=s.heap.objs.size) (o:=.dK []) (t':=s.toks) (fun _ _ q=>Xab _ q) (Xae _) (zk2 s.heap I.big),rfl,h _ (I.hok.fresh (Xae _))⟩
end
structure M2 (X:Cx)(o:Expr)(m:Str)(apos:Pos)(e f:Expr)(cpos:Pos):Prop where
 base:attributeBase o m X.env (eval o X.env)=eval o X.env
 few:((backTo cpos (starEach [e,f] X.env)).all (fun x=>!x.1) && (backToKw cpos (keywordEach [] X.env)).all (fun x=>x.1.isSome)
  && decide (([e,f]:List Expr).length+([]:List Keyword).length+(if ([]:List Keyword).isEmpty then 0 else 1)<30))=true
 line:(apos.endLine == cpos.line)=true
 trees:backTo cpos (starEach [e,f] X.env)=[(false,eval e X.env),(false,eval f X.env)]
def IsD (H:Hp)(a:Addr):Prop:=(∃ kvs,Rd H a (.dK kvs))∨∃ kvs,Rd H a (.dT kvs)
theorem isD_at {X:Cx}{pins:List (Addr×Obj)}{σ:St}{H:Hp}{s:Shared}{a:Addr}(I:Inv X pins σ H s)(d:IsD H a) :
  s.TypeIs (.ref a) "dict" ∧ (∀ b,Value.ref a = .ref b→∃ ob,s.heap.get? b=some ob∧ob.dict=none)∧(a == sysModules)=false:=by
 rcases d with ⟨kvs,e⟩ | ⟨kvs,e⟩
 ·obtain ⟨_,hd,vs,_,dd⟩:=ziu I.hok e
  refine ⟨dd.typeIs,fun b q=>?_,hd⟩
  cases q
  obtain ⟨ob,_,_,h1,h2,_⟩:=dd
  exact ⟨ob,h1,h2.2.1⟩
 ·obtain ⟨_,hd,xs,_,dd⟩:=zit I.hok e
  refine ⟨dd.typeIs,fun b q=>?_,hd⟩
  cases q
  obtain ⟨ob,_,_,h1,h2,_⟩:=dd
  exact ⟨ob,h1,h2.2.1⟩
section
variable {X:Cx}{pins:List (Addr×Obj)}{σ:St}{H:Hp}{s:Shared}{a:Addr}{y d:V}{u r:Value}{o:Option V}{A:Around}{E:Value→Shared→Prop}
theorem d_get2 {Q:Value→Shared→Prop}(hu:A.units+1<cLine)(I:Inv X pins σ H s)(g:DGet H a y o)(ry:RelV y u)(rd:RelV d r)(h:∀ w' s',Inv X pins σ H s'→RelV (o.getD d) w'→Q w' s') :
  wpAny (model X.prog X.w) A (call (.builtin "dict.get") [.ref a,u,r]) Q E s:=by
 rcases g with ⟨kvs,k,e,ey,l⟩ | ⟨kvs,k,b,e,ey,eb,l⟩
 ·subst ey
  obtain ⟨z,hd,vs,rel,dd⟩:=ziu I.hok e
  refine call_meetsIn PySem.F.slot_dict_get dd.typeIs PySem.F.entry_dict_get (PySem.F.args_dict_get_3 _ _ _) (meets_dict_get_default (zaE X.prog X.w) a (zhn ry) hd r) ⟨_,dd.mapOf,h _ _ (I.tok _) ?_⟩
  rw [l]
  exact (rel.val k).getD rd
 ·subst ey
  cases (show u=Value.ref b from ry)
  obtain ⟨z,hd,xs,rel,dd⟩:=zit I.hok e
  refine call_meetsIn PySem.F.slot_dict_get dd.typeIs PySem.F.entry_dict_get (PySem.F.args_dict_get_3 _ _ _) (meetsH_dict_get_default (tupleKind (zaE X.prog X.w)) a b hd r) ⟨tupleKind_room_in1 hu,k,xs,zgl I.hok eb,dd,h _ _ (I.tok _) ?_⟩
  rw [l]
  exact (rel.val k).getD rd
end
def tDGet2 (td ty tx:TE):TE:=fun σ H Q=>td σ H fun x H1=>∃ a,x = .ref a∧IsD H1 a∧ty σ H1 fun y H2=>tx σ H2 fun z H3=>∃ o,DGet H3 a y o∧Q (o.getD z) H3
section
variable {X:Cx}{o e f:Expr}{apos cpos:Pos}{td ty tx:TE}
theorem zkJ (hu:X.A.units+1<cLine)(ho:PE X o td)(he:PE X e ty)(hf:PE X f tx)(m:M2 X o "get" apos e f cpos):PE X (.Call (.Attribute o "get" apos) [e,f] [] cpos) (tDGet2 td ty tx):=by
 intro pins s σ H Q I h
 refine wpAny_Call_method m.base m.few m.line PySem.F.plainAttrs_dict PySem.F.slot_dict_get PySem.F.type_dict_get (thn (ho pins s σ H _ I h) fun u s1 hh_=>?_)
 obtain ⟨x,H1,I1,rx,a,ex,d,q1⟩:=hh_
 subst ex
 obtain rfl:u=Value.ref a:=rx
 obtain ⟨t1,t2,_⟩:=isD_at I1 d
 refine ⟨t1,t2,?_⟩
 rw [m.trees]
 refine Calls.callWith_builtin rfl (Calls.evalArgs_plain (Calls.spliced_cons (thn (he pins s1 σ H1 _ I1 q1) fun iv s2 ⟨y,H2,I2,ry,q2⟩ =>
  Calls.spliced_cons (thn (hf pins s2 σ H2 _ I2 q2) fun fv s3 ⟨z,H3,I3,rz,ov,g,q3⟩=>Calls.spliced_nil ?_))))
 exact d_get2 hu I3 g ry rz fun w' s4 I4 rw'=>⟨_,H3,I4,rw',q3⟩
end
section
variable {X:Cx}{pins:List (Addr×Obj)}{σ:St}{H:Hp}{s:Shared}{a:Addr}{kvs:List (Key×V)}{A:Around}{E:Value→Shared→Prop}
end
section
variable {X:Cx}{pins:List (Addr×Obj)}{σ:St}{H:Hp}{s:Shared}{a:Addr}{y:V}{u:Value}{A:Around}{E:Value→Shared→Prop}
end
end L2
namespace Att
open PySem PySem.W PySem.Calls PyProof.Rows
theorem zeI {P:Params}{h:Heap}:∀ (ns:List Int) (vs:List Value),WellAll P h vs (ns.map WData.int)→IntsAre vs ns:=by
 intro ns
 induction ns with
 | nil =>
  intro vs w
  rw [List.map_nil] at w
  cases w
  exact .nil
 | cons n ns ih =>
  intro vs w
  rw [Xaz] at w
  cases w with
  | cons a b =>
   cases a
   exact .cons _ _ (ih _ b)
theorem ziX {l:OpenLaw}{n:Nat}(hn:l.most=some n){P:Params}{h:Heap}{args:List WData}{vals:List Value}
  (hpre:l.row.toRowW.claim.pre args=true) (hwl:WellAll P h vals args) :
  ∃ a vs ns,vals=[Value.ref a]∧args=[WData.list (ns.map WData.int)]∧h.get? a=some { cls:=.type "list",data:=.seq vs.toArray }∧IntsAre vs ns∧ns.length≤n:=by
 have hsh:WShape.hasAll [] args [.list .int]=true:=(pre_splitW hpre).1
 have hc:l.pre.holds [] { args:=args }=true:=(pre_splitW hpre).2
 obtain ⟨d,r,rfl,h1,h2⟩:=hasAllW_cons hsh
 obtain rfl:=hasAllW_nil h2
 obtain ⟨xs,rfl,h3⟩:=hasW_list h1
 obtain ⟨ns,rfl⟩:=items_int h3
 have hlen:ns.length≤n:=by
  unfold OpenLaw.pre at hc
  have h4:(WTm.not (.lt (.lit (.int (n:Int))) (.len (.arg 0)))).holds [] { args:=[.list (ns.map .int)] }=true:=by
   have h4:=(holds_andW hc).1
   rw [hn] at h4
   exact h4
  have h5:=condW_of h4 (w_not (w_lt w_lit (w_len_list (w_arg rfl))))
  rw [Xaf] at h5
  refine Nat.le_of_not_lt fun q=>?_
  have q':(n:Int)<((ns.length:Nat):Int):=by omega
  first
   | (rw [Xah q'] at h5;exact absurd h5 (by decide))
   | (simp at h5;omega)
 cases hwl with
 | cons w1 w2 =>
  cases w2
  cases w1 with
  | list ho hall=>exact ⟨_,_,ns,rfl,rfl,ho,zeI ns _ hall,hlen⟩
theorem zjd (l:OpenLaw)(args:List WData):l.row.toRowW.claim.post args (.bool true) args=true:=
 postW_of (r:=l.row.toRowW) (X:=(true == true))
  (show WShape.has [] (.bool true) .bool=true by first | rfl | decide | simp [WShape.has,WShape.arms,WShape.armsAll])
  (show (WTm.eq .res (.lit (.bool true))).value [] { args:=args,res:=some (.bool true),after:=args }=some (.bool (true == true)) from w_eq_bool (w_res rfl) w_lit) rfl
section
variable {prog:Program}{w:World}{A:Around}{E:Value→Shared→Prop}{s:Shared}{K:Frag}
end
end Att
namespace L2
open PySem PySem.Spec PyProof.Rows
theorem zcX:∀ {vs:List Value} {ns:List Int},IntsAre vs ns→Vals (ns.map V.int) vs
 | _,_,.nil=>.nil
 | _,_,.cons n t h=>.cons ⟨t,rfl⟩ (zcX h)
def Only (H:Hp):Prop:=∀ b,H b=none∨∃ o xs,H b=some (.frz o (.lst xs))
theorem zkS {P:Program}{w:World}{K:W.Frag}{mg mb:Str→Option Value}{CX:CXT}{k:Nat}{fa a:Addr}{fd:FuncData}{x:Str}{sp:Sp}{s₁:Shared}{vs:List Value}{ns:List Int}
  (KX:K.In s₁.heap) (hns:s₁.heap.Ns mainGlobals mg) (hb:s₁.heap.Ns builtinsNs mb) (hbb:∀ x:Str,x ≠ "__name__" → mb x=bootBuiltins x) (hlim:s₁.heap.NoLimit) (hg:s₁.gens = #[])
  (ha:s₁.heap.get? a=some { cls:=.type "list",data:=.seq vs.toArray }) (hi:IntsAre vs ns) (hl:ns.length≤sizeLine) (hr:Room k callerA)
  (F:∀ base:Heap,K.In base→base.Ns mainGlobals mg→FnOk P w K mg base CX k fa fd [x] sp) (hbind:∀ (s:Shared) (u:Value),BindsTo s fd ⟨[u],[]⟩ [(x,u)])
  (hsp:∀ H:Hp,Only H→SqL K H a (ns.map V.int)→sp [.ref a] H (fun v _=>v = .bl true) fun _ _ _=>False)
  (hCX:∀ H e s',CX [] H s₁ (fun _ _ _=>False) e s'→False) :
  codeAny (model P w) callerA (.call (.ref fa) ⟨[.ref a],[]⟩) (fun r s'=>r = .ok (.ret (.bool true))∧OldK s₁.heap s'.heap∧s'.os=s₁.os∧AllBare s'.gens) s₁:=by
 have rv:=zcX hi
 have lenV:=hi.length
 
 have core:∀ H:Hp,Only H→SqL K H a (ns.map V.int)→HOk P w H s₁.heap→(∀ b,H b≠none→b=a)→(H a≠none→K.lookup a=none) →
   codeAny (model P w) callerA (.call (.ref fa) ⟨[.ref a],[]⟩) (fun r s'=>r = .ok (.ret (.bool true))∧OldK s₁.heap s'.heap∧s'.os=s₁.os∧AllBare s'.gens) s₁:=by
  intro H hO hS hok hA hK
  have base_of:∀ {b:Addr} {o:Obj},s₁.heap.get? b=some o→H b=none→(hidT s₁.heap H).get? b=some o:=fun e n=>zkX e n
  have noA:∀ {b:Addr} {o:Obj} {es:Array DictEntry} {ep:Nat},s₁.heap.get? b=some o→o.data = .dict es ep→H b=none:=fun {b o es ep} e d=>by
   cases q:H b with
   | none=>rfl
   | some u =>
    have e':b=a:=hA b (by rw [q];simp)
    subst e'
    rw [ha] at e;cases e
    have d':Data.seq vs.toArray _=Data.dict es ep:=d
    cases d'
  have nsK:∀ {b:Addr} {m:Str→Option Value},s₁.heap.Ns b m→(hidT s₁.heap H).Ns b m:=fun {b m} ⟨o,es,ep,e,d,r⟩=>⟨o,es,ep,base_of e (noA e d),d,r⟩
  have hKb:K.In (hidT s₁.heap H):=fun b o e=>base_of (KX b o e) (by
   cases q:H b with
   | none=>rfl
   | some u =>
    have e':b=a:=hA b (by rw [q];simp)
    subst e'
    rw [hK (by rw [q];simp)] at e;cases e)
  have hM:Mod K mg (hidT s₁.heap H):=⟨hKb,nsK hns,⟨mb,nsK hb,hbb⟩,let ⟨mc,h1,h2⟩:=hlim;⟨mc,nsK h1,h2⟩⟩
  have e0:Env0 P w K mg (hidT s₁.heap H) callerA [] s₁ H:=⟨rfl,hM,fun b o e=>zmv e,Nat.le_of_eq (zjI _ _),trivial,fun b hb=>absurd (show b∈([]:List Addr) from hb) (by simp),hok,.of_eq hg⟩
  refine Xbs ((F _ hKb (nsK hns)).run callerA [] s₁ H ⟨[.ref a],[]⟩ [.ref a] [.ref a] _ _ hr e0 (hbind s₁ (.ref a)) (.cons rfl .nil) (hsp H hO hS)) fun r s' h=>?_
  cases r with
  | error e=>exact (hCX H e s' h).elim
  | ok fl =>
   cases fl with
   | next=>exact False.elim h
   | brk=>exact False.elim h
   | cont=>exact False.elim h
   | ret u =>
    obtain ⟨v,H',os,bare,un,hok',r',q⟩:=h
    have q':v = .bl true:=q
    subst q'
    obtain rfl:u=Value.bool true:=r'
    refine ⟨rfl,OldK.of_keep fun b o e=>?_,os,bare⟩
    cases q:H b with
    | none=>exact un.keep b o e q (by intro z;exact absurd (show b∈([]:List Addr) from z) (by simp)) (by simp)
    | some u =>
     rcases hO b with z | ⟨ob,xs,z⟩
     ·rw [q] at z;cases z
     ·have z2:=un.frzs b ob _ z
      obtain ⟨e1,_⟩:=hok b _ z
      obtain ⟨e2,_⟩:=hok' b _ z2
      rw [e] at e1;cases e1
      exact e2
 cases hk:K.lookup a with
 | some o =>
  
  have e:=KX a o hk
  rw [ha] at e
  cases e
  refine core (fun _=>none) (fun _=>.inl rfl) (.inr ⟨_,vs.toArray,_,hk,rfl,rfl,rfl,by rw [Xan,lenV];exact hl,by simpa using rv⟩) (fun b u z=>by have z':(none:Option HO)=some u:=z;cases z') (fun b z=>absurd rfl z) fun z=>absurd rfl z
 | none =>
  refine core (fun b=>if b=a then some (.frz { cls:=.type "list",data:=.seq vs.toArray } (.lst (ns.map V.int))) else none) (fun b=>?_) (.inl (.inr ⟨{ cls:=.type "list",data:=.seq vs.toArray },if_pos rfl⟩)) (fun b u z=>?_) (fun b z=>?_) fun _=>hk
  ·by_cases hb:b=a
   ·exact .inr ⟨_,_,if_pos hb⟩
   ·exact .inl (if_neg hb)
  ·by_cases hb:b=a
   ·have z':=(if_pos hb).symm.trans z
    cases z'
    subst hb
    exact ⟨ha,by rw [Xaf];exact hl,vs,_,rv,ha⟩
   ·have z':=(if_neg hb).symm.trans z
    cases z'
  ·by_cases hb:b=a
   ·exact hb
   ·exact absurd (if_neg hb) z
def zav (s:Stmt)(j:Nat):Stmt:=match s with
 | .ClassDef _ _ _ body _ _ _ _ _ _ _=>body.getD j (.Pass ⟨0,0,0,0⟩)
 | _=>.Pass ⟨0,0,0,0⟩
def zbx (s:Stmt):Arguments:=match s with
 | .FunctionDef _ a _ _ _ _ _ _ _ _=>a
 | _=>{ posonlyargs:=[],args:=[],vararg:=none,kwonlyargs:=[],kw_defaults:=[],kwarg:=none,defaults:=[] }
def za0 (s:Stmt):List Stmt:=match s with
 | .FunctionDef _ _ b _ _ _ _ _ _ _=>b
 | _=>[]
def zai (s:Stmt):Scope:=match s with
 | .FunctionDef _ _ _ _ _ _ sc _ _ _=>sc
 | _=>{ kind:=.function,names:=[],isGenerator:=false,isCoroutine:=false }
abbrev CX0:CXT:=fun _ _ _ _ _ _=>False
abbrev E0:XK:=fun _ _ _=>False
theorem zf3 {X:Cx}:Passes CX0 X E0:=fun _ _ _ _ _ _ _ h=>h.elim
structure Fun (K:W.Frag)(x qual:Str)(st:Stmt)(f:Addr)(fd:FuncData):Prop where
 ex:∃ (oc:Value) (od:Option Addr) (kV doc pm:Value) (an:Option Addr) (cdv ct:Value) (osl:Array (Option Value)),
  fd=W.fnOf x qual (zbx st) (za0 st) (zai st) .none kV doc pm an cdv ct∧K.lookup f=some ⟨oc,od,.func fd,osl⟩∧W.codeIn K cdv qual=true
 kp:W.keepIn K (.ref f)=true
section
variable {P:Program}{w:World}{K:W.Frag}{mg:Str→Option Value}{base:Heap}
theorem Fun.ok {x qual:Str}{st:Stmt}{f:Addr}{fd:FuncData}{N ps:List Str}{k:Nat}{sp:Sp}(F:Fun K x qual st f fd)(S:FnScope N ps (zai st))(len:∀ vs H Q E,sp vs H Q E→vs.length=ps.length)
  (hbody:∀ (cdv:Value) (A:Around) (outer:List Env) (s:Shared) (H:Hp) (vs:List V) (Q:VK) (E:XK),Room k (A.deeper (envOfC qual (zai st) s.heap.objs.size f cdv))→sp vs H Q E →
   ∃ t,PSs (cxOf CX0 P w K mg base N qual (zai st) f cdv A outer s H E).nox (za0 st) t∧t { nx:=fun _ H'=>Q .non H',rt:=Q } (start N vs) H):FnOk P w K mg base CX0 (k+1) f fd ps sp:=by
 obtain ⟨oc,od,kV,doc,pm,an,cdv,ct,osl,rfl,lk,hcd⟩:=F.ex
 refine zk1 lk hcd S len fun A outer s H vs Q E hr hsp=>?_
 obtain ⟨t,h,q⟩:=hbody cdv A outer s H vs Q E hr hsp
 exact ⟨t,h.nox,q⟩
theorem Fun.binds {x qual:Str}{st:Stmt}{f:Addr}{fd:FuncData}{ps:List Str}(F:Fun K x qual st f fd)
  (h:∀ (kV doc pm:Value) (an:Option Addr) (cdv ct:Value) (us:List Value),us.length=ps.length→bindArgs (W.fnOf x qual (zbx st) (za0 st) (zai st) .none kV doc pm an cdv ct) ⟨us,[]⟩=pure (ps.zip us)):Binds K fd ps []:=by
 obtain ⟨oc,od,kV,doc,pm,an,cdv,ct,osl,rfl,lk,hcd⟩:=F.ex
 exact .all (h kV doc pm an cdv ct)
theorem zlz {x qual:Str}{st:Stmt}{f:Addr}{oc:Value}{od an:Option Addr}{osl:Array (Option Value)}{kV doc pm cdv ct:Value}(l:K.lookup f=some ⟨oc,od,.func (W.fnOf x qual (zbx st) (za0 st) (zai st) .none kV doc pm an cdv ct),osl⟩)
  (c:W.codeIn K cdv qual=true) (k:W.keepIn K (.ref f)=true):Fun K x qual st f (W.fnOf x qual (zbx st) (za0 st) (zai st) .none kV doc pm an cdv ct):=⟨⟨oc,od,kV,doc,pm,an,cdv,ct,osl,rfl,l,c⟩,k⟩
end
theorem zc7 {A:Around}{k:Nat}(hr:Room k A):A.units+1<cLine:=XaM (Nat.add_le_add_left (by decide:1≤64) _) hr.units
theorem zcZ {n:Nat}(h:n≤1000):n<sizeLine:=XaM h (by decide)
section
variable {X:Cx}
theorem pv (i:Nat){x:Str}{pos:Pos}(hN:X.N[i]? = some x:=by rfl)(hv:Vis X.env.scope x:=by first | exact Or.inl rfl | exact Or.inr (Or.inl rfl) | exact Or.inr (Or.inr rfl))(hd:(x == ("__debug__" : Str))=false:=by decide)
  (hcd:(x == ("__classdict__" : Str))=false:=by decide):PE X (.Name x pos) (tVar i):=pe_var hN hv hd hcd
end
theorem iteF {A B:Prop}(h:B):if false=true then A else B:=by
 rw [if_neg Xam]
 exact h
theorem iteT {A B:Prop}(h:A):if true=true then A else B:=by
 rw [if_pos rfl]
 exact h
theorem ite2 {c A B:Prop}[Decidable c](h1:c→A)(h2:¬ c→B):if c then A else B:=by
 by_cases h:c
 ·rw [if_pos h]
  exact h1 h
 ·rw [if_neg h]
  exact h2 h
theorem zjF {c A B:Prop}[Decidable c](hc:c)(h:B):if (!decide c)=true then A else B:=by
 rw [Xah hc]
 exact iteF h
def Same (H H':Hp):Prop:=∀ b o,H b=some o→H' b=some o
theorem Same.refl (H:Hp):Same H H:=fun _ _ h=>h
theorem Same.trans {H H1 H2:Hp}(a:Same H H1)(b:Same H1 H2):Same H H2:=fun c o h=>b c o (a c o h)
theorem Same.free {H H':Hp}(e:Same H H'){l:Addr}(h:H' l=Option.none):H l=Option.none:=by
 cases q:H l with
 | none=>rfl
 | some o =>
  rw [e l o q] at h
  cases h
theorem Same.seq {K:W.Frag}{H H':Hp}{a:Addr}{xs:List V}(e:Same H H')(h:SqL K H a xs):SqL K H' a xs:=by
 rcases h with (h | ⟨o,h⟩) | h
 ·exact .inl (.inl (e _ _ h))
 ·exact .inl (.inr ⟨o,e _ _ h⟩)
 ·exact .inr h
section
variable {X:Cx}
end
section
variable {κ:Type}[DecidableEq κ]
theorem zlQ {kvs:List (κ×V)}{k:κ}{v:V}(h:valV kvs k=some v):k∈kvs.map (·.1):=by
 have q:(kvs.any fun kv=>decide (kv.1=k))=true:=by
  rw [zbT,h]
  all_goals rfl
 obtain ⟨p,hp,e⟩:=List.any_eq_true.mp q
 exact XaC.mpr ⟨p,hp,Xa2 e⟩
end
theorem zmx {prog:Program}{w:World}{A:Around}{R:Result→Shared→Prop}{s:Shared}{elt target iter:Expr}{ifs:List Expr}{scope:Scope}{pos:Pos}{it acc:Value}{env:Env}(I:Nat→Shared→Prop)
  (turn:∀ n s,I n s→wpAny (model prog w) A (pyNext it) (fun r s1=>match r with
   | none=>R (.ok .next) s1
   | some v=>wpAny (model prog w) A (letOwnedTupleGo target it v) (fun _ s2=>wpAny (model prog w) A (assign target env v) (fun _ s3 =>
     wpAny (model prog w) A (forIn ifs true fun c r=>if r=true then do let ok ← isTrue c env (eval c env);pure (ForInStep.yield ok) else pure (ForInStep.yield r)) (fun ok s4 =>
      if ok=true then wpAny (model prog w) A (eval elt env) (fun x s5 =>
       wpAny (model prog w) A (call (.builtin "list.append") [acc,x]) (fun _ s6=>∃ m,m<n∧I m s6) (fun _ _=>False) s5) (fun _ _=>False) s4
      else ∃ m,m<n∧I m s4) (fun _ _=>False) s3) (fun _ _=>False) s2) (fun _ _=>False) s1) (fun _ _=>False) s)
  (n:Nat) (h:I n s) :
  codeAny (model prog w) A (.compLoop (.ListComp elt [⟨target,iter,ifs,0⟩] scope pos) 0 it acc env) R s:=by
 refine codeAny_loop rfl I (fun n s hI=>?_) n h
 show wpAny _ A ((compTurn (.ListComp elt [⟨target,iter,ifs,0⟩] scope pos) 0 it acc env).onRaise (fun x=>do noteFrame x env;theTreesLotGoes x)) _ _ s
 refine wpAny_noted ?_
 rw [compTurn_list]
 refine Xaa (XaW (Xaa (Xas (turn n s hI) (fun r s1 h1=>?_) fun _ _ h'=>h'.elim)))
 cases r with
 | none=>exact Xac h1
 | some v =>
  refine Xaa (Xas h1 (fun _ s2 h2=>?_) fun _ _ h'=>h'.elim)
  refine Xaa (Xas h2 (fun _ s3 h3=>Xaa (Xas h3 (fun ok s4 h4=>?_) fun _ _ h'=>h'.elim)) fun _ _ h'=>h'.elim)
  cases ok with
  | false=>exact Xac ⟨rfl,h4⟩
  | true =>
   exact Xaa (Xaa (Xas h4 (fun x s5 h5=>Xaa (Xas h5 (fun _ s6 h6=>Xac (Xac ⟨rfl,h6⟩)) fun _ _ h'=>h'.elim)) fun _ _ h'=>h'.elim))
def PF (X:Cx)(ifs:List Expr)(t:TT):Prop:=
 ∀ (pins:List (Addr×Obj)) (s:Shared) (σ:St) (H:Hp) (Q:Bool→Hp→Prop),Inv X pins σ H s→t σ H Q →
  wpAny (model X.prog X.w) X.A (forIn ifs true fun c r=>if r=true then do let ok ← isTrue c X.env (eval c X.env);pure (ForInStep.yield ok) else pure (ForInStep.yield r)) (TP X pins σ Q) X.xe s
def tYes:TT:=fun _ H Q=>Q true H
theorem ze0 {X:Cx}:PF X [] tYes:=fun pins s σ H Q I h=>wpAny_tests_nil ⟨H,I,h⟩
theorem zhC {X:Cx}{c:Expr}{t:TT}(hc:PT X c t):PF X [c] t:=fun pins s σ H Q I h=>wpAny_tests_one (hc pins s σ H Q I h)
def cxC (X:Cx)(Nc:List Str)(scope:Scope)(cl:List (Str×Addr))(C:Addr)(fp:List Addr)(s2:Shared)(H2:Hp):Cx where
 prog:=X.prog
 w:=X.w
 K:=X.K
 mg:=X.mg
 base:=X.base
 A:=X.A
 N:=Nc
 s₀:=s2
 H₀:=H2
 env:=compEnvC scope cl C X.env
 outer:=X.stack
 stack:=X.stack
 ex:=fp
 fn:=fun _=>false
 calm:=X.calm
 pn:=[]
 xe:=fun _ _=>False
def zcq (src:List (Option Nat))(σ:St):St:=src.map fun o=>match o with
 | none=>none
 | some i=>(σ[i]?).getD none
structure CompOk (N:List Str)(osc:Scope)(Nc:List Str)(src:List (Option Nat))(scope:Scope):Prop where
 kind:scope.kind = .function
 nocell:∀ x∈scope.names,x.2≠.cell
 nodup:scope.names.Pairwise fun x y=>x.1≠y.1
 free:∀ x∈scope.names,x.2 = .free→osc.names.lookup x.1=some .cell∨osc.names.lookup x.1=some .free
 len:src.length=Nc.length
 src:∀ (j i:Nat),src[j]? = some (some i)→∃ x,Nc[j]? = some x∧N[i]? = some x∧scope.names.lookup x=some .free
set_option tactic.hygienic true in
theorem zdB {α:Type}{l:List (Str×α)}{x:Str}{k:α}(h:l.lookup x=some k):(x,k)∈l:=by
 induction l with
 | nil=>cases h
 | cons p r ih =>
  obtain ⟨y,j⟩:=p
  rw [List.lookup_cons] at h
  split at h
  ·rename_i hb
   have e:=eq_of_beq hb
   cases h;subst e;exact XaB
  ·exact Xax _ (ih h)
theorem zbh {α:Type}{l:List (Str×α)}(nd:l.Pairwise fun x y=>x.1≠y.1){x:Str}{k:α}(h:(x,k)∈l):l.lookup x=some k:=by
 induction l with
 | nil=>cases h
 | cons p r ih =>
  obtain ⟨y,j⟩:=p
  rw [List.pairwise_cons] at nd
  rw [List.lookup_cons]
  rcases Xao.mp h with e | h
  ·cases e;simp
  ·have ne:=nd.1 _ h
   have:(x == y)=false:=beq_eq_false_iff_ne.mpr (Ne.symm ne)
   rw [this];exact ih nd.2 h
theorem ziy {X:Cx}(ok:X.Ok){scope:Scope}:∀ (names:List (Str×NameKind)) (acc:List (Str×Addr)),(∀ x∈names,x.2 = .free→∃ c,X.env.cells.lookup x.1=some c) →
  (∀ x c,(x,c)∈acc→X.env.cells.lookup x=some c) →
  ∃ cl,(forIn names acc (fun (p:Str×NameKind) (cs:List (Str×Addr))=>(do
   if p.2 == NameKind.free then
    let c ← cellOf X.env p.1
    pure (ForInStep.yield ((p.1,c) :: cs))
   else pure (ForInStep.yield cs):Sem (ForInStep (List (Str×Addr))))))=pure cl∧(∀ x c,(x,c)∈cl→X.env.cells.lookup x=some c)∧(∀ x∈names,x.2 = .free→∃ c,(x.1,c)∈cl)∧(∀ p∈acc,p∈cl):=by
 intro names
 induction names with
 | nil=>intro acc _ ha;exact ⟨acc,(by rw [List.forIn_nil]),ha,(fun _ h=>nomatch h),fun _ h=>h⟩
 | cons p r ih =>
  intro acc hf ha
  obtain ⟨x,k⟩:=p
  rw [List.forIn_cons]
  by_cases hk:k = .free
  ·subst hk
   obtain ⟨c,hc⟩:=hf _ XaB rfl
   obtain ⟨cl,e,h1,h2,h3⟩:=ih ((x,c) :: acc) (fun y hy=>hf y (Xax _ hy)) (fun y d hy=>by
    rcases Xao.mp hy with e | hy
    ·cases e;exact hc
    ·exact ha y d hy)
   have hcell:cellOf X.env x=pure c:=by unfold cellOf;rw [show X.env.cells.lookup x=some c from hc]
   refine ⟨cl,?_,h1,fun y hy hk=>?_,fun q hq=>h3 q (Xax _ hq)⟩
   ·simp only [beq_self_eq_true,if_true,hcell,pure_bind];exact e
   ·rcases Xao.mp hy with e | hy
    ·cases e;exact ⟨c,h3 _ XaB⟩
    ·exact h2 y hy hk
  ·obtain ⟨cl,e,h1,h2,h3⟩:=ih acc (fun y hy=>hf y (Xax _ hy)) ha
   have hb:(k == NameKind.free)=false:=by simpa using hk
   refine ⟨cl,?_,h1,fun y hy hk'=>?_,h3⟩
   ·simp only [hb,Bool.false_eq_true,if_false,pure_bind];exact e
   ·rcases Xao.mp hy with e | hy
    ·cases e;exact absurd hk' hk
    ·exact h2 y hy hk'
theorem zbj {X:Cx}(ok:X.Ok){scope:Scope}(hf:∀ x∈scope.names,x.2 = .free→X.env.scope.names.lookup x.1=some .cell∨X.env.scope.names.lookup x.1=some .free) :
  ∃ cl:List (Str×Addr),closureFor scope X.env=pure cl∧(∀ (x:Str) (c:Addr),cl.lookup x=some c→X.env.cells.lookup x=some c)∧(∀ x∈scope.names,x.2 = .free→∃ c,cl.lookup x.1=some c):=by
 obtain ⟨cl,e,h1,h2,_⟩:=ziy ok (scope:=scope) scope.names [] (fun x hx hk=>ok.has x.1 (hf x hx hk)) (fun _ _ h=>nomatch h)
 refine ⟨cl,?_,fun x c h=>h1 x c (zdB h),fun x hx hk=>?_⟩
 ·unfold closureFor
  exact (bind_pure _).trans e
 ·obtain ⟨c,hc⟩:=h2 x hx hk
  have:∀ l:List (Str×Addr),(x.1,c)∈l→∃ d,l.lookup x.1=some d:=by
   intro l
   induction l with
   | nil=>intro h;cases h
   | cons p r ih =>
    intro h
    obtain ⟨y,d⟩:=p
    rw [List.lookup_cons]
    cases hb:x.1 == y with
    | true=>exact ⟨d,rfl⟩
    | false =>
     rcases Xao.mp h with e | h
     ·cases e;simp at hb
     ·exact ih h
  exact this cl hc
theorem zcz {scope:Scope}{env:Env}(x:Str):(relabel scope env).names.lookup x=(scope.names.lookup x).map fun k=>if (k == .free && env.scope.kind == .function && env.kindOf x == some .cell) then .cell else k:=by
 unfold relabel
 show List.lookup x (scope.names.map _)=_
 induction scope.names with
 | nil=>rfl
 | cons p r ih =>
  obtain ⟨n,k⟩:=p
  rw [Xaz]
  cases hb:x == n with
  | true =>
   have e:=eq_of_beq hb
   subst e
   show List.lookup x ((if (k == NameKind.free && env.scope.kind == .function && env.kindOf x == some .cell)=true then (x,NameKind.cell) else (x,k)) :: _)=_
   by_cases hc:(k == NameKind.free && env.scope.kind == .function && env.kindOf x == some .cell)=true
   ·rw [if_pos hc,List.lookup_cons,List.lookup_cons]
    simp only [beq_self_eq_true,Option.map_some]
    rw [if_pos hc]
   ·rw [if_neg hc,List.lookup_cons,List.lookup_cons]
    simp only [beq_self_eq_true,Option.map_some]
    rw [if_neg hc]
  | false =>
   show List.lookup x ((if (k == NameKind.free && env.scope.kind == .function && env.kindOf n == some .cell)=true then (n,NameKind.cell) else (n,k)) :: _)=_
   by_cases hc:(k == NameKind.free && env.scope.kind == .function && env.kindOf n == some .cell)=true
   ·rw [if_pos hc,List.lookup_cons,List.lookup_cons,hb];exact ih
   ·rw [if_neg hc,List.lookup_cons,List.lookup_cons,hb];exact ih
theorem HOk.track {P:Program}{w:World}{H:Hp}{h:Heap}{a:Addr}{o:HO}(x:HOk P w H h)(hn:H a=none)(new:ObjOk P w (upd H a o) h a o):HOk P w (upd H a o) h:=fun b u e=>by
 by_cases hb:b=a
 ·subst hb;rw [zac] at e;cases e;exact new
 ·rw [zag hb] at e
  exact (x b u e).stay (fun c v _ q=>q) (fun c q=>by rw [zag (zaj q hn)];exact q) fun c xs q=>by rw [zag (zaj q hn)];exact q
theorem Un.track {fs ex:List Addr}{H H':Hp}{h h':Heap}{a:Addr}{o:HO}(u:Un fs ex H H' h h')(hp:h.objs.size≤a)(hl:∀ b v,H b=some v→b<h.objs.size):Un fs ex H (upd H' a o) h h' where
 keep:=u.keep
 slot:=u.slot
 free:=fun b v q n x=>by rw [zag (Xaw (Xak (Xal q) hp))];exact u.free b v q n x
 there:=u.there
 tups:=fun b xs q=>by rw [zag (Xaw (Xak (hl b _ q) hp))];exact u.tups b xs q
 frzs:=fun b v xs q=>by rw [zag (Xaw (Xak (hl b _ q) hp))];exact u.frzs b v xs q
 tbls:=fun b ps q=>by rw [zag (Xaw (Xak (hl b _ q) hp))];exact u.tbls b ps q
theorem cxC_ok {X:Cx}{pins:List (Addr×Obj)}{σ:St}{H2:Hp}{s2:Shared}{Nc:List Str}{src:List (Option Nat)}{scope:Scope}{cl:List (Str×Addr)}{C:Addr}{fp:List Addr}(I2:Inv X pins σ H2 s2)(S:CompOk X.N X.env.scope Nc src scope)
  (hcl1:∀ (x:Str) (c:Addr),cl.lookup x=some c→X.env.cells.lookup x=some c) (hcl2:∀ x∈scope.names,x.2 = .free→∃ c,cl.lookup x.1=some c) (hC:s2.heap.objs.size≤C)
  (hfp:∀ b∈fp,b<s2.heap.objs.size) (f2:∀ b∈fp,FpOk X pins H2 b):(cxC X Nc scope cl C fp s2 H2).Ok where
 mod:=I2.ok.mod
 kind:=S.kind
 glob:=I2.ok.glob
 blt:=I2.ok.blt
 above:=hC
 inj:=fun x y c h1 h2=>I2.ok.inj x y c (hcl1 _ _ h1) (hcl1 _ _ h2)
 has:=fun x h=>by
  have h':(relabel scope X.env).names.lookup x=some .cell∨(relabel scope X.env).names.lookup x=some .free:=h
  rw [zcz] at h'
  cases hk:scope.names.lookup x with
  | none=>rw [hk] at h';rcases h' with h' | h' <;> cases h'
  | some k =>
   have hm:=zdB hk
   have hkf:k = .free:=by
    rw [hk] at h'
    simp only [Option.map_some] at h'
    cases k with
    | free=>rfl
    | cell=>exact absurd rfl (S.nocell _ hm)
    | _=>exfalso;revert h';simp
   subst hkf
   exact hcl2 _ hm rfl
 cab:=fun x c h=>nomatch h
 hd:=I2.ok.hd
 frames:=I2.ok.frames
 stk:=.inl rfl
 exf:=fun b hb=>⟨Xaw (Xak (hfp b hb) hC),fun x c e=>(f2 b hb).2.2.2.2.1 x c (hcl1 _ _ e)⟩
 bs:=I2.bs
 bsz:=Xar I2.ok.bsz I2.sz
 noex:=fun b o e hb=>by
  rcases (f2 b hb).2.2.2.1 with z | z
  ·exact I2.ok.noex b o e z
  ·exact absurd (Xak (Xal e) (Xar I2.ok.bsz z)) (XaR _)
 exfs:=fun b hb hs=>by
  obtain ⟨_,f1,f3,_⟩:=f2 b hb
  rcases Xao.mp (I2.stkSub b hs) with z | z
  ·exact f1 z
  ·exact f3 z
 funs:=I2.stack
 frf:=I2.stkFree
abbrev TEm (α:Type):=St→Hp→(α→Hp→Prop)→Prop
def PEm {α:Type}(B:Nat)(Y:Cx)(EM:Env→Addr→(Shared→Prop)→Shared→Prop)(AO:List α→Obj→Prop)(em:TEm α):Prop:=
 ∀ (D:Addr) (pins:List (Addr×Obj)) (s:Shared) (σ:St) (H:Hp) (Q:α→Hp→Prop) (ys:List α) (o:Obj),Inv Y pins σ H s→(D,o)∈pins→AO ys o→ys.length<B→em σ H Q →
  EM Y.env D (fun s'=>∃ y H8 s8 h' o' tk,Inv Y pins σ H8 s8∧AO (ys ++ [y]) o'∧Heap.SameBut D s8.heap h'∧h'.get? D=some o'∧s'={ s8 with heap:=h',toks:=tk }∧Q y H8) s
def zfb {α:Type}(B:Nat)(J:It)(g:TG)(tf:TT)(em:TEm α)(Q:List α→Hp→Prop)(σ0:St)(H1:Hp):Prop:=
 ∃ W:Nat→Nat→List α→St→Hp→Prop,(∃ m,W 0 m [] σ0 H1)∧∀ i m ys σc Hc,W i m ys σc Hc →
  (J.stop i Hc∧ys.length≤B∧Q ys Hc) ∨
  (J.go i Hc∧ys.length<B∧∃ N:List α→St→Hp→Prop,(∀ ys' σ' H',N ys' σ' H'→∃ m',m'<m∧W (i+1) m' ys' σ' H') ∧
   ∀ x H',J.yld i Hc x H'→g x σc H' fun σ2 H2=>tf σ2 H2 fun b H3=>if b=true then em σ2 H3 fun y H4=>N (ys ++ [y]) σ2 H4 else N ys σ2 H3)
structure CLoop (prog:Program)(w:World)(A:Around)(tg:Expr)(ifs:List Expr)(ce:Expr)(it:Value)(EM:Env→Addr→(Shared→Prop)→Shared→Prop):Prop where
 mono:∀ (env:Env) (D:Addr) (p q:Shared→Prop) (s:Shared),EM env D p s→(∀ s',p s'→q s')→EM env D q s
 loop:∀ (env:Env) (D:Addr) (I:Nat→Shared→Prop) {R:Result→Shared→Prop} (turn:∀ n s,I n s→wpAny (model prog w) A (pyNext it) (fun r s1=>match r with
   | none=>R (.ok .next) s1
   | some v=>wpAny (model prog w) A (letOwnedTupleGo tg it v) (fun _ s2=>wpAny (model prog w) A (assign tg env v) (fun _ s3 =>
     wpAny (model prog w) A (forIn ifs true fun c r=>if r=true then do let ok ← isTrue c env (eval c env);pure (ForInStep.yield ok) else pure (ForInStep.yield r)) (fun ok s4 =>
      if ok=true then EM env D (fun s6=>∃ m,m<n∧I m s6) s4 else ∃ m,m<n∧I m s4) (fun _ _=>False) s3) (fun _ _=>False) s2) (fun _ _=>False) s1) (fun _ _=>False) s)
  (n:Nat) (s:Shared) (h:I n s),codeAny (model prog w) A (.compLoop ce 0 it (.ref D) env) R s
 start:∀ (env:Env) (D:Addr) (R:Result→Shared→Prop) (s:Shared),codeAny (model prog w) A (.compLoop ce 0 it (.ref D) env) R s →
  wpAny (model prog w) A (pyIter it) (fun it' s'=>codeAny (model prog w) A (.compLoop ce 0 it' (.ref D) env) R s') (notedBy (model prog w) A env fun x s'=>R (.error x) s') s→codeAny (model prog w) A (.compStart ce 0 it (.ref D) env) R s
theorem zdE {α:Type}{X:Cx}{pins:List (Addr×Obj)}{σ:St}{H2:Hp}{s2:Shared}{Nc:List Str}{src:List (Option Nat)}{scope:Scope}{cl:List (Str×Addr)}{fp:List Addr}{tg ce:Expr}{ifs:List Expr}
  {it:Addr} {tn:Nat→Heap→Prop} {J:It} {g:TG} {tf:TT} {em:TEm α} {Qf:List α→Hp→Prop} {E:Value→Shared→Prop} {RR:Value→Addr→Result→Shared→Prop} {mk:Sem Value} {o0:Obj} {AO:List α→Obj→Prop} {ho:Addr→List α→HO} {B:Nat} {EM:Env→Addr→(Shared→Prop)→Shared→Prop}
  (hc:X.calm=true) (I2:Inv X pins σ H2 s2) (S:CompOk X.N X.env.scope Nc src scope)
  (hcl1:∀ (x:Str) (c:Addr),cl.lookup x=some c→X.env.cells.lookup x=some c) (hcl2:∀ x∈scope.names,x.2 = .free→∃ c,cl.lookup x.1=some c)
  (T:Turn X.prog X.w X.K tg J fp it tn) (st2:tn 0 s2.heap) (f2:∀ b∈fp,FpOk X pins H2 b)
  (hg:∀ cl C fp s2 H2,PG (cxC X Nc scope cl C fp s2 H2) tg g) (hf:∀ cl C fp s2 H2,PF (cxC X Nc scope cl C fp s2 H2) ifs tf) (he:∀ cl C fp s2 H2,PEm B (cxC X Nc scope cl C fp s2 H2) EM AO em)
  (hmk:∀ (Q:Value→Shared→Prop) (s:Shared),Q (.ref s.heap.objs.size) { s with heap:=s.heap.push o0 }→wpAny (model X.prog X.w) X.A mk Q E s) (hfr:o0.isFreed=false) (h0:AO [] o0) (hcell:∀ ys o v,AO ys o→o.data≠.cell v)
  (hho:∀ ys o H h D,AO ys o→ys.length≤B→s2.heap.objs.size≤D→h.get? D=some o→ObjOk X.prog X.w (upd H D (ho D ys)) h D (ho D ys))
  (hlp:CLoop X.prog X.w X.A tg ifs ce (.ref it) EM)
  (hw:zfb B J g tf em Qf (zcq src σ) H2)
  (fin:∀ (H4:Hp) (s4:Shared) (ys:List α) (m:Str→Option Value) (C:Addr),s2.heap.objs.size≤C→H4 s2.heap.objs.size=none→Inv X pins σ (upd H4 s2.heap.objs.size (ho s2.heap.objs.size ys)) s4→s4.heap.Ns C m→upd H4 s2.heap.objs.size (ho s2.heap.objs.size ys) C=none→Qf ys H4→RR (.ref s2.heap.objs.size) C (.ok .next) s4) :
  wpAny (model X.prog X.w) X.A mk (fun acc s3=>wpAny (model X.prog X.w) X.A (newFunctionEnv scope X.env.globals cl [] X.env.qual none .none (some X.env)) (fun cenv s4 =>
   codeAny (model X.prog X.w) X.A (.compStart ce 0 (.ref it) acc { cenv with scope:=relabel scope X.env }) (RR acc cenv.locals) s4) E s3) E s2:=by
 refine hmk _ s2 (wpAny_newFunctionEnv S.nocell (by intro y hy;simp at hy) (fun h1 hns1 hsb1=>?_) S.kind)
 dsimp only at hns1 hsb1 ⊢
 generalize hH2:s2.heap.push o0=G2 at hns1 hsb1 ⊢
 have hCz:G2.objs.size=s2.heap.objs.size+1:=by rw [← hH2,XaI]
 generalize hCe:G2.objs.size=C at hns1 hsb1 hCz ⊢
 generalize hDe:s2.heap.objs.size=D at fin hCz ⊢
 have hDC:D≠C:=by omega
 have hCle:s2.heap.objs.size≤C:=by omega
 have hDle:s2.heap.objs.size≤D:=by omega
 have old:∀ b o,s2.heap.get? b=some o→h1.get? b=some o:=fun b o e=>hsb1.extBut b o (Xaw (Xak (Xal e) hCle)) (Xab _ (hH2 ▸ Xab _ e))
 have hacc:h1.get? D=some o0:=by
  refine hsb1.extBut _ _ hDC (Xab _ ?_)
  rw [← hH2,← hDe]
  exact Xaj _ hfr
 have hfp:∀ b∈fp,b<s2.heap.objs.size:=fun b hb=>by
  obtain ⟨o,e,_⟩:=T.obj 0 _ st2 b hb
  exact Xal e
 have ok:=cxC_ok (Nc:=Nc) (src:=src) (scope:=scope) (cl:=cl) (C:=C) (fp:=fp) I2 S hcl1 hcl2 hCle hfp f2
 generalize hXC:cxC X Nc scope cl C fp s2 H2=Y at ok
 have hYN:Y.N=Nc:=by rw [← hXC];rfl
 
 have I0:Inv (cxC X Nc scope cl C fp s2 H2) [] (zcq src σ) H2 { s2 with heap:=h1,toks:=s2.toks+([]:List (Str×Value)).length }:=by
  rw [← hXC] at ok
  refine ⟨ok,rfl,I2.bare,Un.kept old,⟨_,hns1,fun j x v e1 e2 _=>?_⟩,fun x c e=>?_,I2.hok.fresh hCle,fun x c e=>I2.freeC x c (hcl1 _ _ e),(fun p hp=>nomatch hp),I2.hok.kept old,?_⟩
  ·
   have e2':(zcq src σ)[j]? = some (some v):=e2
   have e1':Nc[j]? = some x:=e1
   unfold zcq at e2'
   rw [Xat] at e2'
   cases hs:src[j]? with
   | none=>rw [hs] at e2';cases e2'
   | some o =>
    rw [hs] at e2'
    cases o with
    | none=>cases e2'
    | some i =>
     simp only [Option.map_some,Option.some.injEq] at e2'
     obtain ⟨y,hy1,hy2,hy3⟩:=S.src j i hs
     rw [e1'] at hy1;cases hy1
     have hσ:σ[i]? = some (some v):=by
      cases hq:σ[i]? with
      | none=>rw [hq] at e2';cases e2'
      | some z=>rw [hq] at e2';simp only [Option.getD_some] at e2';rw [e2']
     have hm:=zdB hy3
     have hfr:=S.free _ hm rfl
     obtain ⟨m0,hn0,hl0⟩:=I2.loc
     obtain ⟨u,r,l⟩:=hl0 i x v hy2 hσ (Or.inr hfr)
     refine ⟨u,r,.inr ⟨?_,?_⟩⟩
     ·show (relabel scope X.env).names.lookup x=some .cell∨(relabel scope X.env).names.lookup x=some .free
      rw [zcz,hy3]
      simp only [Option.map_some]
      split
      ·exact .inl rfl
      ·exact .inr rfl
     ·rcases l with ⟨k,_⟩ | ⟨_,c,hc1,hc2⟩
      ·have k':X.env.scope.names.lookup x=some .local:=k
       rw [k'] at hfr;rcases hfr with z | z <;> cases z
      ·obtain ⟨c',hc'⟩:=hcl2 _ hm rfl
       have:=hcl1 _ _ hc'
       rw [hc1] at this;cases this
       exact ⟨c,hc',hc2.keeps old⟩
  ·obtain ⟨v,z⟩:=I2.cell x c (hcl1 _ _ e)
   exact ⟨v,z.keeps old⟩
  ·show (zcq src σ).length=Nc.length
   unfold zcq;rw [Xaf];exact S.len
 obtain ⟨W,⟨m0,w0⟩,turn⟩:=hw
 have loop:codeAny (model X.prog X.w) X.A (.compLoop ce 0 (.ref it) (.ref D) (compEnvC scope cl C X.env)) (RR (.ref D) C) { s2 with heap:=h1,toks:=s2.toks+([]:List (Str×Value)).length }:=by
  have fpk:∀ {H':Hp} {ob:Obj},(∀ b∈fp,H' b=none)→∀ b∈fp,FpOk (cxC X Nc scope cl C fp s2 H2) [(D,ob)] H' b:=fun {H' ob} hn b hb =>
   ⟨hn b hb,(I0.ok.exf b hb).1,I0.ok.exfs b hb,.inl hb,(I0.ok.exf b hb).2,fun p hp=>by
    have e:p=(D,ob):=Xad.mp hp
    subst e
    exact Xbr (Xak (hfp b hb) hDle)⟩
  have hDfs:D ∉ frs X.stack:=fun hs=>by
   rcases Xao.mp (I2.stkSub D hs) with z | z
   ·exact absurd (Xak I2.lt hDle) (by rw [z];exact XaR _)
   ·exact I2.nofs hDle z
  refine hlp.loop (compEnvC scope cl C X.env) D (fun n s'=>∃ i ys σ' H' ob,Inv (cxC X Nc scope cl C fp s2 H2) [] σ' H' s'∧tn i s'.heap∧(∀ b∈fp,H' b=none)∧H' D=none∧s'.heap.get? D=some ob∧AO ys ob∧W i n ys σ' H') ?_ m0 _
   ⟨0,[],zcq src σ,H2,o0,I0,T.keep _ _ _ st2 fun b hb o e=>old b o e,fun b hb=>(f2 b hb).1,I2.hok.fresh hDle,hacc,h0,w0⟩
  rintro n s3 ⟨i,ys,σ3,H3,ob,I3,st3,fr3,hD3,hO3,vs3,w3⟩
  have I3':Inv (cxC X Nc scope cl C fp s2 H2) [(D,ob)] σ3 H3 s3:=I3.pins_of fun p hp=>by
   have e:=Xad.mp hp
   subst e
   exact ⟨hO3,hD3,hDC,hDfs,fun v z=>hcell ys ob v vs3 z⟩
  rcases turn i n ys σ3 H3 w3 with ⟨stop,hlen,qn⟩ | ⟨go,hlen,N,hN,step⟩
  ·refine thn (T.done (cxC X Nc scope cl C fp s2 H2) rfl rfl rfl hc i _ s3 σ3 H3 _ I3' (fpk fr3) st3 stop) fun r s4 ⟨hr,I4⟩=>?_
   subst hr
   have hO4:=(I4.pin (D,_) (XaA _ (Xad.mpr rfl))).1
   obtain ⟨m4,hn4,_⟩:=I4.loc
   have fC:H3 C=none:=I4.free
   have uD:upd H3 D (ho D ys) C=none:=by rw [zag hDC.symm];exact fC
   have hl2:∀ b v,H2 b=some v→b<s2.heap.objs.size:=fun b v e=>I2.hok.lt e
   have Iout:Inv X pins σ (upd H3 D (ho D ys)) s4:=by
    refine I2.call' (ch:=fp) I4.os (Un.track I4.base hDle hl2) (HOk.track I4.hok hD3 (hho ys ob H3 s4.heap D vs3 hlen hDle hO4)) I4.bare fun b hb=>?_
    obtain ⟨_,a1,_,a3,a4,a5⟩:=f2 b hb
    exact ⟨a3,a1,a4,a5⟩
   exact fin H3 s4 ys m4 C (by omega) hD3 Iout hn4 uD qn
  ·refine thn (T.item (cxC X Nc scope cl C fp s2 H2) rfl rfl rfl hc i _ s3 σ3 H3 _ I3' (fpk fr3) st3 go) fun r s4 ⟨u,hr,h4⟩=>?_
   subst hr
   refine thn h4 fun _ s5 hh_=>?_
   obtain ⟨x,H5,I5,r5,y5,st5,fr5⟩:=hh_
   have I5':=I5.pinned (fpk fr5) (T.obj _ _ st5)
   refine thn (hg cl C fp s2 H2 _ s5 σ3 H5 x u _ I5' r5 (step x H5 y5)) fun _ s6 ⟨σ6,H6,I6,q6⟩=>?_
   refine thn (hf cl C fp s2 H2 _ s6 σ6 H6 _ I6 q6) fun ok s7 ⟨H7,I7,q7⟩=>?_
   have back:∀ {s8:Shared} {σ8:St} {H8:Hp},Inv (cxC X Nc scope cl C fp s2 H2) ([(D,ob)] ++ zfZ fp s5.heap) σ8 H8 s8 →
     tn (i+1) s8.heap∧(∀ b∈fp,H8 b=none)∧H8 D=none∧s8.heap.get? D=some ob:=fun {s8 σ8 H8} I8=>by
    refine ⟨T.keep _ _ _ st5 fun b hb o e=>(I8.pin (b,o) (XaA _ (XaA _ (zcs hb e)))).1,fun b hb=>?_,?_,?_⟩
    ·obtain ⟨o,e,d⟩:=T.obj _ _ st5 b hb
     exact (I8.pin (b,o) (XaA _ (XaA _ (zcs hb e)))).2.1
    ·exact (I8.pin (D,_) (XaA _ (XbA _ (Xad.mpr rfl)))).2.1
    ·exact (I8.pin (D,_) (XaA _ (XbA _ (Xad.mpr rfl)))).1
   cases ok with
   | false =>
    obtain ⟨m',hm',w7⟩:=hN _ _ _ q7
    obtain ⟨b1,b2,b3,b4⟩:=back I7
    exact ⟨m',hm',i+1,ys,σ6,H7,ob,I7.pins_of (fun p hp=>nomatch hp),b1,b2,b3,b4,vs3,w7⟩
   | true =>
    refine hlp.mono _ _ _ _ _ (he cl C fp s2 H2 D _ s7 σ6 H7 _ ys ob I7 (XbA _ (Xad.mpr rfl)) vs3 hlen q7) fun s9 hh_=>?_
    obtain ⟨y,H8,s8,h9,o9,tk9,I8,a9,sb9,g9,e9,q8⟩:=hh_
    subst e9
    obtain ⟨m',hm',w8⟩:=hN _ _ _ q8
    obtain ⟨b1,b2,b3,b4⟩:=back I8
    have I8n:Inv (cxC X Nc scope cl C fp s2 H2) [] σ6 H8 s8:=I8.pins_of fun p hp=>nomatch hp
    have I9:Inv (cxC X Nc scope cl C fp s2 H2) [] σ6 H8 { s8 with heap:=h9,toks:=tk9 }:=
     I8n.turned (it:=D) (fun b o hb e=>sb9.extBut b o hb e) b3 hDC (.inr hDle) (fun x c e z=>by
      obtain ⟨w',z'⟩:=I2.cell x c (hcl1 _ _ e)
      exact absurd (Xak z'.lt hDle) (by rw [z];exact XaR _)) (fun p hp=>nomatch hp)
    refine ⟨m',hm',i+1,ys ++ [y],σ6,H8,o9,I9,T.keep _ _ _ b1 fun b hb o e=>sb9.extBut b o (Xaw (Xak (hfp b hb) hDle)) e,b2,b3,g9,a9,w8⟩
 exact hlp.start _ D _ _ loop (T.self X.A 0 _ _ _ (T.keep _ _ _ st2 fun b hb o e=>old b o e) loop)
def zgH (J:It)(g:TG)(tf:TT)(te:TE)(Q:List V→Hp→Prop)(σ0:St)(H1:Hp):Prop:=zfb (α:=V) sizeLine J g tf te Q σ0 H1
def tComp (src:List (Option Nat))(wi:TI)(g:TG)(tf:TT)(te:TE):TE:=fun σ H Q=>wi σ H fun J H1 =>
 zgH J g tf te (fun ys H2=>∀ D,H2 D=none→Q (.ref D) (upd H2 D (.lst ys))) (zcq src σ) H1
def EMl (prog:Program)(w:World)(A:Around)(elt:Expr)(env:Env)(D:Addr)(p:Shared→Prop)(s:Shared):Prop:=
 wpAny (model prog w) A (eval elt env) (fun v s5=>wpAny (model prog w) A (call (.builtin "list.append") [.ref D,v]) (fun _ s6=>p s6) (fun _ _=>False) s5) (fun _ _=>False) s
theorem zjw {prog:Program}{w:World}{A:Around}{elt target iter:Expr}{ifs:List Expr}{scope:Scope}{pos:Pos}{it:Value}:CLoop prog w A target ifs (.ListComp elt [⟨target,iter,ifs,0⟩] scope pos) it (EMl prog w A elt) where
 mono:=fun env D p q s h k=>Xas h (fun v s5 h5=>Xas h5 (fun _ s6 h6=>k s6 h6) fun _ _ e=>e) fun _ _ e=>e
 loop:=fun env D I {R} turn n s h=>zmx I turn n h
 start:=fun env D R s h0 h=>codeAny_compStart_list h0 h
inductive AOl (ys:List V):Obj→Prop
 | mk (its:List Value) (k:Nat):Vals ys its→AOl ys { cls:=.type "list",data:=.seq its.toArray k }
theorem zkG {Y:Cx}{elt:Expr}{te:TE}(he:PE Y elt te)(hxe:Y.xe=fun _ _=>False):PEm sizeLine Y (EMl Y.prog Y.w Y.A elt) AOl te:=by
 intro D pins s σ H Q ys o I hp ao hl h
 refine Xas (he pins s σ H _ I h) (fun v s8 hh_=>?_) fun e s' z=>by rw [hxe] at z;exact z
 obtain ⟨y,H8,I8,r8,q8⟩:=hh_
 have g8:=(I8.pin (D,o) (XaA _ hp)).1
 obtain ⟨its,k,vs3⟩:=ao
 have hl8:=vs3.length
 refine call_meets F.slot_list_append ⟨_,g8,rfl⟩ F.entry_list_append (F.args_list_append_2 _ _) (PySem.list_append D its.toArray k v (by rw [Xan];omega)) ⟨g8,?_⟩
 have qn:=PySem.IsL.update g8 (·.push v)
 rw [show its.toArray.push v=(its ++ [v]).toArray by simp] at qn
 exact ⟨y,H8,s8,_,_,_,I8,.mk (its ++ [v]) _ (vs3.append (.cons r8 .nil)),Heap.SameBut.update _ _ _,qn,rfl,q8⟩
theorem zgv {X:Cx}{pins:List (Addr×Obj)}{σ:St}{H2:Hp}{s2:Shared}{Nc:List Str}{src:List (Option Nat)}{scope:Scope}{cl:List (Str×Addr)}{fp:List Addr}{elt tg iter:Expr}{ifs:List Expr}{pos:Pos}
  {it:Addr} {tn:Nat→Heap→Prop} {J:It} {g:TG} {tf:TT} {te:TE} {Qf:List V→Hp→Prop} {E:Value→Shared→Prop} {RR:Value→Addr→Result→Shared→Prop}
  (hc:X.calm=true) (I2:Inv X pins σ H2 s2) (S:CompOk X.N X.env.scope Nc src scope)
  (hcl1:∀ (x:Str) (c:Addr),cl.lookup x=some c→X.env.cells.lookup x=some c) (hcl2:∀ x∈scope.names,x.2 = .free→∃ c,cl.lookup x.1=some c)
  (T:Turn X.prog X.w X.K tg J fp it tn) (st2:tn 0 s2.heap) (f2:∀ b∈fp,FpOk X pins H2 b)
  (hg:∀ cl C fp s2 H2,PG (cxC X Nc scope cl C fp s2 H2) tg g) (hf:∀ cl C fp s2 H2,PF (cxC X Nc scope cl C fp s2 H2) ifs tf) (he:∀ cl C fp s2 H2,PE (cxC X Nc scope cl C fp s2 H2) elt te)
  (hw:zgH J g tf te Qf (zcq src σ) H2)
  (fin:∀ (H4:Hp) (s4:Shared) (ys:List V) (m:Str→Option Value) (C:Addr),s2.heap.objs.size≤C→H4 s2.heap.objs.size=none→Inv X pins σ (upd H4 s2.heap.objs.size (.lst ys)) s4→s4.heap.Ns C m→upd H4 s2.heap.objs.size (.lst ys) C=none→Qf ys H4→RR (.ref s2.heap.objs.size) C (.ok .next) s4) :
  wpAny (model X.prog X.w) X.A (newList []) (fun acc s3=>wpAny (model X.prog X.w) X.A (newFunctionEnv scope X.env.globals cl [] X.env.qual none .none (some X.env)) (fun cenv s4 =>
   codeAny (model X.prog X.w) X.A (.compStart (.ListComp elt [⟨tg,iter,ifs,0⟩] scope pos) 0 (.ref it) acc { cenv with scope:=relabel scope X.env }) (RR acc cenv.locals) s4) E s3) E s2:=zdE (α:=V) (B:=sizeLine) (ho:=fun _ ys=>.lst ys) (AO:=AOl) hc I2 S hcl1 hcl2 T st2 f2 hg hf (fun cl C fp s2 H2=>zkG (he cl C fp s2 H2) rfl) (fun _ _ q=>XaL q) rfl (.mk [] 0 .nil) (fun _ _ _ x z=>by cases x;cases z)
  (fun _ _ _ _ _ x hl _ e=>by obtain ⟨its,k,v⟩:=x;exact ⟨hl,its,k,v,e⟩) zjw hw fin
section
variable {X:Cx}{Nc:List Str}{src:List (Option Nat)}{scope:Scope}{elt tg iter:Expr}{ifs:List Expr}{pos:Pos}{wi:TI}{g:TG}{tf:TT}{te:TE}
theorem zdx (src:List (Option Nat))(hc:X.calm=true)(S:CompOk X.N X.env.scope Nc src scope)(hi:PI X tg iter wi)
  (hg:∀ cl C fp s2 H2,PG (cxC X Nc scope cl C fp s2 H2) tg g) (hf:∀ cl C fp s2 H2,PF (cxC X Nc scope cl C fp s2 H2) ifs tf) (he:∀ cl C fp s2 H2,PE (cxC X Nc scope cl C fp s2 H2) elt te)
  (hs:∀ x,foldedSetIterable iter X.env x=pure x:=by intro _;rfl):PE X (.ListComp elt [⟨tg,iter,ifs,0⟩] scope pos) (tComp src wi g tf te):=by
 intro pins s σ H Q I h
 obtain ⟨cl,hclos,hcl1,hcl2⟩:=zbj I.ok (scope:=scope) S.free
 rw [eval_ListComp]
 refine XbJ (use:=none) rfl hs hclos S.kind (fun x hx hl=>by obtain ⟨n,k⟩:=x;cases hl;exact zbh S.nodup hx) (thn (hi pins s σ H _ I h) fun xv s1 h1=>thn h1 fun itv s2 h2=>?_)
 obtain ⟨it,fp,tn,J,H2,e,I2,T,st2,f2,hw⟩:=h2
 subst e
 refine zgv (RR:=fun acc C=>compPost (model X.prog X.w) X.A X.xe none (EP X pins σ Q) acc C) hc I2 S hcl1 hcl2 T st2 f2 hg hf he hw ?_
 intro H4 s4 ys m C hC hD Iout hn hCn q
 refine ⟨m,hn,fun h' sb=>⟨.ref s2.heap.objs.size,_,?_,rfl,q _ hD⟩⟩
 obtain ⟨f0,f1,f3,f4,f5,f6⟩:=I2.fpOk (H':=upd H4 s2.heap.objs.size (.lst ys)) hC hCn
 exact Iout.turned (t':=s4.toks) (it:=C) (fun b o hb e=>(sb.2 b hb).trans e) f0 f1 f4 f5 f6
theorem zeZ {i:Nat}{y:Str}{pos' spos:Pos}(src:List (Option Nat))(hN:X.N.Nodup)(hi':X.N[i]? = some y)(hy:X.env.scope.names.lookup y=some .local)
  (hc:X.calm=true) (S:CompOk X.N X.env.scope Nc src scope) (hi:PI X tg iter wi)
  (hg:∀ cl C fp s2 H2,PG (cxC X Nc scope cl C fp s2 H2) tg g) (hf:∀ cl C fp s2 H2,PF (cxC X Nc scope cl C fp s2 H2) ifs tf) (he:∀ cl C fp s2 H2,PE (cxC X Nc scope cl C fp s2 H2) elt te)
  (hsw:swapsWith (.ListComp elt [⟨tg,iter,ifs,0⟩] scope pos) (some (.Name y pos')) spos.line X.env=pure true:=by rfl)
  (hs:∀ x,foldedSetIterable iter X.env x=pure x:=by intro _;rfl):PS X (.Assign [.Name y pos'] (.ListComp elt [⟨tg,iter,ifs,0⟩] scope pos) spos) (tAsg (tComp src wi g tf te) (za6 i)):=by
 intro pins s σ H D I h
 obtain ⟨cl,hclos,hcl1,hcl2⟩:=zbj I.ok (scope:=scope) S.free
 rw [exec_Assign_Name_used _ _ _ _ hsw]
 refine Xaa (XaW (Xaa ?_))
 show wpAny _ X.A (do let _ ← comprehension (.ListComp elt [⟨tg,iter,ifs,0⟩] scope pos) scope X.env _ (newList []) false (eval iter X.env) (some (assign (.Name y pos') X.env))) _ _ s
 refine Xaa (Xas (XbJ (use:=some (assign (.Name y pos') X.env)) (Q:=fun _ s'=>SP X pins D .next s') rfl hs hclos S.kind (fun x hx hl=>by obtain ⟨n,k⟩:=x;cases hl;exact zbh S.nodup hx)
  (thn (hi pins s σ H _ I h) fun xv s1 h1=>thn h1 fun itv s2 h2=>?_)) (fun _ s' hq=>Xac (Xac hq)) fun _ _ e=>e)
 obtain ⟨it,fp,tn,J,H2,e,I2,T,st2,f2,hw⟩:=h2
 subst e
 refine zgv (RR:=fun acc C=>compPost (model X.prog X.w) X.A X.xe (some (assign (.Name y pos') X.env)) (fun _ s'=>SP X pins D .next s') acc C) hc I2 S hcl1 hcl2 T st2 f2 hg hf he hw ?_
 intro H4 s4 ys m C hC hD Iout hn hCn q
 show wpAny _ X.A (assign (.Name y pos') X.env (.ref s2.heap.objs.size)) _ _ _
 refine wpAny_assign_Name (zd6 (i:=i) Iout hN hi' (.inl hy) (v:=.ref s2.heap.objs.size) rfl (fun s5 I5 ch=>?_) (.inr hy))
 obtain ⟨f0,f1,f3,f4,f5,f6⟩:=I2.fpOk (H':=upd H4 s2.heap.objs.size (.lst ys)) hC hCn
 obtain ⟨a,sb,ha⟩:=ch
 have hCa:C≠a:=by
  rcases ha with ha | ha
  ·rw [ha];exact f1
  ·exact fun z=>f5 _ _ ha z.symm
 refine ⟨m,hn.sameBut sb hCa,fun h' sb'=>⟨_,_,I5.turned (t':=s5.toks) (it:=C) (fun b o hb e=>(sb'.2 b hb).trans e) f0 f1 f4 f5 f6,q _ hD⟩⟩
end
section
variable {X:Cx}{pins:List (Addr×Obj)}{σ:St}{H:Hp}{s:Shared}
theorem Inv.turnedL {h':Heap}{t':Nat}{ch:List Addr}(I:Inv X pins σ H s)(k:∀ b o,b ∉ ch→s.heap.get? b=some o→h'.get? b=some o)(hf:∀ b∈ch,FpOk X pins H b):Inv X pins σ H { s with heap:=h',toks:=t' }:=by
 have nit:∀ b u,H b=some u→b ∉ ch:=fun b u e z=>by rw [(hf b z).1] at e;cases e
 refine I.step (g':=s.gens) (d':=s.drawn) (ch:=ch) (fun b hb=>?_) (fun b o _ _ hc e _=>k b o hc e) (fun b o _ _ hc e _=>⟨o.slots,k b o hc e⟩) (fun _ _ _ _ n=>n)
  (fun b o hc e=>⟨o,k b o hc e⟩) (fun _ _ e=>e) (fun _ _ _ e=>e) (fun b ps e=>⟨#[],by rw [e];simp⟩) (fun m hm=>?_) (fun b u e=>?_) I.bare
 ·obtain ⟨_,a1,_,a3,a4,a5⟩:=hf b hb
  exact ⟨a3,a1,a4,a5⟩
 ·obtain ⟨o,es,ep,ho,r⟩:=hm
  exact ⟨o,es,ep,k _ o (fun z=>(hf _ z).2.1 rfl) ho,r⟩
 ·refine (I.hok b u e).stay (fun c v hc q=>k c v ?_ q) (fun _ q=>q) fun _ _ q=>q
  rcases hc with z | z
  ·rw [z];exact nit b u e
  ·exact nit c _ z
theorem Un.track' {fs ex:List Addr}{H H':Hp}{h h':Heap}{a:Addr}{o:HO}(u:Un fs ex H H' h h')(hp:h.objs.size≤a)(hn:H' a=none):Un fs ex H (upd H' a o) h h' where
 keep:=u.keep
 slot:=u.slot
 free:=fun b v q n x=>by rw [zag (Xaw (Xak (Xal q) hp))];exact u.free b v q n x
 there:=u.there
 tups:=fun b xs q=>by rw [zag (zaj (u.tups b xs q) hn)];exact u.tups b xs q
 frzs:=fun b v xs q=>by rw [zag (zaj (u.frzs b v xs q) hn)];exact u.frzs b v xs q
 tbls:=fun b ps q=>by
  obtain ⟨m,e⟩:=u.tbls b ps q
  exact ⟨m,by rw [zag (zaj e hn)];exact e⟩
theorem Inv.track {a:Addr}{o:HO}(I:Inv X pins σ H s)(f:FpOk X pins H a)(hs:X.s₀.heap.objs.size≤a)(new:ObjOk X.prog X.w (upd H a o) s.heap a o):Inv X pins σ (upd H a o) s:=by
 obtain ⟨hn,h1,_,_,h4,h5⟩:=f
 refine ⟨I.ok,I.os,I.bare,Un.track' I.base hs hn,I.loc,I.cell,by rw [zag (Ne.symm h1)];exact I.free,fun x c e=>by rw [zag (h4 x c e)];exact I.freeC x c e,fun p hp=>?_,HOk.track I.hok hn new,I.len⟩
 obtain ⟨a1,a2,a3⟩:=I.pin p hp
 exact ⟨a1,by rw [zag (h5 p hp)];exact a2,a3⟩
end
def Ite (K:W.Frag)(a:Addr):It:=
 ⟨fun i H=>∃ xs x,SqL K H a xs∧xs[i]? = some x,
  fun i H v H'=>∃ T x,H T=none∧v = .ref T∧H'=upd H T (.tup [.int i,x])∧∀ xs,SqL K H a xs→xs[i]? = some x,
  fun i H=>∃ xs,SqL K H a xs∧xs.length≤i⟩
theorem zgN {P:Program}{w:World}{H:Hp}{h:Heap}{T:Addr}{x y:V}{u v:Value}(r:RelV x u)(q:RelV y v)(e:h.get? T=some { cls:=.type "tuple",data:=.seq #[u,v] }):ObjOk P w H h T (.tup [x,y]):=
 ⟨⟨by show 2≤sizeLine;decide,_,e,rfl⟩,[u,v],.cons r (.cons q .nil),⟨_,e,rfl,_,rfl⟩⟩
theorem ziR {P:Program}{w:World}{K:W.Frag}{elts:List Expr}{kt:Nat}{tp:Pos}(a e it:Addr)(hne:e≠it) :
  Turn P w K (.Tuple elts kt tp) (Ite K a) [e,it] e (fun i h=>(∃ old,IsEnum h e it i old)∧h.IsListIter it a i) where
 mem:=by simp
 obj:=fun i h st b hb=>by
  obtain ⟨⟨old,he⟩,hi⟩:=st
  rcases Xao.mp hb with z | z
  ·subst z
   exact ⟨_,he,fun v z=>by
    have z':Data.fields _=Data.cell v:=z
    cases z'⟩
  ·have z:=Xad.mp z
   subst z
   obtain ⟨o,e1,c,d⟩:=hi
   exact ⟨o,e1,fun v z=>by rw [d] at z;cases z⟩
 keep:=fun i h h' st k=>by
  obtain ⟨⟨old,he⟩,hi⟩:=st
  exact ⟨⟨old,k e (by simp) _ he⟩,hi.at fun o e1=>k it (by simp) o e1⟩
 item:=by
  intro X hP hw hK hc i pins s σ H E I hf st hg
  subst hP hw hK
  obtain ⟨xs,x,hq,hx⟩:=hg
  obtain ⟨its,rv,p,hz⟩:=I.list hq
  obtain ⟨u,hu,ru⟩:=rv.get hx
  obtain ⟨⟨old,he⟩,hi⟩:=st
  refine wpAny_pyNext_enum_item he hi p.isList (x:=u) (by simpa using hu) hne fun h' ho hi' ht hsz kk=>⟨_,rfl,?_⟩
  refine wpAny_letOwnedTupleGo_enum ho fun h2 he2 sb=>?_
  have fT:FpOk X pins H s.heap.objs.size:=I.fpOk (Xae _) (I.hok.fresh (Xae _))
  have k2:∀ b o,b ∉ [e,it]→s.heap.get? b=some o→h2.get? b=some o:=fun b o hb e1=>by
   simp only [Xao,Xbc,or_false,not_or] at hb
   exact (sb.2 b hb.1).trans (kk b o hb.1 hb.2 e1)
  have I1:Inv X pins σ H { s with heap:=h2,toks:=s.toks+1 }:=I.turnedL (ch:=[e,it]) k2 hf
  have eT:h2.get? s.heap.objs.size=some { cls:=.type "tuple",data:=.seq #[.int i s.toks,u] }:=(sb.2 _ (Xbr (Xal he))).trans ht
  have I2:=I1.track (o:=.tup [.int i,x]) fT (Xar I.sz (Xae _)) (zgN ⟨_,rfl⟩ ru eT)
  refine ⟨.ref s.heap.objs.size,_,I2,rfl,⟨_,x,fT.1,rfl,rfl,fun ys hy=>by rw [I.list_inj hy hq];exact hx⟩,⟨⟨u,by exact_mod_cast he2⟩,hi'.extBut sb.extBut (Ne.symm hne)⟩,fun b hb=>?_⟩
  obtain ⟨o,eb⟩:∃ o,s.heap.get? b=some o:=by
   rcases Xao.mp hb with z | z
   ·subst z;exact ⟨_,he⟩
   ·have z:=Xad.mp z
    subst z
    obtain ⟨o,e1,_⟩:=hi
    exact ⟨o,e1⟩
  rw [zag (Xaw (Xal eb))]
  exact (hf b hb).1
 done:=by
  intro X hP hw hK hc i pins s σ H E I hf st hg
  subst hP hw hK
  obtain ⟨xs,hq,hx⟩:=hg
  obtain ⟨its,rv,p,hz⟩:=I.list hq
  obtain ⟨⟨old,he⟩,hi⟩:=st
  have hl:=rv.length
  refine wpAny_pyNext_enum_end (I.ok.hd hc) he hi p.isList (by simp;omega) fun h' eb=>⟨rfl,I.turnedL (t':=s.toks) (ch:=[e,it]) (fun b o hb e1=>eb b o (fun z=>hb (by simp [z])) e1) hf⟩
 self:=fun _ _ _ _ _ st h=>by
  obtain ⟨⟨old,he⟩,hi⟩:=st
  exact wpAny_pyIter_enum he h
inductive iEnum_1 (K:W.Frag)(R:It→Hp→Prop)(vs:List V)(H1:Hp):Prop
 | mk (a:_) (z0_:vs=[.ref a]) (z1_:(∃ xs,SqL K H1 a xs)) (z2_:R (Ite K a) H1)
def iEnum (K:W.Frag)(ta:TA):TI:=fun σ H R=>ta σ H (iEnum_1 K R)
theorem zmd {X:Cx}{a:Expr}{ta:TA}{p pos:Pos}{elts:List Expr}{kt:Nat}{tp:Pos}(hg:Gl X "enumerate")(hm:X.mg "enumerate" = none)(ha:PA X [a] ta)(hs:starEach [a] X.env=[(false,eval a X.env)]:=by rfl) :
  PI X (.Tuple elts kt tp) (.Call (.Name "enumerate" p) [a] [] pos) (iEnum X.K ta):=by
 intro pins s σ H R I h
 refine Call_ (zc5 I hg hm boot_enumerate (PyProof.Rows.callWith_type1 (thn (ha pos pins s σ H _ I h) fun us s1 hh_=>?_) hs rfl))
 obtain ⟨vs,H1,I1,r1,q1⟩:=hh_
 obtain ⟨l,e,⟨xs,hq⟩,q⟩:=q1
 subst e
 obtain ⟨u,rfl,ru⟩:=zdL r1
 cases ru
 obtain ⟨its,rv,pl,hz⟩:=I1.list hq
 refine call_enumerate_list pl.isList fun h' he hi hsz kk=>?_
 refine wpAny_pyIter_enum he ?_
 have I2:Inv X pins σ H1 { s1 with heap:=h',toks:=s1.toks }:=I1.kept kk
 refine ⟨s1.heap.objs.size+1,[s1.heap.objs.size+1,s1.heap.objs.size],_,_,H1,rfl,I2,ziR l _ _ (Nat.succ_ne_self _),⟨⟨_,he⟩,hi⟩,fun b hb=>?_,q⟩
 rcases Xao.mp hb with z | z
 ·subst z;exact I1.fpOk (Xbq _) (I1.hok.fresh (Xbq _))
 ·have z:=Xad.mp z
  subst z;exact I1.fpOk (Xae _) (I1.hok.fresh (Xae _))
theorem zk7:bootBuiltins "zip" = some (.type "zip"):=by decide +kernel
section
variable {X:Cx}{CX:CXT}{k:Nat}{f:Addr}{fd:FuncData}{ps ks:List Str}{sp:Sp}{E:XK}{x:Str}{p pos:Pos}{kws:List Keyword}{tk:TA}{g:List Value→List Value→List Value}{gV:List V→List V→List V}
theorem Fun.kbinds {K:W.Frag}{x qual:Str}{st:Stmt}{f:Addr}{fd:FuncData}{ps ks:List Str}{g:List Value→List Value→List Value}{gV:List V→List V→List V}(F:Fun K x qual st f fd)
  (h:∀ (kV doc pm:Value) (an:Option Addr) (cdv ct:Value) (us ws:List Value),(g us ws).length=ps.length→bindArgs (W.fnOf x qual (zbx st) (za0 st) (zai st) .none kV doc pm an cdv ct) ⟨us,ks.zip ws⟩=pure (ps.zip (g us ws)))
  (rel:∀ {vs:List V} {us:List Value} {zs:List V} {ws:List Value},Vals vs us→Vals zs ws→Vals (gV vs zs) (g us ws)):KBinds K fd ps ks g gV:=by
 obtain ⟨oc,od,kV,doc,pm,an,cdv,ct,osl,rfl,lk,hcd⟩:=F.ex
 exact ⟨fun s us ws _ hl=>.of_eq (h kV doc pm an cdv ct us ws hl),rel⟩
end
section
variable {X:Cx}
theorem zg0 (val:Nat→Int)(ns:List Int)(h:∀ i n,ns[i]? = some n→val i=n):∀ j,j≤ns.length→preSum val j=(ns.take j).sum:=by
 intro j
 induction j with
 | zero=>intro _;rfl
 | succ j ih =>
  intro hj
  have hlt:j<ns.length:=hj
  show preSum val j+val j=_
  rw [ih (XbH hlt),h j ns[j] (by simp [hlt]),List.take_succ,List.sum_append]
  simp [hlt]
theorem zgx (hc:X.calm=true):zdc X (.builtin "sum") (fun xs H Q=>∃ (a:Addr) (ns:List Int),xs=[.ref a]∧SqL X.K H a (ns.map V.int)∧Q (.int ns.sum) H):=by
 intro pins s σ H xs us Q I r h
 obtain ⟨a,ns,rfl,hq,q⟩:=h
 obtain ⟨u,rfl,ru⟩:=zdL r
 cases ru
 obtain ⟨its,rv,p,hz⟩:=I.list hq
 have hi:=zir rv
 have hl:=hi.length
 refine call_sum_walkG (wpAny_pyIter_list p.isList ?_)
 have hne:a≠s.heap.objs.size:=by
  obtain ⟨o,ho,_⟩:=p.isList
  exact Xaw (Xal ho)
 refine ⟨s.heap.objs.size,_,_,_,_,_,fun i=>(ns[i]?).getD 0,rfl,Walks.list (A:=X.A.in1) (I.ok.hd hc) s.heap.objs.size a hne its.toArray,⟨⟨_,Xaj _ rfl,rfl,rfl⟩,p.isList.push _⟩,?_,?_,fun h' tk t' kk=>?_⟩
 ·intro b hb
  simp only [Xao,Xbc,or_false] at hb
  rw [show ({ s with heap:=s.heap.push _ }:Shared).heap.objs.size=s.heap.objs.size+1 from XaI ..]
  rcases hb with rfl | rfl
  ·exact XaZ _
  ·obtain ⟨o,ho,_⟩:=p.isList
   exact Nat.lt_succ_of_lt (Xal ho)
 ·intro i v hv
  have hv':its[i]? = some v:=by simpa using hv
  cases hn:ns[i]? with
  | none =>
   exfalso
   rw [XbB,← hl] at hn
   rw [XaD hn] at hv'
   cases hv'
  | some n =>
   obtain ⟨t,ht⟩:=hi.get i n hn
   rw [ht] at hv';cases hv'
   exact ⟨t,by show Value.int n t=Value.int ((ns[i]?).getD 0) t;rw [hn];rfl⟩
 ·have e:preSum (fun i=>(ns[i]?).getD 0) its.toArray.size=ns.sum:=by
   rw [zg0 _ ns (fun i n h=>by rw [h];rfl) _ (by simp;omega),Xa8 (by simp;omega)]
  rw [e]
  refine ⟨.int ns.sum,H,I.kept (t':=tk) fun b o e1=>kk b o (fun hb=>?_) (Xab _ e1),⟨t',rfl⟩,q⟩
  have hb:=Xad.mp hb
  exact absurd (Xal e1) (by rw [hb];exact XaR _)
theorem zkg (bs:List Bool)(tr:Nat→Bool)(h:∀ i b,bs[i]? = some b→tr i=b):(List.range bs.length).all tr=bs.all id:=by
 induction bs generalizing tr with
 | nil=>rfl
 | cons b r ih =>
  rw [Xau,List.range_succ_eq_map,List.all_cons,List.all_map,List.all_cons,h 0 b rfl]
  have:=ih (tr ∘ Nat.succ) (fun i c hi=>h (i+1) c (by simpa using hi))
  rw [this];rfl
theorem zeM (hc:X.calm=true):zdc X (.builtin "all") (fun xs H Q=>∃ (a:Addr) (bs:List Bool),xs=[.ref a]∧SqL X.K H a (bs.map V.bl)∧Q (.bl (bs.all id)) H):=by
 intro pins s σ H xs us Q I r h
 obtain ⟨a,bs,rfl,hq,q⟩:=h
 obtain ⟨u,rfl,ru⟩:=zdL r
 cases ru
 obtain ⟨its,rv,p,hz⟩:=I.list hq
 have hl:=rv.length
 rw [Xaf] at hl
 refine call_all_walk (wpAny_pyIter_list p.isList ?_)
 have hne:a≠s.heap.objs.size:=by
  obtain ⟨o,ho,_⟩:=p.isList
  exact Xaw (Xal ho)
 refine ⟨s.heap.objs.size,_,_,_,_,_,fun i=>(bs[i]?).getD true,rfl,Walks.list (A:=X.A.in1) (I.ok.hd hc) s.heap.objs.size a hne its.toArray,⟨⟨_,Xaj _ rfl,rfl,rfl⟩,p.isList.push _⟩,?_,fun h' tk kk=>?_⟩
 ·intro i v s' Q' E' hv hq'
  have hv':its[i]? = some v:=by simpa using hv
  cases hn:bs[i]? with
  | none =>
   exfalso
   rw [XbB,hl] at hn
   rw [XaD hn] at hv'
   cases hv'
  | some b =>
   obtain ⟨u',hu',ru'⟩:=rv.get (i:=i) (x:=V.bl b) (by simp [hn])
   obtain rfl:u'=Value.bool b:=ru'
   rw [hu'] at hv';cases hv'
   have hq2:Q' ((bs[i]?).getD true) s':=hq'
   rw [hn] at hq2
   exact XaU hq2
 ·have e:(List.range its.toArray.size).all (fun i=>(bs[i]?).getD true)=bs.all id:=by
   rw [show its.toArray.size=bs.length by simp;omega]
   exact zkg bs _ fun i b h=>by rw [h];rfl
  rw [e]
  refine ⟨.bl _,H,I.kept (t':=tk) fun b o e1=>kk b o (fun hb=>?_) (Xab _ e1),rfl,q⟩
  have hb:=Xad.mp hb
  exact absurd (Xal e1) (by rw [hb];exact XaR _)
theorem rl_int:RelV (.ty "int") (.type "int"):=rfl
theorem zi3:RelV (.ty "bool") (.type "bool"):=rfl
theorem zlI:bootBuiltins "int" = some (.type "int"):=by decide +kernel
theorem zka:bootBuiltins "bool" = some (.type "bool"):=by decide +kernel
theorem zcA:bootBuiltins "isinstance" = some (.builtin "isinstance"):=by decide +kernel
theorem zkb:bootBuiltins "all" = some (.builtin "all"):=by decide +kernel
inductive rCatS (K:W.Frag)(x:V)(y:V)(H:Hp)(Q:VK):Prop
 | mk (a:_) (b:_) (xs:_) (ys:_) (z0_:x = .ref a) (z1_:y = .ref b) (z2_:SqL K H a xs) (z3_:SqL K H b ys) (z4_:xs.length+ys.length≤sizeLine) (z5_:∀ p,H p=none→Q (.ref p) (upd H p (.lst (xs ++ ys))))
theorem zms:OpR X (binaryOp .Add) (rCatS X.K):=by
 intro pins s σ H x y v u Q I rx ry h
 obtain ⟨a,b,xs,ys,rfl,rfl,hq,hq2,hz,q⟩:=h
 cases rx
 cases ry
 obtain ⟨its,rv,p,_⟩:=I.list hq
 obtain ⟨its2,rv2,p2,_⟩:=I.list hq2
 have e1:=rv.length
 have e2:=rv2.length
 obtain ⟨⟨cls,dd,data,sl⟩,ho,hc,n,hd⟩:=id p.isList
 obtain ⟨⟨cls2,dd2,data2,sl2⟩,ho2,hc2,n2,hd2⟩:=id p2.isList
 simp only at hc hd hc2 hd2
 subst hc hd hc2 hd2
 have ea:its.toArray ++ its2.toArray=(its ++ its2).toArray:=by simp
 refine concat_meets ⟨_,ho,rfl⟩ ⟨_,ho2,rfl⟩ noFill_list_add seq_list_add PySem.F.slot_list_add PySem.F.entry_list_add (PySem.F.args_list_add_2 _ _) (list_addW a b its.toArray its2.toArray n n2 dd dd2 sl sl2 (by rw [Xan,Xan];omega)) ⟨ho,ho2,?_⟩
 rw [ea]
 exact ⟨.ref _,_,I.lnew (t':=s.toks) (rv.append rv2) (by rw [Xaq];omega),rfl,q _ I.fresh⟩
theorem zdz:OpR X (binaryOp .Mult) (rI IntMulOk fun i j=>.int (i * j)):=opI fun _ _ _ _ _ _ _ hc q=>mul_int q hc
theorem zaD:OpR X (binaryOp .FloorDiv) (rI (fun _ j=>0<j∧j.natAbs.log2<9000) fun i j=>.int (i / j)):=opI fun i j _ _ _ _ _ hc q=>by
 have e:i.fdiv j=i / j:=Int.fdiv_eq_ediv_of_nonneg _ (Int.le_of_lt hc.1)
 exact floordiv_int (by have:=hc.1;omega) (by rw [e];exact q) (.inl (PyProof.noPylong_of_log2 hc.2))
end
theorem bits_script {ns:List Int}(h:W.WData.layableAll [W.WData.list (ns.map W.WData.int)]=true):∀ n∈ns,Builtin.Int.intBits n≤2 ^ 20:=by
 intro n hn
 have h1:(W.WData.list (ns.map W.WData.int)).layable=true:=by
  have:=Xbd.mp h _ XaB
  exact this
 have hw:=(W.layableW_iff.mp h1).2.2
 have key:∀ l:List Int,n∈l→Builtin.Int.intBits n≤W.WData.weightAll (l.map W.WData.int):=by
  intro l
  induction l with
  | nil=>intro h;cases h
  | cons m r ih =>
   intro hm
   rw [Xaz,W.WData.weightAll]
   rcases Xao.mp hm with e | hm
   ·subst e
    have:Builtin.Int.intBits n≤(W.WData.int n).weight:=by
     simp only [W.WData.weight,Builtin.Int.intBits]
     omega
    omega
   ·have:=ih hm
    omega
 have h2:=key ns hn
 rw [W.WData.weight] at hw
 omega
end L2
namespace Att
open PySem PySem.W PyProof.Rows PySem.Calls
theorem attach_callB {l:OpenLaw}{n:Nat}{q:Program}{loose:List Str}{XP:(Str→Option Value)→Heap→Prop}{YP:World→Heap→Prop}{d:DefRec}
  (hn:l.most=some n) (hdf:d.params.defaults=[])
  (call:∀ (w:World) (s₀ s₁:Shared) (mg mb:Str→Option Value) (fa:Addr) (o:Obj) (pm cd doc:Value) (a:Addr) (vs:List Value) (ns:List Int),
   Ground q loose [] XP w s₀ mg mb s₁.heap→YP w s₁.heap →
   s₁.heap.get? fa=some o→o.data = .func (docDef d.name d.params d.body d.scope pm cd doc)→s₁.heap.CodeRec cd d.name→mg d.name=some (.ref fa) →
   s₁.heap.get? a=some { cls:=.type "list",data:=.seq vs.toArray }→IntsAre vs ns→ns.length≤n→(∀ m∈ns,Builtin.Int.intBits m≤2 ^ 20)→s₁.gens = #[] →
   codeAny (model l.prog w) callerA (.call (.ref fa) ⟨[.ref a],[]⟩) (fun r s'=>r = .ok (.ret (.bool true))∧OldK s₁.heap s'.heap∧s'.os=s₁.os∧AllBare s'.gens) s₁) :
  WalkO q loose XP YP l.row.toRowW d [] (fun f vs=>PySem.call f vs):=by
 intro w s₀ s₁ mg mb G Y fa o pm cd doc dV kV ho hd hcd hD hmg hg args vals as hpre hlay hrd hwl hlo
 obtain rfl:dV = .none:=Dflts.none hD hdf
 obtain rfl:kV = .none:=Dflts.noKw hD
 obtain ⟨a,vs,ns,rfl,rfl,hobj,hints,hlen⟩:=ziX hn hpre hwl
 refine enter_call (Xbs (call w s₀ s₁ mg mb fa o pm cd doc a vs ns G Y ho (fd_plain hd) hcd hmg hobj hints hlen (L2.bits_script hlay) hg) fun r s' hq=>?_)
 obtain ⟨rfl,h2,h3,h4⟩:=hq
 exact ⟨.inl ⟨.bool true,.bool true,[],rfl,fun _=>rfl,.bool true,zjd l _,fun _=>⟨List.Pairwise.nil,fun _ hm=>(nomatch hm)⟩⟩,h2,h3,h4⟩
end Att
namespace L2
open PySem PySem.Spec PyProof.Rows
theorem walk_ofB {l:W.OpenLaw}{n k:Nat}{q:Program}{loose:List Str}{XP:(Str→Option Value)→Heap→Prop}{YP:World→Heap→Prop}{d:DefRec}{K:Params→W.Frag}{CX:World→CXT}{sp:World→Sp}{x:Str}
  (hn:l.most=some n) (hn2:n≤sizeLine) (hdf:d.params.defaults=[]) (hr:Room k callerA)
  (hY:∀ (w:World) (h:Heap),YP w h→(K w.params).In h)
  (F:∀ (w:World) (mg:Str→Option Value) (fa:Addr) (h:Heap),(K w.params).In h→h.Ns mainGlobals mg→mg d.name=some (.ref fa) →
   ∃ fd:FuncData,(∀ (s:Shared) (u:Value),BindsTo s fd ⟨[u],[]⟩ [(x,u)]) ∧
    ∀ base:Heap,(K w.params).In base→base.Ns mainGlobals mg→FnOk l.prog w (K w.params) mg base (CX w) k fa fd [x] (sp w))
  (hsp:∀ (w:World) (H:Hp) (a:Addr) (ns:List Int),ns.length≤n→(∀ m∈ns,Builtin.Int.intBits m≤2 ^ 20)→Only H→SqL (K w.params) H a (ns.map V.int)→sp w [.ref a] H (fun v _=>v = .bl true) fun _ _ _=>False)
  (hCX:∀ (w:World) (H:Hp) (s:Shared) (e:Value) (s':Shared),CX w [] H s (fun _ _ _=>False) e s'→False) :
  W.WalkO q loose XP YP l.row.toRowW d [] (fun f vs=>PySem.call f vs):=by
 refine Att.attach_callB hn hdf fun w s₀ s₁ mg mb fa o pm cd doc a vs ns G Y ho hd hcd hmg hobj hints hlen hbits hg=>?_
 have KX:=hY w _ Y
 obtain ⟨fd,hb,hF⟩:=F w mg fa _ KX G.T.g hmg
 exact zkS KX G.T.g G.T.b G.T.builtins G.T.nolimit hg hobj hints (Xar hlen hn2) hr hF hb (fun H hO hS=>hsp w H a ns hlen hbits hO hS) fun H e s'=>hCX w H s₁ e s'
section
variable {K:W.Frag}{g:TG}{tf:TT}{te:TE}{Q:List V→Hp→Prop}{σ:St}{H:Hp}
theorem ze9 {lo:Int}{n:Nat}(Pv:Nat→List V→St→Hp→Prop)(hn:n≤sizeLine)(h0:Pv 0 [] σ H)(hz:∀ i ys σ H,Pv i ys σ H→ys.length≤i)
  (hs:∀ i ys σ H,i<n→Pv i ys σ H→g (.int (lo+i)) σ H fun σ2 H2=>tf σ2 H2 fun b H3=>if b=true then te σ2 H3 fun y H4=>Pv (i+1) (ys ++ [y]) σ2 H4 else Pv (i+1) ys σ2 H3)
  (hd:∀ ys σ H,Pv n ys σ H→Q ys H):zgH (Itr lo n) g tf te Q σ H:=by
 refine ⟨fun i m ys σ H=>m=n - i∧i≤n∧Pv i ys σ H,⟨n,by simp,Nat.zero_le _,h0⟩,?_⟩
 rintro i m ys σ H ⟨rfl,hi,p⟩
 have hl:=hz i ys σ H p
 by_cases hlt:i<n
 ·refine .inr ⟨hlt,by omega,Pv (i+1),fun ys' σ' H' p'=>⟨n - (i+1),by omega,rfl,hlt,p'⟩,fun x H' y=>?_⟩
  obtain ⟨e,y⟩:=y
  subst e y
  exact hs i ys σ _ hlt p
 ·have e:i=n:=by omega
  subst e
  exact .inl ⟨Xae _,by omega,hd ys σ H p⟩
theorem zeK {a:Addr}{xs:List V}(Pv:Nat→List V→St→Hp→Prop)(hn:xs.length≤sizeLine)(h0:Pv 0 [] σ H)(hl:∀ i ys σ H,i≤xs.length→Pv i ys σ H→SqL K H a xs∧ys.length≤i)
  (hs:∀ i x ys σ H,xs[i]? = some x→Pv i ys σ H→g x σ H fun σ2 H2=>tf σ2 H2 fun b H3=>if b=true then te σ2 H3 fun y H4=>Pv (i+1) (ys ++ [y]) σ2 H4 else Pv (i+1) ys σ2 H3)
  (hd:∀ ys σ H,Pv xs.length ys σ H→Q ys H):zgH (Itl K a) g tf te Q σ H:=by
 refine ⟨fun i m ys σ H=>m=xs.length - i∧i≤xs.length∧Pv i ys σ H,⟨xs.length,by simp,Nat.zero_le _,h0⟩,?_⟩
 rintro i m ys σ H ⟨rfl,hi,p⟩
 obtain ⟨q,hz⟩:=hl i ys σ H hi p
 by_cases hlt:i<xs.length
 ·refine .inr ⟨⟨xs,xs[i],q,by simp [hlt]⟩,by omega,Pv (i+1),fun ys' σ' H' p'=>⟨xs.length - (i+1),by omega,rfl,hlt,p'⟩,fun x H' y=>?_⟩
  obtain ⟨e,y⟩:=y
  subst e
  exact hs i x ys σ _ (y xs q) p
 ·have e:i=xs.length:=by omega
  subst e
  exact .inl ⟨⟨xs,q,Xae _⟩,by omega,hd ys σ H p⟩
theorem zj3 {a:Addr}{xs:List V}(Pv:Nat→List V→St→Hp→Prop)(hn:xs.length≤sizeLine)(h0:Pv 0 [] σ H)(hl:∀ i ys σ H,i≤xs.length→Pv i ys σ H→SqL K H a xs∧ys.length≤i)
  (hs:∀ i x T ys σ H,xs[i]? = some x→H T=none→Pv i ys σ H→g (.ref T) σ (upd H T (.tup [.int i,x])) fun σ2 H2=>tf σ2 H2 fun b H3=>if b=true then te σ2 H3 fun y H4=>Pv (i+1) (ys ++ [y]) σ2 H4 else Pv (i+1) ys σ2 H3)
  (hd:∀ ys σ H,Pv xs.length ys σ H→Q ys H):zgH (Ite K a) g tf te Q σ H:=by
 refine ⟨fun i m ys σ H=>m=xs.length - i∧i≤xs.length∧Pv i ys σ H,⟨xs.length,by simp,Nat.zero_le _,h0⟩,?_⟩
 rintro i m ys σ H ⟨rfl,hi,p⟩
 obtain ⟨q,hz⟩:=hl i ys σ H hi p
 by_cases hlt:i<xs.length
 ·refine .inr ⟨⟨xs,xs[i],q,by simp [hlt]⟩,by omega,Pv (i+1),fun ys' σ' H' p'=>⟨xs.length - (i+1),by omega,rfl,hlt,p'⟩,fun v H' y=>?_⟩
  obtain ⟨T,x,hT,rfl,rfl,y⟩:=y
  exact hs i x T ys σ _ (y xs q) hT p
 ·have e:i=xs.length:=by omega
  subst e
  exact .inl ⟨⟨xs,q,Xae _⟩,by omega,hd ys σ H p⟩
end
theorem ze6 {K:W.Frag}{i j:Nat}{T:Addr}{x y:V}{σ:St}{H:Hp}{Q:St→Hp→Prop}(h:Q ((σ.set i (some x)).set j (some y)) (upd H T (.tup [x,y]))) :
  gTup K 2 (gCons (za6 i) (gCons (za6 j) gNil)) (.ref T) σ (upd H T (.tup [x,y])) Q:=
 ⟨T,[x,y],rfl,SqT.of zac,rfl,x,[y],rfl,y,[],rfl,rfl,h⟩
end L2
end
section
namespace Cb
open PySem
def zcy:Nat→Nat→List Nat
 | _,0=>[]
 | n,m+1=>(n % 2) :: zcy (n / 2) m
def num:List Nat→Nat
 | []=>0
 | b :: r=>b+2 * num r
def Bit (l:List Nat):Prop:=∀ b∈l,b≤1
theorem zdJ:∀ m n,(zcy n m).length=m
 | 0,_=>rfl
 | m+1,n=>by simp [zcy,zdJ m]
theorem zgB:∀ m n,Bit (zcy n m)
 | 0,_=>fun b h=>by simp [zcy] at h
 | m+1,n=>fun b h=>by
  rcases Xao.mp (show b∈(n % 2) :: zcy (n / 2) m from h) with e | h
  ·omega
  ·exact zgB m (n / 2) b h
theorem zfa:∀ k n,zcy n (k+1)=zcy n k ++ [n / 2 ^ k % 2]
 | 0,n=>by simp [zcy]
 | k+1,n=>by
  show (n % 2) :: zcy (n / 2) (k+1)=((n % 2) :: zcy (n / 2) k) ++ _
  rw [zfa k (n / 2),Nat.div_div_eq_div_mul,Xbe,Nat.mul_comm (2 ^ k) 2]
  rfl
theorem zeB:∀ m n,num (zcy n m)=n % 2 ^ m
 | 0,n=>by simp [zcy,num,Nat.mod_one]
 | m+1,n=>by
  simp only [zcy,num,zeB m,Xbe]
  rw [Nat.mul_comm (2 ^ m) 2,Nat.mod_mul]
def ones:Nat→Nat
 | 0=>0
 | n+1=>(n+1) % 2+ones ((n+1) / 2)
decreasing_by omega
theorem zer (n:Nat):ones n=n % 2+ones (n / 2):=by
 cases n with
 | zero=>simp [ones]
 | succ n=>rw [ones]
def sgl:Nat→List Nat
 | 0=>[]
 | n+1=>if (n+1) % 2=1 then 1 :: (sgl ((n+1) / 2)).map (2 * ·) else (sgl ((n+1) / 2)).map (2 * ·)
decreasing_by all_goals omega
theorem zc0:sgl 0=[]:=by simp [sgl]
theorem zdg (n:Nat):sgl (2 * n+1)=1 :: (sgl n).map (2 * ·):=by
 rw [sgl,if_pos (by omega),show (2 * n+1) / 2=n by omega]
theorem zbU (n:Nat):sgl (2 * n)=(sgl n).map (2 * ·):=by
 cases n with
 | zero=>simp [sgl]
 | succ n =>
  rw [show 2 * (n+1)=(2 * n+1)+1 by omega,sgl,if_neg (by omega),show (2 * n+1+1) / 2=n+1 by omega]
theorem zbM:∀ n,(sgl n).length=ones n:=by
 intro n
 induction n using Nat.strongRecOn with
 | _ n ih =>
  rcases Xa6 n with h | h
  ·by_cases h0:n=0
   ·subst h0;simp [sgl,ones]
   ·have e:n=2 * (n / 2):=by omega
    rw [zer,h]
    conv=>lhs;rw [e]
    rw [zbU,Xaf,ih _ (by omega)];omega
  ·have e:n=2 * (n / 2)+1:=by omega
   rw [zer,h]
   conv=>lhs;rw [e]
   rw [zdg,Xau,Xaf,ih _ (by omega)];omega
theorem zgj (a b:Nat):(2 * a) &&& (2 * b)=2 * (a &&& b):=by
 apply Nat.eq_of_testBit_eq;intro i
 cases i with
 | zero=>simp [XaG]
 | succ i =>
  rw [XaG,Xa5,Xa5,Xa5,show (2 * a) / 2=a by omega,show (2 * b) / 2=b by omega,show (2 * (a &&& b)) / 2=(a &&& b) by omega,XaG]
theorem zkV (a b:Nat):(2 * a+1) &&& (2 * b+1)=2 * (a &&& b)+1:=by
 apply Nat.eq_of_testBit_eq;intro i
 cases i with
 | zero=>simp [XaG]
 | succ i =>
  rw [XaG,Xa5,Xa5,Xa5,show (2 * a+1) / 2=a by omega,show (2 * b+1) / 2=b by omega,show (2 * (a &&& b)+1) / 2=(a &&& b) by omega,XaG]
theorem zfG (a b:Nat):(2 * a+1) &&& (2 * b)=2 * (a &&& b):=by
 apply Nat.eq_of_testBit_eq;intro i
 cases i with
 | zero=>simp [XaG]
 | succ i =>
  rw [XaG,Xa5,Xa5,Xa5,show (2 * a+1) / 2=a by omega,show (2 * b) / 2=b by omega,show (2 * (a &&& b)) / 2=(a &&& b) by omega,XaG]
theorem zjz (a b:Nat):(2 * a) &&& (2 * b+1)=2 * (a &&& b):=by rw [Nat.and_comm,zfG,Nat.and_comm]
theorem zkt:∀ n,0<n→(n &&& (n - 1))<n∧sgl n=(n - (n &&& (n - 1))) :: sgl (n &&& (n - 1)):=by
 intro n
 induction n using Nat.strongRecOn with
 | _ n ih =>
  intro hn
  rcases Xa6 n with h | h
  ·have e:n=2 * (n / 2):=by omega
   obtain ⟨h1,h2⟩:=ih (n / 2) (by omega) (by omega)
   generalize n / 2=m at *
   subst e
   have e2:2 * m - 1=2 * (m - 1)+1:=by omega
   rw [e2,zjz]
   refine ⟨by omega,?_⟩
   rw [zbU,zbU,h2,Xaz]
   congr 1
   omega
  ·have e:n=2 * (n / 2)+1:=by omega
   generalize n / 2=m at *
   subst e
   have e2:2 * m+1 - 1=2 * m:=by omega
   rw [e2,zfG,Nat.and_self]
   exact ⟨by omega,by rw [zdg,zbU];congr 1;omega⟩
theorem zfw:∀ m n,n<2 ^ m→ones n≤m
 | 0,n,h=>by simp at h;subst h;simp [ones]
 | m+1,n,h=>by
  have:=zfw m (n / 2) (by rw [Xbe] at h;omega)
  rw [zer];omega
theorem band (a b:Nat):Builtin.bitAnd (a:Int) (b:Int)=((a &&& b:Nat):Int):=by
 unfold Builtin.bitAnd
 simp
end Cb
end
section
namespace L2
open PySem PySem.Spec PyProof.Rows
def zcY (N:List Str)(names:List (Str×NameKind)):List (Option Nat)→List Str→Bool
 | [],[]=>true
 | none :: r,_ :: s=>zcY N names r s
 | some i :: r,x :: s=>(N[i]? == some x) && (names.lookup x == some .free) && zcY N names r s
 | _,_=>false
def ndOk:List (Str×NameKind)→Bool
 | []=>true
 | x :: r=>(r.all fun y=>x.1 != y.1) && ndOk r
def zgw (N:List Str)(osc:Scope)(Nc:List Str)(src:List (Option Nat))(scope:Scope):Bool:=
 scope.kind == .function && (scope.names.all fun x=>x.2 != .cell) && ndOk scope.names &&
 (scope.names.all fun x=>x.2 != .free || osc.names.lookup x.1 == some .cell || osc.names.lookup x.1 == some .free) && zcY N scope.names src Nc
theorem zd9 {N:List Str}{names:List (Str×NameKind)}:∀ {src:List (Option Nat)} {Nc:List Str},zcY N names src Nc=true→src.length=Nc.length
 | [],[],_=>rfl
 | none :: r,_ :: s,h=>by simp only [Xau];rw [zd9 (src:=r) (Nc:=s) h]
 | some i :: r,x :: s,h=>by
  simp only [zcY,XaT] at h
  simp only [Xau];rw [zd9 h.2]
 | [],_ :: _,h=>by simp [zcY] at h
 | none :: _,[],h=>by simp [zcY] at h
 | some _ :: _,[],h=>by simp [zcY] at h
theorem zd8 {N:List Str}{names:List (Str×NameKind)}:∀ {src:List (Option Nat)} {Nc:List Str},zcY N names src Nc=true→∀ (j i:Nat),src[j]? = some (some i)→∃ x,Nc[j]? = some x∧N[i]? = some x∧names.lookup x=some .free
 | [],[],_,j,i,e=>by simp at e
 | none :: r,y :: s,h,0,i,e=>by simp at e
 | none :: r,y :: s,h,j+1,i,e=>by
  have:=zd8 (src:=r) (Nc:=s) h j i (by simpa using e)
  simpa using this
 | some k :: r,x :: s,h,0,i,e=>by
  simp only [zcY,XaT,beq_iff_eq] at h
  simp only [List.getElem?_cons_zero,Option.some.injEq] at e
  subst e
  exact ⟨x,rfl,h.1.1,h.1.2⟩
 | some k :: r,x :: s,h,j+1,i,e=>by
  simp only [zcY,XaT] at h
  have:=zd8 (src:=r) (Nc:=s) h.2 j i (by simpa using e)
  simpa using this
 | [],_ :: _,h,_,_,_=>by simp [zcY] at h
 | none :: _,[],h,_,_,_=>by simp [zcY] at h
 | some _ :: _,[],h,_,_,_=>by simp [zcY] at h
theorem zjt:∀ {l:List (Str×NameKind)},ndOk l=true→l.Pairwise fun x y=>x.1≠y.1
 | [],_=>.nil
 | x :: r,h=>by
  simp only [ndOk,XaT,Xbd,bne_iff_ne] at h
  exact .cons h.1 (zjt h.2)
theorem zaX {N:List Str}{osc:Scope}{Nc:List Str}{src:List (Option Nat)}{scope:Scope}(h:zgw N osc Nc src scope=true):CompOk N osc Nc src scope:=by
 simp only [zgw,XaT,beq_iff_eq,Xbd,bne_iff_ne] at h
 obtain ⟨⟨⟨⟨h1,h2⟩,h3⟩,h4⟩,h5⟩:=h
 refine ⟨h1,h2,zjt h3,fun x hx hf=>?_,zd9 h5,zd8 h5⟩
 have:=h4 x hx
 simp only [Bool.or_eq_true,bne_iff_ne,beq_iff_eq] at this
 rcases this with (z | z) | z
 ·exact absurd hf z
 ·exact .inl z
 ·exact .inr z
structure Cal (P:Program)(w:World)(K:W.Frag)(mg:Str→Option Value)(base:Heap)(k:Nat)(x:Str)(ps:List Str)(sp:Sp):Prop where
 ex:∃ f fd,FnOk P w K mg base CX0 k f fd ps sp∧mg x=some (.ref f)∧W.keepIn K (.ref f)=true∧Binds K fd ps []
section
variable {X:Cx}{k:Nat}{ps ks:List Str}{sp:Sp}{x:Str}{p pos:Pos}{e:Expr}{es:List Expr}{t tk:TA}{kws:List Keyword}{gV:List V→List V→List V}
theorem pe_cal (C:Cal X.prog X.w X.K X.mg X.base k x ps sp)(hr:Room k X.A)(hg:Gl X x)(ha:PA X (e :: es) t)(hdb:(x == ("__debug__" : Str))=false:=by decide)
  (he:starEach (e :: es) X.env=(false,eval e X.env) :: starEach es X.env:=by rfl) (hpl:(backTo pos (starEach es X.env)).any (·.1)=false:=by rfl):PE X (.Call (.Name x p) (e :: es) [] pos) (zkr sp [] E0 t):=by
 obtain ⟨f,fd,F,hm,hk,hb⟩:=C.ex
 exact zmk F hr hg hm hk hb .nil zf3 ha hdb he hpl
end
end L2
namespace Cb
open PySem L2
def ziF (p:Addr)(H H':Hp):Prop:=∀ b o,b≠p→H b=some o→H' b=some o
theorem zah {H:Hp}{p:Addr}{o:HO}(h:H p=none):Same H (upd H p o):=fun b u e=>by rw [zag (zaj e h)];exact e
def vN (l:List Nat):List V:=l.map fun (b:Nat)=>V.int (b:Int)
theorem zaq (l:List Nat):(vN l).length=l.length:=Xaf ..
theorem zcb (l:List Nat)(b:Nat):vN (l ++ [b])=vN l ++ [V.int (b:Int)]:=by simp [vN]
theorem ziN {l:List Nat}{i:Nat}{x:V}(h:(vN l)[i]? = some x):∃ b,l[i]? = some b∧x=V.int (b:Int):=by
 unfold vN at h
 rw [Xat] at h
 cases e:l[i]? with
 | none=>rw [e] at h;cases h
 | some b=>rw [e] at h;exact ⟨b,rfl,(Option.some.inj h).symm⟩
inductive spLaw (K:W.Frag)(vs:List V)(H:Hp)(Q:VK)(u3_:XK):Prop
 | mk (a:Addr) (ns:List Int) (z0_:vs=[.ref a]) (z1_:SqL K H a (ns.map V.int)) (z2_:ns.length≤63) (z3_:(∀ m∈ns,Builtin.Int.intBits m≤2 ^ 20)) (z4_:∀ H',Q (.bl true) H')
inductive spSingles (vs:List V)(H:Hp)(Q:VK)(u3_:XK):Prop
 | mk (n:Nat) (z0_:vs=[.int (n:Int)]) (z1_:n<2 ^ 64) (z2_:∀ (p:Addr) (H':Hp),H p=none→H' p=some (.lst (vN (sgl n)))→Same H H'→Q (.ref p) H')
inductive spOnes (vs:List V)(H:Hp)(Q:VK)(u3_:XK):Prop
 | mk (n:Nat) (z0_:vs=[.int (n:Int)]) (z1_:n<2 ^ 64) (z2_:∀ H',Same H H'→Q (.int (ones n:Int)) H')
end Cb
end
section
namespace L2
open PySem PySem.Spec PyProof.Rows
section
variable {X:Cx}{K:W.Frag}
theorem zjg (n:Nat)(hK:X.K=K){es:List Expr}{k:Nat}{t:TGs}{pos:Pos}(hc:X.calm=true)(h:PGs X es t)
  (hn:(assignEach es X.env).length=n:=by rfl) (hst:(assignEach es X.env).findIdx? (·.1)=none:=by rfl):PG X (.Tuple es k pos) (gTup K n t):=by
 subst hK;exact zbu hc h hn hst
theorem zja (hK:X.K=K){a:Expr}{ta:TE}(ha:PE X a ta)(he:∀ whole,isTrue a X.env whole=(do let v ← whole;standAt a.pos;holding [v] (truthy v))) :
  PT X a (fun σ H Q=>ta σ H fun x H'=>∃ k,TruV K x H' k∧Q k H'):=by
 subst hK;exact zfr ha he
theorem zfH (hK:X.K=K):IxR X (rIxL K):=by subst hK;exact zal
theorem zho (hK:X.K=K):IxR X (rIxT K):=by subst hK;exact zaA
end
section
variable {prog:Program}{w:World}{A:Around}{E:Value→Shared→Prop}{s:Shared}
end
end L2
end
section
namespace L2
open PySem PySem.Spec PyProof.Rows Builtin
structure FunD (K:W.Frag)(x qual:Str)(st:Stmt)(dV:Value)(f:Addr)(fd:FuncData):Prop where
 ex:∃ (oc:Value) (od:Option Addr) (kV doc pm:Value) (an:Option Addr) (cdv ct:Value) (osl:Array (Option Value)),
  fd=W.fnOf x qual (zbx st) (za0 st) (zai st) dV kV doc pm an cdv ct∧K.lookup f=some ⟨oc,od,.func fd,osl⟩∧W.codeIn K cdv qual=true
 kp:W.keepIn K (.ref f)=true
section
variable {P:Program}{w:World}{K:W.Frag}{mg:Str→Option Value}{base:Heap}
theorem FunD.ok {x qual:Str}{st:Stmt}{dV:Value}{f:Addr}{fd:FuncData}{N ps:List Str}{k:Nat}{sp:Sp}(F:FunD K x qual st dV f fd)(S:FnScope N ps (zai st))(len:∀ vs H Q E,sp vs H Q E→vs.length=ps.length)
  (hbody:∀ (cdv:Value) (A:Around) (outer:List Env) (s:Shared) (H:Hp) (vs:List V) (Q:VK) (E:XK),Room k (A.deeper (envOfC qual (zai st) s.heap.objs.size f cdv))→sp vs H Q E →
   ∃ t,PSs (cxOf CX0 P w K mg base N qual (zai st) f cdv A outer s H E).nox (za0 st) t∧t { nx:=fun _ H'=>Q .non H',rt:=Q } (start N vs) H):FnOk P w K mg base CX0 (k+1) f fd ps sp:=by
 obtain ⟨oc,od,kV,doc,pm,an,cdv,ct,osl,rfl,lk,hcd⟩:=F.ex
 refine zk1 lk hcd S len fun A outer s H vs Q E hr hsp=>?_
 obtain ⟨t,h,q⟩:=hbody cdv A outer s H vs Q E hr hsp
 exact ⟨t,h.nox,q⟩
theorem zmD {x qual:Str}{st:Stmt}{dV:Value}{f:Addr}{oc:Value}{od an:Option Addr}{osl:Array (Option Value)}{kV doc pm cdv ct:Value}(l:K.lookup f=some ⟨oc,od,.func (W.fnOf x qual (zbx st) (za0 st) (zai st) dV kV doc pm an cdv ct),osl⟩)
  (c:W.codeIn K cdv qual=true) (k:W.keepIn K (.ref f)=true):FunD K x qual st dV f (W.fnOf x qual (zbx st) (za0 st) (zai st) dV kV doc pm an cdv ct):=⟨⟨oc,od,kV,doc,pm,an,cdv,ct,osl,rfl,l,c⟩,k⟩
theorem FunD.kbinds {x qual:Str}{st:Stmt}{T:Addr}{o:Obj}{items:Array Value}{n:Nat}{f:Addr}{fd:FuncData}{ps ks:List Str}{g:List Value→List Value→List Value}{gV:List V→List V→List V}(F:FunD K x qual st (.ref T) f fd)
  (ho:K.lookup T=some o) (hs:o.data = .seq items n)
  (h:∀ (kV doc pm:Value) (an:Option Addr) (cdv ct:Value) (us ws:List Value),(g us ws).length=ps.length→∃ q,bindArgs (W.fnOf x qual (zbx st) (za0 st) (zai st) (.ref T) kV doc pm an cdv ct) ⟨us,ks.zip ws⟩=seqItems? (.ref T) >>= q∧q (some items)=pure (ps.zip (g us ws)))
  (rel:∀ {vs:List V} {us:List Value} {zs:List V} {ws:List Value},Vals vs us→Vals zs ws→Vals (gV vs zs) (g us ws)):KBinds K fd ps ks g gV:=by
 obtain ⟨oc,od,kV,doc,pm,an,cdv,ct,osl,rfl,lk,hcd⟩:=F.ex
 refine ⟨fun s us ws X hl=>?_,rel⟩
 obtain ⟨q,h1,h2⟩:=h kV doc pm an cdv ct us ws hl
 exact W.binds_K X rfl ho hs h1 h2
theorem KBinds.pos {fd:FuncData}{ps:List Str}(b:Binds K fd ps []):KBinds K fd ps [] (fun us _=>us) (fun vs _=>vs):=
 ⟨fun s us ws X hl=>by have:=b s us X (by rw [Xbm];exact hl);rw [Xbm] at this;exact this,fun r _=>r⟩
end
def swS {α:Type}(us zs:List α):List α:=match zs with
 | [a,b]=>us ++ [b,a]
 | _=>[]
structure Mth (P:Program)(w:World)(K:W.Frag)(mg:Str→Option Value)(base:Heap)(k:Nat)(C:Addr)(m:Str)(ks:List Str)(gV:List V→List V→List V)(sp:Sp):Prop where
 cls:Cls K C
 ex:∃ f fd ps g,Meth K C m f∧FnOk P w K mg base CX0 k f fd ps sp∧KBinds K fd ps ks g gV
theorem Mth.mono {P:Program}{w:World}{K:W.Frag}{mg:Str→Option Value}{base:Heap}{j k:Nat}{C:Addr}{m:Str}{ks:List Str}{gV:List V→List V→List V}{sp:Sp}(M:Mth P w K mg base j C m ks gV sp)(h:j≤k):Mth P w K mg base k C m ks gV sp:=by
 obtain ⟨c,f,fd,ps,g,a,F,b⟩:=M
 exact ⟨c,f,fd,ps,g,a,F.mono h,b⟩
inductive tMth_1 (P:Program)(w:World)(K:W.Frag)(mg:Str→Option Value)(base:Heap)(k:Nat)(m:Str)(ks:List Str)(t:TA)(tk:TA)(σ:St)(Q:VK)(x:V)(H1:Hp):Prop
 | mk (a:_) (C:_) (dx:_) (fs:_) (gV:_) (sp:_) (z0_:x = .ref a) (z1_:H1 a=some (.ins C dx fs)) (z2_:Mth P w K mg base k C m ks gV sp) (z3_:fs.lookup m=none) (z4_:t σ H1 fun vs H2=>tk σ H2 fun zs H3=>sp (gV (x :: vs) zs) H3 Q E0)
def tMth (P:Program)(w:World)(K:W.Frag)(mg:Str→Option Value)(base:Heap)(k:Nat)(m:Str)(ks:List Str)(ta:TE)(t tk:TA):TE:=fun σ H Q=>ta σ H (tMth_1 P w K mg base k m ks t tk σ Q)
section
variable {X:Cx}{k:Nat}{C:Addr}{ks:List Str}{x m:Str}{p pos apos:Pos}{e o:Expr}{es:List Expr}{kws:List Keyword}{ta:TE}{t tk:TA}
theorem zaL {P:Program}{w:World}{K:W.Frag}{mg:Str→Option Value}{base:Heap}(k:Nat)(hX:X.prog=P∧X.w=w∧X.K=K∧X.mg=mg∧X.base=base)(hr:Room k X.A){pl:Sem Bool}(he:PE X o ta)(ha:PA X (e :: es) t)
  (hst:starEach (e :: es) X.env=(false,eval e X.env) :: starEach es X.env:=by rfl) (hpl:(backTo pos (starEach es X.env)).any (·.1)=false:=by rfl)
  (ht:eval (.Call (.Attribute o m apos) (e :: es) [] pos) X.env=(do
   let ov ← eval o X.env
   standAt apos.atName
   let (f,first) ← holding [ov] (getMethod ov m pl)
   callWith pos f first (backTo pos (starEach (e :: es) X.env)) (backToKw pos (keywordEach [] X.env))):=by rfl) :
  PE X (.Call (.Attribute o m apos) (e :: es) [] pos) (tMth P w K mg base k m [] ta t tNil):=by
 obtain ⟨rfl,rfl,rfl,rfl,rfl⟩:=hX
 intro pins s σ H Q I h
 refine W.methodCall_KW (pl:=pl) (thn (he pins s σ H _ I h) fun u s1 hh_=>?_) ht
 obtain ⟨x,H1,I1,rx,a,C,dx,fs,gV,sp,ex,ea,M,l,q⟩:=hh_
 obtain ⟨c,f,fd,ps,g,hm,F,hb⟩:=M
 subst ex
 obtain rfl:u=Value.ref a:=rx
 refine zcu I1 ea c hm l ?_
 refine W.callWith_K (first:=[.ref a]) (h₀:=X.base) I.ok.mod.kin hm.kp (thn (ha pos pins s1 σ H1 _ I1 q) fun us s2 ⟨vs,H2,I2,r,q2⟩=>⟨I2.kIn,?_⟩) hst hpl
 exact zfq (us:=.ref a :: us) (vs:=.ref a :: vs) (ws:=[]) (zs:=[]) F hr hb zf3 I2 (.cons rfl r) .nil q2
theorem zb1 {P:Program}{w:World}{K:W.Frag}{mg:Str→Option Value}{base:Heap}(k:Nat)(hX:X.prog=P∧X.w=w∧X.K=K∧X.mg=mg∧X.base=base)(hr:Room k X.A){pl:Sem Bool}(he:PE X o ta)
  (ht:eval (.Call (.Attribute o m apos) [] [] pos) X.env=(do
   let ov ← eval o X.env
   standAt apos.atName
   let (f,first) ← holding [ov] (getMethod ov m pl)
   callWith pos f first (backTo pos (starEach [] X.env)) (backToKw pos (keywordEach [] X.env))):=by rfl) :
  PE X (.Call (.Attribute o m apos) [] [] pos) (tMth P w K mg base k m [] ta tNil tNil):=by
 obtain ⟨rfl,rfl,rfl,rfl,rfl⟩:=hX
 intro pins s σ H Q I h
 refine W.methodCall_KW (pl:=pl) (thn (he pins s σ H _ I h) fun u s1 hh_=>?_) ht
 obtain ⟨x,H1,I1,rx,a,C,dx,fs,gV,sp,ex,ea,M,l,q⟩:=hh_
 obtain ⟨c,f,fd,ps,g,hm,F,hb⟩:=M
 subst ex
 obtain rfl:u=Value.ref a:=rx
 refine zcu I1 ea c hm l ?_
 exact W.callWith_K0 (first:=[.ref a]) I1.kIn hm.kp (zfq (us:=[.ref a]) (vs:=[.ref a]) (ws:=[]) (zs:=[]) F hr hb zf3 I1 (.cons rfl .nil) .nil q)
theorem zcQ {P:Program}{w:World}{K:W.Frag}{mg:Str→Option Value}{base:Heap}(k:Nat)(hX:X.prog=P∧X.w=w∧X.K=K∧X.mg=mg∧X.base=base)(hr:Room k X.A){pl:Sem Bool}(he:PE X o ta)(hkw:PK X kws tk)
  (hall:(backToKw pos (keywordEach kws X.env)).all (·.1.isSome)=true:=by rfl) (hks:(backToKw pos (keywordEach kws X.env)).filterMap (·.1)=ks:=by rfl)
  (hpl:((backTo pos (starEach [] X.env)).any (·.1) || (backToKw pos (keywordEach kws X.env)).any (·.1.isNone))=false:=by rfl)
  (ht:eval (.Call (.Attribute o m apos) [] kws pos) X.env=(do
   let ov ← eval o X.env
   standAt apos.atName
   let (f,first) ← holding [ov] (getMethod ov m pl)
   callWith pos f first (backTo pos (starEach [] X.env)) (backToKw pos (keywordEach kws X.env))):=by rfl) :
  PE X (.Call (.Attribute o m apos) [] kws pos) (tMth P w K mg base k m ks ta tNil tk):=by
 obtain ⟨rfl,rfl,rfl,rfl,rfl⟩:=hX
 intro pins s σ H Q I h
 refine W.methodCall_KW (pl:=pl) (thn (he pins s σ H _ I h) fun u s1 hh_=>?_) ht
 obtain ⟨x,H1,I1,rx,a,C,dx,fs,gV,sp,ex,ea,M,l,q⟩:=hh_
 obtain ⟨c,f,fd,ps,g,hm,F,hb⟩:=M
 subst ex
 obtain rfl:u=Value.ref a:=rx
 refine zcu I1 ea c hm l ?_
 refine W.callWith_KW0 (first:=[.ref a]) (h₀:=X.base) I.ok.mod.kin hm.kp hall ?_ hpl
 refine thn (hkw pos pins s1 σ H1 _ I1 q) fun ws s2 ⟨zs,H2,I2,rz,q2⟩=>⟨I2.kIn,?_⟩
 rw [hks]
 exact zfq (us:=[.ref a]) (vs:=[.ref a]) F hr hb zf3 I2 (.cons rfl .nil) rz q2
end
def tLenO (P:Program)(w:World)(K:W.Frag)(mg:Str→Option Value)(base:Heap)(k:Nat)(ta:TE):TE:=fun σ H Q=>ta σ H fun x H1=>∃ a C dx fs gV sp,x = .ref a∧H1 a=some (.ins C dx fs)∧Mth P w K mg base k C "__len__" [] gV sp ∧
 sp (gV [x] []) H1 (fun v H2=>∃ n:Int,v = .int n∧0≤n∧n<2 ^ 63∧Q (.int n) H2) E0
section
variable {X:Cx}{e:Expr}{p pos:Pos}{ta:TE}
def lenQ (X:Cx)(k:Nat)(Q:VK)(vs:List V)(H1:Hp):Prop:=match vs with
 | [x]=>∃ a C dx fs gV sp,x = .ref a∧H1 a=some (.ins C dx fs)∧Mth X.prog X.w X.K X.mg X.base k C "__len__" [] gV sp∧sp (gV [x] []) H1 (fun v H2=>∃ n:Int,v = .int n∧0≤n∧n<2 ^ 63∧Q (.int n) H2) E0
 | _=>False
def LenIs (Q:Value→Shared→Prop):Value→Shared→Prop
 | .int n _,s'=>0≤n∧n<2 ^ 63∧Q (.int n s'.toks) { s' with toks:=s'.toks+1 }
 | _,_=>False
theorem lenOwn {prog:Program}{w:World}{A:Around}{E:Value→Shared→Prop}{s:Shared}{K:W.Frag}{a C f:Addr}{ob:Obj}{od:Option Obj}{Q:Value→Shared→Prop}(X:K.In s.heap)(I:W.InstAt s.heap a ob C od)
  (hs:W.findIn K (.ref C) "__len__" = some (some (.ref f))) (ht:W.typeIn K (.ref f)=some (.type "function"))
  (h:wpAny (model prog w) A.in1 (call (.ref f) [.ref a]) (LenIs Q) E s):wpAny (model prog w) A (call (.builtin "len") [.ref a]) Q E s:=by
 refine Calls.call_function_entry kind_len plain_len entry_len (args_len1 _) ?_
 delta Builtin.«len»
 refine Xaa (m:=oneArg "len" _) (Xac (Xaa (m:=callSpecial? (.ref a) (Str.ofString "__len__")) (W.special_fn X I hs ht (Xas h (fun r s' hr=>?_) (fun _ _ z=>z)))))
 cases r with
 | int n t =>
  obtain ⟨h0,h1,hq⟩:=hr
  refine Xaa (XaV (Xac (Xaa (wpAny_letGo ?_))))
  have e1:¬ n<0:=by omega
  have e2:¬ n ≥ 2 ^ 63:=by omega
  dsimp only
  rw [if_neg e1,if_neg e2]
  exact Xaa (wpAny_mkInt (Xac ⟨_,rfl,hq⟩))
 | _=>exact hr.elim
theorem mtyp {K:W.Frag}{C f:Addr}{m:Str}(h:Meth K C m f):W.typeIn K (.ref f)=some (.type "function"):=beq_iff_eq.mp h.fn
theorem zjj {P:Program}{w:World}{K:PySem.W.Frag}{mg:Str→Option Value}{base:Heap}(k:Nat)(hX:X.prog=P∧X.w=w∧X.K=K∧X.mg=mg∧X.base=base)(hr:Room (k+1) X.A)(hg:Gl X "len")(hm:X.mg "len" = none)(he:PE X e ta)
  (hst:starEach [e] X.env=(false,eval e X.env) :: starEach [] X.env:=by rfl):PE X (.Call (.Name "len" p) [e] [] pos) (tLenO P w K mg base k ta):=by
 obtain ⟨rfl,rfl,rfl,rfl,rfl⟩:=hX
 intro pins s σ H Q I h
 refine Xbb (zc5 I hg hm PySem.boot_len ?_ (by decide) (by decide))
 refine PyProof.Rows.callWith_builtin1 (thn (zaa (t:=tNil) he zae hst pos pins s σ H (lenQ X k Q) I h) fun us s1 hh_=>?_) hst rfl
 obtain ⟨vs,H1,I1,r1,q1⟩:=hh_
 cases r1 with
 | nil=>exact q1.elim
 | cons ra rr=>cases rr with
  | cons _ _=>exact q1.elim
  | nil =>
   obtain ⟨a,C,dx,fs,gV,sp,ex,ea,M,q⟩:=q1
   obtain ⟨c,f,fd,ps,g,hm,F,hb⟩:=M
   subst ex
   cases ra
   obtain ⟨mA,O,_⟩:=zcU I1.hok ea
   obtain ⟨od,J,_⟩:=O.look
   refine lenOwn I1.kIn J hm.at_ (mtyp hm) ?_
   have rv:Vals (gV [V.ref a] []) (g [Value.ref a] []):=hb.rel (vs:=[V.ref a]) (us:=[Value.ref a]) (zs:=[]) (ws:=[]) (.cons rfl .nil) .nil
   have hl:(g [Value.ref a] []).length=ps.length:=by rw [← rv.length];exact F.len _ _ _ _ q
   have W:wpAny (model X.prog X.w) X.A.in1 (call (.ref f) [.ref a]) (EP X pins σ (fun v H2=>∃ n:Int,v = .int n∧0≤n∧n<2 ^ 63∧Q (.int n) H2)) X.xe s1:=by
    refine wpAny_call (Xbs (F.run X.A.in1 X.stack s1 H1 ⟨[.ref a],[]⟩ (g [.ref a] []) (gV [.ref a] []) _ E0 hr.in1 I1.env0.in1 (hb.to s1 [.ref a] [] I1.kIn hl) rv q) fun r s' hq=>?_)
    cases r with
    | error e=>exact zf3 pins σ H1 s1 e s' I1 hq
    | ok fl =>
     cases fl with
     | ret u=>exact I1.after hq
     | next=>exact False.elim hq
     | brk=>exact False.elim hq
     | cont=>exact False.elim hq
   refine Xas W (fun u s' hu=>?_) fun _ _ z=>z
   ·obtain ⟨v,H2,I2,rv,n,rfl,h0,h1,qn⟩:=hu
    obtain ⟨t,rfl⟩:=(show ∃ t,u=Value.int n t from rv)
    exact ⟨h0,h1,⟨.int n,H2,I2.tok _,⟨_,rfl⟩,qn⟩⟩
end
structure Mak (P:Program)(w:World)(K:W.Frag)(mg:Str→Option Value)(base:Heap)(k:Nat)(x:Str)(C:Addr)(ks:List Str)(gV:List V→List V→List V)(sp:Sp):Prop where
 at_:mg x=some (.ref C)
 ex:∃ f fd ps g,Mk K C f∧FnOk P w K mg base CX0 k f fd ps sp∧KBinds K fd ps ks g gV
def tMak (C:Addr)(gV:List V→List V→List V)(sp:Sp)(t tk:TA):TE:=fun σ H Q=>t σ H fun vs H1=>tk σ H1 fun zs H2=>∀ x dx,H2 x=none→H2 dx=none→dx≠x →
 sp (gV (.ref x :: vs) zs) (upd (upd H2 dx (.own x)) x (.ins C dx [])) (fun v H3=>v = .non∧Q (.ref x) H3) E0
section
variable {X:Cx}{k:Nat}{C:Addr}{ks:List Str}{gV:List V→List V→List V}{sp:Sp}{x:Str}{p pos:Pos}{e:Expr}{es:List Expr}{kws:List Keyword}{t tk:TA}
theorem zd0 {pins:List (Addr×Obj)}{σ:St}{H:Hp}{s:Shared}{Q:VK}{us ws:List Value}{vs zs:List V}(M:Mak X.prog X.w X.K X.mg X.base k x C ks gV sp)(hr:Room (k+1) X.A)(I:Inv X pins σ H s)(r:Vals vs us)(rz:Vals zs ws)
  (h:∀ y dy,H y=none→H dy=none→dy≠y→sp (gV (.ref y :: vs) zs) (upd (upd H dy (.own y)) y (.ins C dy [])) (fun v H2=>v = .non∧Q (.ref y) H2) E0) :
  wpAny (model X.prog X.w) X.A (call (.ref C) us (ks.zip ws)) (EP X pins σ Q) X.xe s:=by
 obtain ⟨hm,f,fd,ps,g,M,F,hb⟩:=M
 have hq:=h (s.heap.objs.size+1) s.heap.objs.size (I.hok.fresh (Xbq _)) (I.hok.fresh (Xae _)) (Xaw (XaZ _))
 have I2:=Inv.made (C:=C) I
 have r2:Vals (gV (V.ref (s.heap.objs.size+1) :: vs) zs) (g (Value.ref (s.heap.objs.size+1) :: us) ws):=hb.rel (.cons rfl r) rz
 have hl:(g (Value.ref (s.heap.objs.size+1) :: us) ws).length=ps.length:=by rw [← r2.length];exact F.len _ _ _ _ hq
 refine wpAny_call (zkP (f:=f) I.kIn M.makes M.init (beq_iff_eq.mp M.fn) (Xbs (F.run _ X.stack _ _ ⟨Value.ref (s.heap.objs.size+1) :: us,ks.zip ws⟩ _ _ _ E0 (hr.make C us (ks.zip ws))
  (I2.env0.make C us (ks.zip ws)) (hb.to _ (Value.ref (s.heap.objs.size+1) :: us) ws I2.kIn hl) r2 hq) fun r s' hq'=>?_))
 cases r with
 | error e=>exact zf3 pins σ _ _ e s' I2 hq'
 | ok fl =>
  cases fl with
  | ret u =>
   obtain ⟨v,H',I3,rv,ev,q3⟩:=I2.after hq'
   subst ev
   exact ⟨rv,⟨V.ref (s.heap.objs.size+1),H',I3,rfl,q3⟩⟩
  | next=>exact False.elim hq'
  | brk=>exact False.elim hq'
  | cont=>exact False.elim hq'
theorem Mak.kp {P:Program}{w:World}{K:W.Frag}{mg:Str→Option Value}{base:Heap}(M:Mak P w K mg base k x C ks gV sp):W.keepIn K (.ref C)=true:=by
 obtain ⟨_,_,_,_,_,M,_⟩:=M
 exact M.kp
theorem zdH (M:Mak X.prog X.w X.K X.mg X.base k x C [] gV sp)(hr:Room (k+1) X.A)(hg:Gl X x)(ha:PA X (e :: es) t)(hdb:(x == ("__debug__" : Str))=false:=by decide)
  (he:starEach (e :: es) X.env=(false,eval e X.env) :: starEach es X.env:=by rfl) (hpl:(backTo pos (starEach es X.env)).any (·.1)=false:=by rfl):PE X (.Call (.Name x p) (e :: es) [] pos) (tMak C gV sp t tNil):=by
 intro pins s σ H Q I h
 refine Xbb (zb5 I hg M.at_ ?_ hdb)
 refine W.callWith_K (h₀:=X.base) I.ok.mod.kin M.kp (thn (ha pos pins s σ H _ I h) fun us s1 ⟨vs,H1,I1,r,q⟩=>⟨I1.kIn,?_⟩) he hpl
 exact zd0 (ws:=[]) (zs:=[]) M hr I1 r .nil q
theorem zmi (M:Mak X.prog X.w X.K X.mg X.base k x C [] gV sp)(hr:Room (k+1) X.A)(hg:Gl X x)(hdb:(x == ("__debug__" : Str))=false:=by decide):PE X (.Call (.Name x p) [] [] pos) (tMak C gV sp tNil tNil):=by
 intro pins s σ H Q I h
 refine Xbb (zb5 I hg M.at_ ?_ hdb)
 exact W.callWith_K0 I.kIn M.kp (zd0 (us:=[]) (vs:=[]) (ws:=[]) (zs:=[]) M hr I .nil .nil h)
theorem zmh (M:Mak X.prog X.w X.K X.mg X.base k x C ks gV sp)(hr:Room (k+1) X.A)(hg:Gl X x)(hkw:PK X kws tk)
  (hall:(backToKw pos (keywordEach kws X.env)).all (·.1.isSome)=true:=by rfl) (hks:(backToKw pos (keywordEach kws X.env)).filterMap (·.1)=ks:=by rfl) (hdb:(x == ("__debug__" : Str))=false:=by decide)
  (hpl:((backTo pos (starEach [] X.env)).any (·.1) || (backToKw pos (keywordEach kws X.env)).any (·.1.isNone))=false:=by rfl):PE X (.Call (.Name x p) [] kws pos) (tMak C gV sp tNil tk):=by
 intro pins s σ H Q I h
 refine Xbb (zb5 I hg M.at_ ?_ hdb)
 refine W.callWith_KW0 (h₀:=X.base) I.ok.mod.kin M.kp hall ?_ hpl
 refine thn (hkw pos pins s σ H _ I h) fun ws s2 ⟨zs,H2,I2,rz,q2⟩=>⟨I2.kIn,?_⟩
 rw [hks]
 exact zd0 (us:=[]) (vs:=[]) M hr I2 .nil rz q2
end
structure Clm (P:Program)(w:World)(K:W.Frag)(mg:Str→Option Value)(base:Heap)(k:Nat)(x m:Str)(sp:Sp):Prop where
 ex:∃ C f fd ps mc,mg x=some (.ref C)∧W.specialIn K (.ref C) "__getattribute__" = some (some (.builtin "type.__getattribute__"))∧W.readsIn K C mc=true∧W.findCls K (.ref C) mc m=some (.val (.ref f)) ∧
  W.keepIn K (.ref f)=true∧FnOk P w K mg base CX0 k f fd ps sp∧Binds K fd ps []
section
variable {X:Cx}{k:Nat}{sp:Sp}{x m:Str}{p pos apos:Pos}{e:Expr}{es:List Expr}{t:TA}
theorem zf1 (M:Clm X.prog X.w X.K X.mg X.base k x m sp)(hr:Room k X.A)(hg:Gl X x){pl:Sem Bool}(ha:PA X (e :: es) t)(hdb:(x == ("__debug__" : Str))=false:=by decide)
  (hst:starEach (e :: es) X.env=(false,eval e X.env) :: starEach es X.env:=by rfl) (hpl:(backTo pos (starEach es X.env)).any (·.1)=false:=by rfl)
  (ht:eval (.Call (.Attribute (.Name x p) m apos) (e :: es) [] pos) X.env=(do
   let ov ← eval (.Name x p) X.env
   standAt apos.atName
   let (f,first) ← holding [ov] (getMethod ov m pl)
   callWith pos f first (backTo pos (starEach (e :: es) X.env)) (backToKw pos (keywordEach [] X.env))):=by rfl) :
  PE X (.Call (.Attribute (.Name x p) m apos) (e :: es) [] pos) (zkr sp [] E0 t):=by
 obtain ⟨C,f,fd,ps,mc,hm,hs,hrd,hf,hk,F,hb⟩:=M
 intro pins s σ H Q I h
 refine W.methodCall_KW (pl:=pl) ?_ ht
 refine zb5 I hg hm ?_ hdb
 refine W.method_cls I.kIn hs (W.cls_value I.kIn hrd hf rfl ?_)
 have I0:=I.tok (s.toks+1)
 refine W.callWith_K (first:=[]) (h₀:=X.base) I.ok.mod.kin hk (thn (ha pos pins _ σ H _ I0 h) fun us s2 ⟨vs,H2,I2,r,q2⟩=>⟨I2.kIn,?_⟩) hst hpl
 exact zlj F hr hb .nil zf3 I2 r q2
end
def itC (t:Bool):String:=if t then "tuple_iterator" else "list_iterator"
def sqC (t:Bool):String:=if t then "tuple" else "list"
def IsIt (t:Bool)(h:Heap)(a l:Addr)(i:Nat):Prop:=∃ o,h.get? a=some o∧o.cls = .type (itC t)∧o.data = .fields #[.ref l,.int i 0]
def IsSq (t:Bool)(h:Heap)(a:Addr)(xs:Array Value):Prop:=∃ o,h.get? a=some o∧o.cls = .type (sqC t)∧∃ n,o.data = .seq xs n
theorem IsIt.at {t:Bool}{h h':Heap}{a l:Addr}{i:Nat}(x:IsIt t h a l i)(e:∀ o,h.get? a=some o→h'.get? a=some o):IsIt t h' a l i:=let ⟨o,ho,r⟩:=x;⟨o,e _ ho,r⟩
theorem IsSq.at {t:Bool}{h h':Heap}{a:Addr}{xs:Array Value}(x:IsSq t h a xs)(e:∀ o,h.get? a=some o→h'.get? a=some o):IsSq t h' a xs:=let ⟨o,ho,r⟩:=x;⟨o,e _ ho,r⟩
section
variable {prog:Program}{w:World}{A:Around}{E:Value→Shared→Prop}{s:Shared}
theorem zhg {t:Bool}{it l:Addr}{i:Nat}{xs:Array Value}{x:Value}{Q:Value→Shared→Prop}(hi:IsIt t s.heap it l i)(hl:IsSq t s.heap l xs)(hx:xs[i]? = some x)
  (q:∀ h',IsIt t h' it l (i+1)→Heap.SameBut it s.heap h'→Q x { s with heap:=h' }):wpAny (model prog w) A (Builtin.SmallTypes.nextOf (.ref it)) Q E s:=by
 cases t with
 | false=>exact wpAny_nextOf_list_item hi hl hx q
 | true =>
  have ht:s.TypeIs (.ref it) "tuple_iterator" := let ⟨o,ho,hc,_⟩:=hi;⟨o,ho,hc⟩
  obtain ⟨o,ho,hc,hd⟩:=id hi;obtain ⟨ol,hol,_,nl,hdl⟩:=hl
  delta Builtin.SmallTypes.nextOf
  refine Xaa (wpAny_callSpecial?_slot (name:=Str.ofString "__next__") ht F.slot_tuple_iterator_next (XaS F.slot_tuple_iterator_next ht F.entry_tuple_iterator_next ?_ (F.args_tuple_iterator_next_1 _)))
  show wpAny _ _ (field (.ref it) 0 >>= _) _ _ s;refine Xaa (XaN ho hd (x:=.ref l) rfl ?_)
  show wpAny _ _ (if (Value.ref l == Value.none)=true then _ else _) _ _ s;rw [if_neg (show ¬ ((Value.ref l == Value.none)=true) from Xam)]
  show wpAny _ _ (field (.ref it) 1 >>= _) _ _ s;refine Xaa (XaN ho hd (x:=.int i 0) rfl ?_)
  show wpAny _ _ (seqItems? (.ref l) >>= _) _ _ s;refine Xaa (Xbf hol hdl ?_);simp only [Xap,hx]
  refine Xaa (XaX ho hd (by simp) (Xac ⟨x,rfl,Xac (q _ ⟨_,XaJ _ ho (Obj.isFreed_of_fields (Obj.data_mapFields hd _)),(Obj.cls_mapFields ..).trans hc,by rw [Obj.data_mapFields hd];simp [rawInt]⟩ (Heap.SameBut.update ..))⟩))
theorem zlt {t:Bool}{it l:Addr}{i:Nat}{xs:Array Value}{Q:Value→Shared→Prop}(hh:A.handled=none)(hi:IsIt t s.heap it l i)(hl:IsSq t s.heap l xs)(hx:xs[i]? = none)
  (q:∀ h' e,Heap.ExtBut it s.heap h'→(∃ o,h'.get? e=some o∧o.cls = .type "StopIteration")→E (.ref e) { s with heap:=h' }):wpAny (model prog w) A (Builtin.SmallTypes.nextOf (.ref it)) Q E s:=by
 cases t with
 | false=>exact wpAny_nextOf_list_end hh hi hl hx q
 | true =>
  have ht:s.TypeIs (.ref it) "tuple_iterator" := let ⟨o,ho,hc,_⟩:=hi;⟨o,ho,hc⟩
  obtain ⟨o,ho,hc,hd⟩:=id hi;obtain ⟨ol,hol,_,nl,hdl⟩:=hl
  delta Builtin.SmallTypes.nextOf
  refine Xaa (wpAny_callSpecial?_slot (name:=Str.ofString "__next__") ht F.slot_tuple_iterator_next (XaS F.slot_tuple_iterator_next ht F.entry_tuple_iterator_next ?_ (F.args_tuple_iterator_next_1 _)))
  show wpAny _ _ (field (.ref it) 0 >>= _) _ _ s;refine Xaa (XaN ho hd (x:=.ref l) rfl ?_)
  show wpAny _ _ (if (Value.ref l == Value.none)=true then _ else _) _ _ s;rw [if_neg (show ¬ ((Value.ref l == Value.none)=true) from Xam)]
  show wpAny _ _ (field (.ref it) 1 >>= _) _ _ s;refine Xaa (XaN ho hd (x:=.int i 0) rfl ?_)
  show wpAny _ _ (seqItems? (.ref l) >>= _) _ _ s;refine Xaa (Xbf hol hdl ?_);simp only [Xap,hx]
  refine Xaa (XbC (Xaa (XaX ho hd (by simp) ?_)));show wpAny _ _ (newExc (.type "StopIteration") [] >>= _) _ _ _
  refine Xaa ?_;simp only [newExc,newTuple];refine Xaa (XaL ?_ (by size_fits))
  refine Xaa (m:=firstArgMember _ _) (wpAny_of_eq (a:=Value.none) (by first | rfl | (simp only [firstArgMember];rfl)) ?_);refine XaL ?_ (by size_fits)
  simp only [raiseNew];refine Xaa (wpAny_handled ?_);rw [show A.in1.handled=none from hh];refine Xaa (Xac (wpAny_throw ?_))
  exact q _ _ (((Heap.SameBut.update ..).extBut.push _).push _) ⟨_,Xaj _ rfl,rfl⟩
theorem zlx {t:Bool}{l:Addr}{xs:Array Value}{Q:Value→Shared→Prop}(hl:IsSq t s.heap l xs)(q:Q (.ref s.heap.objs.size) { s with heap:=s.heap.push { cls:=.type (itC t),data:=.fields #[.ref l,.int 0 0] } }):wpAny (model prog w) A (pyIter (.ref l)) Q E s:=by
 cases t with
 | false=>exact wpAny_pyIter_list hl q
 | true=>exact XbM hl q
structure Far2 (z TO i1 i2:Addr):Prop where
 oz:TO≠z
 az:i1≠z
 bz:i2≠z
 oa:TO≠i1
 ob:TO≠i2
 ab:i1≠i2
structure FarM (z TO i1 i2 l:Addr):Prop where
 z:l≠z
 o:l≠TO
 a:l≠i1
 b:l≠i2
theorem zhx {T:Addr}{a b x:Value}{k:Nat}{Q:Unit→Shared→Prop}(hT:IsPair s.heap T a b)
  (q:∀ h',h'.get? T=some { cls:=.type "tuple",data:=.seq ((#[a,b]:Array Value).setIfInBounds k x) }→Heap.SameBut T s.heap h'→Q () { s with heap:=h' }):wpAny (model prog w) A (updateSeq T (·.setIfInBounds k x)) Q E s:=
 wpAny_updateSeq hT rfl (q _ ((XaJ _ hT rfl).trans (by simp [Obj.mapSeq])) (Heap.SameBut.update ..))
theorem ziG {t:Bool}{z TI TO i1 i2 l1 l2:Addr}{k:Nat}{xs ys:Array Value}{x y a b:Value}{Q:Value→Shared→Prop}(D:Far2 z TO i1 i2)(L1:FarM z TO i1 i2 l1)(L2':FarM z TO i1 i2 l2)
  (hz:IsZip s.heap z TI TO .none) (hI:IsPair s.heap TI (.ref i1) (.ref i2)) (hO:IsPair s.heap TO a b)
  (h1:IsIt t s.heap i1 l1 k) (h2:IsIt t s.heap i2 l2 k) (g1:IsSq t s.heap l1 xs) (g2:IsSq t s.heap l2 ys) (ex:xs[k]? = some x) (ey:ys[k]? = some y)
  (q:∀ h',IsZip h' z TI TO (rawInt s.heap.objs.size)→IsPair h' TO x y→IsIt t h' i1 l1 (k+1)→IsIt t h' i2 l2 (k+1)→IsPair h' s.heap.objs.size x y→h'.objs.size=s.heap.objs.size+1 →
   (∀ d o,d≠z→d≠TO→d≠i1→d≠i2→s.heap.get? d=some o→h'.get? d=some o)→Q (.ref s.heap.objs.size) { s with heap:=h' }) :
  wpAny (model prog w) A (Builtin.«zip.__next__» ⟨[.ref z],[]⟩) (fun fin s'=>∃ v,fin = .done (.ret v)∧Q v s') E s:=by
 show wpAny _ _ (field (.ref z) 2 >>= _) _ _ _
 refine Xaa (XaN hz rfl (x:=.bool false) rfl ?_);show wpAny _ _ (field (.ref z) 3 >>= _) _ _ _
 refine Xaa (XaN hz rfl (x:=.ref TI) rfl (Xaa (Xbf hI rfl ?_)));show wpAny _ _ (Builtin.SmallTypes.ownedTupleIsFree (.ref z) >>= _) _ _ _
 refine Xaa ?_;unfold Builtin.SmallTypes.ownedTupleIsFree
 refine Xaa (XaN hz rfl (x:=.none) rfl (Xac ?_));simp only [if_true]
 refine Xaa (XbC (Xaa (XaN hz rfl (x:=.ref TO) rfl ?_)))
 refine Xaa (XbQ hz (by simp) fun e1 z1 b1=>?_)
 replace z1:IsZip e1 z TI TO .ellipsis:=z1
 refine Xaa ?_;simp only [List.zipIdx_cons,List.zipIdx_nil,List.forIn_cons,List.forIn_nil]
 refine Xaa (Xaa (wpAny_onRaise ?_));show wpAny _ _ (Builtin.SmallTypes.nextOf (.ref i1) >>= _) _ _ _
 refine Xaa (zhg (h1.at fun o e=>b1.extBut _ _ D.az e) (g1.at fun o e=>b1.extBut _ _ L1.z e) ex fun e2 n1 b2=>Xac ?_)
 have O2:IsPair e2 TO a b:=b2.extBut _ _ D.oa (b1.extBut _ _ D.oz hO)
 refine Xaa (Xbf O2 rfl (Xaa (zhx O2 fun e3 O3 b3=>Xaa (wpAny_letGo (Xac ?_)))))
 replace O3:IsPair e3 TO x b:=O3
 have up3:∀ d o,d≠z→d≠TO→d≠i1→s.heap.get? d=some o→e3.get? d=some o:=fun d o q1 q2 q3 e=>b3.extBut _ _ q2 (b2.extBut _ _ q3 (b1.extBut _ _ q1 e))
 refine Xaa (Xaa (wpAny_onRaise ?_));show wpAny _ _ (Builtin.SmallTypes.nextOf (.ref i2) >>= _) _ _ _
 refine Xaa (zhg (h2.at fun o e=>up3 _ o D.bz D.ob.symm D.ab.symm e) (g2.at fun o e=>up3 _ o L2'.z L2'.o L2'.a e) ey fun e4 n2 b4=>Xac ?_)
 have O4:IsPair e4 TO x b:=b4.extBut _ _ D.ob O3
 refine Xaa (Xbf O4 rfl (Xaa (zhx O4 fun e5 O5 b5=>Xaa (wpAny_letGo (Xac (Xac ?_))))))
 replace O5:IsPair e5 TO x y:=O5
 have up5:∀ d o,d≠z→d≠TO→d≠i1→d≠i2→s.heap.get? d=some o→e5.get? d=some o:=fun d o q1 q2 q3 q4 e=>b5.extBut _ _ q2 (b4.extBut _ _ q4 (up3 d o q1 q2 q3 e))
 have sz:e5.objs.size=s.heap.objs.size:=by rw [b5.1,b4.1,b3.1,b2.1,b1.1]
 have z7:IsZip e5 z TI TO .ellipsis:=b5.extBut _ _ D.oz.symm (b4.extBut _ _ D.bz.symm (b3.extBut _ _ D.oz.symm (b2.extBut _ _ D.az.symm z1)))
 have m1:IsIt t e5 i1 l1 (k+1):=n1.at fun o e=>b5.extBut _ _ D.oa.symm (b4.extBut _ _ D.ab (b3.extBut _ _ D.oa.symm e))
 have m2:IsIt t e5 i2 l2 (k+1):=n2.at fun o e=>b5.extBut _ _ D.ob.symm e
 have zl:z<e5.objs.size:=Xal z7
 refine Xaa (Xbf O5 rfl (Xaa (wpAny_newTuple ?_)));show wpAny _ _ (Builtin.SmallTypes.ownedTupleHandOut (.ref z) (.ref e5.objs.size) >>= _) _ _ _
 refine Xaa ?_;unfold Builtin.SmallTypes.ownedTupleHandOut
 have z8:IsZip (e5.push { cls:=.type "tuple",data:=.seq #[x,y] }) z TI TO .ellipsis:=Xab _ z7
 refine Xaa (XbQ z8 (by simp) fun e9 z9 b9=>?_)
 replace z9:IsZip e9 z TI TO (rawInt e5.objs.size):=z9
 refine XbQ z9 (by simp) fun e0 z0 b0=>?_
 replace z0:IsZip e0 z TI TO (rawInt e5.objs.size):=z0
 have up:∀ d o,d≠z→e5.get? d=some o→e0.get? d=some o:=fun d o q1 e=>b0.extBut _ _ q1 (b9.extBut _ _ q1 (Xab _ e))
 have T0:IsPair e0 e5.objs.size x y:=b0.extBut _ _ (Xbr zl) (b9.extBut _ _ (Xbr zl) (Xaj _ rfl))
 have s0:e0.objs.size=e5.objs.size+1:=by rw [b0.1,b9.1,XaI]
 rw [sz] at z0 T0 s0
 refine Xac ⟨_,rfl,?_⟩;show Q (.ref e5.objs.size) _;rw [sz]
 exact q e0 z0 (up _ _ D.oz O5) (m1.at fun o e=>up _ o D.az e) (m2.at fun o e=>up _ o D.bz e) T0 s0 fun d o q1 q2 q3 q4 e=>up d o q1 (up5 d o q1 q2 q3 q4 e)
theorem zkk {t:Bool}{z TI TO i1 i2 l1:Addr}{k:Nat}{xs:Array Value}{Q:Fin→Shared→Prop}(hh:A.handled=none)(D:Far2 z TO i1 i2)(L1:FarM z TO i1 i2 l1)
  (hz:IsZip s.heap z TI TO .none) (hI:IsPair s.heap TI (.ref i1) (.ref i2)) (h1:IsIt t s.heap i1 l1 k) (g1:IsSq t s.heap l1 xs) (ex:xs[k]? = none)
  (q:∀ h' e,(∀ d o,d≠z→d≠i1→s.heap.get? d=some o→h'.get? d=some o)→(∃ o,h'.get? e=some o∧o.cls = .type "StopIteration")→E (.ref e) { s with heap:=h' }) :
  wpAny (model prog w) A (Builtin.«zip.__next__» ⟨[.ref z],[]⟩) Q E s:=by
 show wpAny _ _ (field (.ref z) 2 >>= _) _ _ _
 refine Xaa (XaN hz rfl (x:=.bool false) rfl ?_);show wpAny _ _ (field (.ref z) 3 >>= _) _ _ _
 refine Xaa (XaN hz rfl (x:=.ref TI) rfl (Xaa (Xbf hI rfl ?_)));show wpAny _ _ (Builtin.SmallTypes.ownedTupleIsFree (.ref z) >>= _) _ _ _
 refine Xaa ?_;unfold Builtin.SmallTypes.ownedTupleIsFree
 refine Xaa (XaN hz rfl (x:=.none) rfl (Xac ?_));simp only [if_true]
 refine Xaa (XbC (Xaa (XaN hz rfl (x:=.ref TO) rfl ?_)))
 refine Xaa (XbQ hz (by simp) fun e1 z1 b1=>?_)
 replace z1:IsZip e1 z TI TO .ellipsis:=z1
 refine Xaa ?_;simp only [List.zipIdx_cons,List.zipIdx_nil,List.forIn_cons,List.forIn_nil]
 refine Xaa (Xaa (wpAny_onRaise ?_));show wpAny _ _ (Builtin.SmallTypes.nextOf (.ref i1) >>= _) _ _ _
 refine Xaa (zlt hh (h1.at fun o e=>b1.extBut _ _ D.az e) (g1.at fun o e=>b1.extBut _ _ L1.z e) ex fun e2 e b2 he=>?_)
 obtain ⟨oe,hoe,hce⟩:=he
 have z2:IsZip e2 z TI TO .ellipsis:=b2 _ _ D.az.symm z1
 have ne:e≠z:=fun y=>by subst y;rw [z2] at hoe;cases hoe;simp at hce
 exact XbQ z2 (by simp) fun e3 _ b3=>q e3 e (fun d o q1 q2 y=>b3.extBut _ _ q1 (b2 _ _ q2 (b1.extBut _ _ q1 y))) ⟨oe,b3.extBut _ _ ne hoe,hce⟩
end
abbrev yA (t:Bool)(h:Heap)(l:Addr):Heap:=h.push { cls:=.type (itC t),data:=.fields #[.ref l,.int 0 0] }
abbrev yB (t:Bool)(h:Heap)(l1 l2:Addr):Heap:=(yA t (yA t h l1) l2).push { cls:=.type "tuple",data:=.seq #[.ref h.objs.size,.ref (yA t h l1).objs.size] }
abbrev yC (t:Bool)(h:Heap)(l1 l2:Addr):Heap:=(yB t h l1 l2).push { cls:=.type "tuple",data:=.seq #[.none,.none] }
abbrev yD (t:Bool)(h:Heap)(l1 l2:Addr):Heap:=(yC t h l1 l2).push { cls:=.type "zip",data:=.fields #[.none,.bool false,.bool false,.ref (yA t (yA t h l1) l2).objs.size,.ref (yB t h l1 l2).objs.size] }
theorem zkj (t:Bool)(l1 l2:Addr)(xs ys:Array Value) :
  Meets (Builtin.«zip.__new__» ⟨[.type "zip",.ref l1,.ref l2],[]⟩) (fun _ R s=>IsSq t s.heap l1 xs∧IsSq t s.heap l2 ys∧R (.ok (.ret (.ref (yC t s.heap l1 l2).objs.size))) { s with heap:=yD t s.heap l1 l2 }):=
 .of_wp fun prog w A R s h=>by
  obtain ⟨hp,g,d,tk,os⟩:=s;obtain ⟨hl1,hl2,h⟩:=h
  have hsub:=sub_zip
  have hA:IsSq t (Shared.heap ⟨hp,g,d,tk,os⟩) l1 xs:=hl1
  have hB:IsSq t (Shared.heap ⟨yA t hp l1,g,d,tk,os⟩) l2 ys:=hl2.at fun o e=>Xab _ e
  wp_walk using zlx hA,zlx hB
  exact ⟨_,rfl,h⟩
def hoX (t:Bool)(xs:List V):HO:=if t then .tup xs else .lst xs
def SqX (t:Bool)(H:Hp)(a:Addr)(xs:List V):Prop:=H a=some (hoX t xs)
theorem Inv.sqx {X:Cx}{pins:List (Addr×Obj)}{σ:St}{H:Hp}{s:Shared}(I:Inv X pins σ H s){t:Bool}{a:Addr}{xs:List V}(h:SqX t H a xs):∃ its:List Value,Vals xs its∧IsSq t s.heap a its.toArray:=by
 cases t with
 | false =>
  obtain ⟨its,r,p,_⟩:=I.list (SqL.of (xs:=xs) h)
  exact ⟨its,r,p.isList⟩
 | true =>
  obtain ⟨its,r,p,_⟩:=I.tuple (SqT.of (xs:=xs) h)
  exact ⟨its,r,p⟩
theorem zj6 {prog:Program}{w:World}{A:Around}{E:Value→Shared→Prop}{s:Shared}{t:Bool}{l1 l2:Addr}{xs ys:Array Value}{Q:Value→Shared→Prop}(g1:IsSq t s.heap l1 xs)(g2:IsSq t s.heap l2 ys)
  (q:∀ h' n,n=s.heap.objs.size→IsZip h' (n+4) (n+2) (n+3) .none→IsPair h' (n+2) (.ref n) (.ref (n+1))→IsPair h' (n+3) .none .none→IsIt t h' n l1 0→IsIt t h' (n+1) l2 0 →
   (∀ d o,s.heap.get? d=some o→h'.get? d=some o)→Q (.ref (n+4)) { s with heap:=h' }) :
  wpAny (model prog w) A (call (.type "zip") [.ref l1,.ref l2]) Q E s:=by
 refine callType_new F.called_zip (by decide) (F.typeCall_zip_2 _ _) (F.newCall_zip_2 _ _) (fun obj=>F.args_object_init_3 obj _ _) F.entry_zip_new (zkj t l1 l2 xs ys) ⟨g1,g2,?_⟩
 have n1:(yA t s.heap l1).objs.size=s.heap.objs.size+1:=XaI ..
 have n2:(yA t (yA t s.heap l1) l2).objs.size=s.heap.objs.size+2:=by rw [XaI,n1]
 have n3:(yB t s.heap l1 l2).objs.size=s.heap.objs.size+3:=by rw [XaI,n2]
 have n4:(yC t s.heap l1 l2).objs.size=s.heap.objs.size+4:=by rw [XaI,n3]
 have a4:(yD t s.heap l1 l2).get? (yC t s.heap l1 l2).objs.size=some _:=Xaj _ rfl
 have a3:(yD t s.heap l1 l2).get? (yB t s.heap l1 l2).objs.size=some _:=Xab _ (Xaj _ rfl)
 have a2:(yD t s.heap l1 l2).get? (yA t (yA t s.heap l1) l2).objs.size=some _:=Xab _ (Xab _ (Xaj _ rfl))
 have a1:(yD t s.heap l1 l2).get? (yA t s.heap l1).objs.size=some _:=Xab _ (Xab _ (Xab _ (Xaj _ rfl)))
 have a0:(yD t s.heap l1 l2).get? s.heap.objs.size=some _:=Xab _ (Xab _ (Xab _ (Xab _ (Xaj _ rfl))))
 show _∧_
 rw [n2,n3,n4] at a4
 rw [n3] at a3
 rw [n1,n2] at a2
 rw [n1] at a1
 rw [n4]
 exact ⟨⟨_,a4,rfl⟩,q _ _ rfl a4 a2 a3 ⟨_,a0,rfl,rfl⟩ ⟨_,a1,rfl,rfl⟩ fun d o e =>
  Xab _ (Xab _ (Xab _ (Xab _ (Xab _ e))))⟩
def Ity (t:Bool)(a b:Addr):It:=
 ⟨fun i H=>∃ xs x ys y,SqX t H a xs∧SqX t H b ys∧xs[i]? = some x∧ys[i]? = some y,
  fun i H v H'=>∃ T x y,H T=none∧v = .ref T∧H'=upd H T (.tup [x,y])∧(∀ xs,SqX t H a xs→xs[i]? = some x)∧∀ ys,SqX t H b ys→ys[i]? = some y,
  fun i H=>∃ xs,SqX t H a xs∧xs.length≤i⟩
theorem zhq {t:Bool}{h:Heap}{z TI TO i1 i2 l k1 k2:Addr}{it:Array Value}{f0:Value}{n1 n2:Nat}(g:IsSq t h l it)(hz:IsZip h z TI TO f0)(lo:l≠TO)(h1:IsIt t h i1 k1 n1)(h2:IsIt t h i2 k2 n2):FarM z TO i1 i2 l:=by
 have ap:∀ {d:Addr} {o:Obj},h.get? d=some o→o.cls≠.type (sqC t)→l≠d:=fun {d o} e nc y=>by
  obtain ⟨o',e',c',_⟩:=g
  rw [y,e] at e';cases e';exact nc c'
 obtain ⟨_,e1,c1,_⟩:=h1
 obtain ⟨_,e2,c2,_⟩:=h2
 have ne:(Value.type (itC t))≠.type (sqC t):=by cases t <;> simp [itC,sqC]
 exact ⟨ap hz (by cases t <;> simp [sqC]),lo,ap e1 (by rw [c1];exact ne),ap e2 (by rw [c2];exact ne)⟩
theorem ziT {H:Hp}{t:Bool}{a:Addr}{xs ys:List V}(h:SqX t H a xs)(h2:SqX t H a ys):xs=ys:=by
 have e:=Option.some.inj (h.symm.trans h2)
 cases t with
 | false=>exact HO.lst.inj e
 | true=>exact HO.tup.inj e
theorem ziO {P:Program}{w:World}{K:W.Frag}{elts:List Expr}{kt:Nat}{tp:Pos}(t:Bool)(l1 l2 z TI TO i1 i2:Addr)(D:Far2 z TO i1 i2)(TIz:TI≠z)(TITO:TI≠TO)(TI1:TI≠i1)(TI2:TI≠i2) :
  Turn P w K (.Tuple elts kt tp) (Ity t l1 l2) [z,TI,TO,i1,i2] z (fun i h=>IsZip h z TI TO .none∧IsPair h TI (.ref i1) (.ref i2)∧(∃ a b,IsPair h TO a b)∧IsIt t h i1 l1 i∧IsIt t h i2 l2 i) where
 mem:=by simp
 obj:=fun i h st b hb=>by
  obtain ⟨hz,hI,⟨_,_,hO⟩,⟨o1,e1,_,d1⟩,⟨o2,e2,_,d2⟩⟩:=st
  simp only [Xao,Xbc,or_false] at hb
  rcases hb with rfl | rfl | rfl | rfl | rfl
  ·exact ⟨_,hz,fun v y=>by have y':Data.fields _=Data.cell v:=y;cases y'⟩
  ·exact ⟨_,hI,fun v y=>by have y':Data.seq _ _=Data.cell v:=y;cases y'⟩
  ·exact ⟨_,hO,fun v y=>by have y':Data.seq _ _=Data.cell v:=y;cases y'⟩
  ·exact ⟨_,e1,fun v y=>by rw [d1] at y;cases y⟩
  ·exact ⟨_,e2,fun v y=>by rw [d2] at y;cases y⟩
 keep:=fun i h h' st k=>by
  obtain ⟨hz,hI,⟨a,b,hO⟩,h1,h2⟩:=st
  exact ⟨k z (by simp) _ hz,k TI (by simp) _ hI,⟨a,b,k TO (by simp) _ hO⟩,h1.at fun o e=>k i1 (by simp) o e,h2.at fun o e=>k i2 (by simp) o e⟩
 item:=by
  intro X hP hw hK hc i pins s σ H E I hf st hg
  subst hP hw hK
  obtain ⟨xs,x,ys,y,p1,p2,e1,e2⟩:=hg
  obtain ⟨t1,r1,f1⟩:=I.sqx p1
  obtain ⟨t2,r2,f2⟩:=I.sqx p2
  obtain ⟨v1,w1,rx⟩:=r1.get e1
  obtain ⟨v2,w2,ry⟩:=r2.get e2
  obtain ⟨hz,hI,⟨a,b,hO⟩,h1,h2⟩:=st
  have nO:H TO=none:=(hf TO (by simp)).1
  have far:∀ {l:Addr} {zs:List V},SqX t H l zs→l≠TO:=fun {l zs} p e=>by rw [SqX,e,nO] at p;cases p
  have hT:s.TypeIs (.ref z) "zip" := ⟨_,hz,rfl⟩
  unfold pyNext
  refine Xaa (wpAny_attempt (wpAny_callSpecial?_slot (name:=Str.ofString "__next__") hT F.slot_zip_next (XaS F.slot_zip_next hT F.entry_zip_next
   (ziG D (zhq f1 hz (far p1) h1 h2) (zhq f2 hz (far p2) h1 h2) hz hI hO h1 h2 f1 f2 (x:=v1) (y:=v2) (by simpa using w1) (by simpa using w2)
    fun h' z1 O1 m1 m2 T1 s1 kk=>Xac ⟨_,rfl,?_⟩) (F.args_zip_next_1 _))))
  refine wpAny_letOwnedTupleGo_zip z1 fun h4 z4 sb=>?_
  have fT:FpOk X pins H s.heap.objs.size:=I.fpOk (Xae _) (I.hok.fresh (Xae _))
  have k2:∀ d o,d ∉ [z,TI,TO,i1,i2]→s.heap.get? d=some o→h4.get? d=some o:=fun d o hb e=>by
   simp only [Xao,Xbc,or_false,not_or] at hb
   obtain ⟨q1,q2,q3,q4,q5⟩:=hb
   exact (sb.2 d q1).trans (kk d o q1 q3 q4 q5 e)
  have I1:Inv X pins σ H { s with heap:=h4,toks:=s.toks }:=I.turnedL (ch:=[z,TI,TO,i1,i2]) k2 hf
  have eT:h4.get? s.heap.objs.size=some { cls:=.type "tuple",data:=.seq #[v1,v2] }:=(sb.2 _ (Xbr (Xal hz))).trans T1
  have I2:=I1.track (o:=.tup [x,y]) fT (Xar I.sz (Xae _)) (zgN rx ry eT)
  refine ⟨.ref s.heap.objs.size,_,I2,rfl,⟨_,x,y,fT.1,rfl,rfl,fun ys hy=>by rw [ziT hy p1];exact e1,fun ys hy=>by rw [ziT hy p2];exact e2⟩,
   ⟨z4,(sb.2 _ TIz).trans (kk _ _ TIz TITO TI1 TI2 hI),⟨_,_,sb.extBut _ _ D.oz O1⟩,m1.at fun o e=>sb.extBut _ _ D.az e,m2.at fun o e=>sb.extBut _ _ D.bz e⟩,fun d hb=>?_⟩
  have hlt:d<s.heap.objs.size:=by
   obtain ⟨_,g1,_⟩:=h1
   obtain ⟨_,g2,_⟩:=h2
   simp only [Xao,Xbc,or_false] at hb
   rcases hb with rfl | rfl | rfl | rfl | rfl
   ·exact Xal hz
   ·exact Xal hI
   ·exact Xal hO
   ·exact Xal g1
   ·exact Xal g2
  rw [zag (Xaw hlt)]
  exact (hf d hb).1
 done:=by
  intro X hP hw hK hc i pins s σ H E I hf st hg
  subst hP hw hK
  obtain ⟨xs,p1,hx⟩:=hg
  obtain ⟨t1,r1,f1⟩:=I.sqx p1
  obtain ⟨hz,hI,⟨a,b,hO⟩,h1,h2⟩:=st
  have nO:H TO=none:=(hf TO (by simp)).1
  have far:l1≠TO:=fun e=>by rw [SqX,e,nO] at p1;cases p1
  have hT:s.TypeIs (.ref z) "zip" := ⟨_,hz,rfl⟩
  have e1:=r1.length
  unfold pyNext
  refine Xaa (wpAny_attempt (wpAny_callSpecial?_slot (name:=Str.ofString "__next__") hT F.slot_zip_next (XaS F.slot_zip_next hT F.entry_zip_next
   (zkk (I.ok.hd hc) D (zhq f1 hz far h1 h2) hz hI h1 f1 (by simp;omega) fun h' e kk he=>?_) (F.args_zip_next_1 _))))
  obtain ⟨o,ho,hcl⟩:=he
  refine Xaa (wpAny_isInstance (T := "StopIteration") (b:=true) ⟨o,ho,hcl⟩ isSubtype_stop ?_)
  refine Xac ⟨rfl,I.turnedL (t':=s.toks) (ch:=[z,TI,TO,i1,i2]) (fun d o hb e=>?_) hf⟩
  simp only [Xao,Xbc,or_false,not_or] at hb
  exact kk d o hb.1 hb.2.2.2.1 e
 self:=fun _ _ _ _ _ st h=>wpAny_pyIter_zip st.1 h
inductive iZipX_1 (R:It→Hp→Prop)(vs:List V)(H1:Hp):Prop
 | mk (t:_) (a:_) (b:_) (xs:_) (ys:_) (z0_:vs=[.ref a,.ref b]) (z1_:SqX t H1 a xs) (z2_:SqX t H1 b ys) (z3_:R (Ity t a b) H1)
def iZipX (ta:TA):TI:=fun σ H R=>ta σ H (iZipX_1 R)
theorem zmb {X:Cx}{a b:Expr}{ta:TA}{p pos:Pos}{elts:List Expr}{kt:Nat}{tp:Pos}(hg:Gl X "zip")(hm:X.mg "zip" = none)(ha:PA X [a,b] ta)(hs:starEach [a,b] X.env=(false,eval a X.env) :: starEach [b] X.env:=by rfl)(hs2:(backTo pos (starEach [b] X.env)).any (·.1)=false:=by rfl) :
  PI X (.Tuple elts kt tp) (.Call (.Name "zip" p) [a,b] [] pos) (iZipX ta):=by
 intro pins s σ H R I h
 refine Call_ (zc5 I hg hm zk7 (PyProof.Rows.callWith_type1 (thn (ha pos pins s σ H _ I h) fun us s1 hh_=>?_) hs hs2))
 obtain ⟨vs,H1,I1,r1,q1⟩:=hh_
 obtain ⟨t,l1,l2,xs,ys,e,p1,p2,q⟩:=q1
 subst e
 cases r1 with
 | cons ra rr=>cases rr with
  | cons rb rr =>
   cases rr
   cases ra;cases rb
   obtain ⟨t1,v1,f1⟩:=I1.sqx p1
   obtain ⟨t2,v2,f2⟩:=I1.sqx p2
   refine zj6 f1 f2 fun h' n hn hz hI hO h1 h2 kk=>?_
   refine wpAny_pyIter_zip hz ?_
   have I2:Inv X pins σ H1 { s1 with heap:=h',toks:=s1.toks }:=I1.kept kk
   have ge:∀ b,n≤b→FpOk X pins H1 b:=fun b hb=>I1.fpOk (by rw [← hn];exact hb) (I1.hok.fresh (by rw [← hn];exact hb))
   have ne:∀ i j:Nat,i≠j→(n+i:Nat)≠n+j:=fun i j h=>by omega
   refine ⟨n+4,[n+4,n+2,n+3,n,n+1],_,_,H1,rfl,I2,ziO t l1 l2 (n+4) (n+2) (n+3) n (n+1) ⟨ne 3 4 (by decide),ne 0 4 (by decide),ne 1 4 (by decide),ne 3 0 (by decide),ne 3 1 (by decide),ne 0 1 (by decide)⟩
    (ne 2 4 (by decide)) (ne 2 3 (by decide)) (ne 2 0 (by decide)) (ne 2 1 (by decide)),⟨hz,hI,⟨_,_,hO⟩,h1,h2⟩,fun b hb=>ge b ?_,q⟩
   simp only [Xao,Xbc,or_false] at hb
   rcases hb with rfl | rfl | rfl | rfl | rfl
   ·exact Nat.le_add_right _ _
   ·exact Nat.le_add_right _ _
   ·exact Nat.le_add_right _ _
   ·exact Xae _
   ·exact Nat.le_add_right _ _
theorem zj1 {t:Bool}{g:TG}{tf:TT}{te:TE}{Q:List V→Hp→Prop}{σ:St}{H:Hp}{a b:Addr}{xs ys:List V}(Pv:Nat→List V→St→Hp→Prop)(he:xs.length=ys.length)(hn:xs.length≤sizeLine)(h0:Pv 0 [] σ H)(hl:∀ i rs σ H,i≤xs.length→Pv i rs σ H→SqX t H a xs∧SqX t H b ys∧rs.length≤i)
  (hs:∀ i x y T rs σ H,xs[i]? = some x→ys[i]? = some y→H T=none→Pv i rs σ H→g (.ref T) σ (upd H T (.tup [x,y])) fun σ2 H2=>tf σ2 H2 fun b H3=>if b=true then te σ2 H3 fun y H4=>Pv (i+1) (rs ++ [y]) σ2 H4 else Pv (i+1) rs σ2 H3)
  (hd:∀ rs σ H,Pv xs.length rs σ H→Q rs H):zgH (Ity t a b) g tf te Q σ H:=by
 refine ⟨fun i m rs σ H=>m=xs.length - i∧i≤xs.length∧Pv i rs σ H,⟨xs.length,by simp,Nat.zero_le _,h0⟩,?_⟩
 rintro i m rs σ H ⟨rfl,hi,p⟩
 obtain ⟨q,q2,hz⟩:=hl i rs σ H hi p
 by_cases hlt:i<xs.length
 ·refine .inr ⟨⟨xs,xs[i],ys,ys[i]'(by omega),q,q2,by simp [hlt],by simp [he ▸ hlt]⟩,by omega,Pv (i+1),fun ys' σ' H' p'=>⟨xs.length - (i+1),by omega,rfl,hlt,p'⟩,fun v H' y=>?_⟩
  obtain ⟨T,x,y',hT,rfl,rfl,y1,y2⟩:=y
  exact hs i x y' T rs σ _ (y1 xs q) (y2 ys q2) hT p
 ·have e:i=xs.length:=by omega
  exact .inl ⟨⟨xs,q,by omega⟩,by omega,hd rs σ H (e ▸ p)⟩
theorem zbC (T:String){X:Cx}{K:W.Frag}(hK:X.K=K):zdc X (.builtin "isinstance") (fun xs H Q=>∃ x t b,xs=[x,.ty T]∧TyOf K H x t∧W.kitOne K t (.type T)=some b∧Q (.bl b) H):=by
 subst hK
 intro pins s σ H xs us Q I r h
 obtain ⟨x,t,b,rfl,ty,e,q⟩:=h
 obtain ⟨u,u2,rfl,rx,r2⟩:=zkn r
 obtain rfl:u2=Value.type T:=r2
 exact zgn I rx ty e fun tk=>⟨.bl b,H,I.tok _,rfl,q⟩
section
variable {X:Cx}{K:W.Frag}
theorem zbg {x:Str}{n:Int}{pos:Pos}(hg:Gl X x)(h:∃ t,X.mg x=some (.int n t))(hd:(x == ("__debug__" : Str))=false:=by decide):PE X (.Name x pos) (tC (.int n)):=by
 obtain ⟨t,h⟩:=h
 exact zg1 hg h ⟨_,rfl⟩ hd
end
def dP {α:Type}(ds us zs:List α):List α:=us ++ ds
theorem Vals.dP {ds:List V}{es:List Value}(d:Vals ds es){vs zs:List V}{us ws:List Value}(g:Vals vs us)(h:Vals zs ws):Vals (dP ds vs zs) (dP es us ws):=g.append d
theorem zd1:RelV (.ty "tuple") (.type "tuple"):=rfl
theorem zl7:RelV (.ty "list") (.type "list"):=rfl
theorem zb7:bootBuiltins "tuple" = some (.type "tuple"):=by decide +kernel
theorem zdF:bootBuiltins "list" = some (.type "list"):=by decide +kernel
end L2
namespace Cb
open PySem L2
structure Blt (mg:Str→Option Value):Prop where
 len:mg "len" = none
 sum:mg "sum" = none
 all:mg "all" = none
 max:mg "max" = none
 min:mg "min" = none
 int:mg "int" = none
 bool:mg "bool" = none
 isinstance:mg "isinstance" = none
 range:mg "range" = none
 enumerate:mg "enumerate" = none
 zip:mg "zip" = none
 str:mg "str" = none
 tuple:mg "tuple" = none
 list:mg "list" = none
def NN (ext:List (Str×V)):Prop:=ext=[]∨∃ r:Int,ext=[(("room" : Str),V.int r)]
structure Ob (C:Addr)(H:Hp)(a p:Addr)(ws:List V)(ext:List (Str×V)):Prop where
 ex:∃ dx hd,H a=some (.ins C dx (("head",.str hd) :: ("held",.ref p) :: ext))
 ls:H p=some (.lst ws)
 nn:NN ext
structure ClsOk (K:W.Frag)(C:Addr):Prop where
 cl:Cls K C
 head:NoAttr K C "head"
 held:NoAttr K C "held"
 room:NoAttr K C "room"
inductive spIsNum (vs:List V)(H:Hp)(Q:VK)(u3_:XK):Prop
 | mk (a b:Int) (z0_:vs=[.int a,.int b]) (z1_:Q (.bl (decide (0≤a∧a≤b))) H)
inductive spIsWord (vs:List V)(H:Hp)(Q:VK)(u3_:XK):Prop
 | mk (a:Int) (z0_:vs=[.int a]) (z1_:Q (.bl (decide (0≤a∧a≤255))) H)
inductive spChkWord (vs:List V)(H:Hp)(Q:VK)(u3_:XK):Prop
 | mk (a:Int) (z0_:vs=[.int a]) (z1_:0≤a) (z2_:a≤255) (z3_:Q .non H)
inductive spLen (C:Addr)(L:List V→Nat)(vs:List V)(H:Hp)(Q:VK)(u3_:XK):Prop
 | mk (a:_) (p:_) (ws:_) (ext:_) (z0_:vs=[.ref a]) (z1_:Ob C H a p ws ext) (z2_:Q (.int (L ws:Int)) H)
inductive spChkC (C:Addr)(L:List V→Nat)(vs:List V)(H:Hp)(Q:VK)(u3_:XK):Prop
 | mk (a:_) (p:_) (ws:_) (ext:_) (c:Int) (z0_:vs=[.ref a,.int c]) (z1_:Ob C H a p ws ext) (z2_:0≤c) (z3_:c<L ws) (z4_:L ws≤5000) (z5_:Q .non H)
inductive spChkW (C:Addr)(L:List V→Nat)(vs:List V)(H:Hp)(Q:VK)(u3_:XK):Prop
 | mk (a:_) (p:_) (ws:_) (ext:_) (c v:Int) (z0_:vs=[.ref a,.int c,.int v]) (z1_:Ob C H a p ws ext) (z2_:0≤c) (z3_:c<L ws) (z4_:L ws≤5000) (z5_:0≤v) (z6_:v≤255) (z7_:Q .non H)
inductive spLook (C:Addr)(vs:List V)(H:Hp)(Q:VK)(u3_:XK):Prop
 | mk (a:_) (p:_) (ws:_) (ext:_) (c:Nat) (x:V) (z0_:vs=[.ref a,.int (c:Int)]) (z1_:Ob C H a p ws ext) (z2_:ws.length≤5000) (z3_:ws[c]? = some x) (z4_:Q x H)
inductive spWrite (C:Addr)(vs:List V)(H:Hp)(Q:VK)(u3_:XK):Prop
 | mk (a:_) (p:_) (ws:_) (ext:_) (c:Nat) (v:Int) (z0_:vs=[.ref a,.int (c:Int),.int v]) (z1_:Ob C H a p ws ext) (z2_:ws.length≤5000) (z3_:c<ws.length) (z4_:0≤v) (z5_:v≤255) (z6_:Q .non (upd H p (.lst (ws.set c (.int v)))))
inductive spFixW (C:Addr)(vs:List V)(H:Hp)(Q:VK)(u3_:XK):Prop
 | mk (a:_) (p:_) (ws:_) (ext:_) (c:Nat) (v:Int) (z0_:vs=[.ref a,.int (c:Int),.int v]) (z1_:Ob C H a p ws ext) (z2_:ws.length≤5000) (z3_:c<ws.length) (z4_:0≤v) (z5_:v≤255) (z6_:Q .non H)
inductive spState (C:Addr)(vs:List V)(H:Hp)(Q:VK)(u3_:XK):Prop
 | mk (a:_) (p:_) (ws:_) (ext:_) (z0_:vs=[.ref a]) (z1_:Ob C H a p ws ext) (z2_:∀ q,H q=none→Q (.ref q) (upd H q (.tup ws)))
inductive spMetR (C:Addr)(vs:List V)(H:Hp)(Q:VK)(u3_:XK):Prop
 | mk (a:_) (p:_) (ext:_) (v:Int) (z0_:vs=[.ref a,.int 0]) (z1_:Ob C H a p [.int v] ext) (z2_:Q (.int v) (upd H p (.lst [.int ((v+1) % 256)])))
inductive spInit (K:W.Frag)(vs:List V)(H:Hp)(Q:VK)(u3_:XK):Prop
 | mk (a:_) (C:_) (dx:_) (p:_) (hd:_) (z0_:vs=[.ref a,.str hd,.ref p]) (z1_:H a=some (.ins C dx [])) (z2_:ClsOk K C) (z3_:∀ H',H' a=some (.ins C dx [("head",.str hd),("held",.ref p)])→(∀ b,b≠a→H' b=H b)→Q .non H')
end Cb
end
section
namespace L2
open PySem PySem.Spec PyProof.Rows PySem.SeqAt
section
variable {X:Cx}{K:W.Frag}
inductive tFs2_1 (Q:VK)(a:Str)(y:V)(H2:Hp):Prop
 | mk (b:Str) (z0_:y = .str b) (z1_:b.length≤1000) (z2_:Q (.str (Str.empty ++ a ++ b)) H2)
inductive tFs2_2 (tb:TE)(σ:St)(Q:VK)(x:V)(H1:Hp):Prop
 | mk (a:Str) (z0_:x = .str a) (z1_:a.length≤1000) (z2_:tb σ H1 (tFs2_1 Q a))
def tFs2 (ta tb:TE):TE:=fun σ H Q=>ta σ H (tFs2_2 tb σ Q)
theorem pe_fs2 {e v:Expr}{pos p2:Pos}{ta tb:TE}(he:PE X e ta)(hv:PE X v tb)(hE:evalEach [] X.env=[]:=by rfl):PE X (.JoinedStr [e,.FormattedValue v (-1) none p2] pos) (tFs2 ta tb):=by
 intro pins s σ H Q I h
 refine JoinedStr_many ?_
 rw [hE]
 have l0:Str.empty.length=0:=rfl
 have hz:(3000:Nat)≤sizeLine:=by decide
 refine joinParts_cons (thn (he pins s σ H _ I h) fun u s1 hh_=>?_)
 obtain ⟨x,H1,I1,rx,a,ex,la,q⟩:=hh_
 subst ex
 obtain ⟨t,rfl⟩:=(show ∃ t,u=Value.str a t from rx)
 refine ⟨by rw [strLen_append];omega,?_⟩
 refine joinParts_cons (FormattedValue_plain (thn (hv pins s1 σ H1 _ I1 q) fun u2 s2 hh_=>?_))
 obtain ⟨y,H2,I2,ry,b,ey,lb,q2⟩:=hh_
 subst ey
 obtain ⟨t2,rfl⟩:=(show ∃ t,u2=Value.str b t from ry)
 refine formatField_str (fun t' tk=>⟨by rw [strLen_append,strLen_append];omega,?_⟩) (by omega)
 exact joinParts_nil ⟨.str (Str.empty ++ a ++ b),H2,(I2.tok _).tok _,⟨_,rfl⟩,q2⟩ (by rw [strLen_append,strLen_append];omega)
inductive rEqL (K:W.Frag)(neg:Bool)(x:V)(y:V)(H:Hp)(Q:VK):Prop
 | mk (a:_) (b:_) (ns ms:List Int) (z0_:x = .ref a) (z1_:y = .ref b) (z2_:SqL K H a (ns.map V.int)) (z3_:SqL K H b (ms.map V.int)) (z4_:Q (.bl (neg != decide (ns=ms))) H)
theorem zdd:∀ {ns:List Int} {us:List Value},Vals (ns.map V.int) us→∀ (j:Nat) (h:j<us.length) (h2:j<ns.length),∃ t,us[j]=Value.int ns[j] t
 | [],_,r,j,h,h2=>absurd h2 (Xbu _)
 | n :: ns,us,r,j,h,h2=>by
  cases r with
  | cons r1 r2 =>
   cases j with
   | zero=>exact r1
   | succ j=>exact zdd r2 j (by simpa using h) (by simpa using h2)
theorem zlJ {ns ms:List Int}(hl:ns.length=ms.length):(List.range ns.length).all (fun j=>ns[j]? == ms[j]?)=decide (ns=ms):=by
 rw [XbN,Xbd,decide_eq_true_iff]
 constructor
 ·intro h
  apply List.ext_getElem? 
  intro i
  by_cases hi:i<ns.length
  ·exact beq_iff_eq.mp (h i (List.mem_range.mpr hi))
  ·rw [XaD (by omega),XaD (by omega)]
 ·intro h i _
  rw [h];exact beq_iff_eq.mpr rfl
theorem zhQ {pins:List (Addr×Obj)}{s:Shared}{σ:St}{H:Hp}{a b:Addr}{ns ms:List Int}(I:Inv X pins σ H s)(ha:SqL X.K H a (ns.map V.int))(hb:SqL X.K H b (ms.map V.int)) :
  ∃ its its2:Array Value,s.heap.IsList a its∧s.heap.IsList b its2∧its.size=ns.length∧its2.size=ms.length∧∀ (A:Around) j (h1:j<its.size) (h2:j<its2.size),EqAt A s its[j] its2[j] (ns[j]? == ms[j]?):=by
 obtain ⟨t1,r1,p1,_⟩:=I.list ha
 obtain ⟨t2,r2,p2,_⟩:=I.list hb
 have l1:=r1.length
 have l2:=r2.length
 rw [Xaf] at l1 l2
 refine ⟨t1.toArray,t2.toArray,p1.isList,p2.isList,by simp [l1],by simp [l2],fun A j h1 h2=>?_⟩
 have g1:j<t1.length:=by simpa using h1
 have g2:j<t2.length:=by simpa using h2
 obtain ⟨u1,e1⟩:=zdd r1 j g1 (by omega)
 obtain ⟨u2,e2⟩:=zdd r2 j g2 (by omega)
 have e:(ns[j]? == ms[j]?)=(ns[j]'(by omega) == ms[j]'(by omega)):=by
  rw [Xav (by omega),Xav (by omega)]
  rfl
 rw [e]
 simp only [XbD,e1,e2]
 exact EqAt.int_int _ _ _ _
theorem zls (hu:X.A.units<cLine)(hK:X.K=K):OpR X (compareOp .Eq) (rEqL K false):=by
 subst hK
 rintro pins s σ H x y v u Q I rx ry ⟨a,b,ns,ms,rfl,rfl,ha,hb,q⟩
 cases rx;cases ry
 obtain ⟨i1,i2,g1,g2,l1,l2,he⟩:=zhQ I ha hb
 by_cases hl:ns.length=ms.length
 ·refine RcAt.lists (e:=fun j=>ns[j]? == ms[j]?) g1 g2 (by omega) hu (fun j h1 h2=>he _ j h1 h2) _ _ _ _ ⟨.bl (false != decide (ns=ms)),H,I,?_,q⟩
  rw [l1,zlJ hl];show _=Value.bool _;rw [Bool.false_bne]
 ·rw [Xai (fun e=>hl (by rw [e]))] at q
  exact RcAt.lists_lengths g1 g2 (by rw [l1,l2];exact bne_iff_ne.mpr hl) hu _ _ _ _ ⟨.bl false,H,I,rfl,q⟩
theorem op_neL (hu:X.A.units<cLine)(hK:X.K=K):OpR X (compareOp .NotEq) (rEqL K true):=by
 subst hK
 rintro pins s σ H x y v u Q I rx ry ⟨a,b,ns,ms,rfl,rfl,ha,hb,q⟩
 cases rx;cases ry
 obtain ⟨i1,i2,g1,g2,l1,l2,he⟩:=zhQ I ha hb
 by_cases hl:ns.length=ms.length
 ·refine RcNeAt.lists (e:=fun j=>ns[j]? == ms[j]?) g1 g2 (by omega) hu (fun j h1 h2=>he _ j h1 h2) _ _ _ _ ⟨.bl (true != decide (ns=ms)),H,I,?_,q⟩
  rw [l1,zlJ hl];show _=Value.bool _;rw [Bool.true_bne]
 ·rw [Xai (fun e=>hl (by rw [e]))] at q
  exact RcNeAt.lists_lengths g1 g2 (by rw [l1,l2];exact bne_iff_ne.mpr hl) hu _ _ _ _ ⟨.bl true,H,I,rfl,q⟩
end
end L2
end
section
namespace L2
open PySem PySem.Spec PyProof.Rows Builtin
section
variable {prog:Program}{w:World}{A:Around}{E:Value→Shared→Prop}{s:Shared}{K:W.Frag}{x y C f:Addr}{ox oy:Obj}{od oe:Option Obj}
end
structure NeOk (K:W.Frag)(C:Addr):Prop where
 ne:W.findIn K (.ref C) "__ne__" = some (some (.builtin "object.__ne__"))
 ob:W.subIn K (.ref C) (.type "object")=some true
section
variable {X:Cx}
end
theorem zgi {sel:Nat→Bool}:∀ (l:List Value) (n:Nat),(∀ k,n≤k→k<n+l.length→sel k=false)→((l.zipIdx n).filterMap fun x=>if sel x.2=true then none else some x.1)=l
 | [],_,_=>rfl
 | a :: l,n,h=>by
  rw [List.zipIdx_cons,List.filterMap_cons]
  dsimp only
  rw [h n (Xae _) (by rw [Xau];omega),if_neg Xam]
  dsimp only
  rw [zgi l (n+1) fun k h1 h2=>h k (by omega) (by rw [Xau];omega)]
theorem zjJ {sel:Nat→Bool}(l:List Value)(h:∀ k,k<l.length→sel k=decide (k=0)):(l.zipIdx.filterMap fun x=>if sel x.2=true then none else some x.1)=l.drop 1:=by
 cases l with
 | nil=>rfl
 | cons a l =>
  rw [List.zipIdx_cons,List.filterMap_cons]
  dsimp only
  rw [h 0 (by simp),if_pos (by decide)]
  dsimp only
  exact zgi l (0+1) fun k h1 h2=>by rw [h k (by rw [Xau];omega)];exact Xai (by omega)
section
variable {prog:Program}{w:World}{A:Around}{E:Value→Shared→Prop}{s:Shared}
theorem ziv {l sl:Addr}{its:List Value}{n:Nat}{vu:Value}{Q:Unit→Shared→Prop}(hl:s.heap.get? l=some { cls:=.type "list",data:=.seq its.toArray n })(hs:s.heap.IsSliceOf sl .none vu .none)(pu:IsPart vu (some 1))(hsz:its.length≤sizeLine)
  (q:∀ f:Array Value→Array Value,f its.toArray=(its.drop 1).toArray→Q () { s with heap:=s.heap.update l (Obj.mapSeq f) }):wpAny (model prog w) A (delItem (.ref l) (.ref sl)) Q E s:=by
 obtain ⟨os,hos,hcs,hds⟩:=id hs
 have hT:s.TypeIs (.ref sl) "slice" := ⟨os,hos,hcs⟩
 have hL:s.TypeIs (.ref l) "list" := ⟨_,hl,rfl⟩
 refine wpAny_delItem_slot hL (by decide) F.slot_list_delitem (XaS F.slot_list_delitem hL F.entry_list_delitem ?_ (F.args_list_delitem_2 _ _))
 show wpAny _ _ (Builtin.List.listSubscript? (.ref sl) >>= _) _ _ s;refine Xaa ?_;delta Builtin.List.listSubscript?
 refine Xaa (wpAny_specialOf hT slice_no_index ?_);simp only [Option.isNone_none,if_true];refine Xac ?_
 show wpAny _ _ (typeOf (.ref sl) >>= _) _ _ s;refine Xaa (wpAny_typeOf hT ?_);rw [if_neg (by decide),listSliceParts_eq]
 refine Xaa (Xaa (XaN hos hds (x:=.none) rfl (Xaa (wpAny_listPart .none ?_))));rw [if_neg (show ¬ ((rawPart none == rawInt 0)=true) from Xam)]
 refine Xaa (XaN hos hds (x:=.none) rfl (Xaa (wpAny_listPart .none ?_)))
 refine Xaa (XaN hos hds (x:=vu) rfl (Xaa (wpAny_listPart pu (Xac ?_))))
 refine Xaa (m:=Builtin.List.listItems (.ref l)) ?_;delta Builtin.List.listItems
 refine Xaa (Xbf hl rfl (Xac (Xaa (wpAny_of_eq (sliceIndices_raw none (some 1) none its.toArray.size (by simp)) ?_))))
 refine Xaa (XbC ?_)
 have key:∀ sel:Nat→Bool,(∀ k,k<its.length→sel k=decide (k=0))→((its.toArray.toList.zipIdx.filterMap fun x=>if sel x.2=true then none else some x.1).toArray)=(its.drop 1).toArray:=fun sel h=>by
  rw [show its.toArray.toList=its by simp,zjJ its h]
 refine Xaa (wpAny_updateSeq hl rfl ?_ (by simpa using hsz) ?_)
 ·refine Xaa (wpAny_letGo (Xac ⟨_,rfl,q _ (key _ fun k hk=>?_)⟩))
  have e:sliceBounds none (some 1) none its.toArray.size=(0,max 0 (min 1 (its.toArray.size:Int)),1):=by simp [sliceBounds]
  rw [e]
  show (if (1:Int) > 0 then (decide ((0:Int)≤(k:Int)) && decide ((k:Int)<max 0 (min 1 (its.toArray.size:Int))) && (((k:Int) - 0) % 1 == 0)) else _)=decide (k=0)
  rw [if_pos (by decide),Int.emod_one,Xah (show (0:Int)≤(k:Int) by omega),Bool.true_and,show ((0:Int) == 0)=true from rfl,Bool.and_true,Xbp,show its.toArray.size=its.length by simp]
  omega
 ·refine Nat.le_succ_of_le (Xar ?_ hsz)
  rw [Xan]
  refine Xar (List.length_filterMap_le _ _) ?_
  simp
end
section
variable {X:Cx}{o:Expr}{td:TE}{pos p1 p2 p3:Pos}{k0:Nat}
inductive sDel1_1 (D:Ends)(σ:St)(x:V)(H1:Hp):Prop
 | mk (a:_) (xs:_) (z0_:x = .ref a) (z1_:H1 a=some (.lst xs)) (z2_:D.nx σ (upd H1 a (.lst (xs.drop 1))))
def sDel1 (td:TE):TS:=fun D σ H=>td σ H (sDel1_1 D σ)
theorem zma (ho:PE X o td):PS X (.Delete [.Subscript o (.Slice none (some (.Constant (.int 1) k0 p3)) none p2) p1] pos) (sDel1 td):=by
 intro pins s σ H D I h
 refine wpAny_Delete (wpAny_deleteEach_cons (wpAny_delete_Subscript (thn (ho pins s σ H _ I h) fun u s1 hh_=>?_)))
 obtain ⟨x,H1,I1,rx,a,xs,ex,ea,q1⟩:=hh_
 subst ex
 obtain rfl:u=Value.ref a:=rx
 refine wpAny_Slice ?_
 rw [evalPart_none]
 refine Xac (thn (zbt (X:=X) (zad (X:=X) (i:=1) (j:=k0) (pos:=p3)) pins s1 σ H1 (fun v H2=>v=some 1∧H2=H1) I1 ⟨1,rfl,rfl,rfl⟩) fun vu s2 hh_=>?_)
 obtain ⟨l,H2,I2,pu,el,eh⟩:=hh_
 subst el eh
 refine Xac ?_
 have I4:Inv X pins σ H2 { s2 with heap:=s2.heap.push { cls:=.type "slice",data:=.fields #[.none,vu,.none] } }:=I2.kept (t':=s2.toks) fun b ob q=>Xab _ q
 obtain ⟨z,its,n,r,hl,e⟩:=I4.lstM ea
 refine ziv (s:={ s2 with heap:=s2.heap.push { cls:=.type "slice",data:=.fields #[.none,vu,.none] } }) e (Heap.IsSliceOf.new ..) pu (by omega) fun f hf=>?_
 exact wpAny_deleteEach_nil ⟨σ,_,I4.lset (t':=s2.toks) ea e hf (r.drop 1) (by rw [Xa4];omega),q1⟩
end
section
variable {X:Cx}{K:W.Frag}
theorem zb2 {x:Str}{z:Str}{pos:Pos}(hg:Gl X x)(h:∃ t,X.mg x=some (.str z t))(hd:(x == ("__debug__" : Str))=false:=by decide):PE X (.Name x pos) (tC (.str z)):=by
 obtain ⟨t,h⟩:=h
 exact zg1 hg h ⟨_,rfl⟩ hd
theorem zhE {x:Str}{a:Addr}{pos:Pos}(hg:Gl X x)(h:X.mg x=some (.ref a))(hd:(x == ("__debug__" : Str))=false:=by decide):PE X (.Name x pos) (tC (.ref a)):=zg1 hg h rfl hd
theorem zhT (hK:X.K=K):zdc X (.builtin "isinstance") (fun xs H Q=>∃ x t D b,xs=[x,.ref D]∧TyOf K H x t∧W.kitOne K t (.ref D)=some b∧Q (.bl b) H):=by
 subst hK
 intro pins s σ H xs us Q I r h
 obtain ⟨x,t,D,b,rfl,ty,e,q⟩:=h
 obtain ⟨u,u2,rfl,rx,r2⟩:=zkn r
 obtain rfl:u2=Value.ref D:=r2
 exact zgn I rx ty e fun tk=>⟨.bl b,H,I.tok _,rfl,q⟩
structure TyC (K:W.Frag)(C D:Addr):Prop where
 c1:W.findIn K (.ref C) "__class__" = some (some (.builtin "object.__class__"))
 c2:W.specialIn K (.builtin "object.__class__") "__get__" = some (some (.builtin "getset_descriptor.__get__"))
 c3:W.takesIn K (.builtin "object.__class__")=some true
 c4:W.mroIn K C (.type "object")=some true
 c5:W.kitOne K (.ref C) (.ref D)=some true
end
theorem zct {K:W.Frag}{t:Value}{D:Addr}(h:W.isIn K t D=true):W.kitOne K t (.ref D)=some true:=by
 unfold W.isIn at h
 unfold W.kitOne W.kitCls
 by_cases e:(t == Value.ref D)=true
 ·rw [if_pos e]
 ·rw [if_neg e]
  simp only [Bool.or_eq_true,XaT,beq_iff_eq] at h
  rcases h with h | h
  ·exact absurd (beq_iff_eq.mpr h) e
  ·dsimp only
   rw [if_pos (by simp only [XaT,beq_iff_eq];exact h.1.1)]
   exact h.2
section
variable {X:Cx}{e:Expr}{p pos:Pos}{ta:TE}
end
section
variable {prog:Program}{w:World}{A:Around}{E:Value→Shared→Prop}{s:Shared}
end
section
variable {X:Cx}{o:Expr}{td tv:TE}{pos p1 p2 p3:Pos}{k0:Nat}
end
end L2
end
section
namespace L2
open PySem PySem.Spec PyProof.Rows HT PySem.SeqAt
section
section
variable {prog:Program}{w:World}{A:Around}{E:Value→Shared→Prop}{s:Shared}
theorem zdC {t sl:Addr}{items:Array Value}{vl vu:Value}{lo hi:Option Int}{Q:Value→Shared→Prop}(ht:IsTup s.heap t items)(hs:s.heap.IsSliceOf sl vl vu .none)(pl:IsPart vl lo)(pu:IsPart vu hi)
  (hw:sIx items.size 0 lo=0∧sIx items.size items.size hi=items.size) (h:Q (.ref t) s):wpAny (model prog w) A (getItem (.ref t) (.ref sl)) Q E s:=by
 obtain ⟨os,hos,hcs,hds⟩:=id hs
 have hTs:s.TypeIs (.ref sl) "slice" := ⟨os,hos,hcs⟩
 unfold getItem
 try with_reducible refine XaV ?_
 first | refine Xaa (Xac ?_) | skip
 refine Xaa (wpAny_sequenceKey ht.typeIs (by decide) ?_)
 refine Xaa (wpAny_callSpecial?_slot (name:=Str.ofString "__getitem__") ht.typeIs PyProof.Rows.slot_tuple_getitem
  (XaS PyProof.Rows.slot_tuple_getitem ht.typeIs entry_tuple_getitem ?_ (args_tuple_getitem _ _)))
 show wpAny _ _ (Builtin.Tuple.tupleItemsOf (.ref t) >>= _) _ _ s
 refine Xaa (tupleItemsOf_ ht ?_)
 refine Xaa (wpAny_typeOf hTs ?_)
 rw [if_pos (by decide)]
 refine Xaa (zb8 hs pl pu ?_)
 rw [hw.1,hw.2,Nat.sub_zero]
 have hyes:((((0:Nat):Int) == 0 && (1:Int) == 1 && items.size == items.size)=true):=by simp
 show wpAny _ _ (if (((0:Nat):Int) == 0 && (1:Int) == 1 && items.size == items.size)=true then _ else _) _ _ s
 rw [if_pos hyes]
 refine Xaa (m:=Builtin.Tuple.tupleIsExact _) ?_
 unfold Builtin.Tuple.tupleIsExact
 refine Xaa (wpAny_typeOf ht.typeIs (Xac ?_))
 rw [if_pos (by decide)]
 refine Xaa (XbC ?_)
 exact Xac ⟨_,rfl,Xac h⟩
end
end
section
variable {X:Cx}{K:W.Frag}
inductive rSlT2 (K:W.Frag)(x:V)(lo:Option Int)(hi:Option Int)(H:Hp)(Q:VK):Prop
 | mk (a:_) (xs:_) (z0_:x = .ref a) (z1_:SqT K H a xs) (z2_:(cutV xs lo hi=xs→Q (.ref a) H)) (z3_:∀ p,H p=none→Q (.ref p) (upd H p (.tup (cutV xs lo hi))))
theorem ziV (hK:X.K=K):SlR X (rSlT2 K):=by
 subst hK
 intro pins s σ H x v vl vu lo hi sl Q I rx hs pl pu h
 obtain ⟨a,xs,rfl,hx,q0,q⟩:=h
 by_cases hw:sIx xs.length 0 lo=0∧sIx xs.length xs.length hi=xs.length
 ·cases rx
  obtain ⟨its,r,ht,hz⟩:=I.tuple hx
  have hlen:its.toArray.size=xs.length:=by rw [Xan];exact r.length.symm
  refine ⟨"tuple",_,PyProof.Rows.slot_tuple_getitem.lookup,ht.typeIs,?_⟩
  refine zdC ht hs pl pu (by rw [hlen];exact hw) ?_
  exact ⟨.ref a,H,I,rfl,q0 (by unfold cutV;rw [hw.1,hw.2];simp)⟩
 ·exact sl_tup pins s σ H _ v vl vu lo hi sl Q I rx hs pl pu ⟨a,xs,rfl,hx,hw,q⟩
inductive rNeL0 (K:W.Frag)(x:V)(y:V)(H:Hp)(Q:VK):Prop
 | mk (a:_) (b:_) (xs:_) (z0_:x = .ref a) (z1_:y = .ref b) (z2_:SqL K H a xs) (z3_:SqL K H b []) (z4_:Q (.bl (!xs.isEmpty)) H)
theorem zmo (hu:X.A.units<cLine)(hK:X.K=K):OpR X (compareOp .NotEq) (rNeL0 K):=by
 subst hK
 rintro pins s σ H x y v u Q I rx ry ⟨a,b,xs,rfl,rfl,ha,hb,q⟩
 cases rx;cases ry
 obtain ⟨its,r1,p1,_⟩:=I.list ha
 obtain ⟨its2,r2,p2,_⟩:=I.list hb
 obtain rfl:=r2.nil_iff.mpr rfl
 have e:its.toArray.size=xs.length:=by rw [Xan];exact r1.length.symm
 cases xs with
 | nil =>
  refine RcNeAt.lists (e:=fun _=>true) p1.isList p2.isList (by rw [e];rfl) hu (fun j h1 h2=>absurd h2 (by simp)) _ _ _ _ ⟨.bl false,H,I,?_,q⟩
  rw [e];rfl
 | cons z zs=>exact RcNeAt.lists_lengths p1.isList p2.isList (by rw [e];exact bne_iff_ne.mpr (by simp)) hu _ _ _ _ ⟨.bl true,H,I,rfl,q⟩
theorem zk6 {g:TG}{tf:TT}{te:TE}{Q:List V→Hp→Prop}{σ:St}{H:Hp}{a:Addr}{xs:List V}(Pv:Nat→List V→St→Hp→Prop)(hn:xs.length≤sizeLine)(h0:Pv 0 [] σ H)(hl:∀ i ys σ H,i≤xs.length→Pv i ys σ H→SqT K H a xs∧ys.length≤i)
  (hs:∀ i x ys σ H,xs[i]? = some x→Pv i ys σ H→g x σ H fun σ2 H2=>tf σ2 H2 fun b H3=>if b=true then te σ2 H3 fun y H4=>Pv (i+1) (ys ++ [y]) σ2 H4 else Pv (i+1) ys σ2 H3)
  (hd:∀ ys σ H,Pv xs.length ys σ H→Q ys H):zgH (Itt K a) g tf te Q σ H:=by
 refine ⟨fun i m ys σ H=>m=xs.length - i∧i≤xs.length∧Pv i ys σ H,⟨xs.length,by simp,Nat.zero_le _,h0⟩,?_⟩
 rintro i m ys σ H ⟨rfl,hi,p⟩
 obtain ⟨q,hz⟩:=hl i ys σ H hi p
 by_cases hlt:i<xs.length
 ·refine .inr ⟨⟨xs,xs[i],q,by simp [hlt]⟩,by omega,Pv (i+1),fun ys' σ' H' p'=>⟨xs.length - (i+1),by omega,rfl,hlt,p'⟩,fun x H' y=>?_⟩
  obtain ⟨e,y⟩:=y
  subst e
  exact hs i x ys σ _ (y xs q) p
 ·have e:i=xs.length:=by omega
  subst e
  exact .inl ⟨⟨xs,q,Xae _⟩,by omega,hd ys σ H p⟩
end
end L2
end
section
namespace L2
open PySem PySem.Spec PyProof.Rows HT
def Slid (fs ch:List Addr)(h h':Heap):Prop:=∀ b o,h.get? b=some o→b ∉ ch→(b ∉ fs→h'.get? b=some o)∧∃ sl,h'.get? b=some { o with slots:=sl }
theorem Slid.of {fs ch:List Addr}{h h':Heap}(k:∀ b o,h.get? b=some o→b ∉ ch→h'.get? b=some o):Slid fs ch h h':=fun b o e hc=>⟨fun _=>k b o e hc,o.slots,k b o e hc⟩
theorem Slid.trans {fs ch:List Addr}{h1 h2 h3:Heap}(x:Slid fs ch h1 h2)(y:Slid fs ch h2 h3):Slid fs ch h1 h3:=fun b o e hc=>by
 obtain ⟨x1,sl,x2⟩:=x b o e hc
 refine ⟨fun hf=>(y b o (x1 hf) hc).1 hf,?_⟩
 obtain ⟨_,sl2,y2⟩:=y b _ x2 hc
 exact ⟨sl2,y2⟩
theorem Slid.mono {fs fs' ch ch':List Addr}{h h':Heap}(x:Slid fs ch h h')(hf:∀ b∈fs,b∈fs')(hc:∀ b∈ch,b∈ch'):Slid fs' ch' h h':=fun b o e n=>⟨fun z=>(x b o e fun q=>n (hc b q)).1 fun q=>z (hf b q),(x b o e fun q=>n (hc b q)).2⟩
def XAt (h:Heap)(e T:Addr)(cls fl:Value)(od:Option Addr):Prop:=∃ oe vs oT ts,h.get? e=some oe∧(oe.cls=cls∧oe.dict=od)∧oe.data = .fields vs∧vs[1]? = some (.ref T)∧T≠e∧h.get? T=some oT∧oT.data = .fields ts∧ts[3]? = some fl
section
variable {M:Model}{A:Around}{E:Value→Shared→Prop}{s:Shared}
theorem zeV (f:Array Value→Array Value)(o:Obj):(Obj.mapFields f o).dict=o.dict:=by
 obtain ⟨c,d,dt,sl⟩:=o
 cases dt <;> rfl
theorem ziJ {base:Heap}{env:Env}{outer:List Env}{L e:Addr}{oe:Obj}{vs:Array Value}{head:Value}{hadNext:Bool}{Q:Unit→Shared→Prop}
  (hfr:A.frames=some (env :: outer)) (hl:s.heap.FunFrames base (env :: outer)) (hf:env.frame=some L)
  (he:s.heap.get? e=some oe) (hd:oe.data = .fields vs) (hsz:1<vs.size)
  (h:∀ h' T,s.heap.get? T=none→Slid ((env :: outer).filterMap (·.frame)) [e] s.heap h'→XAt h' e T oe.cls (rawInt L) oe.dict→Q () { s with heap:=h' }) :
  wpAny M A (do let a ← frameOf env;let pl ← entryPlaceOf L hadNext;let b ← EntryCells.newEntry head a .none (rawInt L) .none pl;setField (.ref e) 1 b) Q E s:=by
 have hene:e ∉ (env :: outer).filterMap (·.frame):=fun hm=>by
  obtain ⟨_,o,ho,hnf⟩:=hl.mem hm
  rw [he] at ho;injection ho with ho;subst ho;exact hnf vs hd
 refine Xaa (wpAny_frameOf_fun hfr hl hf fun h₁ hs₁=>?_)
 refine Xaa (wpAny_entryPlaceOf fun pl hpl=>?_)
 unfold EntryCells.newEntry newFields
 refine Xaa (XaL ?_ (hpl.sizeOk5 _ _ _ _ _))
 have he₁:h₁.get? e=some oe:=(hs₁.2.1 e hene).trans he
 have he₂:=Xab (h:=h₁) { cls:=.type "traceback",dict:=none,data:=.fields ([head,.ref L,.none,rawInt L,.none] ++ (if pl.isEmpty then List.replicate 6 Value.none else pl)).toArray } he₁
 refine XaX he₂ hd hsz (h _ h₁.objs.size ?_ ?_ ?_)
 ·rw [hs₁.1];exact Xbz (Xae _)
 ·intro b o hb hc
  have hbe:b≠e:=fun z=>hc (by rw [z];exact List.mem_singleton_self _)
  have keep:∀ o',h₁.get? b=some o' →
    ((h₁.push { cls:=.type "traceback",dict:=none,data:=.fields ([head,.ref L,.none,rawInt L,.none] ++ (if pl.isEmpty then List.replicate 6 Value.none else pl)).toArray }).update e (Obj.mapFields (·.setIfInBounds 1 (Value.ref h₁.objs.size)))).get? b=some o':=fun o' hb=>by
   rw [XaP _ _ (Ne.symm hbe)]
   exact Xab _ hb
  refine ⟨fun hn=>keep o ((hs₁.2.1 b hn).trans hb),?_⟩
  obtain ⟨sl,hs⟩:=hs₁.2.2 b o hb
  exact ⟨sl,keep _ hs⟩
 ·have hTe:h₁.objs.size≠e:=Xbr (Xal he₁)
  have hd₃:=Obj.data_mapFields hd (·.setIfInBounds 1 (Value.ref h₁.objs.size))
  have he₃:=XaJ (Obj.mapFields (·.setIfInBounds 1 (Value.ref h₁.objs.size))) he₂ (Obj.isFreed_of_fields hd₃)
  have hT₃:=(XaP (h₁.push { cls:=.type "traceback",dict:=none,data:=.fields ([head,.ref L,.none,rawInt L,.none] ++ (if pl.isEmpty then List.replicate 6 Value.none else pl)).toArray })
   (Obj.mapFields (·.setIfInBounds 1 (Value.ref h₁.objs.size))) (Ne.symm hTe)).trans (Xaj h₁ rfl)
  exact ⟨_,_,_,_,he₃,⟨Obj.cls_mapFields _ _,zeV _ _⟩,hd₃,by simp [hsz],hTe,hT₃,rfl,by first | (simp;done) | (rcases hpl with rfl | ⟨_,_,_,_,_,_,_,rfl⟩ <;> simp)⟩
theorem zfO {base:Heap}{env:Env}{outer:List Env}{L e:Addr}{oe:Obj}{vs:Array Value}{Q:Unit→Shared→Prop}(hfr:A.frames=some (env :: outer))(hl:s.heap.FunFrames base (env :: outer))(hf:env.frame=some L)
  (he:s.heap.get? e=some oe) (hd:oe.data = .fields vs) (h1:vs[1]? = some .none)
  (h:∀ h' T,s.heap.get? T=none→Slid ((env :: outer).filterMap (·.frame)) [e] s.heap h'→XAt h' e T oe.cls (rawInt L) oe.dict→Q () { s with heap:=h' }):wpAny M A (noteFrame (.ref e) env) Q E s:=by
 unfold noteFrame
 simp only [hf]
 refine Xaa (XaN he hd h1 ?_)
 rw [if_neg (by decide)]
 exact ziJ hfr hl hf he hd (Xbx.mp h1).1 h
theorem zgJ {base:Heap}{env:Env}{outer:List Env}{L e T:Addr}{cls:Value}{od:Option Addr}{Q:Unit→Shared→Prop}(hfr:A.frames=some (env :: outer))(hl:s.heap.FunFrames base (env :: outer))(hf:env.frame=some L)
  (x:XAt s.heap e T cls .none od)
  (h:∀ h' T',s.heap.get? T'=none→Slid ((env :: outer).filterMap (·.frame)) [e,T] s.heap h'→XAt h' e T' cls (rawInt L) od→Q () { s with heap:=h' }):wpAny M A (noteFrame (.ref e) env) Q E s:=by
 obtain ⟨oe,vs,oT,ts,he,⟨hcls,hdn⟩,hd,h1,hTe,hT,hdT,h3⟩:=x
 subst hcls hdn
 unfold noteFrame
 simp only [hf]
 refine Xaa (XaN he hd h1 ?_)
 rw [if_pos (show (Value.ref T != Value.none)=true from by simp)]
 refine Xaa (XaN hT hdT h3 ?_)
 rw [if_neg (show ¬ ((Value.none == rawInt L)=true) from by simp [rawInt])]
 refine Xaa (XaX hT hdT (Xbx.mp h3).1 ?_)
 have other:∀ b,b≠T→(s.heap.update T (Obj.mapFields (·.setIfInBounds 3 Value.none))).get? b=s.heap.get? b:=fun b hb=>XaP _ _ (Ne.symm hb)
 have noRecord:∀ b o,s.heap.get? b=some o→(∀ vs,o.data≠.fields vs)→b≠T:=fun b o hb hnf q=>by
  rw [q,hT] at hb;injection hb with hb;subst hb;exact hnf ts hdT
 refine ziJ hfr (hl.of_keeps fun b o hb hnf=>⟨o,(other b (noRecord b o hb hnf)).trans hb,rfl⟩) hf ((other e (Ne.symm hTe)).trans he) hd (Xbx.mp h1).1 fun h' T' fT sl x'=>h h' T' ?_ ?_ x'
 ·by_cases z:T'=T
  ·have hd':=Obj.data_mapFields hdT (·.setIfInBounds 3 Value.none)
   have q:=XaJ (Obj.mapFields (·.setIfInBounds 3 Value.none)) hT (Obj.isFreed_of_fields hd')
   rw [z,q] at fT;cases fT
  ·exact (other T' z).symm.trans fT
 ·refine Slid.trans (Slid.of fun b o e hc=>(other b fun z=>hc (by rw [z];simp)).trans e) (sl.mono (fun _ z=>z) fun b z=>by rw [Xad.mp z];simp)
theorem zhv {e T:Addr}{cls fl:Value}{od:Option Addr}{Q:Unit→Shared→Prop}(x:XAt s.heap e T cls fl od)(h:∀ h',Slid [] [T] s.heap h'→XAt h' e T cls .none od→Q () { s with heap:=h' }):wpAny M A (setFlight (.ref e) none) Q E s:=by
 obtain ⟨oe,vs,oT,ts,he,hcls,hd,h1,hTe,hT,hdT,h3⟩:=x
 have hsz:=(Xbx.mp h3).1
 refine wpAny_setFlight_none he hd h1 hT hdT hsz (h _ ?_ ?_)
 ·exact Slid.of fun b o e hc=>(XaP _ _ fun z=>hc (by rw [z];exact List.mem_singleton_self _)).trans e
 ·have hd':=Obj.data_mapFields hdT (·.setIfInBounds 3 Value.none)
  have q:=XaJ (Obj.mapFields (·.setIfInBounds 3 Value.none)) hT (Obj.isFreed_of_fields hd')
  exact ⟨oe,vs,_,_,(XaP _ _ hTe).trans he,hcls,hd,h1,hTe,q,hd',by simp [hsz]⟩
theorem zfc {base:Heap}{env:Env}{outer:List Env}{L e:Addr}{oe:Obj}{vs:Array Value}{Q:Unit→Shared→Prop}(hfr:A.frames=some (env :: outer))(hl:s.heap.FunFrames base (env :: outer))(hf:env.frame=some L)
  (he:s.heap.get? e=some oe) (hd:oe.data = .fields vs) (h1:vs[1]? = some .none)
  (h:∀ h' T,s.heap.get? T=none→Slid ((env :: outer).filterMap (·.frame)) [e] s.heap h'→XAt h' e T oe.cls .none oe.dict→Q () { s with heap:=h' }):wpAny M A (leaving env (.ref e)) Q E s:=by
 unfold leaving
 refine Xaa (zfO hfr hl hf he hd h1 fun h' T fT sl x=>zhv x fun h'' sl2 x2=>h h'' T fT ?_ x2)
 intro b o e hc
 obtain ⟨s1,t1,s2⟩:=sl b o e hc
 have nT:b ∉ [T]:=fun z=>by rw [Xad.mp z,fT] at e;cases e
 refine ⟨fun hn=>(sl2 b o (s1 hn) nT).1 (by simp),?_⟩
 exact (sl2 b _ s2 nT).2
end
end L2
end
section
namespace L2
open PySem PySem.Spec PyProof.Rows HT
section
variable {P:Program}{w:World}{H H':Hp}{h h':Heap}{fs ch:List Addr}
theorem ObjOk.there {a:Addr}{o:HO}(x:ObjOk P w H h a o):∃ u,h.get? a=some u:=by
 cases o with
 | lst xs=>obtain ⟨_,_,_,_,e⟩:=x;exact ⟨_,e⟩
 | tup xs=>obtain ⟨_,_,_,p⟩:=x;obtain ⟨o,e,_⟩:=p;exact ⟨_,e⟩
 | dK kvs=>obtain ⟨_,_,_,_,o,_,_,e,_⟩:=x;exact ⟨_,e⟩
 | dT kvs=>obtain ⟨_,_,_,_,o,_,_,e,_⟩:=x;exact ⟨_,e⟩
 | set S n=>obtain ⟨o,_,_,_,e,_⟩:=x;exact ⟨_,e⟩
 | ins C dx fs=>obtain ⟨_,_,_,e,_⟩:=x;exact ⟨_,e⟩
 | own y=>obtain ⟨_,e⟩:=x;exact ⟨_,e⟩
 | xd fs=>obtain ⟨_,⟨_,_,_,e,_⟩,_⟩:=x;exact ⟨_,e⟩
 | rng lo hi=>obtain ⟨_,_,_,e⟩:=x;exact ⟨_,e⟩
 | frz ob u=>obtain ⟨e,_⟩:=x;exact ⟨_,e⟩
 | tbl ps=>exact ⟨_,x⟩
 | met f y=>exact ⟨_,x⟩
 | ext φ=>obtain ⟨_,⟨_,e⟩,_⟩:=x;exact ⟨_,e⟩
theorem HOk.none_of {a:Addr}(x:HOk P w H h)(e:h.get? a=none):H a=none:=by
 cases q:H a with
 | none=>rfl
 | some o=>obtain ⟨u,z⟩:=(x a o q).there;rw [e] at z;cases z
theorem HOk.slid (x:HOk P w H h)(sl:Slid fs ch h h')(hf:∀ b∈fs,H b=none)(hc:∀ b∈ch,H b=none):HOk P w H h':=fun a o e=>by
 refine (x a o e).stay (fun b u hb q=>?_) (fun _ z=>z) (fun _ _ z=>z)
 have hs:∃ o',H b=some o':=by
  rcases hb with rfl | z
  ·exact ⟨_,e⟩
  ·exact ⟨_,z⟩
 obtain ⟨o',hs⟩:=hs
 exact (sl b u q fun z=>by rw [hc b z] at hs;cases hs).1 fun z=>by rw [hf b z] at hs;cases hs
end
section
variable {X:Cx}{pins:List (Addr×Obj)}{σ:St}{H:Hp}{s:Shared}{h':Heap}{ch:List Addr}
theorem Inv.none_ours (I:Inv X pins σ H s){b:Addr}(hb:s.heap.get? b=none)(hx:b ∉ X.ex):X.s₀.heap.get? b=none∧b≠X.env.locals∧(∀ x c,X.env.cells.lookup x=some c→c≠b)∧∀ p∈X.pn ++ pins,p.1≠b:=by
 refine ⟨?_,fun z=>?_,fun x c e z=>?_,fun p hp z=>?_⟩
 ·cases q:X.s₀.heap.get? b with
  | none=>rfl
  | some o=>obtain ⟨o',e⟩:=I.base.there b o q hx;rw [e] at hb;cases hb
 ·obtain ⟨m,⟨o,es,ep,ho,_⟩,_⟩:=I.loc
  rw [← z,hb] at ho;cases ho
 ·obtain ⟨v,oc,hoc,_⟩:=I.cell x c e
  rw [z,hb] at hoc;cases hoc
 ·obtain ⟨e,_⟩:=I.pin p hp
  rw [z,hb] at e;cases e
end
inductive CX1 (P:Program)(w:World)(outer:List Env)(H:Hp)(s:Shared)(E:XK)(e:Value)(s':Shared):Prop
 | mk (ea:_) (T:_) (H':_) (C:_) (od:_) (z0_:e = .ref ea) (z1_:s'.os=s.os) (z2_:AllBare s'.gens) (z3_:Un (frs outer) [] H H' s.heap s'.heap) (z4_:HOk P w H' s'.heap) (z5_:XAt s'.heap ea T (.ref C) .none od) (z6_:s.heap.get? ea=none) (z7_:s.heap.get? T=none) (z8_:H' ea=none) (z9_:H' T=none) (z10_:E (.ref C) od H')
end L2
end
section
namespace L2
open PySem PySem.Spec PyProof.Rows HT
def NsK (K:W.Frag)(N:Addr):Prop:=∃ c d es ep sl,K.lookup N=some ⟨c,d,.dict es ep,sl⟩∧StrKeys es∧nsFind es "__init__" = none
def bmV:List Value:=[.type "ValueError",.type "Exception",.type "BaseException",.type "object"]
inductive TailK (K:W.Frag):List Value→Prop
 | base:TailK K bmV
 | own {A:Addr} {c0:Value} {dd:Option Addr} {cd:ClassData} {sl:Array (Option Value)} {tl:List Value}:K.lookup A=some ⟨c0,dd,.cls cd,sl⟩→NsK K cd.ns→TailK K tl→TailK K (.ref A :: tl)
theorem NsK.ns {K:W.Frag}{N:Addr}{h:Heap}(x:NsK K N)(k:K.In h):∃ m,h.Ns N m∧m "__init__" = none:=by
 obtain ⟨c,d,es,ep,sl,e,hs,hi⟩:=x
 exact ⟨nsFind es,⟨_,es,ep,k _ _ e,rfl,hs,fun _=>rfl⟩,hi⟩
theorem TailK.tail {K:W.Frag}{bm:List Value}{h:Heap}(x:TailK K bm)(k:K.In h):OwnTail h bmV bm:=by
 induction x with
 | base=>exact .base
 | own e n _ ih =>
  obtain ⟨m,hn,hi⟩:=n.ns k
  exact .own (k _ _ e) hn hi ih
section
variable {X:Cx}{x:Str}{C:Addr}{e:Expr}{te:TE}{np cpos pos:Pos}{R:Hp→Prop}
end
end L2
end
section
namespace L2
open PySem PySem.Spec PyProof.Rows HT
theorem PS.nox {X:Cx}{st:Stmt}{t:TS}(h:PS X.nox st t):PS X st t:=fun pins s σ H D I hw =>
 Xas (h pins s σ H D (I.wish _) hw) (fun _ _ q=>q.unwish) fun _ _ z=>False.elim z
theorem Fun.okX {P:Program}{w:World}{K:W.Frag}{mg:Str→Option Value}{base:Heap}{x qual:Str}{st:Stmt}{f:Addr}{fd:FuncData}{N ps:List Str}{k:Nat}{sp:Sp}(F:Fun K x qual st f fd)(S:FnScope N ps (zai st))(len:∀ vs H Q E,sp vs H Q E→vs.length=ps.length)
  (hbody:∀ (cdv:Value) (A:Around) (outer:List Env) (s:Shared) (H:Hp) (vs:List V) (Q:VK) (E:XK),Room k (A.deeper (envOfC qual (zai st) s.heap.objs.size f cdv))→sp vs H Q E →
   ∃ t,PSs (cxOf (CX1 P w) P w K mg base N qual (zai st) f cdv A outer s H E) (za0 st) t∧t { nx:=fun _ H'=>Q .non H',rt:=Q } (start N vs) H):FnOk P w K mg base (CX1 P w) (k+1) f fd ps sp:=by
 obtain ⟨oc,od,kV,doc,pm,an,cdv,ct,osl,rfl,lk,hcd⟩:=F.ex
 exact zk1 lk hcd S len fun A outer s H vs Q E hr hsp=>hbody cdv A outer s H vs Q E hr hsp
section
variable {X:Cx}{pins:List (Addr×Obj)}{σ:St}{H:Hp}{s:Shared}
end
end L2
end
section
namespace L2
open PySem PySem.Spec PyProof.Rows HT
section
variable {X:Cx}{k:Nat}{ps:List Str}{sp:Sp}{x fn cn n y:Str}{i j l:Nat}{Cb:Addr}{e:Expr}{t:TA}{px p1 p2 p3 p4 p5 p6 p7 p8 p9:Pos}
end
end L2
end
section
namespace L2
open PySem PySem.Spec PyProof.Rows HT PySem.W PySem.Calls
section
variable {prog:Program}{w:World}{A:Around}{E:Value→Shared→Prop}{s:Shared}{K:Frag}{x C:Addr}{ox:Obj}{oD:Option Obj}
structure XCls (K:Frag)(C:Addr):Prop where
 look:∃ c d cd sl,K.lookup C=some ⟨c,d,.cls cd,sl⟩
 ga:findIn K (.ref C) "__getattribute__" = some (some (.builtin "BaseException.__getattribute__"))
 gr:findIn K (.ref C) "__getattr__" = some none
 cf:∀ oD:Option Obj,findObj K C oD "__class__" = some (.bind (.builtin "getset_descriptor.__get__") (.builtin "object.__class__"))
 sub:subIn K (.ref C) (.type "BaseException")=some true
 mro:mroIn K C (.type "object")=some true
end
section
variable {X:Cx}{K:Frag}
end
end L2
end
section
namespace L2
open PySem PySem.Spec PyProof.Rows HT
theorem FnOk.calm {P:Program}{w:World}{K:W.Frag}{mg:Str→Option Value}{base:Heap}{k:Nat}{f:Addr}{fd:FuncData}{ps:List Str}{sp:Sp}(F:FnOk P w K mg base (CX1 P w) k f fd ps sp) :
  FnOk P w K mg base CX0 k f fd ps (fun vs H Q _=>sp vs H Q fun _ _ _=>False):=
 ⟨fun vs H Q E h=>F.len vs H Q _ h,fun A outer s H args us vs Q E hr he hb hv hs=>Xbs (F.run A outer s H args us vs Q _ hr he hb hv hs) fun r s' h=>by
  cases r with
  | ok fl=>cases fl <;> exact h
  | error e=>obtain ⟨_,_,_,_,_,_,_,_,_,_,_,_,_,_,_,z⟩:=h;exact z.elim⟩
section
variable {X:Cx}{K:W.Frag}
theorem zia (hK:X.K=K):OpR X (compareOp .In) (rIn K false):=by subst hK;exact zjn
end
end L2
end
section
namespace L2
open PySem PySem.Spec PyProof.Rows HT
theorem zhu {P:Program}{w:World}{K:W.Frag}{mg:Str→Option Value}{base:Heap}{N:List Str}{qual:Str}{scope:Scope}{f:Addr}{cd:Value}{A:Around}{outer:List Env}{s:Shared}{H:Hp}{E:XK} :
  Passes (CX1 P w) (cxOf (CX1 P w) P w K mg base N qual scope f cd A outer s H E) E:=by
 intro pins σ H1 s1 ev s' I hq
 obtain ⟨ea,T,H',C,od,rfl,os,bare,un,hok,xa,f1,f2,n1,n2,hE⟩:=hq
 have J:Inv (cxOf (CX1 P w) P w K mg base N qual scope f cd A outer s H E) pins σ H' s':=I.call' (ch:=[]) os un hok bare (fun b z=>absurd z (by simp))
 have b1:=J.base
 have o1:=I.none_ours f1 (show ea ∉ ([]:List Addr) by simp)
 have o2:=I.none_ours f2 (show T ∉ ([]:List Addr) by simp)
 show wpAny _ _ (leaving _ (.ref ea)) _ _ s'
 unfold leaving
 refine Xaa (zgJ J.ok.frames J.stack (L:=s.heap.objs.size) rfl xa fun h1 T2 fT2 sl x2=>zhv x2 fun h2 sl2 x3=>?_)
 have oT:s.heap.get? T2=none:=(J.none_ours fT2 (show T2 ∉ ([]:List Addr) by simp)).1
 have o1':s.heap.get? ea=none:=o1.1
 have o2':s.heap.get? T=none:=o2.1
 have nT2:∀ b o,s.heap.get? b=some o→b ∉ [T2]:=fun b o q z=>by rw [Xad.mp z,oT] at q;cases q
 have ne:∀ b o,s.heap.get? b=some o→b ∉ [ea,T]:=fun b o q z=>by
  rcases Xao.mp z with r | r
  ·rw [r,o1'] at q;cases q
  ·rw [Xad.mp r,o2'] at q;cases q
 have nL:∀ b o,s.heap.get? b=some o→b ∉ frs outer→b ∉ ((envOfC qual scope s.heap.objs.size f cd) :: outer).filterMap (·.frame):=fun b o q hb z=>by
  rcases Xao.mp (show b∈s.heap.objs.size :: outer.filterMap (·.frame) from z) with r | r
  ·exact absurd r (Xaw (Xal q))
  ·exact hb r
 have J1:HOk P w H' h1:=J.hok.slid sl (fun b hb=>J.stkFree b hb) fun b hb=>by
  rcases Xao.mp hb with rfl | hb
  ·exact n1
  ·rw [Xad.mp hb];exact n2
 have n3:H' T2=none:=J.hok.none_of fT2
 refine ⟨ea,T2,H',C,od,rfl,J.os,J.bare,⟨fun b o q n hb _=>?_,fun b o q n hb _=>?_,fun b o q n _=>b1.free b o q n (by show b ∉ ([]:List Addr);simp),fun b o q _=>?_,b1.tups,b1.frzs,b1.tbls⟩,?_,x3,o1',oT,n1,n3,hE⟩
 ·have q1:=(sl b o (b1.keep b o q n hb (by show b ∉ ([]:List Addr);simp)) (ne b o q)).1 (nL b o q hb)
  exact (sl2 b o q1 (nT2 b o q)).1 (by simp)
 ·obtain ⟨t1,e1⟩:=b1.slot b o q n hb (by show b ∉ ([]:List Addr);simp)
  obtain ⟨t2,e2⟩:=(sl b _ e1 (ne b o q)).2
  exact (sl2 b _ e2 (nT2 b o q)).2.elim fun t3 e3=>⟨t3,e3⟩
 ·obtain ⟨o',e1⟩:=b1.there b o q (by show b ∉ ([]:List Addr);simp)
  obtain ⟨t2,e2⟩:=(sl b _ e1 (ne b o q)).2
  obtain ⟨t3,e3⟩:=(sl2 b _ e2 (nT2 b o q)).2
  exact ⟨_,e3⟩
 ·exact J1.slid sl2 (fun b hb=>nomatch hb) fun b hb=>by rw [Xad.mp hb];exact n3
section
variable {P:Program}{w:World}{K:W.Frag}{mg:Str→Option Value}{base:Heap}{N:List Str}{qual:Str}{scope:Scope}{f:Addr}{cd:Value}{A:Around}{outer:List Env}{s:Shared}{H:Hp}{E:XK}
variable {k:Nat}{ps:List Str}{sp:Sp}{x:Str}{p pos:Pos}{e:Expr}{es:List Expr}{t:TA}
end
end L2
end
section
namespace L2
open PySem PySem.Spec PyProof.Rows HT
section
variable {X:Cx}{k:Nat}{ps:List Str}{sp:Sp}{x fn cn n y:Str}{i j l:Nat}{Cb:Addr}{e:Expr}{es:List Expr}{t:TA}{px p1 p2 p3 p4 p5 p6 p7 p8 p9:Pos}
end
end L2
end
section
namespace L2
open PySem PySem.Spec PyProof.Rows HT
theorem zgu {prog:Program}{w:World}{A:Around}(hh:A.handled=none)(it l:Addr)(hne:l≠it)(items:Array Value) :
  Draws prog w A it [it,l] items.size (fun i v=>items[i]? = some v) (fun i h=>IsIt true h it l i∧IsSq true h l items) where
 live:=fun _ _ st=>let ⟨o,ho,_⟩:=st.1;⟨o,ho⟩
 frame:=fun _ _ _ st hk=>⟨st.1.at fun o e=>hk it (by simp) o e,st.2.at fun o e=>hk l (by simp) o e⟩
 item:=fun i s Q E hi st hQ=>by
  refine zhg st.1 st.2 (x:=items[i]) (by simp [hi]) fun h' hit' hs'=>?_
  exact hQ _ h' s.toks (by simp [hi]) ⟨hit',st.2.at fun o e=>hs'.extBut l o hne e⟩ hs'
 done:=fun s Q E st hE=>zlt hh st.1 st.2 (by simp) hE
set_option tactic.hygienic true in
theorem zcx (l:Addr)(items:Array Value)(n:Nat)(dct:Option Addr)(sl:Array (Option Value)) :
  Meets (Builtin.«enumerate.__new__» ⟨[.type "enumerate",.ref l],[]⟩) (fun _ R s=>s.heap.get? l=some { cls:=.type "tuple",dict:=dct,data:=.seq items n,slots:=sl } ∧
   R (.ok (.ret (.ref (s.heap.push { cls:=.type "tuple_iterator",data:=.fields #[.ref l,.int 0 0] }).objs.size)))
    { s with heap:=(s.heap.push { cls:=.type "tuple_iterator",data:=.fields #[.ref l,.int 0 0] }).push { cls:=.type "enumerate",data:=.fields #[.none,.bool false,.ref s.heap.objs.size,rawInt 0,.none,.none] } }):=
 .of_wp fun prog w A R s h=>by
  obtain ⟨hp,g,d,tk,os⟩:=s;obtain ⟨hl,h⟩:=h
  have hsub:=sub_enumerate
  have hL:Heap.IsTuple (Shared.heap ⟨hp,g,d,tk,os⟩) l items:=⟨_,hl,rfl,n,rfl⟩
  wp_walk using wpAny_loadPart' hl
  refine wpAny_stack_any fun st=>Xac ?_
  split
  ·rename_i c _ _ _ _ _
   cases (c == Value.type "enumerate")
   ·wp_walk using wpAny_loadPart' hl,XbM hL
    exact ⟨_,rfl,h⟩
   ·wp_walk using wpAny_loadPart' hl,XbM hL
    exact ⟨_,rfl,h⟩
  ·wp_walk using wpAny_loadPart' hl,XbM hL
   exact ⟨_,rfl,h⟩
theorem zda {prog:Program}{w:World}{A:Around}{E:Value→Shared→Prop}{s:Shared}{l:Addr}{items:Array Value}{Q:Value→Shared→Prop}(hL:IsSq true s.heap l items)
  (h:∀ h',IsEnum h' (s.heap.objs.size+1) s.heap.objs.size 0 .none→IsIt true h' s.heap.objs.size l 0→h'.objs.size=s.heap.objs.size+2 →
   (∀ b o,s.heap.get? b=some o→h'.get? b=some o)→Q (.ref (s.heap.objs.size+1)) { s with heap:=h' }) :
  wpAny (model prog w) A (call (.type "enumerate") [.ref l]) Q E s:=by
 obtain ⟨⟨c,dct,dt,sl⟩,hl,hc,n,hd⟩:=hL
 replace hc:c = .type "tuple" := hc
 replace hd:dt = .seq items n:=hd
 subst hc hd
 refine callType_new F.called_enumerate (by decide) (F.typeCall_enumerate_1 _) (F.newCall_enumerate_1 _) (fun obj=>F.args_object_init_2 obj _) F.entry_enumerate_new
  (zcx l items n dct sl) ⟨hl,?_⟩
 have hz:(s.heap.push { cls:=.type "tuple_iterator",data:=.fields #[.ref l,.int 0 0] }).objs.size=s.heap.objs.size+1:=XaI ..
 show _∧_
 rw [hz]
 have he:IsEnum ((s.heap.push { cls:=.type "tuple_iterator",data:=.fields #[.ref l,.int 0 0] }).push
   { cls:=.type "enumerate",data:=.fields #[.none,.bool false,.ref s.heap.objs.size,rawInt 0,.none,.none] }) (s.heap.objs.size+1) s.heap.objs.size 0 .none:=by
  have:=Xaj (s.heap.push { cls:=.type "tuple_iterator",data:=.fields #[.ref l,.int 0 0] })
   (o:={ cls:=.type "enumerate",data:=.fields #[.none,.bool false,.ref s.heap.objs.size,rawInt 0,.none,.none] }) rfl
  rw [hz] at this;exact this
 refine ⟨⟨_,he,rfl⟩,h _ he ⟨_,Xab _ (Xaj _ rfl),rfl,rfl⟩ (by rw [XaI,hz]) fun b o x=>Xab _ (Xab _ x)⟩
def IteT (K:W.Frag)(a:Addr):It:=
 ⟨fun i H=>∃ xs x,SqT K H a xs∧xs[i]? = some x,
  fun i H v H'=>∃ T x,H T=none∧v = .ref T∧H'=upd H T (.tup [.int i,x])∧∀ xs,SqT K H a xs→xs[i]? = some x,
  fun i H=>∃ xs,SqT K H a xs∧xs.length=i⟩
theorem zh1 {P:Program}{w:World}{K:W.Frag}{elts:List Expr}{kt:Nat}{tp:Pos}(a e it:Addr)(hne:e≠it) :
  Turn P w K (.Tuple elts kt tp) (IteT K a) [e,it] e (fun i h=>(∃ old,IsEnum h e it i old)∧IsIt true h it a i) where
 mem:=by simp
 obj:=fun i h st b hb=>by
  obtain ⟨⟨old,he⟩,hi⟩:=st
  rcases Xao.mp hb with z | z
  ·subst z
   exact ⟨_,he,fun v z=>by
    have z':Data.fields _=Data.cell v:=z
    cases z'⟩
  ·have z:=Xad.mp z
   subst z
   obtain ⟨o,e1,c,d⟩:=hi
   exact ⟨o,e1,fun v z=>by rw [d] at z;cases z⟩
 keep:=fun i h h' st k=>by
  obtain ⟨⟨old,he⟩,hi⟩:=st
  exact ⟨⟨old,k e (by simp) _ he⟩,hi.at fun o e1=>k it (by simp) o e1⟩
 item:=by
  intro X hP hw hK hc i pins s σ H E I hf st hg
  subst hP hw hK
  obtain ⟨xs,x,hq,hx⟩:=hg
  obtain ⟨its,rv,p,hz⟩:=I.tuple hq
  obtain ⟨u,hu,ru⟩:=rv.get hx
  obtain ⟨⟨old,he⟩,hi⟩:=st
  have hsq:IsSq true s.heap a its.toArray:=p
  have cls:∀ b o,s.heap.get? b=some o→o.cls≠.type "tuple" → a≠b:=fun b o e nc z=>by
   obtain ⟨oa,ea,ca,_⟩:=hsq
   rw [z,e] at ea;cases ea;exact nc ca
  have hai:a≠it:=by
   obtain ⟨o,e1,c,_⟩:=id hi
   exact cls it o e1 (by rw [c];decide)
  have hae:a≠e:=cls e _ he (by show Value.type "enumerate" ≠ Value.type "tuple"; decide)
  have hlt:i<its.toArray.size:=by
   have:=(Xag.mp hu).1
   simpa using this
  refine wpAny_pyNext_enum_itemD (zgu (prog:=X.prog) (w:=X.w) (A:=X.A.in1) (show X.A.in1.handled=none from I.ok.hd hc) it a hai its.toArray) he ⟨hi,hsq⟩ hlt hne (by simp [hne,Ne.symm hae]) fun x' h' tk hx' ho st' ht hsz kk=>⟨_,rfl,?_⟩
  have ex:x'=u:=by
   have e1:its[i]? = some x':=by simpa using hx'
   rw [hu] at e1;cases e1;rfl
  subst ex
  refine wpAny_letOwnedTupleGo_enum ho fun h2 he2 sb=>?_
  have fT:FpOk X pins H s.heap.objs.size:=I.fpOk (Xae _) (I.hok.fresh (Xae _))
  have k2:∀ b o,b ∉ [e,it]→s.heap.get? b=some o→h2.get? b=some o:=fun b o hb e1=>by
   simp only [Xao,Xbc,or_false,not_or] at hb
   exact (sb.2 b hb.1).trans (kk b o hb.1 hb.2 e1)
  have I1:Inv X pins σ H { s with heap:=h2,toks:=tk+1 }:=I.turnedL (ch:=[e,it]) k2 hf
  have eT:h2.get? s.heap.objs.size=some { cls:=.type "tuple",data:=.seq #[.int i tk,x'] }:=(sb.2 _ (Xbr (Xal he))).trans ht
  have I2:=I1.track (o:=.tup [.int i,x]) fT (Xar I.sz (Xae _)) (zgN ⟨_,rfl⟩ ru eT)
  refine ⟨.ref s.heap.objs.size,_,I2,rfl,⟨_,x,fT.1,rfl,rfl,fun ys hy=>by rw [I.tuple_inj hy hq];exact hx⟩,⟨⟨x',by exact_mod_cast he2⟩,st'.1.at fun o e1=>sb.extBut it o (Ne.symm hne) e1⟩,fun b hb=>?_⟩
  obtain ⟨o,eb⟩:∃ o,s.heap.get? b=some o:=by
   rcases Xao.mp hb with z | z
   ·subst z;exact ⟨_,he⟩
   ·have z:=Xad.mp z
    subst z
    obtain ⟨o,e1,_⟩:=hi
    exact ⟨o,e1⟩
  rw [zag (Xaw (Xal eb))]
  exact (hf b hb).1
 done:=by
  intro X hP hw hK hc i pins s σ H E I hf st hg
  subst hP hw hK
  obtain ⟨xs,hq,hx⟩:=hg
  obtain ⟨its,rv,p,hz⟩:=I.tuple hq
  obtain ⟨⟨old,he⟩,hi⟩:=st
  have hl:=rv.length
  have hsq:IsSq true s.heap a its.toArray:=p
  have hai:a≠it:=fun z=>by
   obtain ⟨oa,ea,ca,_⟩:=id hsq
   obtain ⟨o,e1,c,_⟩:=id hi
   rw [z,e1] at ea;cases ea
   rw [c] at ca;exact absurd ca (by decide)
  have en:its.toArray.size=i:=by rw [Xan];omega
  refine wpAny_pyNext_enum_endD (zgu (prog:=X.prog) (w:=X.w) (A:=X.A.in1) (show X.A.in1.handled=none from I.ok.hd hc) it a hai its.toArray) he (by rw [en];exact ⟨hi,hsq⟩) fun h' eb=>⟨rfl,I.turnedL (t':=s.toks) (ch:=[e,it]) (fun b o hb e1=>eb b o (fun z=>hb (by simp [z])) e1) hf⟩
 self:=fun _ _ _ _ _ st h=>by
  obtain ⟨⟨old,he⟩,hi⟩:=st
  exact wpAny_pyIter_enum he h
inductive iEnumT_1 (K:W.Frag)(R:It→Hp→Prop)(vs:List V)(H1:Hp):Prop
 | mk (a:_) (z0_:vs=[.ref a]) (z1_:(∃ xs,SqT K H1 a xs)) (z2_:R (IteT K a) H1)
def iEnumT (K:W.Frag)(ta:TA):TI:=fun σ H R=>ta σ H (iEnumT_1 K R)
theorem zd2 {X:Cx}{a:Expr}{ta:TA}{p pos:Pos}{elts:List Expr}{kt:Nat}{tp:Pos}(hg:Gl X "enumerate")(hm:X.mg "enumerate" = none)(ha:PA X [a] ta)(hs:starEach [a] X.env=[(false,eval a X.env)]:=by rfl) :
  PI X (.Tuple elts kt tp) (.Call (.Name "enumerate" p) [a] [] pos) (iEnumT X.K ta):=by
 intro pins s σ H R I h
 refine Call_ (zc5 I hg hm boot_enumerate (PyProof.Rows.callWith_type1 (thn (ha pos pins s σ H _ I h) fun us s1 hh_=>?_) hs rfl))
 obtain ⟨vs,H1,I1,r1,q1⟩:=hh_
 obtain ⟨l,e,⟨xs,hq⟩,q⟩:=q1
 subst e
 obtain ⟨u,rfl,ru⟩:=zdL r1
 cases ru
 obtain ⟨its,rv,pl,hz⟩:=I1.tuple hq
 refine zda (items:=its.toArray) pl fun h' he hi hsz kk=>?_
 refine wpAny_pyIter_enum he ?_
 have I2:Inv X pins σ H1 { s1 with heap:=h',toks:=s1.toks }:=I1.kept kk
 refine ⟨s1.heap.objs.size+1,[s1.heap.objs.size+1,s1.heap.objs.size],_,_,H1,rfl,I2,zh1 l _ _ (Nat.succ_ne_self _),⟨⟨_,he⟩,hi⟩,fun b hb=>?_,q⟩
 rcases Xao.mp hb with z | z
 ·subst z;exact I1.fpOk (Xbq _) (I1.hok.fresh (Xbq _))
 ·have z:=Xad.mp z
  subst z;exact I1.fpOk (Xae _) (I1.hok.fresh (Xae _))
theorem zc8 {K:PySem.W.Frag}{a:Addr}{xs:List V}{g:TG}{tb:TS}{D:Ends}{σ:St}{H:Hp}(Pv:Nat→St→Hp→Prop)(h0:Pv 0 σ H)(hl:∀ i σ H,i≤xs.length→Pv i σ H→SqT K H a xs)
  (hs:∀ i x T σ H,xs[i]? = some x→H T=none→Pv i σ H→g (.ref T) σ (upd H T (.tup [.int i,x])) fun σ2 H2=>tb { D with nx:=Pv (i+1),ct:=Pv (i+1),bk:=D.nx } σ2 H2) (hd:∀ σ H,Pv xs.length σ H→D.nx σ H) :
  ∃ W:Nat→Nat→St→Hp→Prop,(∃ m,W 0 m σ H)∧∀ i m σ H,W i m σ H →
   ((IteT K a).stop i H∧D.nx σ H)∨((IteT K a).go i H∧∃ N:St→Hp→Prop,(∀ σ' H',N σ' H'→∃ m',m'<m∧W (i+1) m' σ' H')∧∀ x H',(IteT K a).yld i H x H'→g x σ H' fun σ2 H2=>tb { D with nx:=N,ct:=N,bk:=D.nx } σ2 H2):=by
 refine ⟨fun i m σ H=>m=xs.length - i∧i≤xs.length∧Pv i σ H,⟨xs.length,by simp,Nat.zero_le _,h0⟩,?_⟩
 rintro i m σ H ⟨rfl,hi,p⟩
 have q:=hl i σ H hi p
 by_cases hlt:i<xs.length
 ·refine .inr ⟨⟨xs,xs[i],q,by simp [hlt]⟩,Pv (i+1),fun σ' H' p'=>⟨xs.length - (i+1),by omega,rfl,hlt,p'⟩,fun v H' y=>?_⟩
  obtain ⟨T,x,hT,rfl,rfl,y⟩:=y
  exact hs i x T σ _ (y xs q) hT p
 ·have e:i=xs.length:=by omega
  subst e
  exact .inl ⟨⟨xs,q,rfl⟩,hd σ H p⟩
end L2
end
section
namespace L2
open PySem PySem.Spec PyProof.Rows HT
section
variable {prog:Program}{w:World}{A:Around}{E:Value→Shared→Prop}{s:Shared}
theorem zfQ {r:Addr}{Q:Value→Shared→Prop}(h:wpAny (model prog w) A.in1 (collect (.ref r)) (fun vs s1=>vs.length≤sizeLine∧wpAny (model prog w) A.in1.in1 (Builtin.«list.sort» ⟨[.ref s1.heap.objs.size],[]⟩)
   (fun fin s2=>fin = .done (.ret .none)∧Q (.ref s1.heap.objs.size) s2) E { s1 with heap:=s1.heap.push (seqObj "list" vs.toArray 0) }) E s) :
  wpAny (model prog w) A (call (.builtin "sorted") [.ref r]) Q E s:=by
 refine Calls.call_function_entry kind_sorted plain_sorted entry_sorted (args_sorted1 _) ?_
 unfold Builtin.«sorted»
 refine Xaa (m:=checkCount "sorted" 1 1 _) (Xac ?_)
 refine Xaa (Xas h (fun vs s1 ⟨hz,h⟩=>?_) fun _ _ e=>e)
 refine Xaa (wpAny_newList ?_ hz)
 refine Xaa (XaV (XaS slot_list_sort ⟨_,Xaj _ rfl,rfl⟩ entry_list_sort (Xas h (fun fin s2 ⟨e,q⟩=>?_) fun _ _ e=>e) (args_list_sort _)))
 subst e
 exact ⟨_,rfl,Xac ⟨_,rfl,q⟩⟩
end
theorem zhL:∀ {vs:List Value} {ns:List Int},vs.length=ns.length→(∀ (j:Nat) (v:Value),vs[j]? = some v→∃ n t,ns[j]? = some n∧v = .int n t)→IntsAre vs ns
 | [],[],_,_=>.nil
 | v :: vs,n :: ns,hl,h=>by
  obtain ⟨m,t,e,rfl⟩:=h 0 v rfl
  cases e
  exact .cons _ _ (zhL (by simpa using hl) fun j v hv=>h (j+1) v hv)
 | [],_ :: _,hl,_=>by simp at hl
 | _ :: _,[],hl,_=>by simp at hl
theorem zgk {κ:Type}:∀ {kvs:List (κ×V)} {vs:List (κ×Value)},KV kvs vs→vs.length=kvs.length
 | _,_,.nil=>rfl
 | _,_,.cons _ r=>by rw [Xau,Xau,zgk r]
theorem zlw {κ:Type}:∀ {kvs:List (κ×V)} {vs:List (κ×Value)},KV kvs vs→∀ (j:Nat) (k:κ) (x:Value),vs[j]? = some (k,x)→∃ y,kvs[j]? = some (k,y)∧RelV y x
 | _,_,.nil,j,k,x,h=>by simp at h
 | _,_,.cons (a:=a) hp r,0,k,x,h=>by
  obtain ⟨a1,a2⟩:=a
  cases h
  obtain ⟨e,rr⟩:=hp
  exact ⟨a2,by rw [show a1=k from e];rfl,rr⟩
 | _,_,.cons _ r,j+1,k,x,h=>zlw r j k x h
section
variable {X:Cx}
theorem zgz (hc:X.calm=true):zdc X (.builtin "sorted") (fun xs H Q=>∃ (a:Addr) (kvs:List (Key×V)) (ks:List Int),xs=[.ref a]∧H a=some (.dK kvs)∧kvs.map (·.1)=ks.map Sum.inl∧ks.length<64 ∧
  ∀ (l:Addr) (ns:List Int),H l=none→ns.Perm ks→ns.Pairwise (·≤·)→Q (.ref l) (upd H l (.lst (ns.map V.int)))):=by
 intro pins s σ H xs us Q I r h
 obtain ⟨a,kvs,ks,rfl,e,hk,h64,q⟩:=h
 obtain ⟨u,rfl,r1⟩:=zdL r
 obtain rfl:u=Value.ref a:=r1
 obtain ⟨hz,lo,vs,rel,dd⟩:=zjT I.hok e
 obtain ⟨ep,hat⟩:=dd.dictAt
 have hl:vs.length=kvs.length:=zgk rel
 have hl2:kvs.length=ks.length:=by have:=congrArg List.length hk;simpa using this
 refine zfQ (W.kdu_collect (W.kdl_dict (knd:=zaE X.prog X.w) (kvs:=vs) (ep:=ep) lo) (I.ok.hd hc) hat (by omega) fun h' tk acc kp it=>⟨by rw [Array.length_toList,it.1,hl];exact hz,?_⟩)
 have hI:IntsAre acc.toList ks:=zhL (by rw [Array.length_toList,it.1];omega) fun j v hv=>by
  obtain ⟨k,x,hx,hkey⟩:=it.2 j v (by rw [← Xbk];exact hv)
  obtain ⟨y,hy,_⟩:=zlw rel j k x hx
  have e1:(kvs.map (·.1))[j]? = some k:=by rw [Xat,hy];rfl
  rw [hk,Xat] at e1
  obtain ⟨n,hn,rfl⟩:=XaE.mp e1
  rcases zaI (show zhm (Sum.inl n) v=true from hkey) with ⟨i,t,e2,e3⟩ | ⟨_,_,e2,_⟩
  ·cases e2;exact ⟨_,t,hn,e3⟩
  ·cases e2
 refine list_sort_tree (s:={ s with heap:=h'.push (seqObj "list" acc.toList.toArray 0),toks:=tk }) (Xaj _ rfl) hI (by rw [Array.length_toList,it.1];omega) fun out ns a1 a2 a3=>⟨rfl,?_⟩
 have hsz:h'.objs.size<(h'.push (seqObj "list" acc.toList.toArray 0)).objs.size:=by rw [XaI];exact XaZ _
 have I2:Inv X pins σ H { s with heap:=h',toks:=tk }:=I.kept kp
 obtain ⟨c,hc'⟩:=sortedHeap_at (a:=h'.objs.size) (vs:=acc.toList) (out:=out) (Xaj (h:=h') (o:=seqObj "list" acc.toList.toArray 0) rfl)
 refine ⟨.ref _,_,I2.laid (t':=tk) (o:=.lst (ns.map V.int)) (fun b o eb=>?_) (Xae _) ?_,rfl,q _ ns (I2.hok.fresh (Xae _)) a2 a3⟩
 ·have hb:=Xal eb
  rw [sortedHeap_old (Xaw hb) (XbI hb hsz)]
  exact Xab _ eb
 ·refine ⟨?_,out.toList,_,zcX a1,by simpa [seqObj] using hc'⟩
  rw [Xaf,a2.length_eq]
  exact Xar (XbH h64) (by decide)
end
end L2
end
section
namespace L2
open PySem PySem.Spec PyProof.Rows HT
section
variable {prog:Program}{w:World}{A:Around}{E:Value→Shared→Prop}{s:Shared}
end
end L2
end
section
set_option autoImplicit false
namespace L2
open PySem PySem.Spec PyProof.Rows HT Cb
section
variable {prog:Program}{w:World}{A:Around}{E:Value→Shared→Prop}{s:Shared}
end
section
variable {X:Cx}
end
end L2
end
section
set_option autoImplicit false
namespace L2
open PySem PySem.Spec PyProof.Rows HT Cb
section
variable {prog:Program}{w:World}{A:Around}{E:Value→Shared→Prop}
end
section
variable {X:Cx}
end
section
variable {prog:Program}{w:World}{A:Around}{E:Value→Shared→Prop}{s:Shared}
end
end L2
end
section
namespace L2
open PySem PySem.Spec PyProof.Rows PySem.SeqAt
section
variable {X:Cx}{tg:Expr}
end
inductive Eqv (K:W.Frag)(H:Hp):Nat→V→V→Prop where
 | int (n:Nat) (i:Int):Eqv K H n (.int i) (.int i)
 | tup {n:Nat} {a b:Addr} {xs ys:List V} (ha:SqT K H a xs) (hb:SqT K H b ys) (hl:xs.length=ys.length) (h:∀ (i:Nat) (x y:V),xs[i]? = some x→ys[i]? = some y→Eqv K H n x y):Eqv K H (n+1) (.ref a) (.ref b)
theorem Eqv.eqAt {X:Cx}{pins:List (Addr×Obj)}{s:Shared}{σ:St}{H:Hp}(I:Inv X pins σ H s){n:Nat}{x y:V}(h:Eqv X.K H n x y):∀ (A:Around) {u v:Value},A.units+n<cLine→RelV x u→RelV y v→EqAt A s u v true:=by
 induction h with
 | int n i =>
  intro A u v _ r1 r2
  obtain ⟨t,rfl⟩:=(show ∃ t,u=Value.int i t from r1)
  obtain ⟨t2,rfl⟩:=(show ∃ t,v=Value.int i t from r2)
  have:=EqAt.int_int (A:=A) (s:=s) i t i t2
  rw [beq_self_eq_true] at this
  exact this
 | @tup n a b xs ys ha hb hl h ih =>
  intro A u v hu r1 r2
  cases r1;cases r2
  by_cases hab:a=b
  ·subst hab;exact EqAt.same _
  obtain ⟨t1,w1,p1,_⟩:=I.tuple ha
  obtain ⟨t2,w2,p2,_⟩:=I.tuple hb
  have l1:=w1.length
  have l2:=w2.length
  have:=RcAt.tuples (A:=A) (s:=s) (e:=fun _=>true) p1 p2 (by omega) fun j h1 h2=>by
   have g1:j<t1.length:=by simpa using h1
   have g2:j<t2.length:=by simpa using h2
   have ex:xs[j]? = some (xs[j]'(by omega)):=Xav (by omega)
   have ey:ys[j]? = some (ys[j]'(by omega)):=Xav (by omega)
   obtain ⟨v1,z1,rx⟩:=w1.get ex
   obtain ⟨v2,z2,ry⟩:=w2.get ey
   have q1:t1.toArray[j]=v1:=by rw [XbD];exact (Xag.mp z1).2
   have q2:t2.toArray[j]=v2:=by rw [XbD];exact (Xag.mp z2).2
   rw [q1,q2]
   exact ih j _ _ ex ey A.in1 (by show A.units+1+n<cLine;omega) rx ry
  refine EqAt.of_refs hab ?_
  have e:((List.range (min t1.toArray.size t2.toArray.size)).all (fun _=>true) && t1.toArray.size == t2.toArray.size)=true:=by
   rw [XaT]
   refine ⟨Xbd.mpr fun _ _=>rfl,?_⟩
   rw [Xan,Xan,beq_iff_eq];omega
  rw [e] at this
  exact this
inductive rNeTT (K:W.Frag)(x:V)(y:V)(H:Hp)(Q:VK):Prop
 | mk (a:_) (b:_) (xs:_) (ys:_) (z0_:x = .ref a) (z1_:y = .ref b) (z2_:SqT K H a xs) (z3_:SqT K H b ys) (z4_:xs.length=ys.length) (z5_:(∀ (i:Nat) (x y:V),xs[i]? = some x→ys[i]? = some y→Eqv K H 8 x y)) (z6_:Q (.bl false) H)
theorem zmm {X:Cx}{K:W.Frag}(hu:X.A.units+9<cLine)(hK:X.K=K):OpR X (compareOp .NotEq) (rNeTT K):=by
 subst hK
 rintro pins s σ H x y v u Q I rx ry ⟨a,b,xs,ys,rfl,rfl,ha,hb,hl,h,q⟩
 cases rx;cases ry
 obtain ⟨t1,w1,p1,_⟩:=I.tuple ha
 obtain ⟨t2,w2,p2,_⟩:=I.tuple hb
 have l1:=w1.length
 have l2:=w2.length
 refine RcNeAt.tuples (e:=fun _=>true) p1 p2 (by omega) (fun j h1 h2=>?_) _ _ _ _ ⟨.bl false,H,I,?_,q⟩
 ·have g1:j<t1.length:=by simpa using h1
  have g2:j<t2.length:=by simpa using h2
  have ex:xs[j]? = some (xs[j]'(by omega)):=Xav (by omega)
  have ey:ys[j]? = some (ys[j]'(by omega)):=Xav (by omega)
  obtain ⟨v1,z1,rx⟩:=w1.get ex
  obtain ⟨v2,z2,ry⟩:=w2.get ey
  have q1:t1.toArray[j]=v1:=by rw [XbD];exact (Xag.mp z1).2
  have q2:t2.toArray[j]=v2:=by rw [XbD];exact (Xag.mp z2).2
  rw [q1,q2]
  exact (h j _ _ ex ey).eqAt I X.A.in1 (by show X.A.units+1+8<cLine;omega) rx ry
 ·have e:((List.range (min t1.toArray.size t2.toArray.size)).all (fun _=>true) && t1.toArray.size == t2.toArray.size)=true:=by
   rw [XaT]
   refine ⟨Xbd.mpr fun _ _=>rfl,?_⟩
   rw [Xan,Xan,beq_iff_eq];omega
  rw [e];rfl
end L2
end
section
namespace L2
open PySem PySem.Spec PyProof.Rows PySem.SeqAt
section
variable {X:Cx}{K:W.Frag}
inductive rEqL0 (K:W.Frag)(x:V)(y:V)(H:Hp)(Q:VK):Prop
 | mk (a:_) (b:_) (xs:_) (z0_:x = .ref a) (z1_:y = .ref b) (z2_:SqL K H a xs) (z3_:SqL K H b []) (z4_:Q (.bl xs.isEmpty) H)
theorem zmr (hu:X.A.units<cLine)(hK:X.K=K):OpR X (compareOp .Eq) (rEqL0 K):=by
 subst hK
 rintro pins s σ H x y v u Q I rx ry ⟨a,b,xs,rfl,rfl,ha,hb,q⟩
 cases rx;cases ry
 obtain ⟨its,r1,p1,_⟩:=I.list ha
 obtain ⟨its2,r2,p2,_⟩:=I.list hb
 obtain rfl:=r2.nil_iff.mpr rfl
 have e:its.toArray.size=xs.length:=by rw [Xan];exact r1.length.symm
 cases xs with
 | nil =>
  refine RcAt.lists (e:=fun _=>true) p1.isList p2.isList (by rw [e];rfl) hu (fun j h1 h2=>absurd h2 (by simp)) _ _ _ _ ⟨.bl true,H,I,?_,q⟩
  rw [e];rfl
 | cons z zs=>exact RcAt.lists_lengths p1.isList p2.isList (by rw [e];simp) hu _ _ _ _ ⟨.bl false,H,I,rfl,q⟩
end
end L2
end
section
namespace L2
open PySem PySem.Spec PyProof.Rows PySem.SeqAt
section
variable {X:Cx}
end
end L2
end
section
namespace L2
open PySem PySem.Spec PyProof.Rows PySem.SeqAt
end L2
end
section
namespace L2
open PySem PySem.Spec PyProof.Rows PySem.SeqAt
section
variable {X:Cx}{K:W.Frag}
def rNeNT (K:W.Frag):R2:=fun x y H Q=>(x = .non∧y = .non∧Q (.bl false) H)∨rNeTT K x y H Q
theorem zmn (hu:X.A.units+9<cLine)(hK:X.K=K):OpR X (compareOp .NotEq) (rNeNT K):=by
 rintro pins s σ H x y v u Q I rx ry (⟨rfl,rfl,q⟩ | h)
 ·exact zeR pins s σ H .non .non v u Q I rx ry ⟨rfl,q⟩
 ·exact zmm hu hK pins s σ H x y v u Q I rx ry h
end
section
variable {X:Cx}{Nc:List Str}{src:List (Option Nat)}{scope:Scope}{elt tg iter:Expr}{ifs:List Expr}{pos:Pos}{wi:TI}{g:TG}{tf:TT}{te:TE}
end
section
variable {X:Cx}{K:W.Frag}{tg l:Expr}{tl:TE}
end
end L2
end
section
namespace L2
open PySem PySem.Spec PyProof.Rows HT
section
variable {X:Cx}{o e:Expr}{es:List Expr}{to:TE}{t:TA}{T:String}{id:String}{name:Str}{apos cpos:Pos}{r:V→List V→Hp→VK→Prop}
end
end L2
end
section
namespace L2
open PySem PySem.Spec PyProof.Rows HT
def zmO (CX:CXT)(X:Cx)(E:St→XK):Prop:=∀ (pins:List (Addr×Obj)) (σ:St) (H:Hp) (s:Shared) (e:Value) (s':Shared),Inv X pins σ H s→CX X.stack H s (E σ) e s'→X.xe e s'
theorem Passes.s {CX:CXT}{X:Cx}{E:XK}(h:Passes CX X E):zmO CX X fun _=>E:=fun pins σ H s e s'=>h pins σ H s e s'
section
variable {X:Cx}{CX:CXT}{k:Nat}{f C:Addr}{fd:FuncData}{ps ks:List Str}{sp:Sp}{E:St→XK}{x m:Str}{p pos apos:Pos}{e o:Expr}{es:List Expr}{kws:List Keyword}{ta:TE}{t tk:TA}{g:List Value→List Value→List Value}{gV:List V→List V→List V}
theorem zl6 {pins:List (Addr×Obj)}{σ:St}{H:Hp}{s:Shared}{Q:VK}{us ws:List Value}{vs zs:List V}(F:FnOk X.prog X.w X.K X.mg X.base CX k f fd ps sp)(hr:Room k X.A)(hb:KBinds X.K fd ps ks g gV)(hx:zmO CX X E)
  (I:Inv X pins σ H s) (r:Vals vs us) (rz:Vals zs ws) (h:sp (gV vs zs) H Q (E σ)):wpAny (model X.prog X.w) X.A (call (.ref f) us (ks.zip ws)) (EP X pins σ Q) X.xe s:=by
 have r2:=hb.rel r rz
 have hl:(g us ws).length=ps.length:=by rw [← r2.length];exact F.len _ _ _ _ h
 refine wpAny_call (Xbs (F.run X.A X.stack s H ⟨us,ks.zip ws⟩ (g us ws) (gV vs zs) Q (E σ) hr I.env0 (hb.to s us ws I.kIn hl) r2 h) fun r s' hq=>?_)
 cases r with
 | error e=>exact hx pins σ H s e s' I hq
 | ok fl =>
  cases fl with
  | ret u=>exact I.after hq
  | next=>exact False.elim hq
  | brk=>exact False.elim hq
  | cont=>exact False.elim hq
end
section
variable {X:Cx}{k:Nat}{C:Addr}{ks:List Str}{gV:List V→List V→List V}{sp:Sp}{E:St→XK}{x:Str}{p pos:Pos}{e:Expr}{es:List Expr}{kws:List Keyword}{t tk:TA}
end
structure MthX (P:Program)(w:World)(K:W.Frag)(mg:Str→Option Value)(base:Heap)(k:Nat)(C:Addr)(m:Str)(ks:List Str)(gV:List V→List V→List V)(sp:Sp):Prop where
 cls:Cls K C
 ex:∃ f fd ps g,Meth K C m f∧FnOk P w K mg base (CX1 P w) k f fd ps sp∧KBinds K fd ps ks g gV
inductive tMthS_1 (P:Program)(w:World)(K:W.Frag)(mg:Str→Option Value)(base:Heap)(k:Nat)(m:Str)(ks:List Str)(E:St→XK)(t:TA)(tk:TA)(σ:St)(Q:VK)(x:V)(H1:Hp):Prop
 | mk (a:_) (C:_) (dx:_) (fs:_) (gV:_) (sp:_) (z0_:x = .ref a) (z1_:H1 a=some (.ins C dx fs)) (z2_:MthX P w K mg base k C m ks gV sp) (z3_:fs.lookup m=none) (z4_:t σ H1 fun vs H2=>tk σ H2 fun zs H3=>sp (gV (x :: vs) zs) H3 Q (E σ))
def tMthS (P:Program)(w:World)(K:W.Frag)(mg:Str→Option Value)(base:Heap)(k:Nat)(m:Str)(ks:List Str)(E:St→XK)(ta:TE)(t tk:TA):TE:=fun σ H Q=>ta σ H (tMthS_1 P w K mg base k m ks E t tk σ Q)
section
variable {X:Cx}{k:Nat}{C:Addr}{ks:List Str}{E:St→XK}{x m:Str}{p pos apos:Pos}{e o:Expr}{es:List Expr}{kws:List Keyword}{ta:TE}{t tk:TA}
theorem zji {P:Program}{w:World}{K:W.Frag}{mg:Str→Option Value}{base:Heap}(k:Nat)(hX:X.prog=P∧X.w=w∧X.K=K∧X.mg=mg∧X.base=base)(hr:Room k X.A)(hx:zmO (CX1 X.prog X.w) X E){pl:Sem Bool}(he:PE X o ta)(ha:PA X (e :: es) t)
  (hst:starEach (e :: es) X.env=(false,eval e X.env) :: starEach es X.env:=by rfl) (hpl:(backTo pos (starEach es X.env)).any (·.1)=false:=by rfl)
  (ht:eval (.Call (.Attribute o m apos) (e :: es) [] pos) X.env=(do
   let ov ← eval o X.env
   standAt apos.atName
   let (f,first) ← holding [ov] (getMethod ov m pl)
   callWith pos f first (backTo pos (starEach (e :: es) X.env)) (backToKw pos (keywordEach [] X.env))):=by rfl) :
  PE X (.Call (.Attribute o m apos) (e :: es) [] pos) (tMthS P w K mg base k m [] E ta t tNil):=by
 obtain ⟨rfl,rfl,rfl,rfl,rfl⟩:=hX
 intro pins s σ H Q I h
 refine W.methodCall_KW (pl:=pl) (thn (he pins s σ H _ I h) fun u s1 hh_=>?_) ht
 obtain ⟨x,H1,I1,rx,a,C,dx,fs,gV,sp,ex,ea,M,l,q⟩:=hh_
 obtain ⟨c,f,fd,ps,g,hm,F,hb⟩:=M
 subst ex
 obtain rfl:u=Value.ref a:=rx
 refine zcu I1 ea c hm l ?_
 refine W.callWith_K (first:=[.ref a]) (h₀:=X.base) I.ok.mod.kin hm.kp (thn (ha pos pins s1 σ H1 _ I1 q) fun us s2 ⟨vs,H2,I2,r,q2⟩=>⟨I2.kIn,?_⟩) hst hpl
 exact zl6 (us:=.ref a :: us) (vs:=.ref a :: vs) (ws:=[]) (zs:=[]) F hr hb hx I2 (.cons rfl r) .nil q2
end
abbrev zmP (X:Cx)(pins:List (Addr×Obj))(b:Addr):Prop:=X.s₀.heap.get? b=none∧b≠X.env.locals∧(∀ x c,X.env.cells.lookup x=some c→c≠b)∧∀ p∈X.pn ++ pins,p.1≠b
section
variable {X:Cx}{pins pins2:List (Addr×Obj)}{σ:St}{H:Hp}{s:Shared}{E:St→XK}
end
section
variable {X:Cx}{cn n:Str}{j:Nat}{Cb:Addr}{body hbody:List Stmt}{b₀:Stmt}{tb:(St→XK)→TS}{th:TS}{p4 p8 p9:Pos}
end
end L2
end
section
namespace L2
open PySem PySem.Spec PyProof.Rows HT
abbrev TJ:=St→Hp→(Hp→Prop)→Prop
def PJ (X:Cx)(es:List Expr)(t:TJ):Prop:=∀ (out:Str) (pins:List (Addr×Obj)) (s:Shared) (σ:St) (H:Hp) (R:Hp→Prop),out.length+2000 * es.length≤100000→Inv X pins σ H s→t σ H R →
 wpAny (model X.prog X.w) X.A (joinParts out (evalEach es X.env)) (fun u s'=>∃ (z:Str) (tk:Tok) (H':Hp),u = .str z tk∧Inv X pins σ H' s'∧R H') X.xe s
def jNil:TJ:=fun _ H R=>R H
inductive jStr_1 (t:TJ)(σ:St)(R:Hp→Prop)(x:V)(H1:Hp):Prop
 | mk (a:Str) (z0_:x = .str a) (z1_:a.length≤1000) (z2_:t σ H1 R)
def jStr (ta:TE)(t:TJ):TJ:=fun σ H R=>ta σ H (jStr_1 t σ R)
inductive jInt_1 (t:TJ)(σ:St)(R:Hp→Prop)(x:V)(H1:Hp):Prop
 | mk (i:Int) (z0_:x = .int i) (z1_:i.natAbs<2 ^ 1000) (z2_:t σ H1 R)
def jInt (ta:TE)(t:TJ):TJ:=fun σ H R=>ta σ H (jInt_1 t σ R)
def tFsN (t:TJ):TE:=fun σ H Q=>t σ H fun H1=>∀ z:Str,Q (.str z) H1
section
variable {X:Cx}{e v:Expr}{es:List Expr}{pos p2:Pos}{ta:TE}{t:TJ}
theorem pj_nil:PJ X [] jNil:=fun out pins s σ H R hl I h=>by
 refine joinParts_nilE (joinParts_nil ⟨out,_,H,rfl,I.tok _,h⟩ ?_)
 have hz:(100000:Nat)≤sizeLine:=by decide
 simp only [XaY] at hl
 omega
theorem pj_str (he:PE X e ta)(hs:PJ X es t):PJ X (e :: es) (jStr ta t):=fun out pins s σ H R hl I h=>by
 refine joinParts_consE (joinParts_cons (thn (he pins s σ H _ I h) fun u s1 hh_=>?_))
 obtain ⟨x,H1,I1,rx,a,ex,la,q⟩:=hh_
 subst ex
 obtain ⟨t,rfl⟩:=(show ∃ t,u=Value.str a t from rx)
 have hz:(100000:Nat)≤sizeLine:=by decide
 simp only [Xau] at hl
 exact ⟨by rw [strLen_append];omega,hs _ pins s1 σ H1 R (by rw [strLen_append];omega) I1 q⟩
theorem pj_int (hv:PE X v ta)(hs:PJ X es t):PJ X (.FormattedValue v (-1) none p2 :: es) (jInt ta t):=fun out pins s σ H R hl I h=>by
 refine joinParts_consE (joinParts_cons (FormattedValue_plain (thn (hv pins s σ H _ I h) fun u s1 hh_=>?_)))
 obtain ⟨x,H1,I1,rx,i,ex,hi,q⟩:=hh_
 subst ex
 obtain ⟨t,rfl⟩:=(show ∃ t,u=Value.int i t from rx)
 have hz:(100000:Nat)≤sizeLine:=by decide
 simp only [Xau] at hl
 have hlog:i.natAbs.log2<1000:=by
  by_cases z:i.natAbs=0
  ·rw [z];decide
  ·exact (Nat.log2_lt z).mpr hi
 have hlen:(Str.ofString (toString i)).length≤1001:=by
  rw [PySem.ofString_length]
  exact int_text_length_le (by decide) hlog
 refine formatField_int_small (XbI hlog (by decide)) ⟨by rw [strLen_append];omega,?_⟩
 exact hs _ pins _ σ H1 R (by rw [strLen_append];omega) ((I1.tok _).tok _) q
theorem pe_fsN (h2:∃ a b r,es=a :: b :: r)(hs:PJ X es t)(hz:es.length≤40:=by decide):PE X (.JoinedStr es pos) (tFsN t):=by
 obtain ⟨a,b,r,rfl⟩:=h2
 intro pins s σ H Q I h
 refine JoinedStr_many ?_
 refine thn (hs Str.empty pins s σ H _ ?_ I h) fun u s' ⟨z,tk,H',eu,I',q⟩=>⟨.str z,H',I',⟨tk,eu⟩,q z⟩
 have l0:Str.empty.length=0:=rfl
 omega
end
theorem FunD.okX {P:Program}{w:World}{K:W.Frag}{mg:Str→Option Value}{base:Heap}{x qual:Str}{st:Stmt}{dV:Value}{f:Addr}{fd:FuncData}{N ps:List Str}{k:Nat}{sp:Sp}(F:FunD K x qual st dV f fd)(S:FnScope N ps (zai st))(len:∀ vs H Q E,sp vs H Q E→vs.length=ps.length)
  (hbody:∀ (cdv:Value) (A:Around) (outer:List Env) (s:Shared) (H:Hp) (vs:List V) (Q:VK) (E:XK),Room k (A.deeper (envOfC qual (zai st) s.heap.objs.size f cdv))→sp vs H Q E →
   ∃ t,PSs (cxOf (CX1 P w) P w K mg base N qual (zai st) f cdv A outer s H E) (za0 st) t∧t { nx:=fun _ H'=>Q .non H',rt:=Q } (start N vs) H):FnOk P w K mg base (CX1 P w) (k+1) f fd ps sp:=by
 obtain ⟨oc,od,kV,doc,pm,an,cdv,ct,osl,rfl,lk,hcd⟩:=F.ex
 refine zk1 lk hcd S len fun A outer s H vs Q E hr hsp=>?_
 obtain ⟨t,h,q⟩:=hbody cdv A outer s H vs Q E hr hsp
 exact ⟨t,h,q⟩
end L2
end
section
namespace L2
open PySem PySem.Spec PyProof.Rows HT
section
variable {prog:Program}{w:World}{A:Around}{E:Value→Shared→Prop}{h:Heap}{g:Array GenState}{d:Drawn}{t:Nat}{os:OsState}
variable {nm q:Str}{C N:Addr}{bs bm:List Value}{hdct:Bool}{sn:List Str}{sub:List Value}{ab:Bool}{col:Option Bool}{dd:Option Addr}{k0 k1 k2 k3 k5:Option Value}{mN:Str→Option Value}{rest:List Value}{fI:Addr}{oI:Obj}
theorem zgI {Q:Fin→Shared→Prop}(T:OwnTail h bmV bm)(hC:h.get? C=some (excClassObj nm q C N bs bm hdct sn sub ab col dd k0 k1 k2 k3 k5 "ValueError.__new__"))(hn:h.Ns N mN)(hi:mN "__init__" = some (.ref fI))
  (hfI:h.get? fI=some oI) (hfc:oI.cls = .type "function") (hrest:rest.length≤sizeLine)
  (hq:∀ h' e,Heap.MadeExcOf h h' e (.ref C) rest→wpAny (model prog w) A (call (.ref fI) (.ref e :: rest)) (fun r s'=>r = .none∧Q (.done (.ret (.ref e))) s') E ⟨h',g,d,t,os⟩) :
  wpAny (model prog w) A (Builtin.«type.__call__» ⟨.ref C :: rest,[]⟩) Q E ⟨h,g,d,t,os⟩:=by
 have F:=PySem.F.excBase_ValueError
 repeat (first | with_reducible refine wpAny_loadPart_at hC ?_ | with_reducible refine wpAny_madeBy_exc hC ?_ | wp_step)
 refine codeAny_call_builtin_code (Code.quiet_builtin _ F.quiet) (wpAny_check_new_subT F T hC ?_)
 refine codeAny_exc_new_subT F T hC ?_ hrest
 show wpAny _ _ _ _ _ _
 have kp:∀ b o,h.get? b=some o→((h.push { cls:=.type "tuple",data:=.seq rest.toArray }).push { cls:=.ref C,data:=.fields #[.ref h.objs.size,.none,.none,.none,.bool false,.none] }).get? b=some o:=
  fun b o e=>Xab _ (Xab _ e)
 have hC₁:=kp _ _ hC
 have hf₁:=kp _ _ hfI
 have hn₁:((h.push { cls:=.type "tuple",data:=.seq rest.toArray }).push { cls:=.ref C,data:=.fields #[.ref h.objs.size,.none,.none,.none,.bool false,.none] }).Ns N mN:=
  let ⟨o,es,ep,e,r⟩:=hn;⟨o,es,ep,kp _ _ e,r⟩
 have hget:((h.push { cls:=.type "tuple",data:=.seq rest.toArray }).push { cls:=.ref C,data:=.fields #[.ref h.objs.size,.none,.none,.none,.bool false,.none] }).get? (h.objs.size+1)=some
   { cls:=.ref C,data:=.fields #[.ref h.objs.size,.none,.none,.none,.bool false,.none] }:=by heap_get
 have hcC:(Value.ref C :: bm).contains (.ref C)=true:=by simp
 have T₁:=T.keeps kp
 unfold isInstance
 repeat (first | with_reducible refine wpAny_loadPart_at hget ?_ | (with_reducible refine wpAny_isSubtype_exc hC₁ ?_;rw [hcC]) | wp_step)
 show wpAny _ _ (typeLookup (.ref C) _) _ _ _
 refine wpAny_typeLookup_tail hC₁ hn₁ T₁ F.mroIs F.init.lookup ?_
 rw [hi]
 refine XaV (Xaa ?_)
 unfold bindSpecial
 refine Xaa (wpAny_typeOf (T := "function") ⟨_,hf₁,hfc⟩ ?_)
 rw [if_pos (by decide)]
 refine Xac (Xaa (Xas (hq _ (h.objs.size+1) ⟨kp,Xbz (Xbq _),h.objs.size,hget,Xbz (Xae _),Xab _ (Heap.get?_push_at rfl rfl)⟩) (fun r s' hr=>?_) fun _ _ x=>x))
 obtain ⟨rfl,hQ⟩:=hr
 wp_walk
 exact hQ
theorem zlM {Q:Value→Shared→Prop}(T:OwnTail h bmV bm)(hC:h.get? C=some (excClassObj nm q C N bs bm hdct sn sub ab col dd k0 k1 k2 k3 k5 "ValueError.__new__"))(hn:h.Ns N mN)(hi:mN "__init__" = some (.ref fI))
  (hfI:h.get? fI=some oI) (hfc:oI.cls = .type "function") (hrest:rest.length≤sizeLine)
  (hq:∀ h' e,Heap.MadeExcOf h h' e (.ref C) rest→wpAny (model prog w) (A.under (.builtin "type.__call__" ⟨.ref C :: rest,[]⟩)) (call (.ref fI) (.ref e :: rest)) (fun r s'=>r = .none∧Q (.ref e) s') E ⟨h',g,d,t,os⟩) :
  wpAny (model prog w) A (call (.ref C) rest) Q E ⟨h,g,d,t,os⟩:=by
 have f1:=tc_lookup
 have f2:=tc_bind (.ref C)
 have hT:(⟨h,g,d,t,os⟩:Shared).TypeIs (.ref C) "type" := ⟨_,hC,rfl⟩
 refine wpAny_call (codeAny_of_tree ?_)
 show wpAny _ _ (callAny (.ref C) _) _ _ _
 repeat (any_goals (first | assumption | with_reducible refine wpAny_loadPart_at hC ?_ | wp_step))
 refine ⟨rfl,?_⟩
 exact codeAny_call_builtin_at (Code.quiet_builtin _ (by decide +kernel)) entry_typeCall (wpAny_check_type_call_sub hC (zgI T hC hn hi hfI hfc hrest fun h' e hm=>hq h' e hm))
end
section
variable {M:Model}{A:Around}{E:Value→Shared→Prop}{s:Shared}{env:Env}
variable {nm q:Str}{C N:Addr}{bs bm:List Value}{hdct:Bool}{sn:List Str}{sub:List Value}{ab:Bool}{col:Option Bool}{dd:Option Addr}{k0 k1 k2 k3 k5:Option Value}
theorem zkl {x:Sem Value}{Q:Flow→Shared→Prop}(hbase:bm.contains (.type "BaseException")=true)(hh:A.handled=none)
  (h:wpAny M A x (fun v s₁=>∃ e t od,v = .ref e∧s₁.heap.get? C=some (excClassObj nm q C N bs bm hdct sn sub ab col dd k0 k1 k2 k3 k5 "ValueError.__new__") ∧
   s₁.heap.get? e=some { cls:=.ref C,dict:=od,data:=.fields #[.ref t,.none,.none,.none,.bool false,.none] }∧E (.ref e) s₁) E s) :
  wpAny M A (raiseStmt env (some x) none) Q E s:=by
 have hcB:(Value.ref C :: bm).contains (.type "BaseException")=true:=by rw [List.contains_cons,hbase,Bool.or_true]
 unfold raiseStmt
 refine Xaa (Xas h (fun v s₁ h₁=>?_) fun _ _ x=>x)
 obtain ⟨e,t,od,rfl,hC,he,hE⟩:=h₁
 obtain ⟨hp,g,d,tk,os⟩:=s₁
 repeat (first | with_reducible refine wpAny_loadPart_at he ?_ | with_reducible refine wpAny_loadPart_at hC ?_ | (with_reducible refine wpAny_isSubtype_exc hC ?_;rw [hcB]) | wp_step)
 exact wpAny_raiseNew_none hh hE
end
section
variable {prog:Program}{w:World}{A:Around}{E:Value→Shared→Prop}{s:Shared}{env:Env}
variable {nm q:Str}{C N:Addr}{bs bm:List Value}{hdct:Bool}{sn:List Str}{sub:List Value}{ab:Bool}{col:Option Bool}{dd:Option Addr}{k0 k1 k2 k3 k5:Option Value}{mN:Str→Option Value}{fI:Addr}{oI:Obj}
theorem zlL {x:Str}{np cpos pos:Pos}{args:List Expr}{Q:Flow→Shared→Prop}(hbase:bm.contains (.type "BaseException")=true)(hh:A.handled=none)(hplain:(backTo cpos (starEach args env)).any (·.1)=false)(hi:mN "__init__" = some (.ref fI))(hfc:oI.cls = .type "function")
  (h:wpAny (model prog w) A (eval (.Name x np) env) (fun f s₁=>f = .ref C∧wpAny (model prog w) A (evalArgs (.ref C) true (backTo cpos (starEach args env)) [])
   (fun a s₂=>a.kw=[]∧a.pos.length≤sizeLine∧s₂.heap.get? C=some (excClassObj nm q C N bs bm hdct sn sub ab col dd k0 k1 k2 k3 k5 "ValueError.__new__")∧s₂.heap.Ns N mN∧OwnTail s₂.heap bmV bm∧s₂.heap.get? fI=some oI ∧
    ∀ h' e,Heap.MadeExcOf s₂.heap h' e (.ref C) a.pos→wpAny (model prog w) (A.under (.builtin "type.__call__" ⟨.ref C :: a.pos,[]⟩)) (call (.ref fI) (.ref e :: a.pos))
     (fun r s'=>r = .none∧∃ t od,s'.heap.get? C=some (excClassObj nm q C N bs bm hdct sn sub ab col dd k0 k1 k2 k3 k5 "ValueError.__new__")∧s'.heap.get? e=some { cls:=.ref C,dict:=od,data:=.fields #[.ref t,.none,.none,.none,.bool false,.none] }∧E (.ref e) s') E { s₂ with heap:=h' }) E s₁) E s) :
  wpAny (model prog w) A (exec (.Raise (some (.Call (.Name x np) args [] cpos)) none pos) env) Q E s:=by
 rw [arm_exec_Raise]
 simp only [evalOpt,Option.map]
 refine Xaa (XaW (zkl (C:=C) (nm:=nm) (q:=q) (N:=N) (bs:=bs) (bm:=bm) (hdct:=hdct) (sn:=sn) (sub:=sub) (ab:=ab) (col:=col) (dd:=dd) (k0:=k0) (k1:=k1) (k2:=k2) (k3:=k3) (k5:=k5) hbase hh (Xaa (Xas (wpAny_Call_ofName (Xas h (fun f s₁ h₁=>?_) fun _ _ x=>x)) (fun v s₃ h₃=>Xaa (XaW (Xac h₃))) fun _ _ x=>x))))
 obtain ⟨rfl,h₁⟩:=h₁
 unfold callWith
 refine Xaa (XaV (Xas h₁ (fun a s₂ h₂=>Xaa (XaW ?_)) fun _ _ x=>x))
 obtain ⟨apos,akw⟩:=a
 obtain ⟨hkw,hlen,hC,hn,T,hfI,h₂⟩:=h₂
 obtain rfl:akw=[]:=hkw
 obtain ⟨hp,g,d,tk,os⟩:=s₂
 simp only [hplain]
 refine Xaa (wpAny_keeperOf_exc hC ?_)
 refine Xaa (zlM T hC hn hi hfI hfc hlen fun h' e hm=>Xas (h₂ h' e hm) (fun r s' hr=>?_) fun _ _ x=>x)
 obtain ⟨rfl,t,od,hC',he,hE⟩:=hr
 exact ⟨rfl,Xaa (XaV (wpAny_point (Xac ⟨e,t,od,rfl,hC',he,hE⟩)))⟩
end
end L2
end
section
namespace L2
open PySem PySem.Spec PyProof.Rows HT
end L2
end
section
namespace L2
open PySem PySem.Spec PyProof.Rows HT PySem.W PySem.Calls PySem.NumText
end L2
end
section
namespace L2
open PySem PySem.Spec PyProof.Rows HT
end L2
end
section
namespace L2
open PySem PySem.Spec PyProof.Rows HT
section
variable {X:Cx}{x:Str}{p pos:Pos}{e:Expr}{es:List Expr}{tv:TE}{t:TA}
end
end L2
end
section
namespace L2
open PySem PySem.Spec PyProof.Rows HT PySem.W PySem.Calls
end L2
end
section
namespace L2
open PySem PySem.Spec PyProof.Rows HT
section
variable {X:Cx}{x:Str}{a:Addr}{e:Expr}{p apos cpos:Pos}{ty:TE}{kvs:List (Key×V)}
end
end L2
end
section
namespace L2
open PySem PySem.Spec PyProof.Rows HT
end L2
end
section
namespace L2
open PySem PySem.Spec PyProof.Rows PySem.SeqAt
section
variable {X:Cx}{K:W.Frag}
end
section
variable {X:Cx}
end
end L2
end
section
namespace L2
open PySem PySem.Spec PyProof.Rows Builtin
section
variable {prog:Program}{w:World}{A:Around}{E:Value→Shared→Prop}{s:Shared}{K:W.Frag}{x y C D f:Addr}{ox oy:Obj}{od oe:Option Obj}
end
inductive rCmpO2 (P:Program)(w:World)(K:W.Frag)(mg:Str→Option Value)(base:Heap)(k:Nat)(neg:Bool)(x:V)(y:V)(H:Hp)(Q:VK):Prop
 | mk (a:_) (b:_) (C:_) (D:_) (dx:_) (fs:_) (dy:_) (gs:_) (gV:_) (sp:_) (z0_:x = .ref a) (z1_:y = .ref b) (z2_:H a=some (.ins C dx fs)) (z3_:H b=some (.ins D dy gs)) (z4_:W.notFirst K C (.ref D)=true) (z5_:Mth P w K mg base k C "__eq__" [] gV sp) (z6_:(neg=true→NeOk K C)) (z7_:sp (gV [x,y] []) H (fun v H2=>∃ c,v = .bl c∧Q (.bl (neg != c)) H2) E0)
section
variable {X:Cx}
theorem zmp {P:Program}{w:World}{K:W.Frag}{mg:Str→Option Value}{base:Heap}(k:Nat)(hX:X.prog=P∧X.w=w∧X.K=K∧X.mg=mg∧X.base=base)(hr:Room k X.A):OpR X (compareOp .Eq) (rCmpO2 P w K mg base k false):=by
 obtain ⟨rfl,rfl,rfl,rfl,rfl⟩:=hX
 rintro pins s σ H x y v u Q I rx ry ⟨a,b,C,D,dx,fs,dy,gs,gV,sp,rfl,rfl,ea,eb,hnf,M,_,q⟩
 cases rx;cases ry
 obtain ⟨c,f,fd,ps,g,hm,F,hb⟩:=M
 obtain ⟨mA,O,_⟩:=zcU I.hok ea
 obtain ⟨od,J,_⟩:=O.look
 obtain ⟨mB,O2,_⟩:=zcU I.hok eb
 obtain ⟨oe,J2,_⟩:=O2.look
 obtain ⟨m,fr⟩:=I.fr
 refine W.cmp_K (op:=.Eq) hr.units0 fr I.mod.kin J J2.type hnf hm.at_ hm.fn ?_
 refine Xas (zfq (us:=[.ref a,.ref b]) (vs:=[.ref a,.ref b]) (ws:=[]) (zs:=[]) F hr hb zf3 I (.cons rfl (.cons rfl .nil)) .nil q) (fun z s' hz=>?_) fun _ _ e=>e
 obtain ⟨v,H2,I2,rv,b',rfl,qb⟩:=hz
 obtain rfl:z=Value.bool b':=rv
 exact ⟨.bl b',H2,I2,rfl,by rw [Bool.false_bne] at qb;exact qb⟩
end
section
variable {prog:Program}{w:World}{A:Around}{E:Value→Shared→Prop}{s:Shared}
end
structure Tab (L:Bool)(t:SetTable)(n:Nat):Prop where
 fits:t.fits n=true
 ris:t.place.toList.Pairwise (· < ·)
 led:t.led=L
theorem zmC {xs:Array Nat}{i j:Nat}(h:i<xs.size):xs.getD i j=xs.toList[i]'(by simpa using h):=by
 rw [Array.getD_eq_getD_getElem?,XaK h];simp
theorem zkB {l:List Nat}(h:l.Pairwise (· < ·)){i k:Nat}(hk:k<l.length)(hik:i<k):l[i]'(by omega)<l[k]:=(Xba.mp h) i k (by omega) hk hik
theorem zfM {xs:Array Nat}{j:Nat}(hr:xs.toList.Pairwise (· < ·)):∀ (fuel lo hi:Nat),hi≤xs.size→lo≤hi→hi - lo≤fuel→(∀ i (h:i<xs.toList.length),i<lo→xs.toList[i]<j)→(∀ i (h:i<xs.toList.length),hi≤i→j≤xs.toList[i]) →
  SetTable.below.go xs j fuel lo hi≤xs.size∧(∀ i (h:i<xs.toList.length),i<SetTable.below.go xs j fuel lo hi→xs.toList[i]<j)∧∀ i (h:i<xs.toList.length),SetTable.below.go xs j fuel lo hi≤i→j≤xs.toList[i]
 | 0,lo,hi,h1,h2,h3,a,b=>by
  obtain rfl:lo=hi:=by omega
  exact ⟨h1,a,b⟩
 | fuel+1,lo,hi,h1,h2,h3,a,b=>by
  unfold SetTable.below.go
  by_cases hlt:lo<hi
  ·rw [if_pos hlt]
   have hm:(lo+hi) / 2<xs.size:=by omega
   have hml:(lo+hi) / 2<xs.toList.length:=by simpa using hm
   dsimp only
   rw [zmC hm]
   by_cases hc:xs.toList[(lo+hi) / 2]<j
   ·rw [if_pos hc]
    refine zfM hr fuel _ hi h1 (by omega) (by omega) (fun i h hi'=>?_) b
    rcases (show i<(lo+hi) / 2∨i=(lo+hi) / 2 by omega) with e | e
    ·exact XbI (zkB hr hml e) hc
    ·subst e;exact hc
   ·rw [if_neg hc]
    refine zfM hr fuel lo _ (by omega) (by omega) (by omega) a (fun i h hi'=>?_)
    rcases (show (lo+hi) / 2<i∨i=(lo+hi) / 2 by omega) with e | e
    ·exact XbH (XaM (Nat.not_lt.mp hc) (zkB hr h e))
    ·subst e;exact Nat.not_lt.mp hc
  ·rw [if_neg hlt]
   obtain rfl:lo=hi:=by omega
   exact ⟨h1,a,b⟩
theorem zd5 {xs:Array Nat}{j:Nat}(hr:xs.toList.Pairwise (· < ·)):SetTable.below xs j≤xs.size∧(∀ i (h:i<xs.toList.length),i<SetTable.below xs j→xs.toList[i]<j)∧∀ i (h:i<xs.toList.length),SetTable.below xs j≤i→j≤xs.toList[i]:=
 zfM hr xs.size 0 xs.size (Xae _) (Nat.zero_le _) (Xae _) (fun i h z=>absurd z (Xbu _)) fun i h z=>absurd (show i<xs.size by simpa using h) (Nat.not_lt.mpr z)
theorem zk9 {xs:Array Nat}(hr:xs.toList.Pairwise (· < ·)){i:Nat}(h:i<xs.size):SetTable.below xs xs[i]=i:=by
 obtain ⟨b1,b2,b3⟩:=zd5 (j:=xs[i]) hr
 have hl:i<xs.toList.length:=by simpa using h
 have e:xs.toList[i]=xs[i]:=by simp
 rcases Nat.lt_trichotomy (SetTable.below xs xs[i]) i with z | z | z
 ·have h2:SetTable.below xs xs[i]<xs.toList.length:=by omega
  have q1:=b3 _ h2 (Xae _)
  have q2:=zkB hr hl z
  rw [e] at q2
  exact absurd q1 (Nat.not_le.mpr q2)
 ·exact z
 ·have q1:=b2 i hl z
  rw [e] at q1
  exact absurd q1 (XaR _)
theorem ziB {xs:Array Nat}(hr:xs.toList.Pairwise (· < ·)){i:Nat}(h:i<xs.size):SetTable.below xs (xs[i]+1)=i+1:=by
 obtain ⟨b1,b2,b3⟩:=zd5 (j:=xs[i]+1) hr
 have hl:i<xs.toList.length:=by simpa using h
 have e:xs.toList[i]=xs[i]:=by simp
 rcases Nat.lt_trichotomy (SetTable.below xs (xs[i]+1)) (i+1) with z | z | z
 ·have q1:=b3 i hl (by omega)
  rw [e] at q1;omega
 ·exact z
 ·have hls:xs.toList.length=xs.size:=by simp
  have h2:i+1<xs.toList.length:=by omega
  have q1:=b2 (i+1) h2 z
  have q2:=zkB hr h2 (XaZ i)
  rw [e] at q2;omega
theorem ziA {xs:Array Nat}(hr:xs.toList.Pairwise (· < ·)):SetTable.below xs 0=0:=by
 obtain ⟨b1,b2,b3⟩:=zd5 (j:=0) hr
 rcases Nat.eq_zero_or_pos (SetTable.below xs 0) with z | z
 ·exact z
 ·have hls:xs.toList.length=xs.size:=by simp
  have h2:0<xs.toList.length:=by omega
  exact absurd (b2 0 h2 z) (Xbu _)
theorem zlu {t:SetTable}(hr:t.place.toList.Pairwise (· < ·)){j:Nat}(h:∀ i,t.slot j≠.live i):j ∉ t.place.toList:=fun hm=>by
 obtain ⟨i,hi,e⟩:=List.getElem_of_mem hm
 have hi':i<t.place.size:=by simpa using hi
 have e':t.place[i]=j:=by simpa using e
 refine h (SetTable.below t.place j) ?_
 unfold SetTable.slot
 dsimp only
 rw [if_pos]
 rw [← e',zk9 hr hi',XaK hi',beq_self_eq_true]
theorem zdw {t:SetTable}{hs:Nat→Int}{h:Int}:∀ (fuel:Nat) (p:SetTable.Probe) (j:Nat) (d:Option Nat),(∀ x,p.dummy=some x→∀ i,t.slot x≠.live i)→SetTable.probe.go t hs h fuel p=some (.empty j d)→(∀ i,t.slot j≠.live i)∧∀ x,d=some x→∀ i,t.slot x≠.live i
 | 0,p,j,d,_,e=>by cases e
 | fuel+1,p,j,d,hd,e=>by
  have adv:∀ q:SetTable.Probe,(t.advance q).dummy=q.dummy:=fun q=>by unfold SetTable.advance;split <;> rfl
  unfold SetTable.probe.go at e
  cases hq:t.slot p.j with
  | empty =>
   rw [hq] at e
   have e:=Option.some.inj e
   injection e with e1 e2
   subst e1 e2
   exact ⟨fun i z=>(by rw [hq] at z;cases z),hd⟩
  | dummy =>
   rw [hq] at e
   refine zdw fuel _ j d (fun x hx i z=>?_) e
   rw [adv] at hx
   have hx:p.j=x:=Option.some.inj hx
   subst hx
   rw [hq] at z;cases z
  | live i =>
   rw [hq] at e
   dsimp only at e
   split at e
   ·cases e
   ·exact zdw fuel _ j d (fun x hx=>hd x (by rw [adv] at hx;exact hx)) e
set_option tactic.hygienic true in
theorem zgq {t:SetTable}(hr:t.place.toList.Pairwise (· < ·)){h:Int}{j:Nat}{b:Bool}(e:t.freeSlot h=some (j,b)):j ∉ t.place.toList:=by
 unfold SetTable.freeSlot at e
 split at e
 ·rename_i j' d hp
  have e:=Option.some.inj e
  injection e with e1 _
  obtain ⟨a1,a2⟩:=zdw _ _ _ _ (fun x hx=>by cases hx) hp
  cases d with
  | none=>rw [← e1];exact zlu hr a1
  | some x=>rw [← e1];exact zlu hr (a2 x rfl)
 ·cases e
theorem zis {xs:Array Nat}(hr:xs.toList.Pairwise (· < ·)){j:Nat}(hj:j ∉ xs.toList):(SetTable.insertAt xs (SetTable.below xs j) j).toList.Pairwise (· < ·):=by
 obtain ⟨b1,b2,b3⟩:=zd5 (j:=j) hr
 rw [SetTable.toList_insertAt,List.pairwise_append]
 refine ⟨hr.sublist (List.take_sublist _ _),List.pairwise_cons.mpr ⟨fun x hx=>?_,hr.sublist (List.drop_sublist _ _)⟩,fun x hx y hy=>?_⟩
 ·obtain ⟨i,hi,rfl⟩:=List.getElem_of_mem hx
  rw [List.getElem_drop]
  rw [Xa4] at hi
  have q:=b3 (SetTable.below xs j+i) (by omega) (by omega)
  exact Nat.lt_of_le_of_ne q fun z=>hj (by rw [z];exact Xbh _)
 ·obtain ⟨i,hi,rfl⟩:=List.getElem_of_mem hx
  rw [List.getElem_take]
  rw [Xa3] at hi
  have q:=b2 i (by omega) (by omega)
  rcases Xao.mp hy with rfl | hy
  ·exact q
  ·obtain ⟨k,hk,rfl⟩:=List.getElem_of_mem hy
   rw [List.getElem_drop]
   rw [Xa4] at hk
   exact Xak q (b3 _ (by omega) (by omega))
theorem zbz (n:Nat):(Array.range n).toList.Pairwise (· < ·):=by
 rw [Array.toList_range]
 exact List.pairwise_lt_range
theorem or_tab {L:Bool}{t:SetTable}(hr:t.place.toList.Pairwise (· < ·))(hl:t.led=L)(n:Nat):(t.orStandIn n).place.toList.Pairwise (· < ·)∧(t.orStandIn n).led=L:=by
 unfold SetTable.orStandIn
 by_cases h:t.fits n=true
 ·rw [if_pos h];exact ⟨hr,hl⟩
 ·rw [if_neg h];exact ⟨zbz n,hl⟩
set_option tactic.hygienic true in
theorem zio {L:Bool}{t:SetTable}{es:Array (Int×Value)}(T:Tab L t es.size)(h:Int)(x:Value):Tab L (layNew t es h x).2.1 (layNew t es h x).1.size:=by
 have ft:=layNew_fits t es h x
 have q:(layNew t es h x).2.1.place.toList.Pairwise (· < ·)∧(layNew t es h x).2.1.led=L:=by
  unfold layNew
  split
  ·rename_i j b e
   exact or_tab (t:=(t.put j).1) (zis T.ris (zgq T.ris e)) T.led _
  ·exact ⟨zbz _,T.led⟩
 exact ⟨ft,q.1,q.2⟩
theorem zeG {mask finger moves:Nat}{led plain:Bool}{hashes:Array Int}{t:SetTable}{o:Array Nat}(e:SetTable.laid mask finger moves led plain hashes=some (t,o)):t.place.toList.Pairwise (· < ·)∧t.led=led:=by
 unfold SetTable.laid at e
 obtain ⟨owner,_,e⟩:=Option.bind_eq_some_iff.mp e
 have e:=Option.some.inj e
 injection e with e1 _
 subst e1
 refine ⟨?_,rfl⟩
 show ((((List.range (mask+1)).filterMap fun j=>(owner.getD j none).map (j,·)).map (·.1)).toArray).toList.Pairwise (· < ·)
 rw [List.map_filterMap,List.toList_toArray]
 refine List.Pairwise.filterMap _ (R:=(· < ·)) (S:=(· < ·)) (fun a a' hl b hb b' hb'=>?_) List.pairwise_lt_range
 ·cases h1:owner.getD a none with
  | none=>rw [h1] at hb;cases hb
  | some u =>
   rw [h1] at hb
   cases h2:owner.getD a' none with
   | none=>rw [h2] at hb';cases hb'
   | some v =>
    rw [h2] at hb'
    have q1:a=b:=Option.some.inj hb
    have q2:a'=b':=Option.some.inj hb'
    omega
set_option tactic.hygienic true in
theorem zi5 {L:Bool}{t:SetTable}{es:Array (Int×Value)}(T:t.led=L)(n:Nat):Tab L (relayAll t es n).2.1 (relayAll t es n).1.size:=by
 refine ⟨relayAll_fits t es n,?_,?_⟩
 ·unfold relayAll
  split
  ·rename_i t' o e
   dsimp only
   split
   ·exact (zeG e).1
   ·exact zbz _
  ·exact zbz _
 ·unfold relayAll
  split
  ·rename_i t' o e
   dsimp only
   split
   ·exact (zeG e).2.trans T
   ·exact T
  ·exact T
def sObj (es:Array (Int×Value))(ep:Nat)(t:SetTable):Obj:={ cls:=.type "set",data:=.set es ep t }
def EOk (e:Int×Value):Prop:=∃ (n:Int) (t:Tok),e=(hashInt n,.int n t)
def eInt (e:Int×Value):Int:=match e.2 with
 | .int n _=>n
 | _=>0
def zjR (l:List (Int×Value)):List Int:=l.map eInt
def SetI (L:Bool)(h:Heap)(a:Addr)(S:List Int):Prop:=∃ es ep t,h.get? a=some (sObj es ep t)∧(∀ e∈es.toList,EOk e)∧(zjR es.toList).Perm S∧S.Nodup∧Tab L t es.size
theorem SetI.at {L:Bool}{h h':Heap}{a:Addr}{S:List Int}(x:SetI L h a S)(e:∀ o,h.get? a=some o→h'.get? a=some o):SetI L h' a S:=by
 obtain ⟨es,ep,t,g,r⟩:=x
 exact ⟨es,ep,t,e _ g,r⟩
theorem zjQ {prog:Program}{w:World}{l:List (Int×Value)}(h:∀ e∈l,EOk e):ElemsOf (intKind prog w) l:=fun e he=>by
 obtain ⟨n,t,rfl⟩:=h e he
 exact ⟨⟨n,intKind_is _ _ _ _,rfl⟩,rfl⟩
theorem zly {prog:Program}{w:World}{e:Int×Value}(h:EOk e)(n:Int):(intKind prog w).is n e.2=decide (n=eInt e):=by
 obtain ⟨m,t,rfl⟩:=h
 show Value.isInt n (.int m t)=decide (n=m)
 unfold Value.isInt
 by_cases e:n=m
 ·subst e;simp
 ·rw [Xai e];simpa using fun z=>e z.symm
section
variable {prog:Program}{w:World}{A:Around}{E:Value→Shared→Prop}{s:Shared}
theorem zlk {h:Heap}{a:Addr}{es es':Array (Int×Value)}{ep:Nat}{t t':SetTable}(g:h.get? a=some (sObj es ep t)):(h.update a (Obj.putSet es' t')).get? a=some (sObj es' (ep+1) t'):=by
 have e:=putSet_of es' t' (show (sObj es ep t).data = .set es ep t from rfl)
 have:=XaJ (Obj.putSet es' t') g (by rw [e];rfl)
 rw [e] at this;exact this
theorem zhV {L:Bool}{g:Bool→Sem Unit}(hg:∀ (b:Bool) (s₁:Shared) (Q':Unit→Shared→Prop),Q' () s₁→wpAny (model prog w) A (g b) Q' E s₁){a:Addr}{es es1:Array (Int×Value)}{ep:Nat}{t t2:SetTable}(ho:s.heap.get? a=some (sObj es ep t))
  (hz:es1.size<scanBound) (T2:Tab L t2 es1.size) {wd:Bool} {R:Option Bool→Shared→Prop}
  (h:∀ h' es' ep' t',Heap.SameBut a s.heap h'→h'.get? a=some (sObj es' ep' t')→es'.toList.Perm es1.toList→Tab L t' es'.size→R (some true) { s with heap:=h' }) :
  wpAny (model prog w) A (do
   storeSet a es1 t2
   if (!wd && t2.tooFull)=true then do
    g (relayAll t2 es1 (SetTable.grown es1.size)).2.2
    storeSet a (relayAll t2 es1 (SetTable.grown es1.size)).1 (relayAll t2 es1 (SetTable.grown es1.size)).2.1
    pure (some true)
   else pure (some true)) R E s:=by
 refine Xaa (wpAny_storeSet_of ho rfl ?_ (fits_of_scanBound hz))
 have g1:=zlk (es':=es1) (t':=t2) ho
 have b1:=Heap.SameBut.update s.heap a (Obj.putSet es1 t2)
 split
 ·have pm:=relayAll_perm t2 es1 (SetTable.grown es1.size)
  have T3:=zi5 (es:=es1) T2.led (SetTable.grown es1.size)
  generalize relayAll t2 es1 (SetTable.grown es1.size)=Y at pm T3 ⊢
  obtain ⟨es2,t3,gv⟩:=Y
  have sz:es2.size=es1.size:=by rw [← Array.length_toList,pm.length_eq,Array.length_toList]
  refine Xaa (hg _ _ _ (Xaa (wpAny_storeSet_of g1 rfl ?_ (fits_of_scanBound (by rw [sz];exact hz)))))
  exact Xac (h _ es2 _ t3 (b1.trans (Heap.SameBut.update _ a _)) (zlk g1) pm T3)
 ·exact Xac (h _ es1 _ t2 b1 g1 .rfl T2)
theorem zl2 {L:Bool}{a:Addr}{S:List Int}{n:Int}{tok:Tok}{Q:Value→Shared→Prop}(hS:SetI L s.heap a S)(hz:S.length<1000)
  (h:∀ h',Heap.SameBut a s.heap h'→SetI L h' a (if n∈S then S else S ++ [n])→Q .none { s with heap:=h',toks:=s.toks+1 }) :
  wpAny (model prog w) A (call (.builtin "set.add") [.ref a,.int n tok]) Q E s:=by
 obtain ⟨es,ep,t,ho,hE,hP,hN,T⟩:=hS
 have hel:=zjQ (prog:=prog) (w:=w) hE
 have hsz:es.size=S.length:=by rw [← Array.length_toList,← hP.length_eq];unfold zjR;rw [Xaf]
 have hb:es.size<scanBound:=XbI (show es.size<1000 by omega) (by decide)
 have hk:(intKind prog w).is n (.int n tok)=true:=intKind_is _ _ _ _
 have hsc:(Value.int n tok).scannable=true:=rfl
 refine XaS F.slot_set_add (show s.TypeIs (.ref a) "set" from ⟨_,ho,rfl⟩) F.entry_set_add ?_ (F.args_set_add_2 _ _)
 unfold Builtin.«set.add» Builtin.Frozenset.oneOther;simp only [List.isEmpty_nil,bind_assoc]
 unfold Builtin.Frozenset.addrOf setAdd;refine Xaa (Xac ?_)
 try dsimp only
 refine Xaa (Xac (Xaa (XaV (Xaa ((intKind prog w).pyHash hk ?_)))))
 generalize hs1:({ s with toks:=s.toks+1 }:Shared)=s1
 have ho1:s1.heap.get? a=some (sObj es ep t):=by rw [← hs1];exact ho
 have fin:∀ (b:Bool) h',Heap.SameBut a s.heap h'→SetI L h' a (if n∈S then S else S ++ [n])→(fun (_:Bool) s'=>wpAny (model prog w) A.in1 (ret Value.none) (fun fin s'=>∃ v,fin = .done (.ret v)∧Q v s') E s') b { s1 with heap:=h' }:=fun b h' hb' x=>by
  have:=h h' hb' x
  rw [← hs1]
  exact Xac ⟨_,rfl,this⟩
 show wpAny (model prog w) A.in1 (setAddHashed a (.int n tok) ((intKind prog w).hash n)) (fun _ s'=>wpAny (model prog w) A.in1 (ret Value.none) (fun fin s'=>∃ v,fin = .done (.ret v)∧Q v s') E s') E s1
 unfold setAddHashed setAddHashedIn;refine XaV (Xaa (Xa9 ho1 rfl T.fits ?_))
 dsimp only
 rw [byScan_of hsc hb hel,if_pos rfl]
 unfold setAddByScan;refine Xaa (Xaa (XbC (Xaa (wpAny_setScan_of hk ho1 rfl T.fits hel ?_))))
 have s1h:s1.heap=s.heap:=by rw [← hs1]
 have mem:n∈S↔∃ e∈es.toList,(intKind prog w).is n e.2=true:=by
  rw [← hP.mem_iff]
  constructor
  ·intro hm
   obtain ⟨e,he,z⟩:=XaC.mp hm
   exact ⟨e,he,by rw [zly (hE e he)];exact Xah z.symm⟩
  ·rintro ⟨e,he,z⟩
   rw [zly (hE e he)] at z
   rw [Xa2 z]
   exact XaC.mpr ⟨e,he,rfl⟩
 cases hr:List.findIdx? (fun e=>(intKind prog w).is n e.2) es.toList with
 | some j =>
  obtain ⟨hj,pj,_⟩:=XbF.mp hr
  have hm:n∈S:=mem.mpr ⟨_,Xbh hj,pj⟩
  refine Xac (Xac ?_)
  have:=fin false s.heap (Heap.SameBut.refl a s.heap) (by rw [if_pos hm];exact ⟨es,ep,t,ho,hE,hP,hN,T⟩)
  rw [← hs1] at this ⊢
  exact this
 | none =>
  have hm:n ∉ S:=fun z=>by
   obtain ⟨e,he,p⟩:=mem.mp z
   have:=List.findIdx?_eq_none_iff.mp hr e he
   rw [p] at this;cases this
  rw [if_neg hm] at fin
  have pm:=layNew_perm t es ((intKind prog w).hash n) (.int n tok)
  have T1:=zio T ((intKind prog w).hash n) (.int n tok)
  generalize layNew t es ((intKind prog w).hash n) (.int n tok)=Y at pm T1 ⊢
  obtain ⟨es1,t1,wd,gv⟩:=Y
  dsimp only at pm T1 ⊢
  rw [Array.toList_push] at pm
  have sz1:es1.size=es.size+1:=by rw [← Array.length_toList,pm.length_eq,Xaq,Array.length_toList];rfl
  have hz1:es1.size<scanBound:=XbI (show es1.size<1001 by omega) (by decide)
  have last:∀ h' es' ep' t',Heap.SameBut a s1.heap h'→h'.get? a=some (sObj es' ep' t')→es'.toList.Perm es1.toList→Tab L t' es'.size→SetI L h' a (S ++ [n]):=fun h' es' ep' t' hb' g' p' T'=>by
   have p2:=p'.trans pm
   refine ⟨es',ep',t',g',fun e he=>?_,?_,?_,T'⟩
   ·rcases XaF.mp (p2.mem_iff.mp he) with z | z
    ·exact hE e z
    ·rw [Xad.mp z];exact ⟨n,tok,rfl⟩
   ·have q:=p2.map eInt
    rw [XaH] at q
    exact q.trans (hP.append_right _)
   ·exact XaO.mpr ⟨hN,XbO.mpr ⟨(fun z=>nomatch z),Xbg⟩,fun x hx y hy z=>hm (by rw [← Xad.mp hy,← z];exact hx)⟩
  refine Xaa (m:=(match gv with | true=>rule "set.scan.the-table-gave-way" | false=>pure ())) ?_
  have hgw:∀ (b:Bool) (s₁:Shared) (Q':Unit→Shared→Prop),Q' () s₁→wpAny (model prog w) A.in1 (match b with | true=>rule "set.scan.the-table-gave-way" | false=>pure ()) Q' E s₁:=fun b s₁ Q' q=>by
   cases b
   ·exact Xac q
   ·exact XbC q
  refine hgw gv _ _ ?_
  have off:Tab L { t1 with plain:=false } es1.size:=⟨SetTable.fits_plain_off T1.fits,T1.ris,T1.led⟩
  split
  ·refine Xaa ?_
   rw [hashByValue_scannable 8 hsc]
   refine Xac (zhV (L:=L) hgw ho1 hz1 ?_ fun h' es' ep' t' hb' g' p' T'=>Xac (fin true h' (by rw [← s1h];exact hb') (last h' es' ep' t' hb' g' p' T')))
   split
   ·exact T1
   ·exact off
  ·refine Xaa (Xac ?_)
   rw [if_pos rfl]
   exact zhV (L:=L) hgw ho1 hz1 T1 fun h' es' ep' t' hb' g' p' T'=>Xac (fin true h' (by rw [← s1h];exact hb') (last h' es' ep' t' hb' g' p' T'))
end
theorem slot_si_next:Slot "set_iterator" "__next__" "set_iterator.__next__" :=
 .of (owner := "set_iterator") (n := "__next__") (by rw [typeLookup_type,builtinLookup_eq_fast];kernel_rfl) (by decide +kernel) (by decide +kernel) (by decide +kernel) (by first | exact .inl (by decide +kernel) | exact .inr (by decide +kernel)) (by rw [isSubtype_type];kernel_rfl)
theorem zc9:entryFor table "set_iterator.__next__" = some Builtin.«set_iterator.__next__»:=entryFor_of_tree (by kernel_rfl)
theorem zhG:Manifest.owners.lookup (String.ofList ['r','o','t','a','r','e','t','i','_','t','e','s'].reverse)=some Manifest.sig_set_iterator:=by kernel_rfl
theorem zdK (a:Value):argsOk "set_iterator.__next__" ⟨[a],[]⟩:=by
 unfold argsOk;rw [signature?_of (id := "set_iterator.__next__") (n:=['_','_','t','x','e','n','_','_']) (o:=['r','o','t','a','r','e','t','i','_','t','e','s']) (by kernel_rfl) zhG];kernel_rfl
theorem zgt:entryFor table "set.__iter__" = some Builtin.«frozenset.__iter__»:=entryFor_alias (id' := "frozenset.__iter__") (by kernel_rfl) rfl (by decide +kernel) (by kernel_rfl)
theorem zdD {α:Type}:∀ {l:List α} {i:Nat} (h:i<l.length),(l[i] :: l.eraseIdx i).Perm l
 | a :: l,0,h=>.rfl
 | a :: l,i+1,h=>(List.Perm.swap _ _ _).trans ((zdD (l:=l) (i:=i) (by simpa using h)).cons a)
theorem zjf {α:Type}(next:Nat→Nat):∀ (fuel k:Nat) (left:List α) (out:Array α),left.length=fuel→(pickOrder.go next fuel k left out).toList.Perm (out.toList ++ left)
 | 0,k,left,out,h=>by rw [List.eq_nil_of_length_eq_zero h,Xbm];exact .rfl
 | fuel+1,k,left,out,h=>by
  have hl:next k % left.length<left.length:=Nat.mod_lt _ (by omega)
  unfold pickOrder.go
  rw [Xav hl]
  dsimp only
  refine (zjf next fuel (k+1) _ _ (by rw [List.length_eraseIdx_of_lt hl];omega)).trans ?_
  rw [Array.toList_push,List.append_assoc]
  exact (List.Perm.refl _).append (zdD hl)
theorem zje {α:Type}(next:Nat→Nat)(xs:Array α):(pickOrder next xs).toList.Perm xs.toList:=by
 have:=zjf next xs.size 0 xs.toList #[] (by simp)
 simpa [pickOrder] using this
section
variable {prog:Program}{w:World}{A:Around}{E:Value→Shared→Prop}{s:Shared}
theorem ziC {src:Source}{n:Nat}{Q:Nat→Shared→Prop}(hn:n≠0)(h:∀ i d,i<n→Q i { s with drawn:=d }):wpAny (model prog w) A (choose src n) Q E s:=fun Γ p _ =>
 ⟨hn,h _ _ (Nat.mod_lt _ (Nat.pos_of_ne_zero hn))⟩
theorem ze8 {α:Type}:∀ (n:Nat) (xs:List α) (s:Shared) (Q:List α→Shared→Prop),xs.length=n→(∀ ys d,ys.Perm xs→Q ys { s with drawn:=d })→wpAny (model prog w) A (drawOrder n xs) Q E s
 | 0,xs,s,Q,h,q=>by
  unfold drawOrder
  exact Xac (by have:=q [] s.drawn (by rw [List.eq_nil_of_length_eq_zero h]);exact this)
 | n+1,[],s,Q,h,q=>by cases h
 | n+1,x :: xs,s,Q,h,q=>by
  unfold drawOrder
  refine Xaa (ziC (by simp) fun i d hi=>?_)
  rw [Xav hi]
  dsimp only
  refine Xaa (ze8 n _ _ _ (by rw [List.length_eraseIdx_of_lt hi];simp at h ⊢;exact h) fun ys d' p=>Xac (q _ d' ?_))
  exact (List.Perm.cons _ p).trans (zdD hi)
def ziE (w:World)(a:Addr)(es:Array (Int×Value))(ep:Nat)(t:SetTable)(vs:List Value)(h:Heap)(i:Nat)(first:Value):Prop:=
 (w.params.followText "set-order" = true∧(∃ k:Nat,first = .int (k:Int) 0)∧vs=(pickOrder (w.params.setOrder a ep) es).toList.map (·.2)) ∨
 (w.params.followText "set-order" = false∧(!t.plain && decide (es.size > 1))=false∧t.led=true∧(∃ k:Nat,first = .int (k:Int) 0∧SetTable.below t.place k=i)∧vs=es.toList.map (·.2)) ∨
 (w.params.followText "set-order" = false∧∃ (T:Addr) (ps:List Nat),first = .ref T∧h.get? T=some { cls:=.type "tuple",data:=.seq (ps.map fun (p:Nat)=>Value.int (p:Int) 0).toArray }∧ps.length=es.size∧(∀ p∈ps,p<es.size)∧vs=ps.map fun p=>((es[p]?).getD (0,.none)).2)
end
def siO (first:Value)(i:Int)(a:Value)(n:Int)(ep:Int):Obj:={ cls:=.type "set_iterator",data:=.fields #[first,.int i 0,a,.int n 0,.int ep 0] }
section
variable {prog:Program}{w:World}{A:Around}{E:Value→Shared→Prop}{s:Shared}
theorem zeX {h:Heap}{I:Addr}{vs:Array Value}{j:Nat}{x:Value}(hI:h.get? I=some { cls:=.type "set_iterator",data:=.fields vs }):(h.update I (Obj.mapFields (·.setIfInBounds j x))).get? I=some { cls:=.type "set_iterator",data:=.fields (vs.setIfInBounds j x) }:=by
 have:=XaJ (Obj.mapFields (·.setIfInBounds j x)) hI rfl
 exact this
theorem zlZ {I a:Addr}{es:Array (Int×Value)}{ep i:Nat}{t:SetTable}{vs:List Value}{first x:Value}{Q:Option Value→Shared→Prop}(hI:s.heap.get? I=some (siO first (i:Int) (.ref a) (es.size:Int) (ep:Int)))(ha:s.heap.get? a=some (sObj es ep t))(hf:t.fits es.size=true)(hr:t.place.toList.Pairwise (· < ·))
  (m:ziE w a es ep t vs s.heap i first) (hx:vs[i]? = some x)
  (hq:∀ h' first',Heap.SameBut I s.heap h'→h'.get? I=some (siO first' ((i+1:Nat):Int) (.ref a) (es.size:Int) (ep:Int))→ziE w a es ep t vs h' (i+1) first'→(∀ T:Addr,first' = .ref T→first = .ref T)→Q (some x) { s with heap:=h' }):wpAny (model prog w) A (pyNext (.ref I)) Q E s:=by
 have hT:s.TypeIs (.ref I) "set_iterator" := ⟨_,hI,rfl⟩
 have ps:t.place.size=es.size:=by
  have:=hf;unfold SetTable.fits at this
  exact beq_iff_eq.mp (Bool.and_eq_true_iff.mp this).1
 unfold pyNext
 refine Xaa (wpAny_attempt (wpAny_callSpecial?_slot (name:=Str.ofString "__next__") hT slot_si_next (XaS slot_si_next hT zc9 ?_ (zdK _))))
 delta Builtin.«set_iterator.__next__»
 refine Xaa (m:=slotArgs "__next__" 0 _) (Xac ?_)
 dsimp only
 refine Xaa (wpAny_fieldsOf hI rfl ?_)
 show wpAny _ _ (setEntries a >>= _) _ _ s
 refine Xaa (wpAny_setEntries_of ha rfl hf ?_)
 rw [if_neg (by simp)]
 have far:∀ {T:Addr} {o:Obj},s.heap.get? T=some o→o.cls = .type "tuple" → T≠I:=fun {T o} e c z=>by rw [z,hI] at e;cases e;exact absurd (show ("set_iterator" : String) = "tuple" by injection c) (by decide)
 rcases m with ⟨bt,⟨k,rfl⟩,ev⟩ | ⟨bt,dr,led,⟨k,rfl,bk⟩,ev⟩ | ⟨bt,T,pl,rfl,eT,hl,hp,ev⟩
 ·
  show wpAny _ _ (setNext a (k:Int).toNat (i:Int).toNat (ep:Int).toNat >>= _) _ _ s
  rw [Xap,Xap,Xap]
  unfold setNext setsByText setWalk
  refine Xaa (Xaa (Xa9 ha rfl hf ?_))
  refine Xaa (Xaa (Xa0 (Xac ?_)))
  rw [show (model prog w).w.params.followText "set-order" = true from bt,if_pos rfl,show (ep != ep)=false by simp,if_neg Xam]
  refine Xaa (Xaa (Xa9 ha rfl hf ?_))
  unfold setsByText
  refine Xaa (Xaa (Xa0 (Xac ?_)))
  rw [show (model prog w).w.params.followText "set-order" = true from bt,if_pos rfl]
  refine Xaa (Xa0 (Xac (Xac ?_)))
  have e1:(pickOrder ((model prog w).w.params.setOrder a ep) es)[i]?.map (fun e=>(e.2,k))=some (x,k):=by
   rw [ev,Xat,Xbk] at hx
   obtain ⟨e,h1,h2⟩:=XaE.mp hx
   show (pickOrder (w.params.setOrder a ep) es)[i]?.map _=_
   rw [h1,← h2];rfl
  rw [e1]
  refine Xaa (XaX hI rfl (by simp) ?_)
  have h1:=zeX (j:=0) (x:=.int (k:Int) 0) hI
  refine Xaa (XaX h1 rfl (by simp) ?_)
  have h2:=zeX (j:=1) (x:=.int ((i:Int)+1) 0) h1
  refine Xac ⟨_,rfl,?_⟩
  refine Xac (hq _ (.int (k:Int) 0) ((Heap.SameBut.update _ _ _).trans (Heap.SameBut.update _ _ _)) h2 (.inl ⟨bt,⟨k,rfl⟩,ev⟩) fun T z=>by cases z)
 ·
  have hi:i<es.size:=by
   have:=(Xag.mp hx).1
   rw [ev,Xaf] at this;simpa using this
  have hip:i<t.place.size:=by omega
  show wpAny _ _ (setNext a (k:Int).toNat (i:Int).toNat (ep:Int).toNat >>= _) _ _ s
  rw [Xap,Xap,Xap]
  unfold setNext setsByText
  refine Xaa (Xaa (Xa9 ha rfl hf ?_))
  refine Xaa (Xaa (Xa0 (Xac ?_)))
  rw [show (model prog w).w.params.followText "set-order" = false from bt,if_neg Xam]
  rw (transparency:=.default) [if_neg (fun z=>Xam (dr.symm.trans z))]
  refine Xaa ?_
  show wpAny _ _ (if (!t.led && !es.isEmpty)=true then (unsupported "set:maker-not-led" : Sem Unit) else pure ()) _ _ s
  rw [if_neg (by rw [led];exact Xam)]
  refine Xac (Xac ?_)
  have e1:es[i]? = some (es[i].1,x):=by
   rw [ev,Xat,Xbk,XaK hi] at hx
   rw [XaK hi,← Option.some.inj hx]
  rw [bk,e1,XaK hip]
  refine Xaa (XaX hI rfl (by simp) ?_)
  have h1:=zeX (j:=0) (x:=.int ((t.place[i]+1:Nat):Int) 0) hI
  refine Xaa (XaX h1 rfl (by simp) ?_)
  have h2:=zeX (j:=1) (x:=.int ((i:Int)+1) 0) h1
  refine Xac ⟨_,rfl,?_⟩
  refine Xac (hq _ (.int ((t.place[i]+1:Nat):Int) 0) ((Heap.SameBut.update _ _ _).trans (Heap.SameBut.update _ _ _)) h2 (.inr (.inl ⟨bt,dr,led,⟨t.place[i]+1,rfl,ziB hr hip⟩,ev⟩)) fun T z=>by cases z)
 ·
  have hip:i<pl.length:=by
   have:=(Xag.mp hx).1
   rw [ev,Xaf] at this;exact this
  have hpi:pl[i]<es.size:=hp _ (Xbh hip)
  show wpAny _ _ (seqItems? (.ref T) >>= _) _ _ s
  refine Xaa (Xbf eT rfl ?_)
  dsimp only
  rw [Xap,List.getElem?_toArray,Xat,Xav hip]
  show wpAny _ _ (setNextDrawn a ((pl[i]:Nat):Int).toNat (ep:Int).toNat >>= _) _ _ s
  rw [Xap,Xap]
  unfold setNextDrawn
  refine Xaa (Xaa (Xa9 ha rfl hf ?_))
  dsimp only
  rw [show (ep != ep)=false by simp,if_neg Xam]
  have e1:es[pl[i]]? = some (es[pl[i]].1,x):=by
   rw [ev,Xat,Xav hip,Option.map_some,XaK hpi] at hx
   rw [XaK hpi,← Option.some.inj hx];rfl
  rw [e1]
  refine Xac ?_
  refine Xaa (XaX hI rfl (by simp) ?_)
  have h1:=zeX (j:=1) (x:=.int ((i:Int)+1) 0) hI
  refine Xac ⟨_,rfl,?_⟩
  refine Xac (hq _ (.ref T) (Heap.SameBut.update _ _ _) h1 (.inr (.inr ⟨bt,T,pl,rfl,?_,hl,hp,ev⟩)) fun T' z=>z)
  exact (Heap.SameBut.update s.heap I _).extBut T _ (far eT rfl) eT
end
theorem zdG:Slot "set_iterator" "__iter__" "set_iterator.__iter__" :=
 .of (owner := "set_iterator") (n := "__iter__") (by rw [typeLookup_type,builtinLookup_eq_fast];kernel_rfl) (by decide +kernel) (by decide +kernel) (by decide +kernel) (by first | exact .inl (by decide +kernel) | exact .inr (by decide +kernel)) (by rw [isSubtype_type];kernel_rfl)
theorem zfJ:entryFor table "set_iterator.__iter__" = some Builtin.«dict_keyiterator.__iter__»:=entryFor_alias (id' := "dict_keyiterator.__iter__") (by kernel_rfl) rfl (by decide +kernel) (by kernel_rfl)
theorem zgG (a:Value):argsOk "set_iterator.__iter__" ⟨[a],[]⟩:=by
 unfold argsOk;rw [signature?_of (id := "set_iterator.__iter__") (n:=['_','_','r','e','t','i','_','_']) (o:=['r','o','t','a','r','e','t','i','_','t','e','s']) (by kernel_rfl) zhG];kernel_rfl
section
variable {prog:Program}{w:World}{A:Around}{E:Value→Shared→Prop}{s:Shared}
theorem zgO {α:Type}{Q:α→Shared→Prop}(hh:A.handled=none)(q:∀ e,(∃ o,(s.heap.push (seqObj "tuple" #[] 0)).push o=(s.heap.push (seqObj "tuple" #[] 0)).push o)→∀ h',Heap.ExtBut s.heap.objs.size s.heap h'→(∀ b o,s.heap.get? b=some o→h'.get? b=some o)→(∃ o,h'.get? e=some o∧o.cls = .type "StopIteration")→E (.ref e) { s with heap:=h' }) :
  wpAny (model prog w) A (do raiseNew (← newExc (.type "StopIteration") [])) Q E s:=by
 refine Xaa ?_;simp only [newExc,newTuple];refine Xaa (XaL ?_ (by size_fits))
 refine Xaa (m:=firstArgMember _ _) (wpAny_of_eq (a:=Value.none) (by first | rfl | (simp only [firstArgMember];rfl)) ?_);refine XaL ?_ (by size_fits)
 simp only [raiseNew];refine Xaa (wpAny_handled ?_);rw [hh];refine Xaa (Xac (wpAny_throw ?_))
 refine q _ ⟨default,rfl⟩ _ (fun b o _ e=>Xab _ (Xab _ e)) (fun b o e=>Xab _ (Xab _ e)) ⟨_,Xaj _ rfl,rfl⟩
theorem zl0 {I a:Addr}{es:Array (Int×Value)}{ep:Nat}{t:SetTable}{vs:List Value}{first:Value}{Q:Option Value→Shared→Prop}(hh:A.handled=none)(hI:s.heap.get? I=some (siO first (vs.length:Int) (.ref a) (es.size:Int) (ep:Int)))(ha:s.heap.get? a=some (sObj es ep t))(hf:t.fits es.size=true)(hr:t.place.toList.Pairwise (· < ·))
  (m:ziE w a es ep t vs s.heap vs.length first)
  (hq:∀ h',Heap.ExtBut I s.heap h'→Q none { s with heap:=h' }):wpAny (model prog w) A (pyNext (.ref I)) Q E s:=by
 have hT:s.TypeIs (.ref I) "set_iterator" := ⟨_,hI,rfl⟩
 unfold pyNext
 refine Xaa (wpAny_attempt (wpAny_callSpecial?_slot (name:=Str.ofString "__next__") hT slot_si_next (XaS slot_si_next hT zc9 ?_ (zdK _))))
 delta Builtin.«set_iterator.__next__»
 refine Xaa (m:=slotArgs "__next__" 0 _) (Xac ?_)
 dsimp only
 refine Xaa (wpAny_fieldsOf hI rfl ?_)
 show wpAny _ _ (setEntries a >>= _) _ _ s
 refine Xaa (wpAny_setEntries_of ha rfl hf ?_)
 rw [if_neg (by simp)]
 
 have last:∀ {Q':PySem.Fin→Shared→Prop} (h1:Heap),Heap.SameBut I s.heap h1→wpAny (model prog w) A.in1 (do raiseNew (← newExc (.type "StopIteration") [])) Q' (fun e s'=>wpAny (model prog w) A (do let __do_lift ← isInstance e (Value.type "StopIteration");if __do_lift=true then pure none else throw e) Q E s') { s with heap:=h1 }:=fun {Q'} h1 b1=>by
  refine zgO hh fun e _ h' _ k he=>?_
  obtain ⟨o,ho,hcl⟩:=he
  refine Xaa (wpAny_isInstance (T := "StopIteration") (b:=true) ⟨o,ho,hcl⟩ isSubtype_stop ?_)
  exact Xac (hq h' fun b o hb e=>k b o (b1.extBut b o hb e))
 rcases m with ⟨bt,⟨k,rfl⟩,ev⟩ | ⟨bt,dr,led,⟨k,rfl,bk⟩,ev⟩ | ⟨bt,T,pl,rfl,eT,hl,hp,ev⟩
 ·show wpAny _ _ (setNext a (k:Int).toNat (vs.length:Int).toNat (ep:Int).toNat >>= _) _ _ s
  rw [Xap,Xap,Xap]
  unfold setNext setsByText setWalk
  refine Xaa (Xaa (Xa9 ha rfl hf ?_))
  refine Xaa (Xaa (Xa0 (Xac ?_)))
  rw [show (model prog w).w.params.followText "set-order" = true from bt,if_pos rfl,show (ep != ep)=false by simp,if_neg Xam]
  refine Xaa (Xaa (Xa9 ha rfl hf ?_))
  unfold setsByText
  refine Xaa (Xaa (Xa0 (Xac ?_)))
  rw [show (model prog w).w.params.followText "set-order" = true from bt,if_pos rfl]
  refine Xaa (Xa0 (Xac (Xac ?_)))
  have e1:(pickOrder ((model prog w).w.params.setOrder a ep) es)[vs.length]? = none:=by
   rw [← Xbk,XaD]
   rw [ev,Xaf];exact Xae _
  rw [e1]
  refine Xaa (XaX hI rfl (by simp) ?_)
  exact last _ (Heap.SameBut.update _ _ _)
 ·show wpAny _ _ (setNext a (k:Int).toNat (vs.length:Int).toNat (ep:Int).toNat >>= _) _ _ s
  rw [Xap,Xap,Xap]
  unfold setNext setsByText
  refine Xaa (Xaa (Xa9 ha rfl hf ?_))
  refine Xaa (Xaa (Xa0 (Xac ?_)))
  rw [show (model prog w).w.params.followText "set-order" = false from bt,if_neg Xam]
  rw (transparency:=.default) [if_neg (fun z=>Xam (dr.symm.trans z))]
  refine Xaa ?_
  show wpAny _ _ (if (!t.led && !es.isEmpty)=true then (unsupported "set:maker-not-led" : Sem Unit) else pure ()) _ _ s
  rw [if_neg (by rw [led];exact Xam)]
  refine Xac (Xac ?_)
  have e1:es[vs.length]? = none:=by
   rw [← Xbk,XaD]
   rw [ev,Xaf];exact Xae _
  rw [bk,e1]
  refine Xaa (XaX hI rfl (by simp) ?_)
  exact last _ (Heap.SameBut.update _ _ _)
 ·show wpAny _ _ (seqItems? (.ref T) >>= _) _ _ s
  refine Xaa (Xbf eT rfl ?_)
  dsimp only
  have e1:(pl.map fun (p:Nat)=>Value.int (p:Int) 0).toArray[vs.length]? = none:=by
   rw [List.getElem?_toArray,XaD]
   rw [ev,Xaf,Xaf];exact Xae _
  rw [Xap,e1]
  refine Xaa (XaX hI rfl (by simp) ?_)
  have h1:=zeX (j:=0) (x:=.int 0 0) hI
  refine Xaa (XaX h1 rfl (by simp) ?_)
  exact last _ ((Heap.SameBut.update _ _ _).trans (Heap.SameBut.update _ _ _))
theorem zks {I a:Addr}{es:Array (Int×Value)}{ep:Nat}{t:SetTable}{vs:List Value}{fp:List Addr}(hh:A.handled=none)(hf:t.fits es.size=true)(hr:t.place.toList.Pairwise (· < ·))(hIa:I≠a)(hI:I∈fp)(ha:a∈fp) :
  Walks prog w A I fp [I] vs.length (fun i v=>vs[i]? = some v) (fun i h=>∃ first,h.get? I=some (siO first (i:Int) (.ref a) (es.size:Int) (ep:Int))∧h.get? a=some (sObj es ep t)∧ziE w a es ep t vs h i first∧∀ T:Addr,first = .ref T→T∈fp) where
 sub:=fun b hb=>by rw [Xad.mp hb];exact hI
 frame:=fun i h h' ⟨first,e1,e2,m,m2⟩ k=>by
  refine ⟨first,k I hI _ e1,k a ha _ e2,?_,m2⟩
  rcases m with z | z | ⟨bt,T,pl,ef,eT,r⟩
  ·exact .inl z
  ·exact .inr (.inl z)
  ·exact .inr (.inr ⟨bt,T,pl,ef,k T (m2 T ef) _ eT,r⟩)
 item:=fun i s Q E hi ⟨first,e1,e2,m,m2⟩ q=>by
  have hx:vs[i]? = some vs[i]:=Xav hi
  refine zlZ e1 e2 hf hr m hx fun h' first' b g m' mt=>?_
  have:=q vs[i] h' s.toks hx ⟨first',g,b.extBut a _ (Ne.symm hIa) e2,m',?_⟩ fun b' o hb' e=>b.extBut b' o (fun z=>hb' (by rw [z];exact Xad.mpr rfl)) e
  ·exact this
  ·exact fun T z=>m2 T (mt T z)
 done:=fun s Q E ⟨first,e1,e2,m,m2⟩ q=>zl0 hh e1 e2 hf hr m fun h' k=>q h' s.toks fun b o hb e=>k b o (fun z=>hb (by rw [z];exact Xad.mpr rfl)) e
 self:=fun i s Q E ⟨first,e1,e2,m,m2⟩ q=>by
  have hT:s.TypeIs (.ref I) "set_iterator" := ⟨_,e1,rfl⟩
  refine wpAny_pyIter_slot hT zdG (XaS zdG hT zfJ ?_ (zgG _))
  delta Builtin.«dict_keyiterator.__iter__»
  refine Xaa (m:=slotArgs "__iter__" 0 _) (Xac ?_)
  exact Xac ⟨_,rfl,"set_iterator",_,hT,slot_si_next.lookup,q⟩
end
section
variable {prog:Program}{w:World}{A:Around}{E:Value→Shared→Prop}{s:Shared}
theorem zh4 (es:Array (Int×Value)):(List.range es.size).map (fun p=>((es[p]?).getD (0,.none)).2)=es.toList.map (·.2):=by
 apply List.ext_getElem
 ·simp
 ·intro i h1 h2
  have hi:i<es.size:=by simpa using h1
  simp [XaK hi]
theorem zku {a:Addr}{es:Array (Int×Value)}{ep:Nat}{t:SetTable}{Q:Value→Shared→Prop}(ha:s.heap.get? a=some (sObj es ep t))(Tb:Tab (!w.params.followText "set-order") t es.size)(hz:es.size≤sizeLine)
  (q:∀ (h':Heap) (d:Drawn) (I:Addr) (first:Value) (vs:List Value),(∀ b o,s.heap.get? b=some o→h'.get? b=some o)→h'.get? I=some (siO first 0 (.ref a) (es.size:Int) (ep:Int))→ziE w a es ep t vs h' 0 first→vs.Perm (es.toList.map (·.2))→s.heap.objs.size≤I→I<h'.objs.size→(∀ T:Addr,first = .ref T→s.heap.objs.size≤T∧T<h'.objs.size)→Q (.ref I) { s with heap:=h',drawn:=d }) :
  wpAny (model prog w) A (pyIter (.ref a)) Q E s:=by
 have hT:s.TypeIs (.ref a) "set" := ⟨_,ha,rfl⟩
 refine wpAny_pyIter_slot hT F.slot_set_iter (XaS F.slot_set_iter hT zgt ?_ (F.args_set_iter_1 _))
 delta Builtin.«frozenset.__iter__»
 unfold Builtin.Frozenset.slot0
 refine Xaa (Xaa (m:=slotArgs "__iter__" 0 _) (Xac ?_))
 unfold Builtin.Frozenset.addrOf
 refine Xac ?_
 dsimp only
 unfold Builtin.Frozenset.sizeOf
 refine Xaa (Xaa (wpAny_setEntries_of ha rfl Tb.fits (Xac ?_)))
 unfold setDrawn setsByText
 refine Xaa (Xaa (Xa9 ha rfl Tb.fits ?_))
 refine Xaa (Xaa (Xa0 (Xac (Xac ?_))))
 rw [show (model prog w).w.params.followText "set-order" = w.params.followText "set-order" from rfl]
 have fin:∀ (s1:Shared) (first:Value),s1.heap.get? a=some (sObj es ep t)→(Q (.ref s1.heap.objs.size) { s1 with heap:=s1.heap.push (siO first 0 (.ref a) (es.size:Int) (ep:Int)) }) →
   wpAny (model prog w) A.in1 (do let __do_lift ← setEpoch a;let __do_lift ← newFields "set_iterator" [first,rawInt 0,.ref a,rawInt (es.size:Int),rawInt (__do_lift:Int)];ret __do_lift) (fun fin s'=>∃ v,fin = .done (.ret v)∧∃ T' r,s'.TypeIs v T'∧typeLookup (.type T') (Str.ofString "__next__")=pure (some r)∧Q v s') E s1:=fun s1 first h1 hq=>by
  refine Xaa (wpAny_setEpoch_of h1 rfl Tb.fits ?_)
  refine Xaa (XaL ?_)
  exact Xac ⟨_,rfl,"set_iterator",_,⟨_,Xaj _ rfl,rfl⟩,slot_si_next.lookup,hq⟩
 have plain:∀ vs:List Value,ziE w a es ep t vs (s.heap.push (siO (.int 0 0) 0 (.ref a) (es.size:Int) (ep:Int))) 0 (.int 0 0)→vs.Perm (es.toList.map (·.2))→Q (.ref s.heap.objs.size) { s with heap:=s.heap.push (siO (.int 0 0) 0 (.ref a) (es.size:Int) (ep:Int)) }:=fun vs m p =>
  q _ s.drawn s.heap.objs.size (.int 0 0) vs (fun b o e=>Xab _ e) (Xaj _ rfl) m p (Xae _) (by rw [XaI];exact XaZ _) (fun T z=>by cases z)
 cases bt:w.params.followText "set-order" with
 | true =>
  rw (transparency:=.default) [if_neg (show ¬ (!true && (!t.plain && decide (es.size > 1)))=true from Xam)]
  refine Xaa (Xac (fin s (rawInt 0) ha (plain _ (.inl ⟨bt,⟨0,rfl⟩,rfl⟩) ((zje _ es).map _))))
 | false =>
  have led:t.led=true:=by have:=Tb.led;rw [bt] at this;exact this
  cases hd:(!t.plain && decide (es.size > 1)) with
  | false =>
   rw (transparency:=.default) [if_neg (show ¬ (!false && (!t.plain && decide (es.size > 1)))=true by rw [hd];exact Xam)]
   refine Xaa (Xac (fin s (rawInt 0) ha (plain _ (.inr (.inl ⟨bt,hd,led,⟨0,rfl,ziA Tb.ris⟩,rfl⟩)) .rfl)))
  | true =>
   rw (transparency:=.default) [if_pos (show (!false && (!t.plain && decide (es.size > 1)))=true by rw [hd];rfl)]
   refine Xaa (ze8 es.size (List.range es.size) s _ (by simp) fun ps d pp=>?_)
   refine Xaa (wpAny_newTuple ?_ ?_)
   ·refine fin { s with heap:=s.heap.push { cls:=.type "tuple",data:=.seq (ps.map fun (i:Nat)=>rawInt (i:Int)).toArray },drawn:=d } (.ref s.heap.objs.size) (Xab _ ha) ?_
    have hps:∀ p∈ps,p<es.size:=fun p hp=>List.mem_range.mp (pp.mem_iff.mp hp)
    refine q _ d _ (.ref s.heap.objs.size) (ps.map fun p=>((es[p]?).getD (0,.none)).2) (fun b o e=>Xab _ (Xab _ e)) (Xaj _ rfl) (.inr (.inr ⟨bt,s.heap.objs.size,ps,rfl,Xab _ (Xaj _ rfl),by rw [pp.length_eq,List.length_range],hps,rfl⟩)) ?_ ?_ ?_ ?_
    ·rw [← zh4];exact pp.map _
    ·show s.heap.objs.size≤(s.heap.push _).objs.size
     rw [XaI];exact Xbq _
    ·show (s.heap.push _).objs.size<((s.heap.push _).push _).objs.size
     simp only [XaI];exact XaZ _
    ·intro T z
     cases z
     refine ⟨Xae _,?_⟩
     show s.heap.objs.size<((s.heap.push _).push _).objs.size
     simp only [XaI];exact Nat.lt_succ_of_lt (XaZ _)
   ·rw [Xaf,pp.length_eq,List.length_range];exact hz
def fpOf:Value→List Addr
 | .ref T=>[T]
 | _=>[]
theorem zfi:typeLookup (.type "set") (Str.ofString "__len__")=pure (some (.builtin "set.__len__")):=F.slot_set_len.lookup
theorem zkv {a:Addr}(hT:s.TypeIs (.ref a) "set"){Q:Bool→Shared→Prop}(h:Q false s):wpAny (model prog w) A (Builtin.List.listLengthHint (.ref a)) Q E s:=by
 unfold Builtin.List.listLengthHint;refine Xaa (wpAny_specialOf hT zfi ?_)
 generalize hid:("set.__len__" : String)=id1;wp_delta
 rw [show splitId id1=some ("set","__len__") from by subst hid;decide +kernel];subst hid
 refine Xaa (wpAny_isInstance (T := "set") (b:=true) hT (by rw [isSubtype_type];kernel_rfl) ?_);refine wpAny_ite_split (fun z=>absurd z (by decide)) (fun _=>?_)
 refine wpAny_ite_split (fun _=>?_) (fun z=>absurd (by decide +kernel) z);exact Xaa (wpAny_typeOf hT (Xac h))
theorem zlO {es:List (Int×Value)}(h:∀ e∈es,EOk e):∀ {vs:List Value},vs.Perm (es.map (·.2))→∃ ns,IntsAre vs ns∧ns.Perm (zjR es):=fun {vs} p=>by
 have vI:∀ v∈vs,∃ n t,v=Value.int n t:=fun v hv=>by
  obtain ⟨e,he,rfl⟩:=XaC.mp (p.mem_iff.mp hv)
  obtain ⟨n,t,rfl⟩:=h e he
  exact ⟨n,t,rfl⟩
 have g:∀ l:List Value,(∀ v∈l,∃ n t,v=Value.int n t)→IntsAre l (l.map fun v=>eInt (0,v)):=fun l=>by
  induction l with
  | nil=>exact fun _=>.nil
  | cons v l ih =>
   intro hl
   obtain ⟨n,t,rfl⟩:=hl v (XaB ..)
   exact .cons _ _ (ih fun v hv=>hl v (Xax _ hv))
 refine ⟨vs.map fun v=>eInt (0,v),g vs vI,?_⟩
 have q:=p.map fun v=>eInt (0,v)
 rw [Xa7] at q
 exact q
theorem zgR {a:Addr}{S:List Int}{R:List Value→Shared→Prop}(hh:A.handled=none)(hS:SetI (!w.params.followText "set-order") s.heap a S)(hz:S.length<1000)
  (h:∀ (h':Heap) (tk:Nat) (d:Drawn) (ns:List Int) (vs:List Value),(∀ b o,s.heap.get? b=some o→h'.get? b=some o)→IntsAre vs ns→ns.Perm S→R vs { s with heap:=h',toks:=tk,drawn:=d }) :
  wpAny (model prog w) A (collect (.ref a)) R E s:=by
 obtain ⟨es,ep,t,ha,hE,hP,hN,Tb⟩:=hS
 have hsz:es.size=S.length:=by rw [← Array.length_toList,← hP.length_eq];unfold zjR;rw [Xaf]
 have hzl:es.size≤sizeLine:=Xar (show es.size≤1000 by omega) (by decide)
 have hal:a<s.heap.objs.size:=Xal ha
 unfold collect
 refine Xaa (wpAny_runValue (codeAny_builtin F.entry_proto_collect ?_));rw [Around.under_plainId F.plain_proto_collect _]
 show wpAny _ A.in1 (newList [] >>= fun l=>again (.builtin "list.__iadd__" ⟨[l,.ref a],[]⟩)) _ _ s;refine Xaa (XaL ?_)
 refine Xac ⟨plainId_quiet F.plain_list_iadd _,codeAny_builtin F.entry_list_iadd ?_⟩;rw [Around.under_plainId F.plain_list_iadd _]
 generalize hD:s.heap.objs.size=D
 have hg:s.heap.push { cls:=.type "list",data:=.seq ([]:List Value).toArray }=s.heap.push (seqObj "list" #[] 0):=rfl
 generalize hh1:s.heap.push { cls:=.type "list",dict:=none,data:=.seq ([]:List Value).toArray }=h1
 have k1:∀ b o,s.heap.get? b=some o→h1.get? b=some o:=fun b o e=>by rw [← hh1];exact Xab _ e
 have eD:h1.get? D=some { cls:=.type "list",data:=.seq #[] }:=by rw [← hh1,← hD];exact Xaj _ rfl
 have sz1:h1.objs.size=D+1:=by rw [← hh1,XaI,hD]
 have ha1:=k1 _ _ ha
 show wpAny _ A.in1 (Builtin.List.listExtendWith (.ref D) (.ref a) (.ref D)) _ _ { s with heap:=h1 }
 unfold Builtin.List.listExtendWith
 refine Xaa (wpAny_typeOf (show Shared.TypeIs { s with heap:=h1 } (.ref a) "set" from ⟨_,ha1,rfl⟩) ?_)
 have ns:Builtin.List.listSameRef (.ref D) (.ref a)=false:=by
  have hne:D≠a:=by rw [← hD];exact Xbr hal
  simp [Builtin.List.listSameRef,hne]
 rw [if_neg (by rw [ns];decide)]
 refine Xaa (zku (s:={ s with heap:=h1 }) ha1 Tb hzl fun h2 d I first vs k2 eI m pv hI hI2 hT=>?_)
 have k12:∀ b o,s.heap.get? b=some o→h2.get? b=some o:=fun b o e=>k2 b o (k1 b o e)
 have ha2:=k12 _ _ ha
 refine Xaa (XaV ?_)
 refine zkv (show Shared.TypeIs { s with heap:=h2,drawn:=d } (.ref a) "set" from ⟨_,ha2,rfl⟩) ?_
 have eD2:=k2 _ _ eD
 refine wpAny_ite_split (fun _=>?_) (fun z=>absurd (by decide +kernel) z)
 refine Xaa (XbC (Xaa ?_))
 show wpAny _ A.in1 (updateSeq D (·.push .none) >>= fun _=>updateSeq D (·.pop)) _ _ { s with heap:=h2,drawn:=d }
 refine Xaa (wpAny_updateSeq eD2 rfl ?_)
 have eD3:=XaJ (Obj.mapSeq (·.push Value.none)) eD2 rfl
 refine wpAny_updateSeq eD3 rfl ?_
 have eD4:=XaJ (Obj.mapSeq (·.pop)) eD3 rfl
 generalize hh4:(h2.update D (Obj.mapSeq (·.push Value.none))).update D (Obj.mapSeq (·.pop))=h4 at eD4
 have k24:∀ b o,b≠D→h2.get? b=some o→h4.get? b=some o:=fun b o hb e=>by
  rw [← hh4]
  exact (XaP _ _ (Ne.symm hb)).trans ((XaP _ _ (Ne.symm hb)).trans e)
 have naD:a≠D:=by rw [← hD];exact Xaw hal
 have hI':h1.objs.size≤I:=hI
 have hT':∀ T:Addr,first = .ref T→h1.objs.size≤T:=fun T z=>(hT T z).1
 have nID:I≠D:=fun z=>by rw [z,sz1] at hI';exact absurd hI' (Nat.not_succ_le_self D)
 have nTD:∀ T:Addr,first = .ref T→T≠D:=fun T z z2=>by have q:=hT' T z;rw [z2,sz1] at q;exact absurd q (Nat.not_succ_le_self D)
 have hIa:I≠a:=fun z=>by rw [z,sz1,← hD] at hI';exact absurd (Xak hal (Xar (Xbq _) hI')) (XaR _)
 have W:Walks prog w A.in1 I (I :: a :: fpOf first) [I] vs.length (fun i v=>vs[i]? = some v) _:=zks (es:=es) (ep:=ep) (t:=t) (vs:=vs) hh Tb.fits Tb.ris hIa (XaB ..) (Xax _ (XaB ..))
 have hSf:D ∉ I :: a :: fpOf first:=fun z=>by
  rcases Xao.mp z with z | z
  ·exact nID z.symm
  ·rcases Xao.mp z with z | z
   ·exact naD z.symm
   ·cases first with
    | ref T=>exact nTD T rfl (Xad.mp z).symm
    | _=>cases z
 refine Xac ⟨plainId_quiet F.plain_extend_loop _,codeAny_extend_loopS W.toS (by rw [pv.length_eq,Xaf,Array.length_toList];exact hzl) D hSf (.ref D) vs.length 0 { s with heap:=h4,drawn:=d } _ _ rfl (Nat.zero_le _) ?_ eD4 (ItemsOf.nil _) fun s' acc' c' hm hS' hacc=>?_⟩
 ·refine ⟨first,k24 _ _ nID eI,k24 _ _ naD ha2,?_,fun T z=>?_⟩
  ·rcases m with z | z | ⟨bt,T,pl,ef,eT,r⟩
   ·exact .inl z
   ·exact .inr (.inl z)
   ·exact .inr (.inr ⟨bt,T,pl,ef,k24 _ _ (nTD T ef) eT,r⟩)
  ·subst z;exact Xax _ (Xax _ (Xad.mpr rfl))
 ·show wpAny _ A (load D >>= _) _ _ s'
  refine Xaa (wpAny_load hS' (Xac ?_))
  have ev:acc'.toList=vs:=by
   obtain ⟨z1,z2⟩:=hacc
   apply List.ext_getElem?
   intro j
   by_cases hj:j<acc'.size
   ·have e1:acc'.toList[j]? = some acc'[j]:=by rw [Xbk,XaK hj]
    rw [e1,z2 j acc'[j] (XaK hj)]
   ·rw [XaD (by rw [Array.length_toList];exact Nat.not_lt.mp hj),XaD (by rw [← z1];exact Nat.not_lt.mp hj)]
  rw [ev]
  obtain ⟨nn,hi,hp⟩:=zlO (es:=es.toList) hE pv
  have kk:∀ b o,s.heap.get? b=some o→s'.heap.get? b=some o:=fun b o e=>by
   have hb:=Xal e
   have nb:b≠D:=fun z=>by rw [z,hD] at hb;exact absurd hb (XaR _)
   refine hm.heap b o (fun z=>?_) (k24 b o nb (k12 b o e))
   rcases Xao.mp z with z | z
   ·exact nb z
   ·rw [Xad.mp z] at hb
    rw [sz1,← hD] at hI'
    exact absurd (Xak hb (Xar (Xbq _) hI')) (XaR _)
  have fin:=h s'.heap s'.toks d nn vs kk hi (hp.trans hP)
  have g:s'.gens=s.gens:=hm.gens
  have dd:s'.drawn=d:=hm.drawn
  have oo:s'.os=s.os:=hm.os
  have e':s'={ s with heap:=s'.heap,toks:=s'.toks,drawn:=d }:=by
   rw [← g,← dd,← oo]
  rw [e'];exact fin
end
end L2
end
section
namespace L2
open PySem PySem.Spec PyProof.Rows HT
theorem Inv.draw {X:Cx}{pins:List (Addr×Obj)}{σ:St}{H:Hp}{s:Shared}(I:Inv X pins σ H s)(d:Drawn):Inv X pins σ H { s with drawn:=d }:=⟨I.ok,I.os,I.bare,I.base,I.loc,I.cell,I.free,I.freeC,I.pin,I.hok,I.len⟩
def stI (w:World)(a:Addr)(S:List Int):Heap→Prop:=fun h=>SetI (!w.params.followText "set-order") h a S
theorem stI_ok {P:Program}{w:World}{H:Hp}{h:Heap}{a:Addr}{S:List Int}(x:stI w a S h):ObjOk P w H h a (.ext (stI w a S)):=by
 refine ⟨x,?_,fun h1 h2 y k=>y.at k⟩
 obtain ⟨es,ep,t,g,_⟩:=x
 exact ⟨_,g⟩
theorem zgy {X:Cx}(hc:X.calm=true):zdc X (.builtin "sorted") (fun xs H Q=>∃ (a:Addr) (S:List Int),xs=[.ref a]∧H a=some (.ext (stI X.w a S))∧S.length<64 ∧
  ∀ (l:Addr) (ns:List Int),H l=none→ns.Perm S→ns.Pairwise (·≤·)→Q (.ref l) (upd H l (.lst (ns.map V.int)))):=by
 intro pins s σ H xs us Q I r h
 obtain ⟨a,S,rfl,ea,h64,q⟩:=h
 obtain ⟨u,rfl,r1⟩:=zdL r
 obtain rfl:u=Value.ref a:=r1
 obtain ⟨hS,_,_⟩:=(show ObjOk X.prog X.w H s.heap a (.ext (stI X.w a S)) from I.hok a _ ea)
 refine zfQ (zgR (I.ok.hd hc) hS (by omega) fun h' tk d ks vs kp hI hP=>?_)
 have hl:vs.length=ks.length:=hI.length
 have hk:ks.length<64:=by rw [hP.length_eq];exact h64
 refine ⟨Xar (show vs.length≤64 by omega) (by decide),?_⟩
 refine list_sort_tree (s:={ s with heap:=h'.push (seqObj "list" vs.toArray 0),toks:=tk,drawn:=d }) (Xaj _ rfl) hI (by omega) fun out ns a1 a2 a3=>⟨rfl,?_⟩
 have hsz:h'.objs.size<(h'.push (seqObj "list" vs.toArray 0)).objs.size:=by rw [XaI];exact XaZ _
 have I2:Inv X pins σ H { s with heap:=h',toks:=tk,drawn:=d }:=(I.kept (t':=tk) kp).draw d
 obtain ⟨c,hc'⟩:=sortedHeap_at (a:=h'.objs.size) (vs:=vs) (out:=out) (Xaj (h:=h') (o:=seqObj "list" vs.toArray 0) rfl)
 refine ⟨.ref _,_,I2.laid (t':=tk) (o:=.lst (ns.map V.int)) (fun b o eb=>?_) (Xae _) ?_,rfl,q _ ns (I2.hok.fresh (Xae _)) (a2.trans hP) a3⟩
 ·have hb:=Xal eb
  rw [sortedHeap_old (Xaw hb) (XbI hb hsz)];exact Xab _ eb
 ·refine ⟨?_,out.toList,_,zcX a1,by simpa [seqObj] using hc'⟩
  rw [Xaf,a2.length_eq];exact Xar (XbH hk) (by decide)
theorem zkp (elt target iter:Expr)(ifs:List Expr)(scope:Scope)(pos:Pos)(it acc:Value)(env:Env):compTurn (.SetComp elt [⟨target,iter,ifs,0⟩] scope pos) 0 it acc env=(do
   standAt iter.pos;match ← pyNext it with
   | none=>pure (.done .next)
   | some v=>do
    letOwnedTupleGo target it v;assign target env v;let mut ok:=true
    for c in ifs do if ok then ok ← isTrue c env (eval c env)
    if ok then (do let v ← eval elt env;standAt elt.pos;let _ ← call (.builtin "set.add") [acc,v])
    again (.compLoop (.SetComp elt [⟨target,iter,ifs,0⟩] scope pos) 0 it acc env)):=by rfl
section
variable {prog:Program}{w:World}{A:Around}{E:Value→Shared→Prop}{R:Result→Shared→Prop}{s:Shared}
theorem ziS {elt target iter ifs rest scope pos it acc env}
  (h0:codeAny (model prog w) A (.compLoop (.SetComp elt (⟨target,iter,ifs,0⟩ :: rest) scope pos) 0 it acc env) R s)
  (h:wpAny (model prog w) A (pyIter it) (fun it' s'=>codeAny (model prog w) A (.compLoop (.SetComp elt (⟨target,iter,ifs,0⟩ :: rest) scope pos) 0 it' acc env) R s') (notedBy (model prog w) A env fun x s'=>R (.error x) s') s) :
  codeAny (model prog w) A (.compStart (.SetComp elt (⟨target,iter,ifs,0⟩ :: rest) scope pos) 0 it acc env) R s:=by
 refine codeAny_of_tree ?_
 show wpAny _ A ((compStart (.SetComp elt (⟨target,iter,ifs,0⟩ :: rest) scope pos) 0 it acc env).onRaise (fun x=>do noteFrame x env;standAt theWindowsPlace)) _ _ s
 refine wpAny_notedAt ?_;unfold compStart;show wpAny _ A (ask >>= _) _ _ s;refine Xaa (Xa0 (wpAny_ite ?_))
 split
 ·first | exact Xaa (Xac (Xac (And.intro rfl h0))) | exact Xac (And.intro rfl h0)
 ·first | exact Xaa (XbC (Xaa (XaW (Xaa (Xas h (fun it' s' h'=>Xac (And.intro rfl h')) fun _ _ x=>x))))) | (refine Xaa (XbC ?_);show wpAny _ _ (standAt iter.pos >>= _) _ _ s;exact Xaa (XaW (Xaa (Xas h (fun it' s' h'=>Xac (And.intro rfl h')) fun _ _ x=>x))))
def EMs (prog:Program)(w:World)(A:Around)(elt:Expr)(env:Env)(D:Addr)(p:Shared→Prop)(s:Shared):Prop:=
 wpAny (model prog w) A (eval elt env) (fun v s5=>wpAny (model prog w) A (call (.builtin "set.add") [.ref D,v]) (fun _ s6=>p s6) (fun _ _=>False) s5) (fun _ _=>False) s
theorem zkQ {elt target iter:Expr}{ifs:List Expr}{scope:Scope}{pos:Pos}{it:Value}:CLoop prog w A target ifs (.SetComp elt [⟨target,iter,ifs,0⟩] scope pos) it (EMs prog w A elt) where
 mono:=fun env D p q s h k=>Xas h (fun v s5 h5=>Xas h5 (fun _ s6 h6=>k s6 h6) fun _ _ e=>e) fun _ _ e=>e
 loop:=fun env D I {R} turn n s h=>by
  refine codeAny_loop rfl I (fun n s hI=>?_) n h
  show wpAny _ A ((compTurn (.SetComp elt [⟨target,iter,ifs,0⟩] scope pos) 0 it (.ref D) env).onRaise (fun x=>do noteFrame x env;theTreesLotGoes x)) _ _ s
  refine wpAny_noted ?_
  rw [zkp]
  refine Xaa (XaW (Xaa (Xas (turn n s hI) (fun r s1 h1=>?_) fun _ _ h'=>h'.elim)))
  cases r with
  | none=>exact Xac h1
  | some v =>
   refine Xaa (Xas h1 (fun _ s2 h2=>?_) fun _ _ h'=>h'.elim)
   refine Xaa (Xas h2 (fun _ s3 h3=>Xaa (Xas h3 (fun ok s4 h4=>?_) fun _ _ h'=>h'.elim)) fun _ _ h'=>h'.elim)
   cases ok with
   | false=>exact Xac ⟨rfl,h4⟩
   | true =>
    exact Xaa (Xaa (Xas h4 (fun x s5 h5=>Xaa (XaW (Xaa (Xas h5 (fun _ s6 h6=>Xac (Xac ⟨rfl,h6⟩)) fun _ _ h'=>h'.elim)))) fun _ _ h'=>h'.elim))
 start:=fun env D R s h0 h=>ziS h0 h
end
def dd (ys:List Int):List Int:=ys.foldl (fun S n=>if n∈S then S else S ++ [n]) []
theorem zmG (ys:List Int)(n:Int):dd (ys ++ [n])=if n∈dd ys then dd ys else dd ys ++ [n]:=by unfold dd;rw [List.foldl_append];rfl
theorem zlF (ys:List Int):(dd ys).length≤ys.length:=by
 have g:∀ (l:List Int) (S:List Int),(l.foldl (fun S n=>if n∈S then S else S ++ [n]) S).length≤S.length+l.length:=by
  intro l
  induction l with
  | nil=>intro S;exact Xae _
  | cons a l ih =>
   intro S
   refine Xar (ih _) ?_
   dsimp only
   split
   ·rw [Xau];omega
   ·have e1:(S ++ [a]).length=S.length+1:=by rw [Xaq];rfl
    have e2:(a :: l).length=l.length+1:=rfl
    omega
 have:=g ys []
 simpa [dd] using this
theorem mem_dd {ys:List Int}{n:Int}:n∈dd ys↔n∈ys:=by
 have g:∀ (l:List Int) (S:List Int),n∈(l.foldl (fun S n=>if n∈S then S else S ++ [n]) S)↔n∈S∨n∈l:=by
  intro l
  induction l with
  | nil=>intro S;simp
  | cons a l ih =>
   intro S
   rw [List.foldl_cons,ih]
   by_cases h:a∈S
   ·rw [if_pos h]
    constructor
    ·rintro (z | z)
     ·exact .inl z
     ·exact .inr (Xax _ z)
    ·rintro (z | z)
     ·exact .inl z
     ·rcases Xao.mp z with rfl | z
      ·exact .inl h
      ·exact .inr z
   ·rw [if_neg h];simp [or_assoc]
 have:=g ys []
 simpa [dd] using this
def AOs (w:World)(ys:List Int)(o:Obj):Prop:=∃ es ep t,o=sObj es ep t∧(∀ e∈es.toList,EOk e)∧(zjR es.toList).Perm (dd ys)∧(dd ys).Nodup∧Tab (!w.params.followText "set-order") t es.size
theorem AOs.at {w:World}{ys:List Int}{o:Obj}(x:AOs w ys o){h:Heap}{a:Addr}(e:h.get? a=some o):SetI (!w.params.followText "set-order") h a (dd ys):=by
 obtain ⟨es,ep,t,rfl,r⟩:=x
 exact ⟨es,ep,t,e,r⟩
def emS (te:TE):TEm Int:=fun σ H Q=>te σ H fun v H1=>∃ i,v = .int i∧Q i H1
theorem zmf {Y:Cx}{elt:Expr}{te:TE}(he:PE Y elt te)(hxe:Y.xe=fun _ _=>False):PEm 500 Y (EMs Y.prog Y.w Y.A elt) (AOs Y.w) (emS te):=by
 intro D pins s σ H Q ys o I hp ao hl h
 refine Xas (he pins s σ H _ I h) (fun v s5 hh_=>?_) fun e s' z=>by rw [hxe] at z;exact z
 obtain ⟨x,H5,I5,rx,i,ex,q⟩:=hh_
 subst ex
 obtain ⟨t,rfl⟩:=(show ∃ t,v=Value.int i t from rx)
 have g5:=(I5.pin (D,o) (XaA _ hp)).1
 refine zl2 (ao.at g5) (XaM (zlF ys) (by omega)) fun h' sb x=>?_
 rw [← zmG] at x
 obtain ⟨es,ep,t',g',r'⟩:=x
 exact ⟨i,H5,s5,h',_,_,I5,⟨es,ep,t',rfl,r'⟩,sb,g',rfl,q⟩
section
variable {X:Cx}{Nc:List Str}{src:List (Option Nat)}{scope:Scope}{elt tg iter:Expr}{ifs:List Expr}{pos:Pos}{wi:TI}{g:TG}{tf:TT}{te:TE}
theorem zlH (cl:List (Str×Addr))(C:Addr)(fp:List Addr)(s2:Shared)(H2:Hp):(cxC X Nc scope cl C fp s2 H2).xe=fun _ _=>False:=rfl
def tSetC (w:World)(src:List (Option Nat))(wi:TI)(g:TG)(tf:TT)(te:TE):TE:=fun σ H Q=>wi σ H fun J H1 =>
 zfb 500 J g tf (emS te) (fun ys H2=>∀ D,H2 D=none→Q (.ref D) (upd H2 D (.ext (stI w D (dd ys))))) (zcq src σ) H1
theorem mk_set {prog:Program}{w:World}{A:Around}{E:Value→Shared→Prop}(Q:Value→Shared→Prop)(s:Shared)(q:Q (.ref s.heap.objs.size) { s with heap:=s.heap.push (sObj #[] 0 (.fresh 0 0 (!w.params.followText "set-order"))) }):wpAny (model prog w) A (newSet (.type "set")) Q E s:=by
 unfold newSet setsByText
 exact Xaa (Xaa (Xa0 (Xac (XaL q))))
theorem ev_set (elt:Expr)(gens:List Comprehension)(scope:Scope)(pos:Pos)(env:Env):eval (.SetComp elt gens scope pos) env=comprehension (.SetComp elt gens scope pos) scope env (firstIterPos gens pos) (newSet (.type "set")) (firstAsync gens) (firstIter gens env):=rfl
theorem zh7 (src:List (Option Nat))(hc:X.calm=true)(S:CompOk X.N X.env.scope Nc src scope)(hi:PI X tg iter wi)
  (hg:∀ cl C fp s2 H2,PG (cxC X Nc scope cl C fp s2 H2) tg g) (hf:∀ cl C fp s2 H2,PF (cxC X Nc scope cl C fp s2 H2) ifs tf) (he:∀ cl C fp s2 H2,PE (cxC X Nc scope cl C fp s2 H2) elt te)
  (hs:∀ x,foldedSetIterable iter X.env x=pure x:=by intro _;rfl):PE X (.SetComp elt [⟨tg,iter,ifs,0⟩] scope pos) (tSetC X.w src wi g tf te):=by
 intro pins s σ H Q I h
 obtain ⟨cl,hclos,hcl1,hcl2⟩:=zbj I.ok (scope:=scope) S.free
 rw [ev_set]
 refine XbJ (use:=none) rfl hs hclos S.kind (fun x hx hl=>by obtain ⟨n,k⟩:=x;cases hl;exact zbh S.nodup hx) (thn (hi pins s σ H _ I h) fun xv s1 h1=>thn h1 fun itv s2 h2=>?_)
 obtain ⟨it,fp,tn,J,H2,e,I2,T,st2,f2,hw⟩:=h2
 subst e
 refine zdE (α:=Int) (B:=500) (ho:=fun D ys=>.ext (stI X.w D (dd ys))) (AO:=AOs X.w) (RR:=fun acc C=>compPost (model X.prog X.w) X.A X.xe none (EP X pins σ Q) acc C) hc I2 S hcl1 hcl2 T st2 f2 hg hf (fun cl C fp s2 H2=>zmf (he cl C fp s2 H2) (zlH cl C fp s2 H2)) mk_set rfl ?_ ?_ ?_ zkQ hw ?_
 ·exact ⟨#[],0,_,rfl,(fun e he=>nomatch he),.rfl,Xbg,⟨rfl,List.Pairwise.nil,rfl⟩⟩
 ·rintro ys o v ⟨es,ep,t,rfl,_⟩ z
  have z':Data.set es ep t=Data.cell v:=z
  cases z'
 ·intro ys o H h D ao _ _ g'
  exact stI_ok (ao.at g')
 intro H4 s4 ys m C hC hD Iout hn hCn q
 refine ⟨m,hn,fun h' sb=>⟨.ref s2.heap.objs.size,_,?_,rfl,q _ hD⟩⟩
 obtain ⟨f0,f1,f3,f4,f5,f6⟩:=I2.fpOk (H':=upd H4 s2.heap.objs.size (.ext (stI X.w s2.heap.objs.size (dd ys)))) hC hCn
 exact Iout.turned (t':=s4.toks) (it:=C) (fun b o hb e=>(sb.2 b hb).trans e) f0 f1 f4 f5 f6
end
section
variable {prog:Program}{w:World}{A:Around}{E:Value→Shared→Prop}{R:Result→Shared→Prop}{s:Shared}
def EMd (prog:Program)(w:World)(A:Around)(kx vx:Expr)(env:Env)(D:Addr)(p:Shared→Prop)(s:Shared):Prop:=
 wpAny (model prog w) A (eval kx env) (fun kv s4=>wpAny (model prog w) A (eval vx env) (fun vv s5=>wpAny (model prog w) A (dictSet D kv vv) (fun _ s6=>p s6) (fun _ _=>False) s5) (fun _ _=>False) s4) (fun _ _=>False) s
theorem zjx {kx vx target iter:Expr}{ifs:List Expr}{scope:Scope}{pos:Pos}{it:Value}:CLoop prog w A target ifs (.DictComp kx vx [⟨target,iter,ifs,0⟩] scope pos) it (EMd prog w A kx vx) where
 mono:=fun env D p q s h k=>Xas h (fun v s5 h5=>Xas h5 (fun _ s6 h6=>Xas h6 (fun _ s7 h7=>k s7 h7) fun _ _ e=>e) fun _ _ e=>e) fun _ _ e=>e
 loop:=fun env D I {R} turn n s h=>by
  refine codeAny_loop rfl I (fun n s hI=>?_) n h
  show wpAny _ A ((compTurn (.DictComp kx vx [⟨target,iter,ifs,0⟩] scope pos) 0 it (.ref D) env).onRaise (fun x=>do noteFrame x env;theTreesLotGoes x)) _ _ s
  refine wpAny_noted ?_
  rw [compTurn_dict]
  refine Xaa (XaW (Xaa (Xas (turn n s hI) (fun r s1 h1=>?_) fun _ _ h'=>h'.elim)))
  cases r with
  | none=>exact Xac h1
  | some v =>
   refine Xaa (Xas h1 (fun _ s2 h2=>?_) fun _ _ h'=>h'.elim)
   refine Xaa (Xas h2 (fun _ s3 h3=>Xaa (Xas h3 (fun ok s4 h4=>?_) fun _ _ h'=>h'.elim)) fun _ _ h'=>h'.elim)
   cases ok with
   | false=>exact Xac ⟨rfl,h4⟩
   | true =>
    exact Xaa (Xaa (Xas h4 (fun kv s5 h5=>Xaa (XaV (Xas h5 (fun vv s6 h6=>Xaa (XaW (XaV (Xas h6 (fun _ s7 h7=>Xac ⟨rfl,h7⟩) fun _ _ h'=>h'.elim)))) fun _ _ h'=>h'.elim))) fun _ _ h'=>h'.elim))
 start:=fun env D R s h0 h=>codeAny_compStart_dict h0 h
end
def dk (ys:List (Key×V)):List (Key×V):=ys.foldl (fun kvs p=>putK kvs p.1 p.2) []
theorem zjS (ys:List (Key×V))(p:Key×V):dk (ys ++ [p])=putK (dk ys) p.1 p.2:=by unfold dk;rw [List.foldl_append];rfl
theorem zhB (kvs:List (Key×V))(k:Key)(v:V):(putK kvs k v).length≤kvs.length+1:=by
 unfold putK
 split
 ·rw [Xaf];exact Xbq _
 ·rw [Xaq];exact Xae _
theorem zlD (ys:List (Key×V)):(dk ys).length≤ys.length:=by
 have g:∀ (l:List (Key×V)) (S:List (Key×V)),(l.foldl (fun kvs p=>putK kvs p.1 p.2) S).length≤S.length+l.length:=by
  intro l
  induction l with
  | nil=>intro S;exact Xae _
  | cons a l ih =>
   intro S
   have h1:=ih (putK S a.1 a.2)
   have h2:=zhB S a.1 a.2
   have e2:(a :: l).length=l.length+1:=rfl
   rw [List.foldl_cons]
   omega
 have:=g ys []
 simpa [dk] using this
def AOd (P:Program)(w:World)(ys:List (Key×V))(o:Obj):Prop:=(∃ es ep,o.data = .dict es ep)∧∃ vs,KV (dk ys) vs∧∀ (h:Heap) (a:Addr),h.get? a=some o→h.DictOf (zaE P w) a vs
def emD (tk tv:TE):TEm (Key×V):=fun σ H Q=>tk σ H fun x H1=>∃ k,x=kV k∧tv σ H1 fun y H2=>Q (k,y) H2
theorem zkH {Y:Cx}{kx vx:Expr}{tk tv:TE}(hk:PE Y kx tk)(hv:PE Y vx tv)(hxe:Y.xe=fun _ _=>False):PEm 1000 Y (EMd Y.prog Y.w Y.A kx vx) (AOd Y.prog Y.w) (emD tk tv):=by
 intro D pins s σ H Q ys o I hp ao hl h
 refine Xas (hk pins s σ H _ I h) (fun kv s4 hh_=>?_) fun e s' z=>by rw [hxe] at z;exact z
 obtain ⟨x,H4,I4,rx,k,ex,q4⟩:=hh_
 subst ex
 refine Xas (hv pins s4 σ H4 _ I4 q4) (fun vv s5 hh_=>?_) fun e s' z=>by rw [hxe] at z;exact z
 obtain ⟨y,H5,I5,ry,q⟩:=hh_
 have g5:=(I5.pin (D,o) (XaA _ hp)).1
 obtain ⟨_,vs,rel,dof⟩:=ao
 have hz:vs.length≤sizeLine:=by
  have e1:=rel.length
  have e2:=zlD ys
  exact Xar (show vs.length≤1000 by omega) (by decide)
 refine wpAny_dictSet_pairs (hsz:=hz) (zhn rx) (dof _ _ g5) fun h' dd' sb=>?_
 obtain ⟨o',es,ep,g',x1,x2,x3⟩:=dd'
 refine ⟨(k,y),H5,s5,h',o',_,I5,⟨⟨es,ep,x2⟩,stored vs k vv,?_,fun h a e=>⟨o',es,ep,e,x1,x2,x3⟩⟩,sb,g',rfl,q⟩
 rw [zjS]
 exact rel.put k ry
section
variable {X:Cx}{Nc:List Str}{src:List (Option Nat)}{scope:Scope}{kx vx tg iter:Expr}{ifs:List Expr}{pos:Pos}{wi:TI}{g:TG}{tf:TT}{tk tv:TE}
def tDictC (src:List (Option Nat))(wi:TI)(g:TG)(tf:TT)(tk tv:TE):TE:=fun σ H Q=>wi σ H fun J H1 =>
 zfb 1000 J g tf (emD tk tv) (fun ys H2=>∀ D,H2 D=none→Q (.ref D) (upd H2 D (.dK (dk ys)))) (zcq src σ) H1
theorem zmw {prog:Program}{w:World}{A:Around}{E:Value→Shared→Prop}(Q:Value→Shared→Prop)(s:Shared)(q:Q (.ref s.heap.objs.size) { s with heap:=s.heap.push { cls:=.type "dict",data:=.dict #[] } }):wpAny (model prog w) A newDict Q E s:=by
 unfold newDict
 exact XaL q
theorem zmE {prog:Program}{w:World}:AOd prog w [] ({ cls:=.type "dict",data:=.dict #[] }:Obj):=
 ⟨⟨#[],0,rfl⟩,[],.nil,fun h a e=>⟨_,#[],0,e,⟨rfl,rfl,rfl⟩,rfl,(fun e he=>by simp at he),.nil,Xbg⟩⟩
theorem zmM {P:Program}{w:World}{ys:List (Key×V)}{o:Obj}{H:Hp}{h:Heap}{D:Addr}(ao:AOd P w ys o)(hl:ys.length≤1000)(hs:sysModules<D)(e:h.get? D=some o):ObjOk P w H h D (.dK (dk ys)):=by
 obtain ⟨_,vs,rel,dof⟩:=ao
 exact ⟨Xar (zlD ys) (Xar hl (by decide)),beq_eq_false_iff_ne.mpr (Ne.symm (Xaw hs)),vs,rel,dof _ _ e⟩
end
section
variable {X:Cx}{Nc:List Str}{src:List (Option Nat)}{scope:Scope}{kx vx tg iter:Expr}{ifs:List Expr}{pos:Pos}{wi:TI}{g:TG}{tf:TT}{tk tv:TE}
theorem zgZ {i:Nat}{y:Str}{pos' spos:Pos}(src:List (Option Nat))(hN:X.N.Nodup)(hi':X.N[i]? = some y)(hy:X.env.scope.names.lookup y=some .local)
  (hc:X.calm=true) (S:CompOk X.N X.env.scope Nc src scope) (hi:PI X tg iter wi)
  (hg:∀ cl C fp s2 H2,PG (cxC X Nc scope cl C fp s2 H2) tg g) (hf:∀ cl C fp s2 H2,PF (cxC X Nc scope cl C fp s2 H2) ifs tf) (hk:∀ cl C fp s2 H2,PE (cxC X Nc scope cl C fp s2 H2) kx tk) (hv:∀ cl C fp s2 H2,PE (cxC X Nc scope cl C fp s2 H2) vx tv)
  (hsw:swapsWith (.DictComp kx vx [⟨tg,iter,ifs,0⟩] scope pos) (some (.Name y pos')) spos.line X.env=pure true:=by rfl)
  (hs:∀ x,foldedSetIterable iter X.env x=pure x:=by intro _;rfl):PS X (.Assign [.Name y pos'] (.DictComp kx vx [⟨tg,iter,ifs,0⟩] scope pos) spos) (tAsg (tDictC src wi g tf tk tv) (za6 i)):=by
 intro pins s σ H D I h
 obtain ⟨cl,hclos,hcl1,hcl2⟩:=zbj I.ok (scope:=scope) S.free
 rw [exec_Assign_Name_used _ _ _ _ hsw]
 refine Xaa (XaW (Xaa ?_))
 show wpAny _ X.A (do let _ ← comprehension (.DictComp kx vx [⟨tg,iter,ifs,0⟩] scope pos) scope X.env _ newDict false (eval iter X.env) (some (assign (.Name y pos') X.env))) _ _ s
 refine Xaa (Xas (XbJ (use:=some (assign (.Name y pos') X.env)) (Q:=fun _ s'=>SP X pins D .next s') rfl hs hclos S.kind (fun x hx hl=>by obtain ⟨n,k⟩:=x;cases hl;exact zbh S.nodup hx)
  (thn (hi pins s σ H _ I h) fun xv s1 h1=>thn h1 fun itv s2 h2=>?_)) (fun _ s' hq=>Xac (Xac hq)) fun _ _ e=>e)
 obtain ⟨it,fp,tn,J,H2,e,I2,T,st2,f2,hw⟩:=h2
 subst e
 refine zdE (α:=Key×V) (B:=1000) (ho:=fun _ ys=>.dK (dk ys)) (AO:=AOd X.prog X.w) (RR:=fun acc C=>compPost (model X.prog X.w) X.A X.xe (some (assign (.Name y pos') X.env)) (fun _ s'=>SP X pins D .next s') acc C) hc I2 S hcl1 hcl2 T st2 f2 hg hf (fun cl C fp s2 H2=>zkH (hk cl C fp s2 H2) (hv cl C fp s2 H2) (zlH cl C fp s2 H2)) zmw rfl zmE ?_ ?_ zjx hw ?_
 ·rintro ys o v ⟨⟨es,ep,e⟩,_⟩ z
  rw [e] at z;cases z
 ·intro ys o H h D ao hl hD g'
  exact zmM ao hl (Xak I2.big hD) g'
 intro H4 s4 ys m C hC hD Iout hn hCn q
 show wpAny _ X.A (assign (.Name y pos') X.env (.ref s2.heap.objs.size)) _ _ _
 refine wpAny_assign_Name (zd6 (i:=i) Iout hN hi' (.inl hy) (v:=.ref s2.heap.objs.size) rfl (fun s5 I5 ch=>?_) (.inr hy))
 obtain ⟨f0,f1,f3,f4,f5,f6⟩:=I2.fpOk (H':=upd H4 s2.heap.objs.size (.dK (dk ys))) hC hCn
 obtain ⟨a,sb,ha⟩:=ch
 have hCa:C≠a:=by
  rcases ha with ha | ha
  ·rw [ha];exact f1
  ·exact fun z=>f5 _ _ ha z.symm
 refine ⟨m,hn.sameBut sb hCa,fun h' sb'=>⟨_,_,I5.turned (t':=s5.toks) (it:=C) (fun b o hb e=>(sb'.2 b hb).trans e) f0 f1 f4 f5 f6,q _ hD⟩⟩
end
section
variable {X:Cx}
def vwV (p a:Addr):Heap→Prop:=fun h=>h.IsValuesView p a
theorem zjv:MtR X "dict.values" (fun x vs H Q=>∃ (a:Addr) (kvs:List (Key×V)),x = .ref a∧vs=[]∧H a=some (.dK kvs)∧∀ p,H p=none→Q (.ref p) (upd H p (.ext (vwV p a)))):=by
 rintro pins s σ H x vs v us Q I rx rv ⟨a,kvs,rfl,rfl,e,q⟩
 obtain rfl:v=Value.ref a:=rx
 have hus:=rv.zero
 subst hus
 obtain ⟨hz,lo,vs,rel,dd⟩:=zjT I.hok e
 refine call_meetsIn PySem.F.slot_dict_values dd.typeIs PySem.F.entry_dict_values (PySem.F.args_dict_values_1 _) (meets_dict_values (zaE X.prog X.w) a lo) ⟨⟨vs,dd⟩,?_⟩
 refine ⟨.ref s.heap.objs.size,_,I.laid (t':=s.toks) (o:=.ext (vwV s.heap.objs.size a)) (fun b o eb=>Xab _ eb) (Xae _) ?_,rfl,q _ (I.hok.fresh (Xae _))⟩
 have g:(s.heap.push { cls:=.type "dict_values",data:=.fields #[.ref a] }).get? s.heap.objs.size=some { cls:=.type "dict_values",data:=.fields #[.ref a] }:=Xaj _ rfl
 exact ⟨⟨_,g,rfl,rfl⟩,⟨_,g⟩,fun h1 h2 ⟨o1,q1,q2,q3⟩ k=>⟨o1,k _ q1,q2,q3⟩⟩
inductive rSetD (x:V)(vs:List V)(H:Hp)(Q:VK):Prop
 | mk (a:Addr) (kvs:List (Key×V)) (k:Key) (y:V) (z0_:x = .ref a) (z1_:vs=[kV k,y]) (z2_:H a=some (.dK kvs)) (z3_:kvs.length<1000) (z4_:(∀ v,valV kvs k=some v→Q v H)) (z5_:(valV kvs k=none→Q y (upd H a (.dK (putK kvs k y)))))
theorem zfE:MtR X "dict.setdefault" rSetD:=by
 rintro pins s σ H x vs v us Q I rx rv ⟨a,kvs,k,y,rfl,rfl,e,hl,q1,q2⟩
 obtain rfl:v=Value.ref a:=rx
 cases rv with
 | cons ry rr =>
  obtain ⟨u,rfl,ru⟩:=Vals.one rr
  obtain ⟨z,hd,vs,rel,dd⟩:=zjT I.hok e
  refine call_meetsIn PySem.F.slot_dict_setdefault dd.typeIs PySem.F.entry_dict_setdefault (PySem.F.args_dict_setdefault_3 _ _ _) (kt_meets_setdefault (zaE X.prog X.w) a (zhn ry) hd u) ⟨vs,dd,by rw [← rel.length];exact z,fun w' hw=>?_,fun hn h' dd' hs=>?_⟩
  ·have r:=rel.val k
   rw [hw] at r
   cases hv:valV kvs k with
   | none=>rw [hv] at r;exact r.elim
   | some v=>rw [hv] at r;exact ⟨v,H,I.tok _,r,q1 v hv⟩
  ·have r:=rel.val k
   rw [hn] at r
   have hv:valV kvs k=none:=by
    cases hv:valV kvs k with
    | none=>rfl
    | some v=>rw [hv] at r;exact r.elim
   have he:∃ q,h'.get? a=some q:=let ⟨q,_,_,hq,_⟩:=dd';⟨q,hq⟩
   exact ⟨y,_,zhs (t':=s.toks+1) I (by rw [e];exact True.intro) hs he (zlC (Xar (zhB kvs k y) (Xar hl (by decide))) hd (rel.put k ru) dd'),ru,q2 hv⟩
end
section
variable {K:W.Frag}{α:Type}{B:Nat}{g:TG}{tf:TT}{em:TEm α}{Q:List α→Hp→Prop}{σ:St}{H:Hp}
theorem zix {a:Addr}{xs:List V}(Pv:Nat→List α→St→Hp→Prop)(hn:xs.length≤B)(h0:Pv 0 [] σ H)(hl:∀ i ys σ H,i≤xs.length→Pv i ys σ H→SqL K H a xs∧ys.length≤i)
  (hs:∀ i x ys σ H,xs[i]? = some x→Pv i ys σ H→g x σ H fun σ2 H2=>tf σ2 H2 fun b H3=>if b=true then em σ2 H3 fun y H4=>Pv (i+1) (ys ++ [y]) σ2 H4 else Pv (i+1) ys σ2 H3)
  (hd:∀ ys σ H,Pv xs.length ys σ H→Q ys H):zfb B (Itl K a) g tf em Q σ H:=by
 refine ⟨fun i m ys σ H=>m=xs.length - i∧i≤xs.length∧Pv i ys σ H,⟨xs.length,by simp,Nat.zero_le _,h0⟩,?_⟩
 rintro i m ys σ H ⟨rfl,hi,p⟩
 obtain ⟨q,hz⟩:=hl i ys σ H hi p
 by_cases hlt:i<xs.length
 ·refine .inr ⟨⟨xs,xs[i],q,by simp [hlt]⟩,by omega,Pv (i+1),fun ys' σ' H' p'=>⟨xs.length - (i+1),by omega,rfl,hlt,p'⟩,fun x H' y=>?_⟩
  obtain ⟨e,y⟩:=y
  subst e
  exact hs i x ys σ _ (y xs q) p
 ·have e:i=xs.length:=by omega
  subst e
  exact .inl ⟨⟨xs,q,Xae _⟩,by omega,hd ys σ H p⟩
theorem zj2 {a:Addr}{xs:List V}(Pv:Nat→List α→St→Hp→Prop)(hn:xs.length≤B)(h0:Pv 0 [] σ H)(hl:∀ i ys σ H,i≤xs.length→Pv i ys σ H→SqT K H a xs∧ys.length≤i)
  (hs:∀ i x ys σ H,xs[i]? = some x→Pv i ys σ H→g x σ H fun σ2 H2=>tf σ2 H2 fun b H3=>if b=true then em σ2 H3 fun y H4=>Pv (i+1) (ys ++ [y]) σ2 H4 else Pv (i+1) ys σ2 H3)
  (hd:∀ ys σ H,Pv xs.length ys σ H→Q ys H):zfb B (Itt K a) g tf em Q σ H:=by
 refine ⟨fun i m ys σ H=>m=xs.length - i∧i≤xs.length∧Pv i ys σ H,⟨xs.length,by simp,Nat.zero_le _,h0⟩,?_⟩
 rintro i m ys σ H ⟨rfl,hi,p⟩
 obtain ⟨q,hz⟩:=hl i ys σ H hi p
 by_cases hlt:i<xs.length
 ·refine .inr ⟨⟨xs,xs[i],q,by simp [hlt]⟩,by omega,Pv (i+1),fun ys' σ' H' p'=>⟨xs.length - (i+1),by omega,rfl,hlt,p'⟩,fun x H' y=>?_⟩
  obtain ⟨e,y⟩:=y
  subst e
  exact hs i x ys σ _ (y xs q) p
 ·have e:i=xs.length:=by omega
  subst e
  exact .inl ⟨⟨xs,q,Xae _⟩,by omega,hd ys σ H p⟩
end
theorem zmj {X:Cx}{K:W.Frag}{e:Expr}{ta:TE}{f:Str}{pos:Pos}(hK:X.K=K)(he:PE X e ta)(hb:attributeBase e f X.env (eval e X.env)=eval e X.env):PE X (.Attribute e f pos) (tFld K ta f):=by subst hK;exact zaz he hb
section
variable {X:Cx}{k:Nat}{ks:List Str}{m:Str}{pos apos:Pos}{e o:Expr}{es:List Expr}{kws:List Keyword}{ta:TE}{t tk:TA}
end
section
variable {X:Cx}
end
end L2
end
section
namespace L2
open PySem PySem.Spec PyProof.Rows PySem.SeqAt
section
variable {X:Cx}{K:W.Frag}
end
end L2
end
section
namespace L2
open PySem PySem.Spec PyProof.Rows HT PySem.W PySem.Calls
def xFr (e C:Addr)(od:Option Addr):Heap→Prop:=fun h=>∃ t,h.get? e=some { cls:=.ref C,dict:=od,data:=.fields #[.ref t,.none,.none,.none,.bool false,.none] }
def xDc (dx:Addr)(fs:List (Str×V)):Heap→Prop:=fun h=>fs.length≤100∧∃ mA,h.Ns1 dx mA∧(∀ f,RelO (fs.lookup f) (mA f))∧PySem.Within mA (fs.map (·.1))
section
variable {P:Program}{w:World}{H:Hp}{h:Heap}{e C dx:Addr}{od:Option Addr}{fs:List (Str×V)}
theorem zmu (x:xFr e C od h):ObjOk P w H h e (.ext (xFr e C od)):=by
 obtain ⟨t,g⟩:=id x
 exact ⟨x,⟨_,g⟩,fun h1 h2 ⟨t1,q⟩ k=>⟨t1,k _ q⟩⟩
theorem ok_dc (x:xDc dx fs h):ObjOk P w H h dx (.ext (xDc dx fs)):=by
 obtain ⟨l,mA,⟨o,es,ep,e,r⟩,r1,r2⟩:=id x
 exact ⟨x,⟨_,e⟩,fun h1 h2 ⟨l,mA,⟨o,es,ep,e,r⟩,r1,r2⟩ k=>⟨l,mA,⟨o,es,ep,k _ e,r⟩,r1,r2⟩⟩
end
def NsKI (K:W.Frag)(N fI:Addr):Prop:=∃ c d es ep sl,K.lookup N=some ⟨c,d,.dict es ep,sl⟩∧StrKeys es∧nsFind es "__init__" = some (.ref fI)
structure ExcI (K:W.Frag)(C fI:Addr):Prop where
 ex:∃ nm q N bs bm sn sub ab col dd k0 k1 k2 k3 k5,K.lookup C=some (excClassObj nm q C N bs bm true sn sub ab col dd k0 k1 k2 k3 k5 "ValueError.__new__")∧NsKI K N fI∧TailK K bm
 sa:findIn K (.ref C) "__setattr__" = some (some (.builtin "object.__setattr__"))
theorem TailK.pass {K:W.Frag}{bm:List Value}(x:TailK K bm)(self:Value):refuseLoop self "__setattr__" bm=pure ():=by
 induction x with
 | base=>exact PySem.F.store_ValueError.passes self
 | own e n _ ih=>rw [refuseLoop_ref];exact ih
theorem TailK.has {K:W.Frag}{bm:List Value}(x:TailK K bm):bm.contains (.type "object")=true:=by
 induction x with
 | base=>decide +kernel
 | own e n _ ih=>rw [List.contains_cons,ih,Bool.or_true]
section
variable {prog:Program}{w:World}{A:Around}{E:Value→Shared→Prop}{s:Shared}{K:W.Frag}{x dx C fI:Addr}{mA:Str→Option Value}{name:Str}{v:Value}{ox:Obj}{od:Option Obj}
theorem ziH {tk:Tok}{R:Result→Shared→Prop}(X:K.In s.heap)(I:InstAt s.heap x ox C od)(c:ExcI K C fI)(ht:takerIn K C name=some none)
  (h:∀ b,wpAny (model prog w) A.in1 (Builtin.ObjectAttr.storeInOwnDict (.ref x) (.ref C) (.str name tk) name v b)
   (fun fin s'=>match fin with | .done f=>R (.ok f) s' | .again c'=>c'.quiet=true∧codeAny (model prog w) A c' R s') (fun e s'=>R (.error e) s') s) :
  codeAny (model prog w) A (.call (.builtin "object.__setattr__") ⟨[.ref x,.str name tk,v],[]⟩) R s:=by
 have SF:=PySem.F.store_object
 obtain ⟨nm,q,N,bs,bm,sn,sub,ab,col,dd,k0,k1,k2,k3,k5,hC,hN,hT⟩:=c.ex
 have hc:∃ cd,clsIn K C=some cd∧cd.mro = .ref C :: bm:=⟨_,by unfold clsIn;rw [hC],rfl⟩
 obtain ⟨cd,hc,hmr⟩:=hc
 have hcon:cd.mro.contains (.type "object")=true:=by rw [hmr,List.contains_cons,hT.has,Bool.or_true]
 have ne:cd.mro.isEmpty=false:=by rw [hmr];rfl
 have sub:Looks (model prog w) s.heap (isInstance (.ref x) (.type "object")) true:=I.type.andThen (looks_mroIn X (by unfold mroIn;rw [hc,Option.bind_some,if_neg (by rw [ne];decide),hcon]))
 refine codeAny_call_builtin SF.slot.plain SF.entry (@check_slot (model prog w) _ _ s "object.__setattr__" "object" "__setattr__" (.ref x) [.str name tk,v] [] _ SF.kind SF.split sub (SF.args (.ref x) (.str name tk) v) ?_)
 obtain ⟨attr,ha,hr⟩:=Option.bind_eq_some_iff.mp ht
 have hm:Looks (model prog w) s.heap (mroOf (.ref C)) cd.mro:=(looks_clsIn X hc).andThen .now
 have L3:Looks (model prog w) s.heap (Builtin.ObjectAttr.storeTaker? attr) none:=by
  cases attr with
  | none=>exact .now
  | some a =>
   obtain ⟨b,hb,hb2⟩:=XaE.mp hr
   refine (looks_takesIn X hb).andThen ?_
   cases b with
   | true=>cases hb2
   | false=>exact .now
 rw [osa_eq,refuse_eq]
 refine Xaa (Xaa (I.type.here (Xaa (hm.here ?_))))
 rw [hmr,refuseLoop_ref,hT.pass]
 refine Xac (Xaa (I.type.here (Xaa ((looks_findIn X ha).here (Xaa (L3.here ?_))))))
 exact h _
theorem zhX {vs:Array Value}{Q:Unit→Shared→Prop}(X:K.In s.heap)(hx:s.heap.get? x=some { cls:=.ref C,dict:=none,data:=.fields vs })(c:ExcI K C fI)(ht:takerIn K C name=some none)
  (h:∀ h',(∀ b o,b≠x→s.heap.get? b=some o→h'.get? b=some o)→h'.get? x=some { cls:=.ref C,dict:=some s.heap.objs.size,data:=.fields vs }→h'.Ns1 s.heap.objs.size (fun y=>if y=name then some v else none)→Q () { s with heap:=h',toks:=s.toks+2 }) :
  wpAny (model prog w) A (setAttr (.ref x) name v) Q E s:=by
 have J:InstAt s.heap x { cls:=.ref C,dict:=none,data:=.fields vs } C none:=⟨hx,rfl,rfl,trivial⟩
 refine set_plain X J c.sa (ziH (s:={ s with toks:=s.toks+1 }) X J c ht fun b=>?_)
 obtain ⟨nm,q,N,bs,bm,sn,sub,ab,col,dd,k0,k1,k2,k3,k5,hC,hN,hT⟩:=c.ex
 have hc:∃ cd,clsIn K C=some cd∧cd.hasDict=true:=⟨_,by unfold clsIn;rw [hC],rfl⟩
 obtain ⟨cd,hc,hd'⟩:=hc
 have hxs:x≠s.heap.objs.size:=Xaw (Xal hx)
 refine Xaa (Xac (Xaa (Xaa (wpAny_loadPart hx (Xaa (Looks.here (s:={ s with toks:=s.toks+1 }) (looks_clsIn X hc) ?_))))))
 rw [hd']
 have hx₁:(s.heap.push { cls:=.type "dict",data:=.dict #[] }).get? x=some { cls:=.ref C,dict:=none,data:=.fields vs }:=Xab _ hx
 obtain ⟨hp,g,d,t,os⟩:=s
 refine Xaa (wpAny_alloc' ?_)
 refine Xaa (wpAny_update' hx₁ ?_)
 refine Xac ?_
 have hgd:((hp.push { cls:=.type "dict",data:=.dict #[] }).update x fun o=>{ cls:=o.cls,dict:=some hp.objs.size,data:=o.data,slots:=o.slots }).get? hp.objs.size=some { cls:=.type "dict",data:=.dict #[] }:=
  (Heap.get?_update_ne _ _ _ _ hxs.symm).trans (Heap.get?_push_at rfl rfl)
 have hnd:((hp.push { cls:=.type "dict",data:=.dict #[] }).update x fun o=>{ cls:=o.cls,dict:=some hp.objs.size,data:=o.data,slots:=o.slots }).Ns hp.objs.size (fun _=>none):=
  ⟨_,#[],_,hgd,rfl,fun e he=>absurd he (by simp),fun _=>rfl⟩
 show wpAny _ _ (Builtin.ObjectAttr.storeInDict hp.objs.size (.str name t) name v) _ _ _
 unfold Builtin.ObjectAttr.storeInDict Builtin.ObjectAttr.newKeyGuard
 refine Xaa (Xac (Xaa (wpAny_nsSet1 (Heap.Ns1.of_empty hnd) fun h' hn' hs=>?_)))
 obtain ⟨oD,esD,epD,hoD,hdD,hcD⟩:=hn'.count (Within.cons name v Within.nil)
 refine Xaa (wpAny_lookBehind hoD (by rw [hdD];exact pastItsLine_dict (Xar hcD (by rw [Xau,XaY,sizeLine_eq];omega))) ?_)
 refine Xac (h h' (fun b o hb e=>?_) ?_ ?_)
 ·exact (hs.2 b (Xaw (Xal e))).trans ((Heap.get?_update_ne _ _ _ _ hb).trans (Xab _ e))
 ·exact (hs.2 x hxs).trans (XaJ _ hx₁ rfl)
 ·exact hn'
end
end L2
end
section
namespace L2
open PySem PySem.Spec PyProof.Rows HT PySem.W PySem.Calls
section
variable {X:Cx}{pins:List (Addr×Obj)}{σ:St}{H:Hp}{s:Shared}
theorem Inv.trackE {ea:Addr}{φ:Heap→Prop}(I:Inv X pins σ H s)(hn:H ea=none)(ho:∀ H',ObjOk X.prog X.w H' s.heap ea (.ext φ))(h:zmP X pins ea):Inv X pins σ (upd H ea (.ext φ)) s:=by
 have up:∀ b o,H b=some o→upd H ea (.ext φ) b=some o:=fun b o e=>by rw [zag (fun z=>by rw [z,hn] at e;cases e)];exact e
 refine ⟨I.ok,I.os,I.bare,⟨I.base.keep,I.base.slot,fun b o e n hx=>?_,I.base.there,fun b xs e=>up _ _ (I.base.tups b xs e),fun b o u e=>up _ _ (I.base.frzs b o u e),fun b ps e=>?_⟩,I.loc,I.cell,?_,fun x c e=>?_,fun p hp=>?_,fun a o e=>?_,I.len⟩
 ·rw [zag (fun z=>by rw [z,h.1] at e;cases e)];exact I.base.free b o e n hx
 ·obtain ⟨more,q⟩:=I.base.tbls b ps e
  exact ⟨more,up _ _ q⟩
 ·rw [zag (Ne.symm h.2.1)];exact I.free
 ·rw [zag (h.2.2.1 x c e)];exact I.freeC x c e
 ·obtain ⟨e,n,r⟩:=I.pin p hp
  exact ⟨e,by rw [zag (h.2.2.2 p hp)];exact n,r⟩
 ·by_cases z:a=ea
  ·subst z
   rw [zac] at e
   cases e
   exact ho _
  ·rw [zag z] at e
   exact (I.hok a o e).stay (fun _ _ _ q=>q) (fun b q=>up _ _ q) fun b xs q=>up _ _ q
end
inductive sFldX0_1 (K:W.Frag)(f:Str)(D:Ends)(σ:St)(y:V)(x:V)(H2:Hp):Prop
 | mk (a:_) (C:_) (fI:_) (z0_:x = .ref a) (z1_:H2 a=some (.ext (xFr a C none))) (z2_:ExcI K C fI) (z3_:takerIn K C f=some none) (z4_:∀ dx,H2 dx=none→dx≠a→D.nx σ (upd (upd H2 a (.ext (xFr a C (some dx)))) dx (.ext (xDc dx [(f,y)]))))
def sFldX0 (K:W.Frag)(ta tv:TE)(f:Str):TS:=fun D σ H=>tv σ H fun y H1=>ta σ H1 (sFldX0_1 K f D σ y)
section
variable {X:Cx}{o e value:Expr}{f:Str}{pos pos':Pos}{ta tv:TE}
theorem zkE (hex:X.ex=[])(ha:PE X o ta)(hv:PE X value tv)(hs:swapsWith value (some (.Attribute o f pos')) pos.line X.env=pure false):PS X (.Assign [.Attribute o f pos'] value pos) (sFldX0 X.K ta tv f):=by
 intro pins s σ H D I h
 refine plainObj_wpAny_Assign_Attribute (thn (hv pins s σ H _ I h) fun u s1 ⟨y,H1,I1,ry,q⟩=>thn (ha pins s1 σ H1 _ I1 q) fun ov s2 hh_=>?_) hs
 obtain ⟨x,H2,I2,rx,a,C,fI,ex,ea,c,ht,q2⟩:=hh_
 subst ex
 obtain rfl:ov=Value.ref a:=rx
 obtain ⟨t,g⟩:=(show xFr a C none s2.heap from (I2.hok a _ ea).1)
 have hnew:s2.heap.get? s2.heap.objs.size=none:=Xbz (Xae _)
 have ne:s2.heap.objs.size≠a:=fun z=>by rw [z,g] at hnew;cases hnew
 refine zhX I2.kIn g c ht fun h' k1 k2 k3=>⟨σ,_,?_,q2 s2.heap.objs.size (I2.hok.fresh (Xae _)) ne⟩
 have J:Inv X pins σ (upd H2 a (.ext (xFr a C (some s2.heap.objs.size)))) { s2 with heap:=h',toks:=s2.toks+2 }:=
  I2.write (x:=a) (e:=a) (by rw [ea];exact True.intro) (.inl rfl) k1 ⟨_,k2⟩ (zmu ⟨t,k2⟩)
 refine J.trackE (by rw [zag ne];exact I2.hok.fresh (Xae _)) (fun H'=>ok_dc ⟨by show 1≤100;decide,_,k3,fun g=>?_,fun g hg=>?_⟩) (I2.none_ours hnew (by rw [hex];simp))
 ·show RelO (List.lookup g [(f,y)]) (if g=f then some u else none)
  by_cases q:g=f
  ·subst q
   rw [if_pos rfl]
   simp only [List.lookup,beq_self_eq_true]
   exact ry
  ·rw [if_neg q]
   have:(g == f)=false:=by simpa using q
   simp only [List.lookup,this]
   exact True.intro
 ·by_cases q:g=f
  ·rw [q];simp
  ·exact absurd (show (if g=f then some u else none)=none by rw [if_neg q]) hg
end
structure SupI (K:W.Frag)(mg:Str→Option Value)(x:Str):Prop where
 ex:∃ B,mg x=some (.ref B)∧specialIn K (.ref B) "__getattribute__" = some (some (.builtin "type.__getattribute__"))∧readsIn K B (.type "type")=true∧findCls K (.ref B) (.type "type") "__init__" = some (.val (.builtin "ValueError.__init__"))
inductive tXini_1 (K:W.Frag)(Q:VK)(vs:List V)(H1:Hp):Prop
 | mk (a:_) (C:_) (fI:_) (od:_) (z:_) (z0_:vs=[.ref a,z]) (z1_:H1 a=some (.ext (xFr a C od))) (z2_:ExcI K C fI) (z3_:Q .non H1)
def tXini (K:W.Frag)(t:TA):TE:=fun σ H Q=>t σ H (tXini_1 K Q)
section
variable {X:Cx}{x:Str}{p pos apos:Pos}{e e2:Expr}{t:TA}
theorem zmg (M:SupI X.K X.mg x)(hg:Gl X x){pl:Sem Bool}(ha:PA X [e,e2] t)(hdb:(x == ("__debug__" : Str))=false:=by decide)
  (hst:starEach [e,e2] X.env=(false,eval e X.env) :: starEach [e2] X.env:=by rfl) (hpl:(backTo pos (starEach [e2] X.env)).any (·.1)=false:=by rfl)
  (ht:eval (.Call (.Attribute (.Name x p) "__init__" apos) [e,e2] [] pos) X.env=(do
   let ov ← eval (.Name x p) X.env
   standAt apos.atName
   let (f,first) ← holding [ov] (getMethod ov "__init__" pl)
   callWith pos f first (backTo pos (starEach [e,e2] X.env)) (backToKw pos (keywordEach [] X.env))):=by rfl) :
  PE X (.Call (.Attribute (.Name x p) "__init__" apos) [e,e2] [] pos) (tXini X.K t):=by
 obtain ⟨B,hm,hs,hrd,hf⟩:=M.ex
 intro pins s σ H Q I h
 refine W.methodCall_KW (pl:=pl) ?_ ht
 refine zb5 I hg hm ?_ hdb
 refine W.method_cls I.kIn hs (W.cls_value I.kIn hrd hf rfl ?_)
 have I0:=I.tok (s.toks+1)
 have h2:=ha pos pins _ σ H _ I0 h
 rw [hst] at h2 ⊢
 refine Calls.callWith_builtin (by show (false || (backTo pos (starEach [e2] X.env)).any (·.1))=false;rw [hpl];rfl) (Calls.evalArgs_plain (thn h2 fun us s2 hh_=>?_))
 obtain ⟨vs,H2,I2,r,a,C,fI,od,z,ev,ea,c,q2⟩:=hh_
 subst ev
 obtain ⟨v1,v2,rfl,r1,r2⟩:=zkn r
 obtain rfl:v1=Value.ref a:=r1
 obtain ⟨t,g⟩:=(show xFr a C od s2.heap from (I2.hok a _ ea).1)
 obtain ⟨nm,q,N,bs,bm,sn,sub,ab,col,dd,k0,k1,k2,k3,k5,hC,hN,hT⟩:=c.ex
 have F:=PySem.F.excBase_ValueError
 have T:=hT.tail I2.kIn
 have hC':=I2.kIn _ _ hC
 have I3:=I2
 obtain ⟨hp,gg,dr,tk,os⟩:=s2
 show wpAny _ _ (call (.builtin "ValueError.__init__") [.ref a,v2]) _ _ _
 refine wpAny_call (codeAny_call_builtin F.init.plain F.initEntry (wpAny_check_init_subT F T hC' g rfl ?_))
 wp_walk
 have g1:(hp.push { cls:=.type "tuple",data:=.seq #[v2] }).get? a=some { cls:=.ref C,dict:=od,data:=.fields #[.ref t,.none,.none,.none,.bool false,.none] }:=Xab _ g
 have g2:=XaJ (Obj.mapFields fun x=>x.setIfInBounds 0 (Value.ref hp.objs.size)) g1 rfl
 refine ⟨.non,H2,?_,rfl,q2⟩
 have hu:upd H2 a (.ext (xFr a C od))=H2:=by
  funext b
  by_cases hb:b=a
  ·rw [hb,zac,ea]
  ·rw [zag hb]
 have J:=I2.write (x:=a) (e:=a) (o:=.ext (xFr a C od)) (t':=tk) (h':=(hp.push { cls:=.type "tuple",data:=.seq #[v2] }).update a (Obj.mapFields fun x=>x.setIfInBounds 0 (Value.ref hp.objs.size))) (by rw [ea];exact True.intro) (.inl rfl)
  (fun b u hb z=>(XaP _ _ (Ne.symm hb)).trans (Xab _ z)) ⟨_,g2⟩ (zmu ⟨hp.objs.size,g2⟩)
 rw [hu] at J
 exact J
end
theorem PA.nox {X:Cx}{es:List Expr}{t:TA}(h:PA X.nox es t):PA X es t:=fun p pins s σ H Q I hw =>
 Xas (h p pins s σ H Q (I.wish _) hw) (fun _ _ ⟨vs,H',I',r,q⟩=>⟨vs,H',I'.unwish,r,q⟩) fun _ _ z=>False.elim z
def unt (H:Hp)(e:Addr):Hp:=fun b=>if b=e then none else H b
theorem zhy {H:Hp}{e:Addr}:unt H e e=none:=by unfold unt;rw [if_pos rfl]
theorem zhz {H:Hp}{e b:Addr}(h:b≠e):unt H e b=H b:=by unfold unt;rw [if_neg h]
theorem ziI {P:Program}{w:World}{K:W.Frag}{mg:Str→Option Value}{base:Heap}{N:List Str}{qual:Str}{scope:Scope}{f:Addr}{cd:Value}{A:Around}{outer:List Env}{s:Shared}{H:Hp}{E:XK}
  {pins:List (Addr×Obj)} {σ:St} {H2:Hp} {s2:Shared} {e C:Addr} {od:Option Addr} (I:Inv (cxOf (CX1 P w) P w K mg base N qual scope f cd A outer s H E) pins σ H2 s2) (ee:H2 e=some (.ext (xFr e C od))) (hn:s.heap.get? e=none) (hE:E (.ref C) od (unt H2 e)) :
  (cxOf (CX1 P w) P w K mg base N qual scope f cd A outer s H E).xe (.ref e) s2:=by
 obtain ⟨t,he⟩:=(show xFr e C od s2.heap from (I.hok e _ ee).1)
 have b1:=I.base
 refine zfc I.ok.frames I.stack (L:=s.heap.objs.size) rfl he rfl rfl fun h'' T fT sl x=>?_
 have ne:∀ b o,s.heap.get? b=some o→b ∉ [e]:=fun b o q z=>by rw [Xad.mp z,hn] at q;cases q
 have nL:∀ b o,s.heap.get? b=some o→b ∉ frs outer→b ∉ ((envOfC qual scope s.heap.objs.size f cd) :: outer).filterMap (·.frame):=fun b o q hb z=>by
  rcases Xao.mp (show b∈s.heap.objs.size :: outer.filterMap (·.frame) from z) with r | r
  ·exact absurd r (Xaw (Xal q))
  ·exact hb r
 have nex:∀ b,b ∉ (cxOf (CX1 P w) P w K mg base N qual scope f cd A outer s H E).ex:=fun b=>by show b ∉ ([]:List Addr);simp
 have dif:∀ b o,H2 b=some o→o≠.ext (xFr e C od)→unt H2 e b=some o:=fun b o q hne=>by
  rw [zhz fun z=>hne (by rw [z,ee] at q;exact (Option.some.inj q).symm)];exact q
 refine ⟨e,T,unt H2 e,C,od,rfl,I.os,I.bare,⟨fun b o q n hb _=>?_,fun b o q n hb _=>?_,fun b o q n _=>?_,fun b o q _=>?_,fun b xs q=>dif _ _ (b1.tups b xs q) (fun z=>nomatch z),fun b o u q=>dif _ _ (b1.frzs b o u q) (fun z=>nomatch z),fun b ps q=>?_⟩,?_,x,hn,?_,zhy,?_,hE⟩
 ·exact (sl b o (b1.keep b o q n hb (nex b)) (ne b o q)).1 (nL b o q hb)
 ·obtain ⟨t1,e1⟩:=b1.slot b o q n hb (nex b)
  obtain ⟨t2,e2⟩:=(sl b _ e1 (ne b o q)).2
  exact ⟨t2,e2⟩
 ·have:=b1.free b o q n (nex b)
  unfold unt
  split
  ·rfl
  ·exact this
 ·obtain ⟨o',e1⟩:=b1.there b o q (nex b)
  obtain ⟨t2,e2⟩:=(sl b _ e1 (ne b o q)).2
  exact ⟨_,e2⟩
 ·obtain ⟨more,q'⟩:=b1.tbls b ps q
  exact ⟨more,dif _ _ q' (fun z=>nomatch z)⟩
 ·intro a o q
  have hae:a≠e:=fun z=>by rw [z,zhy] at q;cases q
  rw [zhz hae] at q
  refine (I.hok a o q).stay (fun b u hb hu=>?_) (fun b z=>dif _ _ z (fun z=>nomatch z)) fun b xs z=>dif _ _ z (fun z=>nomatch z)
  have hbe:b≠e:=by
   rcases hb with rfl | hb
   ·exact hae
   ·exact fun z=>by rw [z,ee] at hb;cases hb
  refine (sl b u hu fun z=>hbe (Xad.mp z)).1 fun z=>?_
  have hf:H2 b=none:=I.stkFree b z
  rcases hb with rfl | hb
  ·rw [hf] at q;cases q
  ·rw [hf] at hb;cases hb
 ·cases q:s.heap.get? T with
  | none=>rfl
  | some o =>
   obtain ⟨o',q'⟩:=b1.there T o q (nex T)
   rw [fT] at q';cases q'
 ·have:=I.hok.none_of fT
  unfold unt
  split
  ·rfl
  ·exact this
structure XIni (P:Program)(w:World)(K:W.Frag)(mg:Str→Option Value)(base:Heap)(k:Nat)(x:Str)(C:Addr)(sp:Sp):Prop where
 at_:mg x=some (.ref C)
 ex:∃ fI fd ps oI,ExcI K C fI∧(K.lookup fI=some oI∧oI.cls = .type "function")∧FnOk P w K mg base CX0 k fI fd ps sp∧Binds K fd ps []
def zlV (C:Addr)(sp:Sp)(E:XK)(t:TA):TS:=fun _ σ H=>t σ H fun vs H1=>vs.length≤1000∧∀ e,H1 e=none→sp ((.ref e :: vs) ++ []) (upd H1 e (.ext (xFr e C none))) (fun v H2=>v = .non∧∃ od,H2 e=some (.ext (xFr e C od))∧E (.ref C) od (unt H2 e)) E0
section
variable {X:Cx}{x:Str}{C:Addr}{e:Expr}{es:List Expr}{t:TA}{np cpos pos:Pos}{k:Nat}{sp:Sp}{E:XK}
theorem zjb (M:XIni X.prog X.w X.K X.mg X.base k x C sp)(hr:Room (k+1) X.A)(hg:Gl X x)(hc:X.calm=true)(hex:X.ex=[])(ha:PA X (e :: es) t)
  (hx:∀ (pins:List (Addr×Obj)) (σ:St) (H2:Hp) (s2:Shared) (ea:Addr) (od:Option Addr),Inv X pins σ H2 s2→H2 ea=some (.ext (xFr ea C od))→X.s₀.heap.get? ea=none→E (.ref C) od (unt H2 ea)→X.xe (.ref ea) s2)
  (hd:(x == ("__debug__" : Str))=false:=by decide) (hst:starEach (e :: es) X.env=(false,eval e X.env) :: starEach es X.env:=by rfl) (hpl:(backTo cpos (starEach es X.env)).any (·.1)=false:=by rfl) :
  PS X (.Raise (some (.Call (.Name x np) (e :: es) [] cpos)) none pos) (zlV C sp E t):=by
 intro pins s σ H D I h
 obtain ⟨hm,fI,fd,ps,oI,c,⟨hfI,hfc⟩,F,hb⟩:=M
 obtain ⟨nm,q,N,bs,bm,sn,sub,ab,col,dd,k0,k1,k2,k3,k5,hC,hN,hT⟩:=id c.ex
 obtain ⟨cN,d,es',ep,sl,hNl,hNs,hi⟩:=hN
 have T:=hT.tail I.kIn
 have hbase:bm.contains (.type "BaseException")=true:=T.hasType PySem.F.excBase_ValueError.hasBase
 refine zlL (C:=C) (nm:=nm) (q:=q) (N:=N) (bs:=bs) (bm:=bm) (hdct:=true) (sn:=sn) (sub:=sub) (ab:=ab) (col:=col) (dd:=dd) (k0:=k0) (k1:=k1) (k2:=k2) (k3:=k3) (k5:=k5) (mN:=nsFind es') (fI:=fI) (oI:=oI)
  hbase (I.ok.hd hc) (by rw [hst];show (false || (backTo cpos (starEach es X.env)).any (·.1))=false;rw [hpl];rfl) hi hfc (zb5 I hg hm ⟨rfl,?_⟩ hd)
 have h2:=ha cpos pins s σ H _ I h
 rw [hst] at h2 ⊢
 refine Calls.evalArgs_plain (thn h2 fun us s2 h3=>?_)
 obtain ⟨vs,H1,I2,r,hl,q1⟩:=h3
 have hlen:us.length=vs.length:=r.length.symm
 refine ⟨rfl,by show us.length≤sizeLine;rw [hlen,sizeLine_eq];omega,I2.kIn _ _ hC,⟨_,es',ep,I2.kIn _ _ hNl,rfl,hNs,fun _=>rfl⟩,hT.tail I2.kIn,I2.kIn _ _ hfI,fun h' ea hm'=>?_⟩
 have hnone:H1 ea=none:=I2.hok.none_of hm'.new
 have ours:=I2.none_ours hm'.new (by rw [hex];simp)
 have J:Inv X pins σ H1 { s2 with heap:=h' }:=I2.kept (t':=s2.toks) hm'.keeps
 obtain ⟨tt,ht,_⟩:=hm'.there
 have J2:Inv X pins σ (upd H1 ea (.ext (xFr ea C none))) { s2 with heap:=h' }:=J.trackE hnone (fun H'=>zmu ⟨tt,ht⟩) ours
 have q2:=q1 ea hnone
 have r2:Vals ((V.ref ea :: vs) ++ []) ((Value.ref ea :: us) ++ []):=(show Vals (V.ref ea :: vs) (Value.ref ea :: us) from .cons rfl r).append .nil
 have hl2:((Value.ref ea :: us) ++ []).length=ps.length:=by rw [← r2.length];exact F.len _ _ _ _ q2
 refine wpAny_call (Xbs (F.run _ X.stack _ _ ⟨Value.ref ea :: us,[]⟩ _ _ _ E0 (hr.make C us []) (J2.env0.make C us []) (hb _ (Value.ref ea :: us) J2.kIn hl2) r2 q2) fun rr s' hq=>?_)
 cases rr with
 | error ex=>exact False.elim hq
 | ok fl =>
  cases fl with
  | ret u =>
   obtain ⟨v,H',J3,rv,ev,od,e2,hE⟩:=J2.after hq
   subst ev
   obtain ⟨t3,g3⟩:=(show xFr ea C od s'.heap from (J3.hok ea _ e2).1)
   exact ⟨rv,t3,od,J3.kIn _ _ hC,g3,hx pins σ H' s' ea od J3 e2 ours.1 hE⟩
  | next=>exact False.elim hq
  | brk=>exact False.elim hq
  | cont=>exact False.elim hq
end
section
variable {X:Cx}{v:Expr}{es:List Expr}{p2:Pos}{ta:TE}{t:TJ}
end
end L2
end
section
namespace L2
open PySem PySem.Spec PyProof.Rows HT PySem.W PySem.Calls
section
variable {prog:Program}{w:World}{A:Around}
end
section
variable {X:Cx}
end
end L2
end
section
namespace L2
open PySem PySem.Spec PyProof.Rows PySem.SeqAt
def Itu (lo st:Int)(n:Nat):It:=⟨fun i _=>i<n,fun i H x H'=>H'=H∧x = .int (lo+i * st),fun i _=>n≤i⟩
theorem zgM {P:Program}{w:World}{K:PySem.W.Frag}{tg:Expr}(it:Addr)(lo st:Int)(n:Nat):Turn P w K tg (Itu lo st n) [it] it (fun i h=>IsRangeIter h it (lo+(i:Nat) * st) ((n:Int) - (i:Nat)) st) where
 mem:=by simp
 obj:=fun i h st b hb=>by
  have e:b=it:=by simpa using hb
  subst e
  exact ⟨_,st,fun v z=>by
   have z':Data.fields _=Data.cell v:=z
   cases z'⟩
 keep:=fun i h h' st k=>k it (by simp) _ st
 item:=by
  intro X hP hw hK hc i pins s σ H E I hf st' hg
  subst hP hw hK
  obtain ⟨f0,f1,f2,f3,f4,f5⟩:=hf it (by simp)
  have W:=Walks.range (prog:=X.prog) (w:=X.w) (I.ok.hd hc) it lo st n
  refine W.item i s _ _ hg st' fun v h' tk hv st'' kk=>?_
  obtain ⟨t,rfl⟩:=hv
  have I1:Inv X pins σ H { s with heap:=h',toks:=tk }:=I.turned (fun b o hb e=>kk b o (by simpa using hb) e) f0 f1 f3 f4 f5
  exact ⟨_,rfl,zjL (s:={ s with heap:=h',toks:=tk }) (n := "range_iterator") st'' rfl rfl (by decide) ⟨.int (lo+i * st),H,I1,⟨t,rfl⟩,⟨rfl,rfl⟩,st'',fun b hb=>(hf b hb).1⟩⟩
 done:=by
  intro X hP hw hK hc i pins s σ H E I hf st' hg
  subst hP hw hK
  obtain ⟨f0,f1,f2,f3,f4,f5⟩:=hf it (by simp)
  exact wpAny_pyNext_range_end (I.ok.hd hc) st' (by have:n≤i:=hg;omega) fun h' eb=>⟨rfl,I.turned (t':=s.toks) (fun b o hb e=>eb b o hb e) f0 f1 f3 f4 f5⟩
 self:=fun _ _ _ _ _ st h=>wpAny_pyIter_rangeiter st h
section
variable {X:Cx}{tg:Expr}
theorem zi7 {pins:List (Addr×Obj)}{σ:St}{H:Hp}{s:Shared}{R:It→Hp→Prop}{E:Value→Shared→Prop}{lo hi st:Int}{n:Nat}{t u v:Tok}{tk:Nat}(I:Inv X pins σ H s)(h1:Builtin.Range.small lo hi st=true)(hn:Builtin.Range.rangeSize lo hi st=(n:Int))
  (q:R (Itu lo st n) H):wpAny (model X.prog X.w) X.A (pyIter (.ref s.heap.objs.size)) (PIE X pins σ tg R) E { s with heap:=s.heap.push { cls:=.type "range",data:=.fields #[.int lo t,.int hi u,.int st v] },toks:=tk }:=by
 refine wpAny_pyIter_range (IsRange.new ..) h1 ?_
 have I1:Inv X pins σ H { s with heap:=s.heap.push { cls:=.type "range",data:=.fields #[.int lo t,.int hi u,.int st v] },toks:=tk }:=I.kept fun b o e=>Xab _ e
 refine ⟨(s.heap.push { cls:=.type "range",data:=.fields #[.int lo t,.int hi u,.int st v] }).objs.size,[(s.heap.push { cls:=.type "range",data:=.fields #[.int lo t,.int hi u,.int st v] }).objs.size],_,_,H,rfl,
  I1.kept (t':=tk) fun b o e=>Xab _ e,zgM _ lo st n,?_,fun b hb=>?_,q⟩
 ·have e1:lo+((0:Nat):Int) * st=lo:=by simp
  have e2:(n:Int) - ((0:Nat):Int)=Builtin.Range.rangeSize lo hi st:=by rw [hn];simp
  show IsRangeIter _ _ (lo+((0:Nat):Int) * st) ((n:Int) - ((0:Nat):Int)) st
  rw [e1,e2]
  exact Xaj _ rfl
 ·have e:b=(s.heap.push { cls:=.type "range",data:=.fields #[.int lo t,.int hi u,.int st v] }).objs.size:=by simpa using hb
  subst e
  exact I1.fpOk (Xae _) (I1.hok.fresh (Xae _))
inductive iRngS_1 (R:It→Hp→Prop)(vs:List V)(H1:Hp):Prop
 | mk (i j st:Int) (n:Nat) (z0_:vs=[.int i,.int j,.int st]) (z1_:st≠0) (z2_:Builtin.Range.small i j st=true) (z3_:Builtin.divisionGoesByPylong (j - i) st=false) (z4_:Builtin.Range.rangeSize i j st=(n:Int)) (z5_:R (Itu i st n) H1)
def iRngS (ta:TA):TI:=fun σ H R=>ta σ H (iRngS_1 R)
theorem zf0 {a b c:Expr}{ta:TA}{p pos:Pos}(hg:Gl X "range")(hm:X.mg "range" = none)(ha:PA X [a,b,c] ta)(hs:starEach [a,b,c] X.env=(false,eval a X.env) :: starEach [b,c] X.env:=by rfl)(hs2:(backTo pos (starEach [b,c] X.env)).any (·.1)=false:=by rfl) :
  PI X tg (.Call (.Name "range" p) [a,b,c] [] pos) (iRngS ta):=by
 intro pins s σ H R I h
 refine Call_ (zc5 I hg hm boot_range (PyProof.Rows.callWith_type1 (thn (ha pos pins s σ H _ I h) fun us s1 hh_=>?_) hs hs2))
 obtain ⟨vs,H1,I1,r1,q1⟩:=hh_
 obtain ⟨i,j,st,n,e,hne,q1,q2,q3,q⟩:=q1
 subst e
 cases r1 with
 | cons r rr =>
  cases rr with
  | cons r' rr =>
   cases rr with
   | cons r'' rr =>
    cases rr
    obtain ⟨t,rfl⟩:=r
    obtain ⟨t',rfl⟩:=r'
    obtain ⟨t'',rfl⟩:=r''
    exact call_range_3 hne (zi7 I1 q1 q3 q) (.inl q2)
end
theorem ze7 {lo st:Int}{n:Nat}{g:TG}{tb:TS}{D:Ends}{σ:St}{H:Hp}(Pv:Nat→St→Hp→Prop)(h0:Pv 0 σ H)
  (hs:∀ i σ H,i<n→Pv i σ H→g (.int (lo+i * st)) σ H fun σ2 H2=>tb { D with nx:=Pv (i+1),ct:=Pv (i+1),bk:=D.nx } σ2 H2) (hd:∀ σ H,Pv n σ H→D.nx σ H) :
  ∃ W:Nat→Nat→St→Hp→Prop,(∃ m,W 0 m σ H)∧∀ i m σ H,W i m σ H →
   ((Itu lo st n).stop i H∧D.nx σ H)∨((Itu lo st n).go i H∧∃ N:St→Hp→Prop,(∀ σ' H',N σ' H'→∃ m',m'<m∧W (i+1) m' σ' H')∧∀ x H',(Itu lo st n).yld i H x H'→g x σ H' fun σ2 H2=>tb { D with nx:=N,ct:=N,bk:=D.nx } σ2 H2):=by
 refine ⟨fun i m σ H=>m=n - i∧i≤n∧Pv i σ H,⟨n,by simp,Nat.zero_le _,h0⟩,?_⟩
 rintro i m σ H ⟨rfl,hi,p⟩
 by_cases hlt:i<n
 ·refine .inr ⟨hlt,Pv (i+1),fun σ' H' p'=>⟨n - (i+1),by omega,rfl,hlt,p'⟩,fun x H' y=>?_⟩
  obtain ⟨e,y⟩:=y
  subst e y
  exact hs i σ _ hlt p
 ·have e:i=n:=by omega
  subst e
  exact .inl ⟨Xae _,hd σ H p⟩
theorem zhA {j st n:Nat}(hj:j≤1000)(hs:0<st)(hs2:st≤1000)(hn:n=(j+st - 1) / st):Builtin.Range.small 0 (j:Int) (st:Int)=true∧Builtin.divisionGoesByPylong ((j:Int) - 0) (st:Int)=false∧Builtin.Range.rangeSize 0 (j:Int) (st:Int)=(n:Int):=by
 have e:Builtin.Range.rangeSize 0 (j:Int) (st:Int)=(n:Int):=by
  unfold Builtin.Range.rangeSize
  rw [if_pos (show (st:Int) > 0 by omega)]
  by_cases h:j=0
  ·subst h
   rw [if_neg (by omega),hn,show 0+st - 1=st - 1 by omega,Nat.div_eq_of_lt (by omega)];rfl
  ·rw [if_pos (by omega),hn,show (j:Int) - 0 - 1=((j - 1:Nat):Int) by omega,show j+st - 1=(j - 1)+st by omega,Nat.add_div_right _ hs]
   rfl
 have hn2:n≤2000:=by rw [hn];exact Xar (Nat.div_le_self _ _) (by omega)
 have fits:∀ k:Int,0≤k→k≤100000→Builtin.Range.rangeFitsLong k=true:=fun k h1 h2=>by unfold Builtin.Range.rangeFitsLong;simp;omega
 refine ⟨?_,PyProof.noPylong_small (by omega),e⟩
 unfold Builtin.Range.small
 simp [e,fits 0 (by omega) (by omega),fits (st:Int) (by omega) (by omega),fits (n:Int) (by omega) (by omega),fits (j:Int) (by omega) (by omega)]
 right
 rw [if_pos hs]
 exact fits _ (by omega) (by omega)
end L2
end
section
namespace L2
open PySem
section
variable {X:Cx}
end
section
variable {P:Program}{w:World}{K:W.Frag}{mg:Str→Option Value}{base:Heap}{k:Nat}{C f:Addr}{fd:FuncData}{m:Str}{ps ks:List Str}{gV:List V→List V→List V}{sp:Sp}
theorem zju (c:Cls K C)(a:W.findIn K (.ref C) m=some (some (.ref f)))(fn:W.isFn K (.ref f)=true)(kp:W.keepIn K (.ref f)=true)(G:FnOk P w K mg base (CX1 P w) k f fd ps sp)(b:Binds K fd ps []):MthX P w K mg base k C m [] (fun vs _=>vs) sp:=⟨c,f,fd,ps,_,⟨a,fn,kp⟩,G,.pos b⟩
theorem MthX.calm (M:MthX P w K mg base k C m ks gV sp):Mth P w K mg base k C m ks gV (fun vs H Q _=>sp vs H Q fun _ _ _=>False):=by
 obtain ⟨c,f,fd,ps,g,a,F,b⟩:=M
 exact ⟨c,f,fd,ps,g,a,F.calm,b⟩
end
end L2
end
section
namespace L2
open PySem
section
variable {P:Program}{w:World}{K:W.Frag}{mg:Str→Option Value}{base:Heap}{k:Nat}{C f:Addr}{fd:FuncData}{m:Str}{ps ks:List Str}{g:List Value→List Value→List Value}{gV:List V→List V→List V}{sp:Sp}
theorem zd3 (c:Cls K C)(a:W.findIn K (.ref C) m=some (some (.ref f)))(fn:W.isFn K (.ref f)=true)(kp:W.keepIn K (.ref f)=true)(G:FnOk P w K mg base (CX1 P w) k f fd ps sp)(b:KBinds K fd ps ks g gV):MthX P w K mg base k C m ks gV sp:=⟨c,f,fd,ps,g,⟨a,fn,kp⟩,G,b⟩
end
section
variable {X:Cx}{cn n:Str}{j:Nat}{Cb:Addr}{body hbody:List Stmt}{b₀:Stmt}{tb:(St→XK)→TS}{th:TS}{tr t:THd}{p4 p8 p9:Pos}{hs:List ExceptHandler}{h0:ExceptHandler}
end
section
variable {X:Cx}{k:Nat}{ks:List Str}{x:Str}{C:Addr}{gV:List V→List V→List V}{sp:Sp}{p pos:Pos}{e:Expr}{es:List Expr}{kws:List Keyword}{t tk:TA}
theorem zkI (M:Mak X.prog X.w X.K X.mg X.base k x C ks gV sp)(hr:Room (k+1) X.A)(hg:Gl X x)(ha:PA X (e :: es) t)(hkw:PK X kws tk)
  (hall:(backToKw pos (keywordEach kws X.env)).all (·.1.isSome)=true:=by rfl) (hks:(backToKw pos (keywordEach kws X.env)).filterMap (·.1)=ks:=by rfl) (hdb:(x == ("__debug__" : Str))=false:=by decide)
  (hpl:((backTo pos (starEach (e :: es) X.env)).any (·.1) || (backToKw pos (keywordEach kws X.env)).any (·.1.isNone))=false:=by rfl) (hst:starEach (e :: es) X.env=(false,eval e X.env) :: starEach es X.env:=by rfl):PE X (.Call (.Name x p) (e :: es) kws pos) (tMak C gV sp t tk):=by
 intro pins s σ H Q I h
 refine Xbb (zb5 I hg M.at_ ?_ hdb)
 refine W.callWith_KW (first:=[]) (h₀:=X.base) I.ok.mod.kin M.kp hall (thn (ha pos pins s σ H _ I h) fun us s2 hh_=>?_) hpl hst
 obtain ⟨vs,H2,I2,r,q2⟩:=hh_
 refine thn (hkw pos pins s2 σ H2 _ I2 q2) fun ws s3 ⟨zs,H3,I3,rz,q3⟩=>⟨I3.kIn,?_⟩
 rw [hks]
 exact zd0 M hr I3 r rz q3
end
section
variable {X:Cx}{pins:List (Addr×Obj)}{σ:St}{H:Hp}{s:Shared}{a:Addr}
theorem Inv.retrack {o o':HO}(I:Inv X pins σ H s)(e:H a=some o)(nt:∀ xs,o≠.tup xs)(no:∀ x,o≠.own x)(nb:∀ ps,o≠.tbl ps)(nf:∀ q u,X.H₀ a≠some (.frz q u))(ok':ObjOk X.prog X.w H s.heap a o'):Inv X pins σ (upd H a o') s:=by
 have hn:∀ b,H b=none→b≠a:=fun b n z=>by rw [z,e] at n;cases n
 have ht:∀ b xs,H b=some (.tup xs)→upd H a o' b=some (.tup xs):=fun b xs q=>by rw [zag (fun z=>by rw [z,e] at q;exact nt _ (Option.some.inj q))];exact q
 have ho:∀ c b,H b=some (.own c)→upd H a o' b=some (.own c):=fun c b q=>by rw [zag (fun z=>by rw [z,e] at q;exact no _ (Option.some.inj q))];exact q
 refine ⟨I.ok,I.os,I.bare,⟨I.base.keep,I.base.slot,fun b ob q n hx=>?_,I.base.there,fun b xs q=>ht b xs (I.base.tups b xs q),fun b ob u q=>?_,fun b ps q=>?_⟩,I.loc,I.cell,?_,fun x c q=>?_,fun p hp=>?_,fun b u hb=>?_,I.len⟩
 ·have:=I.base.free b ob q n hx;rw [zag (hn b this)];exact this
 ·rw [zag (fun z=>by rw [z] at q;exact nf ob u q)];exact I.base.frzs b ob u q
 ·obtain ⟨m,q1⟩:=I.base.tbls b ps q
  exact ⟨m,by rw [zag (fun z=>by rw [z,e] at q1;exact nb _ (Option.some.inj q1))];exact q1⟩
 ·rw [zag (hn _ I.free)];exact I.free
 ·rw [zag (hn _ (I.freeC x c q))];exact I.freeC x c q
 ·obtain ⟨h1,h2,h3⟩:=I.pin p hp
  exact ⟨h1,by rw [zag (hn _ h2)];exact h2,h3⟩
 ·by_cases z:b=a
  ·subst z
   rw [zac] at hb
   obtain rfl:=Option.some.inj hb
   exact ok'.stay (fun _ _ _ q=>q) (ho b) ht
  ·rw [zag z] at hb
   exact (I.hok b u hb).stay (fun _ _ _ q=>q) (ho b) ht
theorem Inv.freeze {kvs:List (Key×V)}{q:Obj}(I:Inv X pins σ H s)(e:H a=some (.dK kvs))(hq:s.heap.get? a=some q):Inv X pins σ (upd H a (.frz q (.dK kvs))) s:=
 I.retrack e (fun _ z=>by cases z) (fun _ z=>by cases z) (fun _ z=>by cases z) (fun o u z=>by have:=I.base.frzs a o u z;rw [e] at this;cases this) ⟨hq,I.hok a _ e⟩
theorem Inv.thaw {kvs:List (Key×V)}{q:Obj}(I:Inv X pins σ H s)(e:H a=some (.frz q (.dK kvs)))(nf:∀ q u,X.H₀ a≠some (.frz q u)):Inv X pins σ (upd H a (.dK kvs)) s:=
 I.retrack e (fun _ z=>by cases z) (fun _ z=>by cases z) (fun _ z=>by cases z) nf (I.hok a _ e).2
end
def Itv (a:Addr)(q:Obj)(kvs:List (Key×V)):It:=
 ⟨fun i H=>H a=some (.frz q (.dK kvs))∧i<kvs.length,fun i H x H'=>H'=H∧∃ k,kvs[i]? = some (k,x),fun i H=>H a=some (.frz q (.dK kvs))∧kvs.length≤i⟩
theorem zln {α β:Type}{F:α→β→Prop}:∀ {l:List α} {m:List β} {i:Nat} {x:α},Paired F l m→l[i]? = some x→∃ y,m[i]? = some y∧F x y
 | _ :: _,_ :: _,0,_,.cons r _,h=>⟨_,rfl,Option.some.inj h ▸ r⟩
 | _ :: l,_ :: m,i+1,x,.cons _ t,h=>by
  obtain ⟨y,hy,f⟩:=zln (l:=l) (m:=m) (i:=i) (x:=x) t h
  exact ⟨y,hy,f⟩
 | [],_,_,_,_,h=>nomatch h
theorem ziP {P:Program}{w:World}{K:W.Frag}{tg:Expr}(a it:Addr)(q:Obj)(kvs:List (Key×V))(vs:List (Key×Value))(ep:Nat)(rel:KV kvs vs)(da:∀ h:Heap,h.get? a=some q→h.DictAt (zaE P w) a vs ep):Turn P w K tg (Itv a q kvs) [it] it (fun i h=>h.IsValIter it a i vs.length ep) where
 mem:=by simp
 obj:=fun i h st b hb=>by
  have e:b=it:=by simpa using hb
  subst e
  obtain ⟨o,e,c,d⟩:=st
  exact ⟨o,e,fun v z=>by rw [d] at z;cases z⟩
 keep:=fun i h h' ⟨o,e,c,d⟩ k=>⟨o,k it (by simp) o e,c,d⟩
 item:=by
  intro X hP hw hK hc i pins s σ H E I hf st hg
  subst hP hw hK
  obtain ⟨ea,hi⟩:=hg
  have hq:=(I.hok a _ ea).1
  obtain ⟨⟨k,x⟩,hx⟩:∃ y,kvs[i]? = some y:=⟨_,Xav hi⟩
  obtain ⟨⟨k',u⟩,hu,ek,ru⟩:=zln rel hx
  obtain ⟨f0,f1,f2,f3,f4,f5⟩:=hf it (by simp)
  refine wpAny_pyNext_values_item (knd:=zaE X.prog X.w) st (da _ hq) hu fun h' st' sb=>?_
  have I1:Inv X pins σ H { s with heap:=h' }:=I.turned (t':=s.toks) (fun b o hb e=>(sb.2 b hb).trans e) f0 f1 f3 f4 f5
  obtain ⟨o,e,c,d⟩:=id st'
  exact ⟨u,rfl,zjL (s:={ s with heap:=h' }) e c d (by decide) ⟨x,H,I1,ru,⟨rfl,k,hx⟩,st',fun b hb=>(hf b hb).1⟩⟩
 done:=by
  intro X hP hw hK hc i pins s σ H E I hf st hg
  subst hP hw hK
  obtain ⟨ea,hi⟩:=hg
  have hq:=(I.hok a _ ea).1
  obtain ⟨f0,f1,f2,f3,f4,f5⟩:=hf it (by simp)
  have hl:=rel.length
  exact wpAny_pyNext_values_end (knd:=zaE X.prog X.w) (I.ok.hd hc) st (da _ hq) (by simp;omega) fun h' eb=>⟨rfl,I.turned (t':=s.toks) (fun b o hb e=>eb b o hb e) f0 f1 f3 f4 f5⟩
 self:=fun _ _ _ _ _ st h=>wpAny_pyIter_valiter st h
inductive iVals_1 (R:It→Hp→Prop)(x:V)(H1:Hp):Prop
 | mk (p:_) (a:_) (kvs:_) (z0_:x = .ref p) (z1_:H1 p=some (.ext (vwV p a))) (z2_:H1 a=some (.dK kvs)) (z3_:∀ q,R (Itv a q kvs) (upd H1 a (.frz q (.dK kvs))))
def iVals (tl:TE):TI:=fun σ H R=>tl σ H (iVals_1 R)
section
variable {X:Cx}{tg:Expr}
theorem zmc {l:Expr}{tl:TE}(hl:PE X l tl):PI X tg l (iVals tl):=by
 intro pins s σ H R I h
 refine thn (hl pins s σ H _ I h) fun v s1 hh_=>?_
 obtain ⟨x,H1,I1,r1,q1⟩:=hh_
 obtain ⟨p,a,kvs,e,ep,ea,q⟩:=q1
 subst e
 cases r1
 obtain ⟨hz,lo,vs,rel,dd⟩:=zjT I1.hok ea
 obtain ⟨ep',da⟩:=dd.dictAt
 have vw:s1.heap.IsValuesView p a:=(I1.hok p _ ep).1
 obtain ⟨oq,es,hoq,rest⟩:=id da
 refine wpAny_pyIter_values vw da ?_
 have I2:=I1.freeze ea hoq
 refine ⟨s1.heap.objs.size,[s1.heap.objs.size],_,_,_,rfl,I2.kept (t':=s1.toks) fun b o e=>Xab _ e,ziP a _ oq kvs vs ep' rel (fun h hh=>⟨oq,es,hh,rest⟩),⟨_,Xaj _ rfl,rfl,rfl⟩,fun b hb=>?_,q oq⟩
 have e:b=s1.heap.objs.size:=by simpa using hb
 subst e
 exact I2.fpOk (Xae _) (I2.hok.fresh (Xae _))
inductive tThaw (t:TS)(D:Ends)(σ:St)(H:Hp):Prop
 | mk (a:_) (kvs:_) (z0_:H a=some (.dK kvs)) (z1_:t ⟨fun σ' H'=>∃ q,H' a=some (.frz q (.dK kvs))∧D.nx σ' (upd H' a (.dK kvs)),fun v H'=>∃ q,H' a=some (.frz q (.dK kvs))∧D.rt v (upd H' a (.dK kvs)),fun σ' H'=>∃ q,H' a=some (.frz q (.dK kvs))∧D.bk σ' (upd H' a (.dK kvs)),fun σ' H'=>∃ q,H' a=some (.frz q (.dK kvs))∧D.ct σ' (upd H' a (.dK kvs))⟩ σ H)
theorem zl8 {st:Stmt}{t:TS}(h:PS X st t):PS X st (tThaw t):=by
 intro pins s σ H D I ⟨a,kvs,e,h0⟩
 have nf:∀ q u,X.H₀ a≠some (.frz q u):=fun o u z=>by have:=I.base.frzs a o u z;rw [e] at this;cases this
 refine thn (h pins s σ H _ I h0) fun f s' q=>?_
 cases f with
 | next=>obtain ⟨σ',H',I',o,e',d⟩:=q;exact ⟨σ',_,I'.thaw e' nf,d⟩
 | brk=>obtain ⟨σ',H',I',o,e',d⟩:=q;exact ⟨σ',_,I'.thaw e' nf,d⟩
 | cont=>obtain ⟨σ',H',I',o,e',d⟩:=q;exact ⟨σ',_,I'.thaw e' nf,d⟩
 | ret u=>obtain ⟨v,σ',H',I',r,o,e',d⟩:=q;exact ⟨v,σ',_,I'.thaw e' nf,r,d⟩
end
theorem zk0 {a:Addr}{q:Obj}{kvs:List (Key×V)}{g:TG}{tb:TS}{D:Ends}{σ:St}{H:Hp}(Pv:Nat→St→Hp→Prop)(h0:Pv 0 σ H)(hl:∀ i σ H,i≤kvs.length→Pv i σ H→H a=some (.frz q (.dK kvs)))
  (hs:∀ i k x σ H,kvs[i]? = some (k,x)→Pv i σ H→g x σ H fun σ2 H2=>tb { D with nx:=Pv (i+1),ct:=Pv (i+1),bk:=D.nx } σ2 H2) (hd:∀ σ H,Pv kvs.length σ H→D.nx σ H) :
  ∃ W:Nat→Nat→St→Hp→Prop,(∃ m,W 0 m σ H)∧∀ i m σ H,W i m σ H →
   ((Itv a q kvs).stop i H∧D.nx σ H)∨((Itv a q kvs).go i H∧∃ N:St→Hp→Prop,(∀ σ' H',N σ' H'→∃ m',m'<m∧W (i+1) m' σ' H')∧∀ x H',(Itv a q kvs).yld i H x H'→g x σ H' fun σ2 H2=>tb { D with nx:=N,ct:=N,bk:=D.nx } σ2 H2):=by
 refine ⟨fun i m σ H=>m=kvs.length - i∧i≤kvs.length∧Pv i σ H,⟨kvs.length,by simp,Nat.zero_le _,h0⟩,?_⟩
 rintro i m σ H ⟨rfl,hi,p⟩
 have e:=hl i σ H hi p
 by_cases hlt:i<kvs.length
 ·refine .inr ⟨⟨e,hlt⟩,Pv (i+1),fun σ' H' p'=>⟨kvs.length - (i+1),by omega,rfl,hlt,p'⟩,fun x H' y=>?_⟩
  obtain ⟨e',k,y⟩:=y
  subst e'
  exact hs i k x σ _ y p
 ·have e2:i=kvs.length:=by omega
  subst e2
  exact .inl ⟨⟨e,Xae _⟩,hd σ H p⟩
section
variable {X:Cx}{K:W.Frag}
theorem zfv (hK:X.K=K):OpR X (compareOp .NotIn) (rIn K true):=by subst hK;exact zf4
end
section
variable {X:Cx}{a b e:Expr}{ta tb te:TE}{pos pos':Pos}{x:Str}
theorem pe_x {r:R2}(hr:IxR X r)(ha:PE X a ta)(hb:PE X b tb)(hs:zkh b:=by exact fun _ _=>rfl):PE X (.Subscript a b pos) (tOp r ta tb):=pe_ix hr ha hb hs
theorem ps_L (i:Nat)(hN:X.N.Nodup)(he:PE X e te)(hi:X.N[i]? = some x:=by rfl)(hx:Loc X.env.scope x:=by exact Or.inl rfl)(hs:swapsWith e (some (.Name x pos')) pos.line X.env=pure false:=by rfl)(hf:X.fn x=true∨X.env.scope.names.lookup x=some .local:=by first | exact .inl rfl | exact .inr rfl | assumption):PS X (.Assign [.Name x pos'] e pos) (tAsg te (za6 i)):=zll hN hi hx he hs hf
theorem pg_L (i:Nat)(hN:X.N.Nodup)(hi:X.N[i]? = some x:=by rfl)(hx:Loc X.env.scope x:=by exact Or.inl rfl)(hf:X.fn x=true∨X.env.scope.names.lookup x=some .local:=by first | exact .inl rfl | exact .inr rfl | assumption):PG X (.Name x pos) (za6 i):=zme hN hi hx hf
theorem hrm {j k:Nat}{A:Around}(r:Room k A)(h:j≤k:=by first | exact Nat.le_of_ble_eq_true rfl | omega):Room j A:=r.mono h
theorem pe_c {k:Nat}{ps:List Str}{sp:Sp}{p:Pos}{e:Expr}{es:List Expr}{t:TA}(C:Cal X.prog X.w X.K X.mg X.base k x ps sp)(ha:PA X (e :: es) t)(hr:Room k X.A:=by exact hrm (by assumption))(hg:Gl X x:=by rfl)(hdb:(x == ("__debug__" : Str))=false:=by decide)
  (he:starEach (e :: es) X.env=(false,eval e X.env) :: starEach es X.env:=by rfl) (hpl:(backTo pos (starEach es X.env)).any (·.1)=false:=by rfl):PE X (.Call (.Name x p) (e :: es) [] pos) (zkr sp [] E0 t):=pe_cal C hr hg ha hdb he hpl
theorem sck {N P:List Str}{sc:Scope}(h1:sc.kind = .function)(h2:sc.isCoroutine=false)(h3:sc.isGenerator=false)(h:N.Nodup∧N.take P.length=P∧(∀ x∈P,sc.names.lookup x=some .local∨sc.names.lookup x=some .cell)∧∀ y∈sc.names,y.2≠.free):FnScope N P sc:=⟨h1,h2,h3,h.1,h.2.1,h.2.2.1,h.2.2.2⟩
end
end L2
end
section
namespace L2
open PySem PySem.Spec PyProof.Rows PySem.SeqAt
section
variable {X:Cx}{K:W.Frag}
end
section
open PySem.W PySem.Calls
variable {K:Frag}{x C:Addr}
variable {X:Cx}
end
section
variable {P:Program}{w:World}{K:W.Frag}{mg:Str→Option Value}{base:Heap}{k:Nat}{x:Str}{C:Addr}{ks:List Str}{gV:List V→List V→List V}{sp:Sp}
end
section
variable {prog:Program}{w:World}{A:Around}{E:Value→Shared→Prop}{s:Shared}
end
section
variable {X:Cx}{o:Expr}{td tv:TE}{pos p1 p2 p3:Pos}{k0:Nat}
end
end L2
end
section
namespace L2
open PySem PySem.Spec PyProof.Rows HT
section
variable {M:Model}{A:Around}{E:Value→Shared→Prop}{s:Shared}
end
section
variable {P:Program}{w:World}{K:W.Frag}{mg:Str→Option Value}{base:Heap}{N:List Str}{qual:Str}{scope:Scope}{f:Addr}{cd:Value}{A:Around}{outer:List Env}{s:Shared}{H:Hp}{E:XK}
end
section
variable {X:Cx}{tg:Expr}
end
end L2
end
section
namespace L2
open PySem PySem.Spec PyProof.Rows PySem.SeqAt
section
variable {X:Cx}
end
end L2
end
section
namespace L2
open PySem PySem.Spec PyProof.Rows PySem.SeqAt
section
variable {X:Cx}
end
end L2
end
section
namespace L2
open PySem PySem.Spec PyProof.Rows PySem.SeqAt
section
variable {X:Cx}
end
end L2
end
section
namespace L2
open PySem PySem.Spec PyProof.Rows PySem.SeqAt
section
variable {X:Cx}
theorem zkf (bs:List Bool)(tr:Nat→Bool)(h:∀ i b,bs[i]? = some b→tr i=b):(List.range bs.length).any tr=bs.any id:=by
 induction bs generalizing tr with
 | nil=>rfl
 | cons b r ih =>
  rw [Xau,List.range_succ_eq_map,List.any_cons,List.any_map,List.any_cons,h 0 b rfl]
  have:=ih (tr ∘ Nat.succ) (fun i c hi=>h (i+1) c (by simpa using hi))
  rw [this];rfl
theorem bt_any:bootBuiltins "any" = some (.builtin "any"):=by decide +kernel
theorem zj9 (hc:X.calm=true):zdc X (.builtin "any") (fun xs H Q=>∃ (a:Addr) (bs:List Bool),xs=[.ref a]∧SqL X.K H a (bs.map V.bl)∧Q (.bl (bs.any id)) H):=by
 intro pins s σ H xs us Q I r h
 obtain ⟨a,bs,rfl,hq,q⟩:=h
 obtain ⟨u,rfl,ru⟩:=zdL r
 cases ru
 obtain ⟨its,rv,p,hz⟩:=I.list hq
 have hl:=rv.length
 rw [Xaf] at hl
 refine call_any_walk (wpAny_pyIter_list p.isList ?_)
 have hne:a≠s.heap.objs.size:=by
  obtain ⟨o,ho,_⟩:=p.isList
  exact Xaw (Xal ho)
 refine ⟨s.heap.objs.size,_,_,_,_,_,fun i=>(bs[i]?).getD true,rfl,Walks.list (A:=X.A.in1) (I.ok.hd hc) s.heap.objs.size a hne its.toArray,⟨⟨_,Xaj _ rfl,rfl,rfl⟩,p.isList.push _⟩,?_,fun h' tk kk=>?_⟩
 ·intro i v s' Q' E' hv hq'
  have hv':its[i]? = some v:=by simpa using hv
  cases hn:bs[i]? with
  | none =>
   exfalso
   rw [XbB,hl] at hn
   rw [XaD hn] at hv'
   cases hv'
  | some b =>
   obtain ⟨u',hu',ru'⟩:=rv.get (i:=i) (x:=V.bl b) (by simp [hn])
   obtain rfl:u'=Value.bool b:=ru'
   rw [hu'] at hv';cases hv'
   have hq2:Q' ((bs[i]?).getD true) s':=hq'
   rw [hn] at hq2
   exact XaU hq2
 ·have e:(List.range its.toArray.size).any (fun i=>(bs[i]?).getD true)=bs.any id:=by
   rw [show its.toArray.size=bs.length by simp;omega]
   exact zkf bs _ fun i b h=>by rw [h];rfl
  rw [e]
  refine ⟨.bl _,H,I.kept (t':=tk) fun b o e1=>kk b o (fun hb=>?_) (Xab _ e1),rfl,q⟩
  have hb:=Xad.mp hb
  exact absurd (Xal e1) (by rw [hb];exact XaR _)
theorem op_neS {K:W.Frag}(hu:X.A.units<cLine)(hK:X.K=K):OpR X (compareOp .NotEq) (fun x y H Q=>∃ (a:Addr) (xs:List V),x = .ref a∧y = .ref a∧SqT K H a xs∧Q (.bl false) H):=by
 subst hK
 rintro pins s σ H x y v u Q I rx ry ⟨a,xs,rfl,rfl,ha,q⟩
 cases rx;cases ry
 obtain ⟨t1,w1,p1,_⟩:=I.tuple ha
 refine RcNeAt.tuples (e:=fun _=>true) p1 p1 hu (fun j h1 h2=>.same _) _ _ _ _ ⟨.bl false,H,I,?_,q⟩
 show _=Value.bool false
 rw [show (List.range (min t1.toArray.size t1.toArray.size)).all (fun _=>true)=true from Xbd.mpr fun _ _=>rfl]
 simp
theorem zmq {K:W.Frag}(hu:X.A.units+1<cLine)(hK:X.K=K):OpR X (compareOp .Eq) (fun x y H Q=>∃ (a b l m:Addr) (k:Str) (i j:Int),x = .ref a∧y = .ref b∧H a=some (.lst [.ref l])∧H b=some (.lst [.ref m])∧H l=some (.tup [.str k,.int i,.int j])∧H m=some (.tup [.str k,.int i,.int j])∧l≠m∧Q (.bl true) H):=by
 subst hK
 rintro pins s σ H x y v u Q I rx ry ⟨a,b,l,m,k,i,j,rfl,rfl,ha,hb,hl,hm,ne,q⟩
 cases rx;cases ry
 obtain ⟨t1,w1,p1,_⟩:=I.list (SqL.of ha)
 obtain ⟨t2,w2,p2,_⟩:=I.list (SqL.of hb)
 obtain ⟨i1,r1,q1,_⟩:=I.tuple (SqT.of hl)
 obtain ⟨i2,r2,q2,_⟩:=I.tuple (SqT.of hm)
 have e1:t1=[Value.ref l]:=by
  cases w1 with
  | cons h w=>cases w;cases h;rfl
 have e2:t2=[Value.ref m]:=by
  cases w2 with
  | cons h w=>cases w;cases h;rfl
 have f1:∃ a b c,i1=[Value.str k a,Value.int i b,Value.int j c]:=by
  cases r1 with
  | cons h w=>cases w with
   | cons h2 w=>cases w with
    | cons h3 w =>
     cases w
     obtain ⟨x1,rfl⟩:=(show ∃ t,_=Value.str k t from h)
     obtain ⟨x2,rfl⟩:=(show ∃ t,_=Value.int i t from h2)
     obtain ⟨x3,rfl⟩:=(show ∃ t,_=Value.int j t from h3)
     exact ⟨_,_,_,rfl⟩
 have f2:∃ a b c,i2=[Value.str k a,Value.int i b,Value.int j c]:=by
  cases r2 with
  | cons h w=>cases w with
   | cons h2 w=>cases w with
    | cons h3 w =>
     cases w
     obtain ⟨x1,rfl⟩:=(show ∃ t,_=Value.str k t from h)
     obtain ⟨x2,rfl⟩:=(show ∃ t,_=Value.int i t from h2)
     obtain ⟨x3,rfl⟩:=(show ∃ t,_=Value.int j t from h3)
     exact ⟨_,_,_,rfl⟩
 obtain ⟨a1,b1,c1,rfl⟩:=f1
 obtain ⟨a2,b2,c2,rfl⟩:=f2
 subst e1 e2
 refine RcAt.lists (e:=fun _=>true) p1.isList p2.isList rfl (Xbn hu) (fun g h1 h2=>?_) _ _ _ _ ⟨.bl true,H,I,?_,q⟩
 ·have g1:g<1:=by simpa using h1
  obtain rfl:g=0:=by omega
  refine EqAt.of_refs ne ?_
  have:=RcAt.tuples (A:=X.A.in1) (s:=s) (e:=fun _=>true) q1 q2 hu (fun g h1 h2=>?_)
  ·exact this
  ·have g1:g<3:=by simpa using h1
   rcases (show g=0∨g=1∨g=2 by omega) with rfl | rfl | rfl
   ·have:=EqAt.str_str (A:=X.A.in1.in1) (s:=s) k a1 k a2
    rw [beq_self_eq_true] at this
    exact this
   ·have:=EqAt.int_int (A:=X.A.in1.in1) (s:=s) i b1 i b2
    rw [beq_self_eq_true] at this
    exact this
   ·have:=EqAt.int_int (A:=X.A.in1.in1) (s:=s) j c1 j c2
    rw [beq_self_eq_true] at this
    exact this
 ·show _=Value.bool true
  rfl
end
end L2
end
local macro_rules | `(tactic| omega)=>`(tactic| lia)
set_option maxHeartbeats 8000000
namespace Cb
open PySem L2
def top (i:Nat):Stmt:=PySem.Challenge.pw_chipbus_k31_boards_made.main.body.getD i (.Pass ⟨0,0,0,0⟩)
set_option tactic.hygienic true in
theorem zkd {b:Int}{k:Nat}(h:b.natAbs<2 ^ k):Builtin.Int.intBits b≤k:=by
 unfold Builtin.Int.intBits
 split
 ·omega
 ·rename_i h0
  have h1:b.natAbs≠0:=by first | omega | (intro z;simp_all)
  have:=(Nat.log2_lt h1).mpr h
  omega
theorem zeC {a b:Int}(ha:a.natAbs<2 ^ 200)(hb:b.natAbs<2 ^ 200):IntMulOk a b:=IntMulOk.of_bits (Xar (zkd ha) (by decide)) (Xar (zkd hb) (by decide))
theorem log_ok {m:Int}(h:0<m)(h2:m≤2 ^ 64):m.natAbs.log2<9000:=by
 have h1:m.natAbs≠0:=by omega
 exact Xak ((Nat.log2_lt h1).mpr (show m.natAbs<2 ^ 65 by omega)) (by decide)
local macro_rules | `(tactic| walk_at "l")=>`(tactic| (rintro _ _ _ _ ⟨⟩;subst_vars;rfl))
local macro_rules | `(tactic| walk_at "sd")=>`(tactic| first | assumption | (exact ⟨by decide,by decide,by decide⟩) | (exact ⟨by assumption,by assumption⟩) | (exact ⟨by decide,by decide +kernel⟩) | (show (0:Int)<_;decide))
local macro_rules | `(tactic| walk_at "hp")=>`(tactic| first | assumption | exact zac)
local macro_rules | `(tactic| walk_at "vc")=>`(tactic| repeat (first | refine ⟨_,rfl,?_⟩ | refine ⟨_,_,rfl,rfl,?_⟩ | refine ⟨_,_,rfl,?_⟩ | refine ⟨_,_,_,_,rfl,rfl,SqL.of (by walk_at "hp"),rfl,?_⟩ | refine ⟨_,_,_,_,rfl,rfl,(by walk_at "hp"),rfl,?_⟩ | refine And.intro (by walk_at "sd") ?_))
theorem zkw {t u:TS}{D:Ends}(S S':St→Hp→Prop)(h1:∀ σ H,S σ H→∀ N:St→Hp→Prop,(∀ σ' H',S' σ' H'→N σ' H')→t { D with nx:=N } σ H)(h2:∀ σ' H',S' σ' H'→u D σ' H'):∀ σ H,S σ H→tSeq t u D σ H:=
 fun σ H s=>h1 σ H s _ h2
theorem za2 {t u:TS}{D:Ends}{σ:St}{H:Hp}(S':St→Hp→Prop)(h1:∀ N:St→Hp→Prop,(∀ σ' H',S' σ' H'→N σ' H')→t { D with nx:=N } σ H)(h2:∀ σ' H',S' σ' H'→u D σ' H'):tSeq t u D σ H:=h1 _ h2
theorem zky (m:Nat)(x:Nat):((List.replicate m [V.int (x:Int)]).flatten:List V)=vN (List.replicate m x):=by
 unfold vN
 rw [XbR]
 induction m with
 | zero=>rfl
 | succ m ih=>rw [Xa1,List.flatten_cons,ih,Xa1];rfl
theorem zlc (l:List Nat)(j r:Nat):(vN l).set j (.int (r:Int))=vN (l.set j r):=by unfold vN;rw [List.map_set]
theorem ln0 {α:Type}{P:List α→Prop}(us:List α)(h:us.length=0)(k:P []):P us:=by
 rw [List.eq_nil_of_length_eq_zero h];exact k
theorem lnS {α:Type}{P:List α→Prop}{n:Nat}(us:List α)(h:us.length=n+1)(k:∀ a (r:List α),r.length=n→P (a :: r)):P us:=by
 cases us with
 | nil=>cases h
 | cons a r=>exact k a r (Nat.succ.inj h)
theorem ln1 {α:Type}{P:List α→Prop}(us:List α)(h:us.length=1)(k:∀ a,P [a]):P us:=lnS us h fun a r h=>ln0 (P:=fun r=>P (a :: r)) r h (k a)
theorem ln2 {α:Type}{P:List α→Prop}(us:List α)(h:us.length=2)(k:∀ a b,P [a,b]):P us:=lnS us h fun a r h=>ln1 (P:=fun r=>P (a :: r)) r h (k a)
theorem ln3 {α:Type}{P:List α→Prop}(us:List α)(h:us.length=3)(k:∀ a b c,P [a,b,c]):P us:=lnS us h fun a r h=>ln2 (P:=fun r=>P (a :: r)) r h (k a)
theorem ln4 {α:Type}{P:List α→Prop}(us:List α)(h:us.length=4)(k:∀ a b c d,P [a,b,c,d]):P us:=lnS us h fun a r h=>ln3 (P:=fun r=>P (a :: r)) r h (k a)
theorem ln5 {α:Type}{P:List α→Prop}(us:List α)(h:us.length=5)(k:∀ a b c d e,P [a,b,c,d,e]):P us:=lnS us h fun a r h=>ln4 (P:=fun r=>P (a :: r)) r h (k a)
local macro_rules | `(tactic| walk_at "o")=>`(tactic| first | exact Or.inl rfl | exact Or.inr (Or.inl rfl) | exact Or.inr (Or.inr rfl))
local macro_rules | `(tactic| walk_at "p")=>`(tactic| first | exact .inl rfl | exact .inr rfl | assumption)
local macro_rules | `(tactic| walk_at "m")=>`(tactic| first | decide | omega)
theorem zjE {n c:Nat}(h:c<n):ixN n (c:Int)=some c:=by
 unfold ixN;rw [if_pos (by omega),if_pos (by omega)];simp
theorem zi4 {α:Type}(n:Nat)(x:α):(List.replicate n [x]).flatten=List.replicate n x:=by
 induction n with
 | zero=>rfl
 | succ n ih=>rw [Xa1,List.flatten_cons,ih,Xa1];rfl
theorem zlb {l:List Nat}{r n:Nat}(h:∀ w∈l,w≤n)(hr:r≤n):∀ w∈l ++ [r],w≤n:=fun b hb=>by
 rcases XaF.mp hb with z | z
 ·exact h b z
 ·rw [Xad.mp z];exact hr
theorem zhR {xs:List V}{m:Nat}(h:m≤xs.length):cutV xs none (some (m:Int))=xs.take m:=by
 unfold cutV HT.sIx
 have e:((m:Int)).toNat=m:=by omega
 simp only [List.drop_zero,Nat.sub_zero]
 split
 ·omega
 ·rw [e,Nat.min_eq_left h]
theorem zi2 {H:Hp}{x dx:Addr}{o1 o2:HO}(hx:H x=none)(hdx:H dx=none):Same H (upd (upd H dx o1) x o2):=fun b u e=>by
 rw [zag (zaj e hx),zag (zaj e hdx)];exact e
theorem zfN {P:Hp→Prop}{Hr:Hp}(R:Hp→Prop)(hr:R Hr)(h:∀ H',R H'→P H'):P Hr:=h _ hr
theorem zlS (l:List Nat)(n:Nat):(vN l).drop n=vN (l.drop n):=by unfold vN;rw [List.map_drop]
theorem zaw {D:Ends}{σ:St}{H:Hp}(h:D.nx σ H):tNext D σ H:=h
theorem vN_at' {l:List Nat}{i v:Nat}(h:l[i]? = some v):(vN l)[i]? = some (V.int (v:Int)):=by unfold vN;rw [Xat,h];rfl
def mulL:List Nat→List Nat→List Nat
 | a :: r,b :: s=>(a * b) :: mulL r s
 | _,_=>[]
theorem zkU (n s:Nat):n &&& (2 * s)=2 * ((n / 2) &&& s):=by
 rcases Xa6 n with h | h
 ·rw [show n=2 * (n / 2) by omega,zgj,show 2 * (n / 2) / 2=n / 2 by omega]
 ·rw [show n=2 * (n / 2)+1 by omega,zfG,show (2 * (n / 2)+1) / 2=n / 2 by omega]
inductive spSize (vs:List V)(H:Hp)(Q:VK)(u3_:XK):Prop
 | mk (n:Nat) (z0_:vs=[.int (n:Int)]) (z1_:n≤16) (z2_:Q (.int (2 ^ n)) H)
theorem zmI {xs:List V}{lo hi:Option Int}{x:V}(h:x∈cutV xs lo hi):x∈xs:=XbE (List.mem_of_mem_take h)
theorem zfS:∀ l:List Nat,Bit l→sgl (num (l ++ [1]))=sgl (num l) ++ [2 ^ l.length]
 | [],_=>by
  show sgl (2 * 0+1)=sgl 0 ++ [1]
  rw [zdg,zc0];rfl
 | b :: l,h=>by
  have ih:=zfS l fun x hx=>h x (Xax _ hx)
  have hb:=h b XaB
  have e1:num (b :: (l ++ [1]))=b+2 * num (l ++ [1]):=rfl
  have e2:num (b :: l)=b+2 * num l:=rfl
  rw [List.cons_append,e1,e2]
  rcases (show b=0∨b=1 by omega) with rfl | rfl
  ·rw [Nat.zero_add,Nat.zero_add,zbU,zbU,ih,XaH,Xau,Xbe,Nat.mul_comm];rfl
  ·rw [Nat.add_comm 1,Nat.add_comm 1,zdg,zdg,ih,XaH,Xau,Xbe,Nat.mul_comm];rfl
theorem zgh:∀ l:List Nat,num (l ++ [0])=num l
 | []=>rfl
 | b :: l=>by
  have e1:num (b :: (l ++ [0]))=b+2 * num (l ++ [0]):=rfl
  rw [List.cons_append,e1,zgh l];rfl
theorem strKey {v:Value}(h:(match v with | .str _ _=>true | _=>false)=true):∃ n t,v = .str n t:=by
 cases v with
 | str n t=>exact ⟨n,t,rfl⟩
 | _=>cases h
def gath:Nat→Nat→Nat
 | 0,_=>0
 | m+1,n=>if (m+1) % 2=1 then n % 2+2 * gath ((m+1) / 2) (n / 2) else gath ((m+1) / 2) (n / 2)
decreasing_by all_goals omega
theorem zgo (n:Nat):gath 0 n=0:=by simp [gath]
theorem zhO (m n:Nat):gath (2 * m+1) n=n % 2+2 * gath m (n / 2):=by rw [gath,if_pos (by omega),show (2 * m+1) / 2=m by omega]
theorem zgp (m n:Nat):gath (2 * m) n=gath m (n / 2):=by
 cases m with
 | zero=>simp [gath]
 | succ m=>rw [show 2 * (m+1)=(2 * m+1)+1 by omega,gath,if_neg (by omega),show (2 * m+1+1) / 2=m+1 by omega]
def gsm:Nat→List Nat→Nat→Nat
 | _,[],_=>0
 | k,s :: r,n=>(if n &&& s=0 then 0 else 2 ^ k)+gsm (k+1) r n
theorem zhM:∀ (l:List Nat) (k n:Nat),gsm (k+1) l n=2 * gsm k l n
 | [],_,_=>rfl
 | s :: r,k,n=>by
  simp only [gsm,zhM r (k+1) n,Xbe]
  split <;> omega
theorem zhp:∀ (l:List Nat) (k n:Nat),gsm k (l.map (2 * ·)) n=gsm k l (n / 2)
 | [],_,_=>rfl
 | s :: r,k,n=>by
  simp only [Xaz,gsm,zhp r (k+1) n,zkU]
  congr 1
  by_cases h:n / 2 &&& s=0
  ·rw [if_pos h,if_pos (by omega)]
  ·rw [if_neg h,if_neg (by omega)]
theorem zmz:∀ m n,gsm 0 (sgl m) n=gath m n:=by
 intro m
 induction m using Nat.strongRecOn with
 | _ m ih =>
  intro n
  by_cases h0:m=0
  ·subst h0;rw [zc0,zgo];rfl
  rcases Xa6 m with h | h
  ·obtain ⟨h2,e⟩:∃ h2,m=2 * h2:=⟨m / 2,by omega⟩
   subst e
   rw [zbU,zhp,ih _ (by omega),zgp]
  ·obtain ⟨h2,e⟩:∃ h2,m=2 * h2+1:=⟨m / 2,by omega⟩
   subst e
   rw [zdg,gsm,zhM,zhp,ih _ (by omega),zhO]
   have:n &&& 1=n % 2:=Nat.and_one_is_mod n
   rw [this]
   rcases Xa6 n with h | h <;> simp [h]
inductive spG (g:Nat→Nat→Nat)(vs:List V)(H:Hp)(Q:VK)(u3_:XK):Prop
 | mk (m n:Nat) (z0_:vs=[.int (m:Int),.int (n:Int)]) (z1_:m<2 ^ 64) (z2_:∀ H',Same H H'→Q (.int (g m n:Int)) H')
theorem sumN (l:List Nat):(l.map (fun (b:Nat)=>(b:Int))).sum=((l.sum:Nat):Int):=by
 induction l with
 | nil=>rfl
 | cons b r ih=>rw [Xaz,List.sum_cons,List.sum_cons,ih];omega
theorem zlR {K:W.Frag}{H:Hp}{p:Addr}{l:List Nat}(h:SqL K H p (vN l)):SqL K H p ((l.map fun (b:Nat)=>(b:Int)).map V.int):=by
 rw [Xa7];exact h
theorem zkY {l:List Nat}{i s:Nat}(n:Nat)(h:l[i]? = some s):gsm i (l.drop i) n=(if n &&& s=0 then 0 else 2 ^ i)+gsm (i+1) (l.drop (i+1)) n:=by
 rw [List.drop_eq_getElem_cons (Xag.mp h).1,(Xag.mp h).2];rfl
theorem zmK {P:Nat→Prop}(h0:P 0)(he:∀ m,P m→P (2 * m))(ho:∀ m,P m→P (2 * m+1)):∀ m,P m:=by
 intro m
 induction m using Nat.strongRecOn with
 | _ m ih =>
  by_cases hz:m=0
  ·subst hz;exact h0
  rcases Xa6 m with h | h
  ·have:=he (m / 2) (ih _ (by omega));rwa [show 2 * (m / 2)=m by omega] at this
  ·have:=ho (m / 2) (ih _ (by omega));rwa [show 2 * (m / 2)+1=m by omega] at this
theorem zbw (m:Nat):ones (2 * m)=ones m:=by rw [zer,show 2 * m % 2=0 by omega,show 2 * m / 2=m by omega];omega
theorem zcr (m:Nat):ones (2 * m+1)=ones m+1:=by rw [zer,show (2 * m+1) % 2=1 by omega,show (2 * m+1) / 2=m by omega];omega
theorem zc3:ones 0=0:=by simp [ones]
theorem zjM (m:Nat):∀ n,gath m n<2 ^ ones m:=by
 refine zmK (P:=fun m=>∀ n,gath m n<2 ^ ones m) ?_ ?_ ?_ m
 ·intro n;rw [zgo,zc3];omega
 ·intro m ih n;rw [zgp,zbw];exact ih _
 ·intro m ih n;have:=ih (n / 2);rw [zhO,zcr,Xbe];omega
theorem zmF {P:Nat→Nat→Prop}(h0:P 0 0)(hee:∀ m o,P m o→P (2 * m) (2 * o))(hoe:∀ m o,P m o→P (2 * m+1) (2 * o))(heo:∀ m o,P m o→P (2 * m) (2 * o+1)):∀ m o,m &&& o=0→P m o:=by
 have key:∀ k m o,m+o≤k→m &&& o=0→P m o:=by
  intro k
  induction k with
  | zero =>
   intro m o h _
   obtain ⟨rfl,rfl⟩:m=0∧o=0:=by omega
   exact h0
  | succ k ih =>
   intro m o hk hd
   by_cases hz:m+o=0
   ·obtain ⟨rfl,rfl⟩:m=0∧o=0:=by omega
    exact h0
   obtain ⟨x,hx⟩:∃ x,m=2 * x∨m=2 * x+1:=⟨m / 2,by omega⟩
   obtain ⟨y,hy⟩:∃ y,o=2 * y∨o=2 * y+1:=⟨o / 2,by omega⟩
   rcases hx with rfl | rfl <;> rcases hy with rfl | rfl
   ·rw [zgj] at hd;exact hee x y (ih x y (by omega) (by omega))
   ·rw [zjz] at hd;exact heo x y (ih x y (by omega) (by omega))
   ·rw [zfG] at hd;exact hoe x y (ih x y (by omega) (by omega))
   ·rw [zkV] at hd;omega
 exact fun m o h=>key _ m o (Xae _) h
theorem zk3:∀ m o,m &&& o=0→ones (m+o)=ones m+ones o:=by
 refine zmF ?_ ?_ ?_ ?_
 ·rw [zc3]
 ·intro m o ih;rw [show 2 * m+2 * o=2 * (m+o) by omega,zbw,zbw,zbw,ih]
 ·intro m o ih;rw [show 2 * m+1+2 * o=2 * (m+o)+1 by omega,zcr,zcr,zbw,ih];omega
 ·intro m o ih;rw [show 2 * m+(2 * o+1)=2 * (m+o)+1 by omega,zcr,zcr,zbw,ih];omega
theorem bor (a b:Nat):Builtin.bitOr (a:Int) (b:Int)=((a ||| b:Nat):Int):=by
 unfold Builtin.bitOr Builtin.bitAnd Builtin.bitNot
 rw [Xai (show ¬ (0:Int)≤-(a:Int) - 1 by omega),Xai (show ¬ (0:Int)≤-(b:Int) - 1 by omega)]
 show -(-((((-(-(a:Int) - 1) - 1).toNat ||| (-(-(b:Int) - 1) - 1).toNat:Nat)):Int) - 1) - 1=_
 rw [show -(-(a:Int) - 1) - 1=(a:Int) by omega,show -(-(b:Int) - 1) - 1=(b:Int) by omega,Xap,Xap]
 omega
theorem zi1 {H H':Hp}{p:Addr}(s:Same H H')(h:H' p=none):H p=none:=by
 cases e:H p with
 | none=>rfl
 | some o=>rw [s _ _ e] at h;cases h
theorem zfL (op:Nat→Nat→Nat)(f:Bool→Bool→Bool)(hop:∀ a b i,(op a b).testBit i=f (a.testBit i) (b.testBit i))(hf:f false false=false)(x y:Nat) :
  op x y=(f (x % 2 == 1) (y % 2 == 1)).toNat+2 * op (x / 2) (y / 2):=by
 apply Nat.eq_of_testBit_eq
 intro i
 cases i with
 | zero =>
  rw [hop]
  simp only [Nat.testBit_zero]
  cases h:f (x % 2 == 1) (y % 2 == 1) <;> simp_all [Nat.add_mod]
 | succ i =>
  rw [hop]
  simp only [Xa5]
  rw [show ((f (x % 2 == 1) (y % 2 == 1)).toNat+2 * op (x / 2) (y / 2)) / 2=op (x / 2) (y / 2) by cases f (x % 2 == 1) (y % 2 == 1) <;> simp <;> omega,hop]
theorem or_is:∀ a b:Nat,a ||| b=(a ^^^ b)+(a &&& b):=by
 intro a
 induction a using Nat.strongRecOn with
 | _ a ih =>
  intro b
  by_cases h0:a=0
  ·subst h0;simp
  have e1:a ||| b=((a % 2 == 1) || (b % 2 == 1)).toNat+2 * (a / 2 ||| b / 2):=zfL (· ||| ·) (· || ·) Nat.testBit_or rfl a b
  have e2:a ^^^ b=(Bool.xor (a % 2 == 1) (b % 2 == 1)).toNat+2 * (a / 2 ^^^ b / 2):=zfL (· ^^^ ·) Bool.xor Nat.testBit_xor rfl a b
  have e3:a &&& b=((a % 2 == 1) && (b % 2 == 1)).toNat+2 * (a / 2 &&& b / 2):=zfL (· &&& ·) (· && ·) XaG rfl a b
  have e4:=ih (a / 2) (by omega) (b / 2)
  rw [e1,e2,e3,e4]
  cases (a % 2 == 1) <;> cases (b % 2 == 1) <;> simp <;> omega
theorem bxor (a b:Nat):Builtin.bitXor (a:Int) (b:Int)=((a ^^^ b:Nat):Int):=by
 unfold Builtin.bitXor
 rw [bor,band,or_is]
 omega
def agr (m w n v:Nat):Bool:=decide ((w ^^^ v) &&& m &&& n=0)
inductive spAgr (vs:List V)(H:Hp)(Q:VK)(u3_:XK):Prop
 | mk (m w n v:Nat) (z0_:vs=[.int (m:Int),.int (w:Int),.int (n:Int),.int (v:Int)]) (z1_:Q (.bl (agr m w n v)) H)
def LatV (H:Hp)(v:V):Option (Nat×Nat×Nat)→Prop
 | none=>v = .non
 | some (c,a,b)=>∃ u:Addr,v = .ref u∧H u=some (.tup [.int (c:Int),.int (a:Int),.int (b:Int)])
def latA:Option (Nat×Nat×Nat)→Option (Nat×Nat×Nat)→Bool
 | some (c,a,b),some (d,x,y)=>if c=d then agr a b x y else true
 | _,_=>true
inductive spLatA (vs:List V)(H:Hp)(Q:VK)(u3_:XK):Prop
 | mk (x:_) (y:_) (o:_) (p:_) (z0_:vs=[x,y]) (z1_:LatV H x o) (z2_:LatV H y p) (z3_:Q (.bl (latA o p)) H)
structure Rw where
 m:Nat
 w:Nat
 i:Nat
 c:Nat
 l:Option (Nat×Nat×Nat)
def RwAt (H:Hp)(t:Addr)(r:Rw):Prop:=∃ lt:V,H t=some (.tup [.int (r.m:Int),.int (r.w:Int),.int (r.i:Int),.int (r.c:Int),lt])∧LatV H lt r.l
def zbk (r q:Rw):Bool:=agr r.m r.w q.m q.w && latA r.l q.l
inductive spClash (vs:List V)(H:Hp)(Q:VK)(u3_:XK):Prop
 | mk (t:_) (u:_) (r:_) (q:_) (z0_:vs=[.ref t,.ref u]) (z1_:RwAt H t r) (z2_:RwAt H u q) (z3_:Q (.bl (zbk r q)) H)
theorem zgA:bootBuiltins "sorted" = some (.builtin "sorted"):=by decide +kernel
theorem LatV.same {H H':Hp}{v:V}{o:Option (Nat×Nat×Nat)}(h:LatV H v o)(s:Same H H'):LatV H' v o:=by
 match o,h with
 | none,h=>exact h
 | some (c,a,b),⟨u,e,eu⟩=>exact ⟨u,e,s _ _ eu⟩
theorem RwAt.same {H H':Hp}{t:Addr}{r:Rw}(h:RwAt H t r)(s:Same H H'):RwAt H' t r:=by
 obtain ⟨lt,e,hl⟩:=h
 exact ⟨lt,s _ _ e,hl.same s⟩
def LatOk:Option (Nat×Nat×Nat)→Prop
 | none=>True
 | some (c,a,b)=>c<100∧a<256∧b &&& a=b
structure RwOk (m:Nat)(r:Rw):Prop where
 m0:r.m<2 ^ m
 w0:r.w<2 ^ m
 wm:r.w &&& r.m=r.w
 i0:r.i<2 ^ m
 im:r.i &&& r.m=0
 c0:r.c<100
 l0:LatOk r.l
def dN (keys:List Nat)(f:Nat→V):List (Key×V):=keys.map fun (c:Nat)=>(Sum.inl (c:Int),f c)
theorem dN_any {keys:List Nat}{f:Nat→V}{c:Nat}:((dN keys f).any fun kv=>decide (kv.fst=Sum.inl (c:Int)))=decide (c∈keys):=by
 rw [XbN,List.any_eq_true,decide_eq_true_iff]
 constructor
 ·rintro ⟨x,hx,e⟩
  obtain ⟨k,hk,rfl⟩:=XaC.mp hx
  have e:=Xa2 e
  injection e with e
  rw [← Int.ofNat.inj e];exact hk
 ·intro h
  exact ⟨_,XaC.mpr ⟨c,h,rfl⟩,Xah rfl⟩
theorem ziw {keys:List Nat}{f:Nat→V}{c:Nat}{v:V}(h:c ∉ keys):putK (dN keys f) (Sum.inl (c:Int)) v=dN (keys ++ [c]) fun k=>if k=c then v else f k:=by
 unfold putK
 rw [dN_any,Xai h,if_neg (by decide)]
 unfold dN
 rw [XaH]
 congr 1
 ·refine XbL fun k hk=>?_
  try dsimp only
  rw [if_neg (fun z:k=c=>h (z ▸ hk))]
 ·simp
theorem zlG {f:Nat→V}{c:Nat}:∀ {keys:List Nat},c∈keys→valV (dN keys f) (Sum.inl (c:Int))=some (f c)
 | [],h=>nomatch h
 | k :: keys,h=>by
  unfold valV dN
  rw [Xaz,List.find?_cons]
  by_cases z:k=c
  ·subst z;simp
  ·have e:decide ((Sum.inl (k:Int):Key)=Sum.inl (c:Int))=false:=Xai fun y=>z (by injection y with y;exact Int.ofNat.inj y)
   simp only [e]
   exact zlG (keys:=keys) ((Xao.mp h).resolve_left (fun y=>z y.symm))
theorem zk5 {keys:List Nat}{f g:Nat→V}(h:∀ k∈keys,f k=g k):dN keys f=dN keys g:=XbL fun (k:Nat) hk=>by rw [h k hk]
theorem hu9_of {A:Around}{k:Nat}(hr:Room k A):A.units+9<cLine:=by have:=hr.un;omega
def NC (r q:Rw):Prop:=zbk r q=false∧zbk q r=false
def RwsAt2 (m:Nat)(X:Hp)(ws:List (Addr×Rw)):Prop:=∀ z∈ws,RwAt X z.1 z.2∧RwOk m z.2
theorem RwsAt2.same {m:Nat}{X Y:Hp}{ws:List (Addr×Rw)}(h:RwsAt2 m X ws)(s:Same X Y):RwsAt2 m Y ws:=fun z hz=>⟨(h z hz).1.same s,(h z hz).2⟩
def refs {α:Type}(ws:List (Addr×α)):List V:=ws.map fun z=>.ref z.1
theorem zaC {α:Type}(ws:List (Addr×α)):(refs ws).length=ws.length:=Xaf ..
theorem zhP {K:W.Frag}{i j:Nat}{T:Addr}{x y:V}{σ:St}{H:Hp}{Q:St→Hp→Prop}(e:H T=some (.tup [x,y]))(h:Q ((σ.set i (some x)).set j (some y)) H) :
  gTup K 2 (gCons (za6 i) (gCons (za6 j) gNil)) (.ref T) σ H Q:=
 ⟨T,[x,y],rfl,SqT.of e,rfl,x,[y],rfl,y,[],rfl,rfl,h⟩
theorem LatV.updL {X:Hp}{l:Addr}{v:V}{o:Option (Nat×Nat×Nat)}{xs ys:List V}(h:LatV X v o)(hl:X l=some (.lst xs)):LatV (upd X l (.lst ys)) v o:=by
 match o,h with
 | none,h=>exact h
 | some (c,a,b),⟨u,e,eu⟩=>exact ⟨u,e,by rw [zag (fun z=>by rw [z,hl] at eu;cases eu)];exact eu⟩
theorem RwAt.updL {X:Hp}{l t:Addr}{r:Rw}{xs ys:List V}(h:RwAt X t r)(hl:X l=some (.lst xs)):RwAt (upd X l (.lst ys)) t r:=by
 obtain ⟨lt,e,hlt⟩:=h
 exact ⟨lt,by rw [zag (fun z=>by rw [z,hl] at e;cases e)];exact e,hlt.updL hl⟩
theorem zi6 {α:Type}{ws:List (Addr×α)}{k:Nat}{z:Addr×α}(h:ws[k]? = some z):(refs ws)[k]? = some (.ref z.1):=by unfold refs;rw [Xat,h];rfl
theorem zbZ {α:Type}{ws:List (Addr×α)}{k:Nat}{x:V}(h:(refs ws)[k]? = some x):∃ z,ws[k]? = some z∧x = .ref z.1:=by
 unfold refs at h
 rw [Xat] at h
 obtain ⟨z,h1,h2⟩:=XaE.mp h
 exact ⟨z,h1,h2.symm⟩
def dV (keys:List Nat)(g:Nat→Nat):List (Key×V):=dN keys fun c=>.int (g c:Int)
def wrd (keys:List Nat)(g:Nat→Nat)(c:Nat):Nat:=if c∈keys then g c else 0
theorem zjZ {f:Nat→V}{c:Nat}:∀ {keys:List Nat},c ∉ keys→valV (dN keys f) (Sum.inl (c:Int))=none
 | [],_=>rfl
 | k :: keys,h=>by
  unfold valV dN
  rw [Xaz,List.find?_cons]
  have z:¬ k=c:=fun z=>h (z ▸ XaB)
  have e:decide ((Sum.inl (k:Int):Key)=Sum.inl (c:Int))=false:=Xai fun y=>z (by injection y with y;exact Int.ofNat.inj y)
  simp only [e]
  exact zjZ (keys:=keys) fun y=>h (Xax _ y)
theorem dV_get (keys:List Nat)(g:Nat→Nat)(c:Nat):(valV (dV keys g) (Sum.inl (c:Int))).getD (.int 0) = .int (wrd keys g c:Int):=by
 unfold dV wrd
 by_cases h:c∈keys
 ·rw [zlG h,if_pos h];rfl
 ·rw [zjZ h,if_neg h];rfl
def awk (r:Rw)(W:Nat→Nat):Bool:=match r.l with
 | none=>true
 | some (c,a,b)=>decide (W c &&& a=b)
def met (r:Rw)(x:Nat):Bool:=decide (x &&& r.m=r.w)
inductive spMeet (vs:List V)(H:Hp)(Q:VK)(u3_:XK):Prop
 | mk (t:Addr) (r:Rw) (x:Nat) (z0_:vs=[.ref t,.int (x:Int)]) (z1_:RwAt H t r) (z2_:Q (.bl (met r x)) H)
inductive spAwake (vs:List V)(H:Hp)(Q:VK)(u3_:XK):Prop
 | mk (t d:Addr) (r:Rw) (keys:List Nat) (g:Nat→Nat) (z0_:vs=[.ref t,.ref d]) (z1_:RwAt H t r) (z2_:H d=some (.dK (dV keys g))) (z3_:Q (.bl (awk r (wrd keys g))) H)
def ans (r:Rw)(x:Nat)(W:Nat→Nat):Bool:=met r x && awk r W
def fstA (rs:List Rw)(x:Nat)(W:Nat→Nat):V:=match rs.findIdx? (fun r=>ans r x W) with
 | none=>.non
 | some i=>.int (i:Int)
inductive spAnsw (vs:List V)(H:Hp)(Q:VK)(u3_:XK):Prop
 | mk (p d:Addr) (x:Nat) (ws:List (Addr×Rw)) (keys:List Nat) (g:Nat→Nat) (z0_:vs=[.ref p,.int (x:Int),.ref d]) (z1_:H p=some (.tup (refs ws))) (z2_:(∀ z∈ws,RwAt H z.1 z.2)) (z3_:H d=some (.dK (dV keys g))) (z4_:∀ H',Same H H'→Q (fstA (ws.map (·.2)) x (wrd keys g)) H')
theorem awk_eq {keys:List Nat}{g:Nat→Nat}{c a b:Nat}{r:Rw}(h:r.l=some (c,a,b)):decide (V.int (Builtin.bitAnd (wrd keys g c:Int) (a:Int))=V.int (b:Int))=awk r (wrd keys g):=by
 rw [band]
 unfold awk
 rw [h]
 show _=decide (wrd keys g c &&& a=b)
 by_cases z:wrd keys g c &&& a=b
 ·rw [Xah z,z];exact Xah rfl
 ·rw [Xai z];exact Xai fun y=>z (by injection y with y;exact Int.ofNat.inj y)
theorem zjO {rs:List Rw}{x:Nat}{W:Nat→Nat}(h:∀ r∈rs,ans r x W=false):fstA rs x W = .non:=by
 unfold fstA
 rw [List.findIdx?_eq_none_iff.mpr h]
theorem zjN {rs:List Rw}{x i:Nat}{W:Nat→Nat}{r:Rw}(hr:rs[i]? = some r)(h:ans r x W=true)(hb:∀ j q,j<i→rs[j]? = some q→ans q x W=false):fstA rs x W = .int (i:Int):=by
 unfold fstA
 obtain ⟨hi,e⟩:=Xag.mp hr
 rw [XbF.mpr ⟨hi,by rw [e];exact h,fun j hj=>by rw [hb j _ hj (Xav (by omega))];decide⟩]
inductive spCellR (vs:List V)(H:Hp)(Q:VK)(u3_:XK):Prop
 | mk (t:Addr) (r:Rw) (a:Nat) (z0_:vs=[.ref t,.int (a:Int)]) (z1_:RwAt H t r) (z2_:r.i<2 ^ 64) (z3_:∀ H',Same H H'→Q (.int (gath r.i a:Int)) H')
theorem zhI:∀ (n:Nat) (l:List Nat),l.Nodup→(∀ a∈l,a<n)→l.length≤n
 | 0,l,_,hb=>by
  cases l with
  | nil=>exact Xae _
  | cons a l=>exact absurd (hb a XaB) (Xbu _)
 | n+1,l,h,hb=>by
  have ih:=zhI n (l.erase n) (h.erase n) fun a ha=>by
   have h1:=hb a (List.mem_of_mem_erase ha)
   have h2:a≠n:=fun e=>by rw [e] at ha;exact h.not_mem_erase ha
   omega
  have:=List.length_erase (a:=n) (l:=l)
  split at this <;> omega
theorem dV_new {sk:List Nat}{sg:Nat→Nat}{x v:Nat}(h:x ∉ sk):putK (dV sk sg) (Sum.inl (x:Int)) (.int (v:Int))=dV (sk ++ [x]) fun k=>if k=x then v else sg k:=by
 unfold dV
 rw [ziw h]
 exact zk5 fun k _=>by by_cases z:k=x <;> simp [z]
theorem lnB1 {α:Type}{P:List α→Prop}(k:∀ a,P [a]):∀ us:List α,us.length=1→P us:=fun us h=>ln1 us h k
theorem lnB2 {α:Type}{P:List α→Prop}(k:∀ a b,P [a,b]):∀ us:List α,us.length=2→P us:=fun us h=>ln2 us h k
theorem lnB3 {α:Type}{P:List α→Prop}(k:∀ a b c,P [a,b,c]):∀ us:List α,us.length=3→P us:=fun us h=>ln3 us h k
theorem lnB4 {α:Type}{P:List α→Prop}(k:∀ a b c d,P [a,b,c,d]):∀ us:List α,us.length=4→P us:=fun us h=>ln4 us h k
theorem lnB5 {α:Type}{P:List α→Prop}(k:∀ a b c d e,P [a,b,c,d,e]):∀ us:List α,us.length=5→P us:=fun us h=>ln5 us h k
section
variable {P:Program}{w:World}{K:W.Frag}{mg:Str→Option Value}{base:Heap}{k:Nat}{f C:Addr}{fd:FuncData}{ps ks:List Str}{sp:Sp}{x m:Str}{g:List Value→List Value→List Value}{gV:List V→List V→List V}
theorem cal_mk (G:FnOk P w K mg base CX0 k f fd ps sp)(a:mg x=some (.ref f))(kp:W.keepIn K (.ref f)=true)(b:Binds K fd ps []):Cal P w K mg base k x ps sp:=⟨f,fd,G,a,kp,b⟩
theorem zfD (c:Cls K C)(a:W.findIn K (.ref C) m=some (some (.ref f)))(fn:W.isFn K (.ref f)=true)(kp:W.keepIn K (.ref f)=true)(G:FnOk P w K mg base CX0 k f fd ps sp)(b:KBinds K fd ps ks g gV):Mth P w K mg base k C m ks gV sp:=⟨c,f,fd,ps,g,⟨a,fn,kp⟩,G,b⟩
theorem mth_mk (c:Cls K C)(a:W.findIn K (.ref C) m=some (some (.ref f)))(fn:W.isFn K (.ref f)=true)(kp:W.keepIn K (.ref f)=true)(G:FnOk P w K mg base CX0 k f fd ps sp)(b:Binds K fd ps []):Mth P w K mg base k C m [] (fun vs _=>vs) sp:=zfD c a fn kp G (.pos b)
theorem zco (a:mg x=some (.ref C))(mk:W.makesIn K C=true)(at_:W.findIn K (.ref C) "__init__" = some (some (.ref f)))(fn:W.isFn K (.ref f)=true)(kc:W.keepIn K (.ref C)=true)(G:FnOk P w K mg base CX0 k f fd ps sp)(b:KBinds K fd ps ks g gV):Mak P w K mg base k x C ks gV sp:=⟨a,f,fd,ps,g,⟨mk,at_,fn,kc⟩,G,b⟩
end
local macro_rules | `(tactic| walk_at "bd")=>`(tactic| (refine Fun.binds (by assumption) ?_;intro _ _ _ _ _ _;first | exact lnB1 fun _=>rfl | exact lnB2 fun _ _=>rfl | exact lnB3 fun _ _ _=>rfl | exact lnB4 fun _ _ _ _=>rfl | exact lnB5 fun _ _ _ _ _=>rfl | exact lnB6 fun _ _ _ _ _ _=>rfl | exact lnB7 fun _ _ _ _ _ _ _=>rfl))
structure Nums (mg:Str→Option Value):Prop where
 MOST_BITS:∃ t,mg "MOST_BITS" = some (.int 16 t)
 LAST_CHIP:∃ t,mg "LAST_CHIP" = some (.int 99 t)
 LAST_WORD:∃ t,mg "LAST_WORD" = some (.int 255 t)
 MOST_CELLS:∃ t,mg "MOST_CELLS" = some (.int 4096 t)
 MOST_ROOM:∃ t,mg "MOST_ROOM" = some (.int 255 t)
 SIXTEEN:∃ t,mg "SIXTEEN" = some (.str "0123456789abcdef" t)
 READ:∃ t,mg "READ" = some (.str "read" t)
 WRITE:∃ t,mg "WRITE" = some (.str "write" t)
 BOTH:∃ t,mg "BOTH" = some (.str "both" t)
abbrev zcd:Stmt:=top 11
theorem scsingle_ones:FnScope ["mask","singles","rest"] ["mask"] (zai zcd):=sck rfl rfl rfl (by decide +kernel)
section
variable {P:Program}{w:World}{K:W.Frag}{mg:Str→Option Value}{base:Heap}
theorem zfy {f:Addr}{fd:FuncData}(F:Fun K "single_ones" "single_ones" zcd f fd)(T:Blt mg):FnOk P w K mg base CX0 1 f fd ["mask"] spSingles:=by
 refine F.ok scsingle_ones (by walk_at "l") (fun cdv A outer s H vs Q E hr h=>?_)
 ·obtain ⟨n,rfl,hn,k⟩:=h
  refine ⟨_,(zab (ps_L 1 scsingle_ones.nd (zax zae))
   (zab (zfs PassesOwn.never (zas zf5 (pv 0) zad (zat _)) (zab (ps_L 2 scsingle_ones.nd (zak zaW (pv 0) (zak zbR (pv 0) zad)))
   (zab (zau (zdy PySem.F.plainAttrs_list PySem.F.slot_list_append PySem.F.type_list_append zaN (pv 1) (zaa (zak zbR (pv 0) (pv 2)) zae)))
   (zaf (ps_L 0 scsingle_ones.nd (pv 2))))))
   (zaf (zam (pv 1))))),?rd⟩
  refine ⟨by show 0≤sizeLine;decide,fun l hl=>?_⟩
  refine zfd (fun σ H2=>∃ (m:Nat) (r:Option V) (d:List Nat),σ=[some (.int (m:Int)),some (.ref l),r]∧m<2 ^ 64∧Same H H2∧H2 l=some (.lst (vN d))∧d ++ sgl m=sgl n) (fun σ _=>match σ with | some (.int i) :: _=>i.toNat | _=>0)
   ⟨n,none,[],rfl,hn,zah hl,zac,rfl⟩ ?_ ?_
  ·rintro σ H2 ⟨m,r,d,rfl,hm,hs,hL,hd⟩
   walk_at "vc"
   refine ite2 (fun h1=>?_) (fun h1=>?_)
   ·have h1:0<m:=by have:=Xa2 h1;omega
    obtain ⟨s1,s2⟩:=zkt m h1
    have e1:((m:Int) - 1)=((m - 1:Nat):Int):=by omega
    walk_at "vc"
    have hlen:(vN d).length<sizeLine:=by
     have h2:=congrArg List.length hd
     rw [Xaq,zbM,zbM] at h2
     have h3:=zfw 64 n hn
     rw [zaq];exact zcZ (by omega)
    refine ⟨.inl ⟨rfl,_,SqL.of hL⟩,?_⟩
    walk_at "vc"
    refine ⟨l,_,_,rfl,rfl,hL,hlen,?_⟩
    walk_at "vc"
    have e2:Builtin.bitAnd (m:Int) ((m:Int) - 1)=((m &&& (m - 1):Nat):Int):=by rw [e1,band]
    have e3:(m:Int) - Builtin.bitAnd (m:Int) ((m:Int) - 1)=((m - (m &&& (m - 1)):Nat):Int):=by rw [e2];omega
    refine ⟨⟨m &&& (m - 1),some (.int ((m &&& (m - 1):Nat):Int)),d ++ [m - (m &&& (m - 1))],?_,by omega,fun b o e=>?_,?_,?_⟩,?_⟩
    ·show List.set (List.set _ _ _) _ _=_
     simp only [List.set]
     rw [e2]
    ·rw [zag (zaj e hl)];exact hs b o e
    ·rw [zac,zcb,← e3]
    ·rw [← hd,s2];simp
    ·show (Builtin.bitAnd (m:Int) ((m:Int) - 1)).toNat<((m:Nat):Int).toNat
     rw [e2];simpa using s1
   ·have h1:m=0:=by have:=h1;simp at this;omega
    subst h1
    walk_at "vc"
    rw [zc0,Xbm] at hd
    subst hd
    exact k l H2 hl hL hs
  ·rintro σ H2 Q1 Q2 hq h
   obtain ⟨v,e,i,j,e1,e2,c,e3,h⟩:=h
   exact ⟨v,e,i,j,e1,e2,c,e3,hq _ _ h⟩
abbrev zfh:Stmt:=top 12
theorem ziY:FnScope ["mask"] ["mask"] (zai zfh):=sck rfl rfl rfl (by decide +kernel)
theorem zjp {f:Addr}{fd:FuncData}(F:Fun K "ones_of" "ones_of" zfh f fd)(T:Blt mg)(Gsingle_ones:Cal P w K mg base 1 "single_ones" ["mask"] spSingles):FnOk P w K mg base CX0 2 f fd ["mask"] spOnes:=by
 refine F.ok ziY (by walk_at "l") (fun cdv A outer s H vs Q E hr h=>?_)
 ·obtain ⟨n,rfl,hn,k⟩:=h
  refine ⟨_,(zaf (zam (zap zar (by rfl) T.len PySem.boot_len (zaa (pe_c Gsingle_ones (zaa (pv 0) zae)) zae)))),?rd⟩
  refine ⟨_,rfl,n,rfl,hn,fun p H' hp hL hs=>?_⟩
  refine ⟨p,_,rfl,.inl (SqL.of hL),?_⟩
  rw [zaq,zbM]
  exact k H' hs
abbrev zed:Stmt:=top 13
theorem zh2:FnScope ["mask","number"] ["mask","number"] (zai zed):=sck rfl rfl rfl (by decide +kernel)
theorem zif {f:Addr}{fd:FuncData}(F:Fun K "gathered" "gathered" zed f fd)(T:Blt mg)(Gsingle_ones:Cal P w K mg base 1 "single_ones" ["mask"] spSingles):FnOk P w K mg base CX0 2 f fd ["mask","number"] (spG gath):=by
 refine F.ok zh2 (by walk_at "l") (fun cdv A outer s H vs Q E hr h=>?_)
 ·obtain ⟨m,n,rfl,hm,k⟩:=h
  refine' ⟨_,(zaf (zam (zap (zgx rfl) (by rfl) T.sum PyProof.Rows.boot_sum (zaa ?c1 zae)))),?rd⟩
  (case c1=>exact (zdx (Nc:=["k","single","number"]) [none,none,some 1] rfl (zaX (by rfl)) (zmd rfl T.enumerate (zaa (pe_c Gsingle_ones (zaa (pv 0) zae)) zae)) (fun _ _ _ _ _=>(zjg 2 (K:=K) rfl rfl (zao (pg_L 0 (show (["k","single","number"]:List Str).Nodup by decide +kernel)) (zao (pg_L 1 (show (["k","single","number"]:List Str).Nodup by decide +kernel)) zaV)))) (fun _ _ _ _ _=>(zhC (zja (K:=K) rfl (zak zaW (pv 2) (pv 1)) (fun _=>rfl)))) (fun _ _ _ _ _=>(zak zdI zad (pv 0)))))
  refine ⟨_,rfl,m,rfl,hm,fun p H1 hp hL s1=>⟨p,rfl,⟨_,SqL.of hL⟩,?_⟩⟩
  have hz:(sgl m).length≤64:=by rw [zbM];exact zfw 64 m hm
  refine zj3 (K:=K) (xs:=vN (sgl m)) (fun i ys σ H2=>∃ v1 v2 l,σ=[v1,v2,some (.int (n:Int))]∧ys=vN l∧l.length≤i∧l.sum+gsm i ((sgl m).drop i) n=gath m n∧Same H1 H2) (by rw [zaq];exact XbH (zcZ (by omega))) ⟨none,none,[],rfl,rfl,Xae _,by simp [zmz],Same.refl _⟩ ?_ ?_ ?_
  ·rintro i ys σ H2 hi ⟨v1,v2,l,_,rfl,hl,_,s2⟩
   exact ⟨SqL.of (s2 _ _ hL),by rw [zaq];exact hl⟩
  ·rintro i x U ys σ H2 hi hU ⟨v1,v2,l,rfl,rfl,hl,hsum,s2⟩
   obtain ⟨b,hb,rfl⟩:=ziN hi
   have hil:i<(sgl m).length:=(Xag.mp hb).1
   refine ze6 ?_
   have e1:Builtin.bitAnd (n:Int) (b:Int)=((n &&& b:Nat):Int):=band n b
   refine ⟨_,rfl,_,rfl,_,_,rfl,rfl,_,rfl,?_⟩
   rw [zkY n hb] at hsum
   have st:Same H1 (upd H2 U (.tup [.int (i:Int),.int (b:Int)])):=s2.trans (zah hU)
   by_cases h0:n &&& b=0
   ·rw [if_neg (by rw [e1,h0];decide)]
    rw [if_pos h0] at hsum
    exact ⟨_,_,l,rfl,rfl,by omega,by omega,st⟩
   ·rw [if_pos (by rw [e1];simp only [bne_iff_ne,ne_eq];omega)]
    rw [if_neg h0] at hsum
    refine ⟨_,rfl,_,_,rfl,rfl,⟨by omega,by omega,by decide⟩,?_⟩
    refine ⟨_,_,l ++ [2 ^ i],rfl,?_,by simp;omega,by simp;omega,st⟩
    rw [zcb]
    have e2:((i:Int)).toNat=i:=by omega
    have e3:(1:Int) * 2 ^ ((i:Int)).toNat=((2 ^ i:Nat):Int):=by rw [e2,Int.one_mul];norm_cast
    show _=vN l ++ [V.int ((2 ^ i:Nat):Int)]
    rw [← e3]
  ·rintro ys σ H2 ⟨v1,v2,l,rfl,rfl,hl,hsum,s2⟩ D hD
   rw [zaq,List.drop_length] at hsum
   refine ⟨D,l.map (fun (b:Nat)=>(b:Int)),rfl,zlR (SqL.of zac),?_⟩
   rw [sumN]
   have e:l.sum=gath m n:=by simpa [gsm] using hsum
   rw [e]
   exact k _ (s1.trans (s2.trans (zah hD)))
abbrev zde:Stmt:=top 20
theorem zgS:FnScope ["thing","last"] ["thing","last"] (zai zde):=sck rfl rfl rfl (by decide +kernel)
theorem zg3 {f:Addr}{fd:FuncData}(F:Fun K "is_number" "is_number" zde f fd)(T:Blt mg):FnOk P w K mg base CX0 1 f fd ["thing","last"] spIsNum:=by
 refine F.ok zgS (by walk_at "l") (fun cdv A outer s H vs Q E hr h=>?_)
 ·obtain ⟨a,b,rfl,k⟩:=h
  refine ⟨_,(zaf (zam (zbQ (zap (zbC "int" (K:=K) rfl) (by rfl) T.isinstance zcA (zaa (pv 0) (zaa (zcl rfl T.int zlI rl_int) zae))) (zbQ (zlp (zap (zbC "bool" (K:=K) rfl) (by rfl) T.isinstance zcA (zaa (pv 0) (zaa (zcl rfl T.bool zka zi3) zae)))) (zca (zkK zh9 zh9 zad (pv 0) (pv 1))))))),?rd⟩
  refine ⟨_,rfl,_,_,_,rfl,.int a,rfl,true,rfl,iteT ?_⟩
  refine ⟨_,rfl,_,_,_,rfl,.int a,rfl,false,rfl,true,rfl,iteT ?_⟩
  refine ⟨_,rfl,_,_,rfl,rfl,_,rfl,ite2 (fun h=>?_) (fun h=>?_)⟩
  ·have h:=Xa2 h
   refine ⟨_,rfl,_,_,rfl,rfl,?_⟩
   rw [show decide (0≤a∧a≤b)=decide (a≤b) from Xbp.mpr ⟨fun z=>z.2,fun z=>⟨h,z⟩⟩] at k
   exact k
  ·have h:¬ 0≤a:=fun z=>h (Xah z)
   rw [show decide (0≤a∧a≤b)=false from Xai fun z=>h z.1] at k
   exact k
abbrev zfg:Stmt:=top 34
theorem ziW:FnScope ["bits"] ["bits"] (zai zfg):=sck rfl rfl rfl (by decide +kernel)
theorem zjo {f:Addr}{fd:FuncData}(F:Fun K "size_of" "size_of" zfg f fd)(T:Blt mg):FnOk P w K mg base CX0 1 f fd ["bits"] spSize:=by
 refine F.ok ziW (by walk_at "l") (fun cdv A outer s H vs Q E hr h=>?_)
 ·obtain ⟨n,rfl,hn,k⟩:=h
  refine ⟨_,(zaf (zam (zak zdI zad (zap (zj7 rfl) (by rfl) T.max PyProof.Rows.boot_max (zaa (pv 0) (zaa zad zae)))))),?rd⟩
  refine ⟨_,rfl,_,_,rfl,?_⟩
  refine ⟨_,_,rfl,rfl,?_,?_⟩
  ·rw [if_neg (by omega)]
   exact ⟨by omega,by omega,by decide⟩
  ·have e:(1:Int) * 2 ^ (if (0:Int) > (n:Int) then 0 else (n:Int)).toNat=2 ^ n:=by
    rw [if_neg (by omega),Int.one_mul,Xap]
   show Q (V.int ((1:Int) * 2 ^ (if (0:Int) > (n:Int) then 0 else (n:Int)).toNat)) H
   rw [e]
   exact k
abbrev zdf:Stmt:=top 35
theorem zgT:FnScope ["mask","want","last"] ["mask","want","last"] (zai zdf):=sck rfl rfl rfl (by decide +kernel)
inductive spChoiceV (vs:List V)(H:Hp)(Q:VK)(u3_:XK):Prop
 | mk (m v:Nat) (l:Int) (z0_:vs=[.int (m:Int),.int (v:Int),.int l]) (z1_:(m:Int)≤l) (z2_:(v:Int)≤l) (z3_:v &&& m=v) (z4_:Q (.bl true) H)
theorem zg4 {f:Addr}{fd:FuncData}(F:Fun K "is_choice" "is_choice" zdf f fd)(T:Blt mg)(Gis_number:Cal P w K mg base 1 "is_number" ["thing","last"] spIsNum):FnOk P w K mg base CX0 2 f fd ["mask","want","last"] spChoiceV:=by
 refine F.ok zgT (by walk_at "l") (fun cdv A outer s H vs Q E hr h=>?_)
 ·obtain ⟨m,v,l,rfl,hm,hv,hw,k⟩:=h
  refine ⟨_,(zaf (zam (zbQ (pe_c Gis_number (zaa (pv 0) (zaa (pv 2) zae))) (zbQ (pe_c Gis_number (zaa (pv 1) (zaa (pv 2) zae))) (zca (zbv zby (zak zaW (pv 1) (pv 0)) (pv 1) (zat _))))))),?rd⟩
  refine ⟨_,rfl,_,rfl,_,_,rfl,_,rfl,?_⟩
  rw [Xah (show 0≤(m:Int)∧(m:Int)≤l from ⟨Int.natCast_nonneg m,hm⟩)]
  refine iteT ⟨_,rfl,_,rfl,_,_,rfl,_,rfl,?_⟩
  rw [Xah (show 0≤(v:Int)∧(v:Int)≤l from ⟨Int.natCast_nonneg v,hv⟩)]
  refine iteT ⟨_,rfl,_,rfl,_,_,rfl,rfl,_,rfl,rfl,?_⟩
  show Q (.bl (decide (V.int (Builtin.bitAnd (v:Int) (m:Int))=V.int (v:Int)))) H
  rw [band,hw,Xah rfl]
  exact k
abbrev zeb:Stmt:=top 36
theorem scis_latch:FnScope ["thing","chip","mask","want"] ["thing"] (zai zeb):=sck rfl rfl rfl (by decide +kernel)
inductive spLatchV (vs:List V)(H:Hp)(Q:VK)(u3_:XK):Prop
 | mk (t:Addr) (c a b:Nat) (z0_:vs=[.ref t]) (z1_:H t=some (.tup [.int (c:Int),.int (a:Int),.int (b:Int)])) (z2_:c≤99) (z3_:a≤255) (z4_:b≤255) (z5_:b &&& a=b) (z6_:Q (.bl true) H)
theorem zid {f:Addr}{fd:FuncData}(F:Fun K "is_latch" "is_latch" zeb f fd)(T:Blt mg)(N:Nums mg)(Gis_number:Cal P w K mg base 1 "is_number" ["thing","last"] spIsNum)(Gis_choice:Cal P w K mg base 2 "is_choice" ["mask","want","last"] spChoiceV):FnOk P w K mg base CX0 3 f fd ["thing"] spLatchV:=by
 refine F.ok scis_latch (by walk_at "l") (fun cdv A outer s H vs Q E hr h=>?_)
 ·obtain ⟨t,c,a,b,rfl,e,hc,ha,hb,hw,k⟩:=h
  refine ⟨_,(zab (zay (PW.pt (zbN (zaK (zaG (zap (zbC "tuple" (K:=K) rfl) (by rfl) T.isinstance zcA (zaa (pv 0) (zaa (zcl rfl T.tuple zb7 zd1) zae))))) (zbA (zas zeR (zap zar (by rfl) T.len PySem.boot_len (zaa (pv 0) zae)) zad (zat _))))) (zaf (zam zb3)) zan)
   (zab (zbP (pv 0) (zbu rfl (zao (pg_L 1 scis_latch.nd) (zao (pg_L 2 scis_latch.nd) (zao (pg_L 3 scis_latch.nd) zaV)))))
   (zaf (zam (zbQ (pe_c Gis_number (zaa (pv 1) (zaa (zbg rfl N.LAST_CHIP) zae))) (zca (pe_c Gis_choice (zaa (pv 2) (zaa (pv 3) (zaa (zbg rfl N.LAST_WORD) zae)))))))))),?rd⟩
  refine ⟨_,rfl,_,_,_,rfl,.tup e,rfl,_,rfl,iteF ⟨_,rfl,t,_,rfl,.inr (SqT.of e),rfl,_,rfl,iteF ?_⟩⟩
  refine ⟨_,rfl,t,_,rfl,SqT.of e,rfl,_,_,rfl,_,_,rfl,_,_,rfl,rfl,?_⟩
  refine ⟨_,rfl,_,_,rfl,_,rfl,?_⟩
  rw [Xah (show 0≤(c:Int)∧(c:Int)≤99 by omega)]
  exact iteT ⟨_,rfl,_,rfl,a,b,255,rfl,by omega,by omega,hw,k⟩
abbrev zgP:Stmt:=top 37
theorem scis_row:FnScope ["bits","thing","mask","want","inner","chip","latch","last"] ["bits","thing"] (zai zgP):=sck rfl rfl rfl (by decide +kernel)
inductive spRowV (vs:List V)(H:Hp)(Q:VK)(u3_:XK):Prop
 | mk (t:Addr) (r:Rw) (n:Nat) (z0_:vs=[.int (n:Int),.ref t]) (z1_:RwAt H t r) (z2_:RwOk n r) (z3_:n≤16) (z4_:Q (.bl true) H)
theorem zkM {f:Addr}{fd:FuncData}(F:Fun K "is_row" "is_row" zgP f fd)(T:Blt mg)(N:Nums mg)(Gis_number:Cal P w K mg base 1 "is_number" ["thing","last"] spIsNum)(Gsize_of:Cal P w K mg base 1 "size_of" ["bits"] spSize)(Gis_choice:Cal P w K mg base 2 "is_choice" ["mask","want","last"] spChoiceV)(Gis_latch:Cal P w K mg base 3 "is_latch" ["thing"] spLatchV):FnOk P w K mg base CX0 4 f fd ["bits","thing"] spRowV:=by
 refine F.ok scis_row (by walk_at "l") (fun cdv A outer s H vs Q E hr h=>?_)
 ·obtain ⟨t,r,n,rfl,⟨lt,e,hl⟩,o,hn,k⟩:=h
  have h1:∀ z:Nat,z<2 ^ n→(z:Int)≤2 ^ n - 1:=fun z hz=>by
   have:((2 ^ n:Nat):Int)=(2:Int) ^ n:=by norm_cast
   omega
  refine ⟨_,(zab (zay (PW.pt (zbN (zaK (zaG (zap (zbC "tuple" (K:=K) rfl) (by rfl) T.isinstance zcA (zaa (pv 1) (zaa (zcl rfl T.tuple zb7 zd1) zae))))) (zbA (zas zeR (zap zar (by rfl) T.len PySem.boot_len (zaa (pv 1) zae)) zad (zat _))))) (zaf (zam zb3)) zan)
   (zab (zbP (pv 1) (zbu rfl (zao (pg_L 2 scis_row.nd) (zao (pg_L 3 scis_row.nd) (zao (pg_L 4 scis_row.nd) (zao (pg_L 5 scis_row.nd) (zao (pg_L 6 scis_row.nd) zaV)))))))
   (zab (ps_L 7 scis_row.nd (zak zbR (pe_c Gsize_of (zaa (pv 0) zae)) zad))
   (zab (zay (PW.pt (zbN (zaK (zaG (pe_c Gis_choice (zaa (pv 2) (zaa (pv 3) (zaa (pv 7) zae)))))) (zbN (zaK (zaG (pe_c Gis_number (zaa (pv 4) (zaa (pv 7) zae))))) (zbA (zas zeR (zak zaW (pv 4) (pv 2)) zad (zat _)))))) (zaf (zam zb3)) zan)
   (zaf (zam (zbQ (pe_c Gis_number (zaa (pv 5) (zaa (zbg rfl N.LAST_CHIP) zae))) (zca (pe_or (zlq (ze2 (pv 6))) (zca (pe_c Gis_latch (zaa (pv 6) zae)))))))))))),?rd⟩
  refine ⟨_,rfl,_,_,_,rfl,.tup e,rfl,_,rfl,iteF ⟨_,rfl,t,_,rfl,.inr (SqT.of e),rfl,_,rfl,iteF ?_⟩⟩
  refine ⟨_,rfl,t,_,rfl,SqT.of e,rfl,_,_,rfl,_,_,rfl,_,_,rfl,_,_,rfl,_,_,rfl,rfl,?_⟩
  refine ⟨_,rfl,n,rfl,hn,_,_,rfl,rfl,?_⟩
  refine ⟨_,rfl,_,rfl,_,rfl,r.m,r.w,_,rfl,h1 _ o.m0,h1 _ o.w0,o.wm,_,rfl,iteF ⟨_,rfl,_,rfl,_,_,rfl,_,rfl,?_⟩⟩
  rw [Xah (show 0≤(r.i:Int)∧(r.i:Int)≤2 ^ n - 1 from ⟨Int.natCast_nonneg _,h1 _ o.i0⟩)]
  refine iteF ⟨_,rfl,_,rfl,_,_,rfl,rfl,rfl,_,rfl,?_⟩
  refine ite2 (fun z=>?_) (fun _=>zaw ?_)
  ·exfalso
   have z:(!decide (V.int (Builtin.bitAnd (r.i:Int) (r.m:Int))=V.int 0))=true:=z
   rw [band,o.im] at z
   cases z
  try dsimp only
  refine ⟨_,rfl,_,_,rfl,_,rfl,?_⟩
  rw [Xah (show 0≤(r.c:Int)∧(r.c:Int)≤99 by have:=o.c0;omega)]
  refine iteT ?_
  have ol:=o.l0
  cases hr':r.l with
  | none =>
   rw [hr'] at hl
   rw [show lt = .non from hl]
   exact ⟨_,rfl,_,rfl,iteT k⟩
  | some z =>
   rw [hr'] at hl ol
   obtain ⟨c,a,b⟩:=z
   obtain ⟨u,rfl,eu⟩:=hl
   exact ⟨_,rfl,_,rfl,iteF ⟨_,rfl,u,c,a,b,rfl,eu,Nat.le_of_lt_succ ol.1,Nat.le_of_lt_succ ol.2.1,Nat.le_of_lt_succ (XaM (ol.2.2 ▸ XbK) ol.2.1),ol.2.2,k⟩⟩
abbrev zgQ:Stmt:=top 38
theorem zkx:FnScope ["bits","thing"] ["bits","thing"] (zai zgQ):=sck rfl rfl rfl (by decide +kernel)
inductive spMapV (vs:List V)(H:Hp)(Q:VK)(u3_:XK):Prop
 | mk (m:Nat) (R:Addr) (ws:List (Addr×Rw)) (z0_:vs=[.int (m:Int),.ref R]) (z1_:H R=some (.tup (refs ws))) (z2_:RwsAt2 m H ws) (z3_:ws.length≤300) (z4_:m≤16) (z5_:∀ H',Same H H'→Q (.bl true) H')
theorem zkN {f:Addr}{fd:FuncData}(F:Fun K "is_map" "is_map" zgQ f fd)(T:Blt mg)(Gis_row:Cal P w K mg base 4 "is_row" ["bits","thing"] spRowV):FnOk P w K mg base CX0 5 f fd ["bits","thing"] spMapV:=by
 refine F.ok zkx (by walk_at "l") (fun cdv A outer s H vs Q E hr h=>?_)
 ·obtain ⟨m,R,ws,rfl,e,hw,hl,hm,k⟩:=h
  refine' ⟨_,(zaf (zam (zbQ (zap (zbC "tuple" (K:=K) rfl) (by rfl) T.isinstance zcA (zaa (pv 1) (zaa (zcl rfl T.tuple zb7 zd1) zae))) (zca (zap (zeM rfl) (by rfl) T.all zkb (zaa ?c1 zae)))))),?rd⟩
  (case c1=>exact (zdx (Nc:=["row","bits"]) [none,some 0] rfl (zaX (by rfl)) (zlo (pv 1)) (fun _ _ _ _ _=>(pg_L 0 (show (["row","bits"]:List Str).Nodup by decide +kernel))) (fun _ _ _ _ _=>ze0) (fun _ _ _ _ _=>(pe_c Gis_row (zaa (pv 1) (zaa (pv 0) zae))))))
  refine ⟨_,rfl,_,_,_,rfl,.tup e,rfl,_,rfl,iteT ⟨_,rfl,R,rfl,⟨_,SqT.of e⟩,?_⟩⟩
  refine zk6 (K:=K) (xs:=refs ws) (fun j rs σ H1=>∃ v0,σ=[v0,some (.int (m:Int))]∧rs=(ws.take j).map (fun _=>V.bl true)∧Same H H1) (Xar (show _≤300 by rw [zaC];exact hl) (by decide)) ⟨none,rfl,rfl,Same.refl _⟩ ?_ ?_ ?_
  ·rintro j rs σ H1 hj ⟨v0,rfl,rfl,s1⟩
   exact ⟨SqT.of (s1 _ _ e),by rw [Xaf,Xa3];exact Nat.min_le_left _ _⟩
  ·rintro j x rs σ H1 hx ⟨v0,rfl,rfl,s1⟩
   obtain ⟨z,hz,rfl⟩:=zbZ hx
   obtain ⟨z1,z2⟩:=hw z (Xay hz)
   refine ⟨_,rfl,_,rfl,z.1,z.2,m,rfl,z1.same s1,z2,hm,⟨_,rfl,?_,s1⟩⟩
   rw [List.take_succ,hz,XaH]
   rfl
  ·rintro rs σ H1 ⟨v0,rfl,rfl,s1⟩ Dd hD
   refine ⟨Dd,ws.map (fun _=>true),rfl,SqL.of (by rw [zaC,Xa8 (Xae _),Xa7];exact zac),?_⟩
   have e2:(ws.map (fun _=>true)).all id=true:=by rw [List.all_map];exact Xbd.mpr fun _ _=>rfl
   rw [e2]
   exact k _ (s1.trans (zah hD))
abbrev ziU:Stmt:=top 39
theorem zl4:FnScope ["row","address"] ["row","address"] (zai ziU):=sck rfl rfl rfl (by decide +kernel)
theorem zmt {f:Addr}{fd:FuncData}(F:Fun K "meets" "meets" ziU f fd)(T:Blt mg):FnOk P w K mg base CX0 1 f fd ["row","address"] spMeet:=by
 refine F.ok zl4 (by walk_at "l") (fun cdv A outer s H vs Q E hr h=>?_)
 ·obtain ⟨t,r,x,rfl,⟨lt,et,hlt⟩,k⟩:=h
  refine ⟨_,(zaf (zam (zbv zby (zak zaW (pv 1) (pe_x zaA (pv 0) zad)) (pe_x zaA (pv 0) zad) (zat _)))),?rd⟩
  refine ⟨_,rfl,_,rfl,t,_,_,_,rfl,rfl,SqT.of et,rfl,_,_,rfl,rfl,_,rfl,t,_,_,_,rfl,rfl,SqT.of et,rfl,rfl,?_⟩
  have e:decide (V.int (Builtin.bitAnd (x:Int) (r.m:Int))=V.int (r.w:Int))=met r x:=by
   rw [band]
   unfold met
   by_cases h:x &&& r.m=r.w
   ·rw [Xah h,h];exact Xah rfl
   ·rw [Xai h];exact Xai fun z=>h (by injection z with z;exact Int.ofNat.inj z)
  rw [← e] at k
  exact k
abbrev zfn:Stmt:=top 40
theorem zi0:FnScope ["row","address"] ["row","address"] (zai zfn):=sck rfl rfl rfl (by decide +kernel)
theorem zjr {f:Addr}{fd:FuncData}(F:Fun K "cell_at" "cell_at" zfn f fd)(T:Blt mg)(Ggathered:Cal P w K mg base 2 "gathered" ["mask","number"] (spG gath)):FnOk P w K mg base CX0 3 f fd ["row","address"] spCellR:=by
 refine F.ok zi0 (by walk_at "l") (fun cdv A outer s H vs Q E hr h=>?_)
 ·obtain ⟨t,r,a,rfl,⟨lt,et,_⟩,hi,k⟩:=h
  refine ⟨_,(zaf (zam (pe_c Ggathered (zaa (pe_x zaA (pv 0) zad) (zaa (pv 1) zae))))),?rd⟩
  exact ⟨_,rfl,t,_,_,_,rfl,rfl,SqT.of et,rfl,_,rfl,r.i,a,rfl,hi,fun H' s'=>k H' s'⟩
abbrev zbE:Stmt:=top 42
theorem zeg:FnScope ["mask","want","other_mask","other_want"] ["mask","want","other_mask","other_want"] (zai zbE):=sck rfl rfl rfl (by decide +kernel)
theorem zet {f:Addr}{fd:FuncData}(F:Fun K "choices_agree" "choices_agree" zbE f fd)(T:Blt mg):FnOk P w K mg base CX0 1 f fd ["mask","want","other_mask","other_want"] spAgr:=by
 refine F.ok zeg (by walk_at "l") (fun cdv A outer s H vs Q E hr h=>?_)
 ·obtain ⟨m,x,n,v,rfl,k⟩:=h
  refine ⟨_,(zaf (zam (zbv zby (zak zaW (zak zaW (zak zjm (pv 1) (pv 3)) (pv 0)) (pv 2)) zad (zat _)))),?rd⟩
  refine ⟨_,rfl,_,rfl,_,_,rfl,rfl,_,rfl,_,_,rfl,rfl,_,rfl,_,_,rfl,rfl,rfl,?_⟩
  have e:decide (V.int (Builtin.bitAnd (Builtin.bitAnd (Builtin.bitXor (x:Int) (v:Int)) (m:Int)) (n:Int))=V.int 0)=agr m x n v:=by
   rw [bxor,band,band]
   unfold agr
   exact Xbp.mpr ⟨fun h=>by have:=V.int.inj h;omega,fun h=>by rw [h];rfl⟩
  exact Eq.mpr (congrArg (fun b=>Q (V.bl b) H) e) k
abbrev zbD:Stmt:=top 43
theorem zee:FnScope ["latch","other"] ["latch","other"] (zai zbD):=sck rfl rfl rfl (by decide +kernel)
theorem zes {f:Addr}{fd:FuncData}(F:Fun K "latches_agree" "latches_agree" zbD f fd)(T:Blt mg)(Gchoices_agree:Cal P w K mg base 1 "choices_agree" ["mask","want","other_mask","other_want"] spAgr):FnOk P w K mg base CX0 2 f fd ["latch","other"] spLatA:=by
 refine F.ok zee (by walk_at "l") (fun cdv A outer s H vs Q E hr h=>?_)
 ·obtain ⟨x,y,o,p,rfl,hx,hy,k⟩:=h
  refine ⟨_,(zab (zay (PW.pt (zbN (zb9 (ze2 (pv 0))) (zbN (zb9 (ze2 (pv 1))) (zbA (zas zeR (pe_x zaA (pv 0) zad) (pe_x zaA (pv 1) zad) (zat _)))))) (zaf (zam zb3)) zan)
   (zaf (zam (pe_c Gchoices_agree (zaa (pe_x zaA (pv 0) zad) (zaa (pe_x zaA (pv 0) zad) (zaa (pe_x zaA (pv 1) zad) (zaa (pe_x zaA (pv 1) zad) zae)))))))),?rd⟩
  cases o with
  | none =>
   obtain rfl:x = .non:=hx
   exact ⟨_,rfl,_,rfl,iteT (iteT k)⟩
  | some o =>
   obtain ⟨c,a,b⟩:=o
   obtain ⟨u,rfl,eu⟩:=hx
   refine ⟨_,rfl,_,rfl,iteF ?_⟩
   cases p with
   | none =>
    obtain rfl:y = .non:=hy
    exact ⟨_,rfl,_,rfl,iteT (iteT k)⟩
   | some p =>
    obtain ⟨d,x',y'⟩:=p
    obtain ⟨u',rfl,eu'⟩:=hy
    refine ⟨_,rfl,_,rfl,iteF ?_⟩
    refine ⟨_,rfl,u,_,_,_,rfl,rfl,SqT.of eu,rfl,_,rfl,u',_,_,_,rfl,rfl,SqT.of eu',rfl,rfl,_,rfl,?_⟩
    by_cases h:c=d
    ·subst h
     rw [show (!decide (V.int (c:Int)=V.int (c:Int)))=false by simp]
     refine iteF ?_
     refine ⟨_,rfl,u,_,_,_,rfl,rfl,SqT.of eu,rfl,_,rfl,u,_,_,_,rfl,rfl,SqT.of eu,rfl,_,rfl,u',_,_,_,rfl,rfl,SqT.of eu',rfl,_,rfl,u',_,_,_,rfl,rfl,SqT.of eu',rfl,a,b,x',y',rfl,?_⟩
     rw [show latA (some (c,a,b)) (some (c,x',y'))=agr a b x' y' from if_pos rfl] at k
     exact k
    ·rw [show (!decide (V.int (c:Int)=V.int (d:Int)))=true by simp;omega]
     rw [show latA (some (c,a,b)) (some (d,x',y'))=true from if_neg h] at k
     exact iteT k
abbrev zcB:Stmt:=top 44
theorem zfT:FnScope ["row","other"] ["row","other"] (zai zcB):=sck rfl rfl rfl (by decide +kernel)
theorem zf6 {f:Addr}{fd:FuncData}(F:Fun K "rows_clash" "rows_clash" zcB f fd)(T:Blt mg)(Gchoices_agree:Cal P w K mg base 1 "choices_agree" ["mask","want","other_mask","other_want"] spAgr)(Glatches_agree:Cal P w K mg base 2 "latches_agree" ["latch","other"] spLatA):FnOk P w K mg base CX0 3 f fd ["row","other"] spClash:=by
 refine F.ok zfT (by walk_at "l") (fun cdv A outer s H vs Q E hr h=>?_)
 ·obtain ⟨t,u,r,q,rfl,⟨lt,et,hl⟩,⟨lu,eu,hk⟩,k⟩:=h
  refine ⟨_,(zaf (zam (zbQ (pe_c Gchoices_agree (zaa (pe_x zaA (pv 0) zad) (zaa (pe_x zaA (pv 0) zad) (zaa (pe_x zaA (pv 1) zad) (zaa (pe_x zaA (pv 1) zad) zae))))) (zca (pe_c Glatches_agree (zaa (pe_x zaA (pv 0) zad) (zaa (pe_x zaA (pv 1) zad) zae))))))),?rd⟩
  refine ⟨_,rfl,t,_,_,_,rfl,rfl,SqT.of et,rfl,_,rfl,t,_,_,_,rfl,rfl,SqT.of et,rfl,_,rfl,u,_,_,_,rfl,rfl,SqT.of eu,rfl,_,rfl,u,_,_,_,rfl,rfl,SqT.of eu,rfl,r.m,r.w,q.m,q.w,rfl,_,rfl,?_⟩
  unfold zbk at k
  cases h:agr r.m r.w q.m q.w with
  | false =>
   rw [h] at k
   exact iteF k
  | true =>
   rw [h] at k
   exact iteT ⟨_,rfl,t,_,_,_,rfl,rfl,SqT.of et,rfl,_,rfl,u,_,_,_,rfl,rfl,SqT.of eu,rfl,lt,lu,r.l,q.l,rfl,hl,hk,k⟩
abbrev zef:Stmt:=top 46
theorem scclash_of:FnScope ["rows","found","second","other","first","row","address"] ["rows"] (zai zef):=sck rfl rfl rfl (by decide +kernel)
inductive spClashV (vs:List V)(H:Hp)(Q:VK)(u3_:XK):Prop
 | mk (m:Nat) (R:Addr) (ws:List (Addr×Rw)) (z0_:vs=[.ref R]) (z1_:H R=some (.tup (refs ws))) (z2_:RwsAt2 m H ws) (z3_:(ws.Pairwise fun a b=>NC a.2 b.2)) (z4_:ws.length≤300) (z5_:∀ H',Same H H'→Q .non H')
set_option tactic.hygienic true in
theorem zig {f:Addr}{fd:FuncData}(F:Fun K "clash_of" "clash_of" zef f fd)(T:Blt mg)(Grows_clash:Cal P w K mg base 3 "rows_clash" ["row","other"] spClash):FnOk P w K mg base CX0 4 f fd ["rows"] spClashV:=by
 refine F.ok scclash_of (by walk_at "l") (fun cdv A outer s H vs Q E hr h=>?_)
 ·obtain ⟨m,p,ws,rfl,hp,hw,nc,hl,k⟩:=h
  refine ⟨_,(zab (ps_L 1 scclash_of.nd (zax zae))
   (zab (zbO PassesOwn.never rfl (zd2 rfl T.enumerate (zaa (pv 0) zae)) (zbu rfl (zao (pg_L 2 scclash_of.nd) (zao (pg_L 3 scclash_of.nd) zaV)))
   (zaf (zbO PassesOwn.never rfl (zd2 rfl T.enumerate (zaa (zb0 (ziV (K:=K) rfl) (pv 0) zft (zbt (pv 2))) zae)) (zbu rfl (zao (pg_L 4 scclash_of.nd) (zao (pg_L 5 scclash_of.nd) zaV)))
   (zaf (zay (zaG (pe_c Grows_clash (zaa (pv 5) (zaa (pv 3) zae)))) (zaf zaJ) zan)))))
   (zab (zay (zaK (zfr (pv 1) (fun _=>rfl))) (zaf (zam ze1)) zan)
   (zab zaJ
   (zaf zaJ))))),?rd⟩
  refine ⟨by show 0≤sizeLine;decide,fun fa hfa=>?_⟩
  refine ⟨_,rfl,p,rfl,⟨_,SqT.of (zah hfa _ _ hp)⟩,?_⟩
  refine zc8 (K:=K) (a:=p) (xs:=refs ws) (fun j σ X=>∃ (v2 v3 v4 v5:Option V),σ=[some (.ref p),some (.ref fa),v2,v3,v4,v5,none]∧X fa=some (.lst [])∧Same H X)
   ⟨none,none,none,none,rfl,zac,zah hfa⟩ (fun i σ X hi ⟨_,_,_,_,_,_,s⟩=>SqT.of (s _ _ hp)) ?_ ?_
  ·rintro j x T0 σ X hx hT0 ⟨v2,v3,v4,v5,rfl,efa,sX⟩
   obtain ⟨q,hq,rfl⟩:=zbZ hx
   obtain ⟨hj,ej⟩:=Xag.mp hq
   refine ze6 ?_
   have sT:Same H (upd X T0 (.tup [.int (j:Int),.ref q.1])):=sX.trans (zah hT0)
   refine ⟨_,rfl,_,rfl,_,rfl,p,_,rfl,SqT.of (sT _ _ hp),fun z=>?_,fun u hu=>?_⟩
   ·exfalso
    rw [zhR (by rw [zaC];omega)] at z
    have:=congrArg List.length z
    rw [Xa3,zaC] at this
    omega
   have ecut:cutV (refs ws) none (some (j:Int))=refs (ws.take j):=by rw [zhR (by rw [zaC];omega)];exact (List.map_take ..).symm
   refine ⟨u,rfl,⟨_,SqT.of zac⟩,?_⟩
   rw [ecut] at *
   have sU:Same X (upd (upd X T0 (.tup [.int (j:Int),.ref q.1])) u (.tup (refs (ws.take j)))):=(zah hT0).trans (zah hu)
   refine zc8 (K:=K) (a:=u) (xs:=refs (ws.take j)) (fun i σ Y=>∃ (v4 v5:Option V),σ=[some (.ref p),some (.ref fa),some (.int (j:Int)),some (.ref q.1),v4,v5,none]∧Y fa=some (.lst [])∧Y u=some (.tup (refs (ws.take j)))∧Same H Y)
    ⟨v4,v5,rfl,sU _ _ efa,zac,sX.trans sU⟩ (fun i σ Y hi ⟨_,_,_,_,e,_⟩=>SqT.of e) ?_ ?_
   ·rintro i y T1 σ Y hy hT1 ⟨v4,v5,rfl,efa,eu,sY⟩
    obtain ⟨r,hr',rfl⟩:=zbZ hy
    rw [List.getElem?_take] at hr'
    split at hr'
    ·rename_i hij
     obtain ⟨hi,ei⟩:=Xag.mp hr'
     have c:zbk r.2 q.2=false:=by
      have:=(Xba.mp nc i j hi hj hij).1
      rw [ei,ej] at this
      exact this
     refine ze6 ?_
     have s1:Same Y (upd Y T1 (.tup [.int (i:Int),.ref r.1])):=zah hT1
     have s2:=sY.trans s1
     refine ⟨_,rfl,_,rfl,r.1,q.1,r.2,q.2,rfl,(hw r (Xay hr')).1.same s2,(hw q (Xay hq)).1.same s2,_,rfl,?_⟩
     rw [c]
     exact iteF ⟨_,_,rfl,s1 _ _ efa,s1 _ _ eu,s2⟩
    ·cases hr'
   ·rintro σ Y ⟨v4,v5,rfl,efa,eu,sY⟩
    exact ⟨_,_,_,_,rfl,efa,sY⟩
  ·rintro σ X ⟨v2,v3,v4,v5,rfl,efa,sX⟩
   exact ⟨_,rfl,_,.inl ⟨_,SqL.of efa,rfl⟩,iteT (k X sX)⟩
abbrev zec:Stmt:=top 47
theorem scis_awake:FnScope ["row","words","latch","chip","mask","want"] ["row","words"] (zai zec):=sck rfl rfl rfl (by decide +kernel)
theorem zie {f:Addr}{fd:FuncData}(F:Fun K "is_awake" "is_awake" zec f fd)(T:Blt mg):FnOk P w K mg base CX0 1 f fd ["row","words"] spAwake:=by
 refine F.ok scis_awake (by walk_at "l") (fun cdv A outer s H vs Q E hr h=>?_)
 ·obtain ⟨t,d,r,keys,g,rfl,⟨lt,et,hlt⟩,ed,k⟩:=h
  refine ⟨_,(zab (ps_L 2 scis_awake.nd (pe_x zaA (pv 0) zad))
   (zab (zay (zb9 (ze2 (pv 2))) (zaf (zam zb3)) zan)
   (zab (zbP (pv 2) (zbu rfl (zao (pg_L 3 scis_awake.nd) (zao (pg_L 4 scis_awake.nd) (zao (pg_L 5 scis_awake.nd) zaV)))))
   (zaf (zam (zbv zby (zak zaW (zkJ (zc7 hr) (pv 1) (pv 3) zad ⟨rfl,rfl,rfl,rfl⟩) (pv 4)) (pv 5) (zat _))))))),?rd⟩
  refine ⟨_,rfl,t,_,_,_,rfl,rfl,SqT.of et,rfl,?_⟩
  cases hl:r.l with
  | none =>
   rw [hl] at hlt
   obtain rfl:lt = .non:=hlt
   refine ⟨_,rfl,_,rfl,iteT ?_⟩
   rw [show awk r (wrd keys g)=true by unfold awk;rw [hl]] at k
   exact k
  | some o =>
   obtain ⟨c,a,b⟩:=o
   rw [hl] at hlt
   obtain ⟨lp,rfl,elp⟩:=hlt
   refine ⟨_,rfl,_,rfl,iteF ?_⟩
   refine ⟨_,rfl,lp,_,rfl,SqT.of elp,rfl,_,_,rfl,_,_,rfl,_,_,rfl,rfl,?_⟩
   refine ⟨_,rfl,d,rfl,.inl ⟨_,.inl ed⟩,_,rfl,_,DGet.k (k:=Sum.inl (c:Int)) ed,?_⟩
   rw [dV_get]
   refine ⟨_,rfl,_,_,rfl,rfl,_,rfl,rfl,?_⟩
   rw [← awk_eq hl] at k
   exact k
abbrev zdk:Stmt:=top 48
theorem scanswering:FnScope ["rows","address","words","number","row"] ["rows","address","words"] (zai zdk):=sck rfl rfl rfl (by decide +kernel)
theorem zg6 {f:Addr}{fd:FuncData}(F:Fun K "answering" "answering" zdk f fd)(T:Blt mg)(Gmeets:Cal P w K mg base 1 "meets" ["row","address"] spMeet)(Gis_awake:Cal P w K mg base 1 "is_awake" ["row","words"] spAwake):FnOk P w K mg base CX0 2 f fd ["rows","address","words"] spAnsw:=by
 refine F.ok scanswering (by walk_at "l") (fun cdv A outer s H vs Q E hr h=>?_)
 ·obtain ⟨p,d,x,ws,keys,g,rfl,hp,hws,ed,k⟩:=h
  refine ⟨_,(zab (zbO PassesOwn.never rfl (zd2 rfl T.enumerate (zaa (pv 0) zae)) (zbu rfl (zao (pg_L 3 scanswering.nd) (zao (pg_L 4 scanswering.nd) zaV)))
   (zaf (zay (PW.pt (zi9 (zaG (pe_c Gmeets (zaa (pv 4) (zaa (pv 1) zae)))) (zgY (zaG (pe_c Gis_awake (zaa (pv 4) (zaa (pv 2) zae))))))) (zaf (zam (pv 3))) zan)))
   (zaf (zam ze1))),?rd⟩
  refine ⟨_,rfl,p,rfl,⟨_,SqT.of hp⟩,?_⟩
  refine zc8 (K:=K) (a:=p) (xs:=refs ws) (fun i σ X=>∃ (v3 v4:Option V),σ=[some (.ref p),some (.int (x:Int)),some (.ref d),v3,v4]∧(∀ (j:Nat) (q:Rw),j<i→(ws.map (·.2))[j]? = some q→ans q x (wrd keys g)=false)∧Same H X) ⟨_,_,rfl,(fun j q hj=>absurd hj (Xbu _)),Same.refl _⟩ (fun i σ X hi ⟨_,_,_,_,s⟩=>SqT.of (s _ _ hp)) ?_ ?_
  ·rintro i y U σ X hy hU ⟨v3,v4,rfl,hb,sX⟩
   obtain ⟨z,hz,rfl⟩:=zbZ hy
   have sU:=sX.trans (zah (o:=.tup [.int (i:Int),.ref z.1]) hU)
   have rwz:=(hws z (Xay hz)).same sU
   have hzi:(ws.map (·.2))[i]? = some z.2:=by rw [Xat,hz];rfl
   have next:ans z.2 x (wrd keys g)=false→∃ (v3 v4:Option V),[some (.ref p),some (.int (x:Int)),some (.ref d),some (.int (i:Int)),some (.ref z.1)]=[some (.ref p),some (.int (x:Int)),some (.ref d),v3,v4]∧(∀ (j:Nat) (q:Rw),j<i+1→(ws.map (·.2))[j]? = some q→ans q x (wrd keys g)=false)∧Same H (upd X U (.tup [.int (i:Int),.ref z.1])):=fun hn=>⟨_,_,rfl,fun j q hj hq=>by
    rcases (show j<i∨j=i by omega) with e | e
    ·exact hb j q e hq
    ·rw [e,hzi] at hq;cases hq;exact hn,sU⟩
   refine ze6 ?_
   refine ⟨_,rfl,_,rfl,z.1,z.2,x,rfl,rwz,_,rfl,ite2 (fun h1=>?_) (fun h1=>?_)⟩
   ·refine ⟨_,rfl,_,rfl,z.1,d,z.2,keys,g,rfl,rwz,sU _ _ ed,_,rfl,ite2 (fun h2=>?_) (fun h2=>?_)⟩
    ·refine ⟨_,rfl,?_⟩
     have:=k _ sU
     rw [zjN hzi (by unfold ans;rw [h1,h2];rfl) hb] at this
     exact this
    ·exact next (by unfold ans;rw [Bool.eq_false_iff.mpr h2,XbG])
   ·exact iteF (next (by unfold ans;rw [Bool.eq_false_iff.mpr h1,Bool.false_and]))
  ·rintro σ X ⟨v3,v4,rfl,hb,sX⟩
   have:=k X sX
   rw [zaC] at hb
   rw [zjO (fun r hr'=>by
    obtain ⟨j,hj⟩:=List.mem_iff_getElem?.mp hr'
    exact hb j r (by have:=(Xag.mp hj).1;rw [Xaf] at this;exact this) hj)] at this
   exact this
abbrev zfk:Stmt:=top 21
theorem ziZ:FnScope ["thing"] ["thing"] (zai zfk):=sck rfl rfl rfl (by decide +kernel)
theorem zjq {f:Addr}{fd:FuncData}(F:Fun K "is_word" "is_word" zfk f fd)(T:Blt mg)(N:Nums mg)(Gis_number:Cal P w K mg base 1 "is_number" ["thing","last"] spIsNum):FnOk P w K mg base CX0 2 f fd ["thing"] spIsWord:=by
 refine F.ok ziZ (by walk_at "l") (fun cdv A outer s H vs Q E hr h=>?_)
 ·obtain ⟨a,rfl,k⟩:=h
  refine ⟨_,(zaf (zam (pe_c Gis_number (zaa (pv 0) (zaa (zbg rfl N.LAST_WORD) zae))))),?rd⟩
  exact ⟨_,rfl,a,255,rfl,k⟩
abbrev zcC:Stmt:=top 22
theorem zfU:FnScope ["word"] ["word"] (zai zcC):=sck rfl rfl rfl (by decide +kernel)
theorem zf7 {f:Addr}{fd:FuncData}(F:Fun K "check_word" "check_word" zcC f fd)(T:Blt mg)(Gis_word:Cal P w K mg base 2 "is_word" ["thing"] spIsWord):FnOk P w K mg base CX0 3 f fd ["word"] spChkWord:=by
 refine F.ok zfU (by walk_at "l") (fun cdv A outer s H vs Q E hr h=>?_)
 ·obtain ⟨a,rfl,h0,h1,k⟩:=h
  refine ⟨_,(zaf (zay (zaK (zaG (pe_c Gis_word (zaa (pv 0) zae)))) (zaf zaJ) zan)),?rd⟩
  refine ⟨_,rfl,a,rfl,_,rfl,zjF ⟨h0,h1⟩ k⟩
abbrev zbH:Stmt:=zav (top 26) 0
theorem zei:FnScope ["self","head","held"] ["self","head","held"] (zai zbH):=sck rfl rfl rfl (by decide +kernel)
theorem zew {f:Addr}{fd:FuncData}(F:Fun K "__init__" "Chip.__init__" zbH f fd)(T:Blt mg):FnOk P w K mg base CX0 1 f fd ["self","head","held"] (spInit K):=by
 refine F.ok zei (by walk_at "l") (fun cdv A outer s H vs Q E hr h=>?_)
 ·obtain ⟨a,C,dx,p,hd,rfl,ha,c,k⟩:=h
  refine ⟨_,(zab (zbe (pv 0) (pv 1) rfl)
   (zaf (zbe (pv 0) (pv 2) rfl))),?rd⟩
  refine ⟨_,rfl,_,rfl,a,C,dx,_,rfl,ha,c.cl,c.head,by show 0<1000;decide,?_⟩
  refine ⟨_,rfl,_,rfl,a,C,dx,_,rfl,zac,c.cl,c.held,by show 1<1000;decide,?_⟩
  exact k _ zac fun b hb=>by rw [zag hb,zag hb]
abbrev zcE:Stmt:=top 16
theorem scby_figures:FnScope ["number","many","text","place"] ["number","many"] (zai zcE):=sck rfl rfl rfl (by decide +kernel)
def FIG:Str := "0123456789abcdef"
def figc (k:Nat):Nat:=(FIG.cps.toList[k]?).getD 0
def fig2 (n:Nat):Str:=(⟨#[figc (n / 16)]⟩:Str) ++ (⟨#[figc (n % 16)]⟩:Str)
def phead (r:Nat):Str:=Str.empty ++ ("pipe " : Str) ++ fig2 r
theorem zlA {k:Nat}(h:k<16):atI FIG.cps.toList (k:Int)=some (figc k):=by
 have e:FIG.cps.toList.length=16:=by decide
 refine zaP ?_
 unfold figc
 rw [Xav (by omega)]
 rfl
structure ObP (C:Addr)(H:Hp)(a p:Addr)(r:Nat)(ws:List Nat):Prop where
 ex:∃ dx,H a=some (.ins C dx [("head",.str (phead r)),("held",.ref p),("room",.int (r:Int))])
 ls:H p=some (.lst (vN ws))
theorem ObP.ob {C:Addr}{H:Hp}{a p:Addr}{r:Nat}{ws:List Nat}(o:ObP C H a p r ws):Ob C H a p (vN ws) [("room",.int (r:Int))]:=by
 obtain ⟨⟨dx,e⟩,l⟩:=o
 exact ⟨⟨dx,_,e⟩,l,.inr ⟨_,rfl⟩⟩
def two (_:List V):Nat:=2
inductive sp2fig (vs:List V)(H:Hp)(Q:VK)(u3_:XK):Prop
 | mk (n:Nat) (z0_:vs=[.int (n:Int)]) (z1_:n≤255) (z2_:Q (.str (fig2 n)) H)
inductive spMkP (C:Addr)(vs:List V)(H:Hp)(Q:VK)(u3_:XK):Prop
 | mk (a:_) (dx:_) (r:Nat) (z0_:vs=[.ref a,.int (r:Int)]) (z1_:1≤r) (z2_:r≤255) (z3_:H a=some (.ins C dx [])) (z4_:∀ (p:Addr) (H':Hp),H p=none→ObP C H' a p r []→ziF a H H'→Q .non H')
inductive spPLook (C:Addr)(vs:List V)(H:Hp)(Q:VK)(u3_:XK):Prop
 | mk (a:_) (p:_) (r:Nat) (ws:List Nat) (c:Int) (z0_:vs=[.ref a,.int c]) (z1_:ObP C H a p r ws) (z2_:((c=0∧Q (.int ((ws.headD 0:Nat):Int)) H)∨(c=1∧Q (.int (ws.length:Int)) H)))
inductive spPRead (C:Addr)(vs:List V)(H:Hp)(Q:VK)(u3_:XK):Prop
 | mk (a:_) (p:_) (r:Nat) (ws:List Nat) (c:Int) (z0_:vs=[.ref a,.int c]) (z1_:ObP C H a p r ws) (z2_:((c=0∧Q (.int ((ws.headD 0:Nat):Int)) (upd H p (.lst (vN (ws.drop 1)))))∨(c=1∧Q (.int (ws.length:Int)) H)))
inductive spPWrite (C:Addr)(vs:List V)(H:Hp)(Q:VK)(u3_:XK):Prop
 | mk (a:_) (p:_) (r:Nat) (ws:List Nat) (c:Int) (v:Nat) (z0_:vs=[.ref a,.int c,.int (v:Int)]) (z1_:ObP C H a p r ws) (z2_:v≤255) (z3_:ws.length≤1000) (z4_:((c=0∧((ws.length<r∧Q .non (upd H p (.lst (vN (ws ++ [v])))))∨(¬ ws.length<r∧Q .non H)))∨(c=1∧Q .non (upd H p (.lst (vN []))))))
theorem zld (l:List Nat):vN l=(l.map fun (n:Nat)=>(n:Int)).map V.int:=by unfold vN;rw [Xa7];rfl
theorem zhj {a b:List Nat}:(a.map fun (n:Nat)=>(n:Int))=(b.map fun (n:Nat)=>(n:Int))↔a=b:=by
 exact List.map_inj_right (fun x y h=>by omega)
inductive spByFig (vs:List V)(H:Hp)(Q:VK)(u3_:XK):Prop
 | mk (n:Nat) (z0_:vs=[.int (n:Int),.int 2]) (z1_:n≤255) (z2_:Q (.str (fig2 n)) H)
def figs (n:Nat):Nat→Str
 | 0=>("" : Str)
 | 1=>(⟨#[figc (n % 16)]⟩:Str) ++ ("" : Str)
 | _=>(⟨#[figc (n / 16)]⟩:Str) ++ ((⟨#[figc (n % 16)]⟩:Str) ++ ("" : Str))
theorem and15 (n:Nat):n &&& 15=n % 16:=Nat.and_two_pow_sub_one_eq_mod n 4
theorem zf8 {f:Addr}{fd:FuncData}(F:Fun K "by_figures" "by_figures" zcE f fd)(T:Blt mg)(N:Nums mg):FnOk P w K mg base CX0 1 f fd ["number","many"] spByFig:=by
 refine F.ok scby_figures (by walk_at "l") (fun cdv A outer s H vs Q E hr h=>?_)
 ·obtain ⟨n,rfl,hn,k⟩:=h
  refine ⟨_,(zab (ps_L 2 scby_figures.nd zaQ)
   (zab (zbO PassesOwn.never rfl (zck rfl T.range (zaa (pv 1) zae)) (pg_L 3 scby_figures.nd)
   (zaf (ps_L 2 scby_figures.nd (zak zib (pe_x ix_str (zb2 rfl N.SIXTEEN) (zak zaW (zak op_shr (pv 0) (zak zdz zad (pv 3))) zad)) (pv 2)))))
   (zaf (zam (pv 2))))),?rd⟩
  refine ⟨_,rfl,2,rfl,by decide,by decide,?_⟩
  refine zeJ (n:=2) (fun i σ H2=>∃ v3,σ=[some (.int (n:Int)),some (.int 2),some (.str (figs n i)),v3]∧H2=H) ⟨none,rfl,rfl⟩ ?_ ?_
  ·rintro i σ H2 hi ⟨v3,rfl,rfl⟩
   rcases (show i=0∨i=1 by omega) with rfl | rfl
   ·refine ⟨_,rfl,_,rfl,_,_,rfl,rfl,zeC (by decide) (by decide),_,_,rfl,rfl,(show (0:Int)≤4 * (0+((0:Nat):Int)) by decide),_,_,rfl,rfl,FIG,((n % 16:Nat):Int),_,rfl,congrArg V.int ?_,by decide,zlA (by omega),?_⟩
    ·show Builtin.bitAnd ((n:Int) / 1) ((15:Nat):Int)=_
     rw [Int.ediv_one,band,and15]
    ·exact ⟨_,rfl,_,_,rfl,rfl,by show 1+0≤sizeLine;decide,⟨_,rfl,rfl⟩⟩
   ·refine ⟨_,rfl,_,rfl,_,_,rfl,rfl,zeC (by decide) (by decide),_,_,rfl,rfl,(show (0:Int)≤4 * (0+((1:Nat):Int)) by decide),_,_,rfl,rfl,FIG,((n / 16:Nat):Int),_,rfl,congrArg V.int ?_,by decide,zlA (by omega),?_⟩
    ·have e:(n:Int) / 2 ^ (4 * (0+((1:Nat):Int))).toNat=((n / 16:Nat):Int):=by
      show (n:Int) / 16=_
      omega
     show Builtin.bitAnd ((n:Int) / 2 ^ (4 * (0+((1:Nat):Int))).toNat) ((15:Nat):Int)=_
     rw [e,band,and15,Nat.mod_eq_of_lt (by omega)]
    ·exact ⟨_,rfl,_,_,rfl,rfl,by show 1+1≤sizeLine;decide,⟨_,rfl,rfl⟩⟩
  ·rintro σ H2 ⟨v3,rfl,rfl⟩
   exact ⟨_,rfl,k⟩
abbrev zcc:Stmt:=top 17
theorem zfm:FnScope ["word"] ["word"] (zai zcc):=sck rfl rfl rfl (by decide +kernel)
theorem zfx {f:Addr}{fd:FuncData}(F:Fun K "two_figures" "two_figures" zcc f fd)(T:Blt mg)(Gby_figures:Cal P w K mg base 1 "by_figures" ["number","many"] spByFig):FnOk P w K mg base CX0 2 f fd ["word"] sp2fig:=by
 refine F.ok zfm (by walk_at "l") (fun cdv A outer s H vs Q E hr h=>?_)
 ·obtain ⟨n,rfl,hn,k⟩:=h
  refine ⟨_,(zaf (zam (pe_c Gby_figures (zaa (pv 0) (zaa zad zae))))),?rd⟩
  exact ⟨_,rfl,n,rfl,hn,k⟩
def zki (C:Addr)(H:Hp)(a:Addr)(ws:List V)(hd:Str)(Q:VK):Prop:=∀ (p:Addr) (H':Hp),H p=none→(∃ dx,H' a=some (.ins C dx [("head",.str hd),("held",.ref p)]))→H' p=some (.lst ws)→ziF a H H'→Q .non H'
inductive spMk1H (C:Addr)(hd:Str)(vs:List V)(H:Hp)(Q:VK)(u3_:XK):Prop
 | mk (a:_) (dx:_) (v:Int) (z0_:vs=[.ref a,.int v]) (z1_:0≤v) (z2_:v≤255) (z3_:H a=some (.ins C dx [])) (z4_:zki C H a [.int v] hd Q)
inductive spMkSH (C:Addr)(vs:List V)(H:Hp)(Q:VK)(u3_:XK):Prop
 | mk (a:_) (dx:_) (n:Nat) (v:Int) (z0_:vs=[.ref a,.int (n:Int),.int v]) (z1_:1≤n) (z2_:n≤4096) (z3_:0≤v) (z4_:v≤255) (z5_:H a=some (.ins C dx [])) (z6_:zki C H a (List.replicate n (.int v)) "store" Q)
inductive spMkFH (C:Addr)(vs:List V)(H:Hp)(Q:VK)(u3_:XK):Prop
 | mk (a:_) (dx:_) (l:_) (ws:List Nat) (z0_:vs=[.ref a,.ref l]) (z1_:H l=some (.lst (vN ws))) (z2_:1≤ws.length) (z3_:ws.length≤4096) (z4_:(∀ w∈ws,w≤255)) (z5_:H a=some (.ins C dx [])) (z6_:zki C H a (vN ws) "fixed" Q)
def zbi:Nat→Str
 | 0 => "store"
 | 1 => "fixed"
 | 2 => "latch"
 | 3 => "meter"
 | _ => "pipe"
def zjA (kd n:Nat):Str:=if kd=4 then phead n else zbi kd
def kext (kd n:Nat):List (Str×V):=if kd=4 then [("room",.int (n:Int))] else []
def ksize (kd:Nat)(ws:List Nat):Nat:=if kd=4 then 2 else ws.length
def kwr (kd n:Nat)(ws:List Nat)(c v:Nat):List Nat:=if kd=4 then (if c=1 then [] else if ws.length<n then ws ++ [v] else ws) else if kd=1 then ws else ws.set c v
def krd (kd:Nat)(ws:List Nat)(c:Nat):List Nat:=if kd=3 then [(ws.headD 0+1) % 256] else if kd=4∧c=0 then ws.drop 1 else ws
def klk (kd:Nat)(ws:List Nat)(c:Nat):Nat:=if kd=4 then (if c=1 then ws.length else ws.headD 0) else ws.getD c 0
structure Kd (kd n:Nat)(ws:List Nat):Prop where
 k5:kd<5
 w5:∀ v∈ws,v≤255
 ln:ws.length≤4096
 l1:kd≠4→1≤ws.length
 l3:kd=3→ws.length=1
 pi:kd=4→ws.length≤n∧1≤n
 n2:n≤255
set_option tactic.hygienic true in
theorem Kd.wr {kd n c v:Nat}{ws:List Nat}(k:Kd kd n ws)(hv:v≤255):Kd kd n (kwr kd n ws c v):=by
 unfold kwr
 split
 ·rename_i e
  split
  ·exact ⟨k.k5,fun _ h=>(nomatch h),Nat.zero_le _,fun h=>absurd e h,fun h=>by omega,fun h=>⟨Nat.zero_le _,(k.pi h).2⟩,k.n2⟩
  ·split
   ·refine ⟨k.k5,zlb k.w5 hv,?_,fun h=>absurd e h,fun h=>by omega,fun h=>⟨?_,(k.pi h).2⟩,k.n2⟩
    ·rw [Xaq];have:=k.n2;show ws.length+1≤4096;omega
    ·rw [Xaq];show ws.length+1≤n;omega
   ·exact k
 ·split
  ·exact k
  ·refine ⟨k.k5,fun b hb=>?_,by rw [XbP];exact k.ln,fun h=>by rw [XbP];exact k.l1 h,fun h=>by rw [XbP];exact k.l3 h,fun h=>by rw [XbP];exact k.pi h,k.n2⟩
   rcases List.mem_or_eq_of_mem_set hb with z | z
   ·exact k.w5 b z
   ·rw [z];exact hv
set_option tactic.hygienic true in
theorem Kd.rd {kd n c:Nat}{ws:List Nat}(k:Kd kd n ws):Kd kd n (krd kd ws c):=by
 unfold krd
 split
 ·rename_i e
  exact ⟨k.k5,fun b hb=>by rw [Xad.mp hb];omega,by show 1≤4096;decide,fun _=>Xae _,fun _=>rfl,fun h=>by omega,k.n2⟩
 ·split
  ·rename_i e
   refine ⟨k.k5,fun b hb=>k.w5 b (XbE hb),by rw [Xa4];have:=k.ln;omega,fun h=>absurd e.1 h,fun h=>by omega,fun h=>⟨by rw [Xa4];have:=(k.pi h).1;omega,(k.pi h).2⟩,k.n2⟩
  ·exact k
structure Chp (cs:Nat→Addr)(H:Hp)(x p:Addr)(kd n:Nat)(ws:List Nat):Prop where
 ex:∃ dx,H x=some (.ins (cs kd) dx (("head",.str (zjA kd n)) :: ("held",.ref p) :: kext kd n))
 ls:H p=some (.lst (vN ws))
theorem Chp.same {cs:Nat→Addr}{H H':Hp}{x p:Addr}{kd n:Nat}{ws:List Nat}(o:Chp cs H x p kd n ws)(s:Same H H'):Chp cs H' x p kd n ws:=by
 obtain ⟨⟨dx,e⟩,l⟩:=o
 exact ⟨⟨dx,s _ _ e⟩,s _ _ l⟩
theorem zbB {kd j:Nat}(h:kd<5)(hj:j<5):decide (V.str (zbi kd)=V.str (zbi j))=decide (kd=j):=by
 rcases (show kd=0∨kd=1∨kd=2∨kd=3∨kd=4 by omega) with rfl | rfl | rfl | rfl | rfl <;> rcases (show j=0∨j=1∨j=2∨j=3∨j=4 by omega) with rfl | rfl | rfl | rfl | rfl <;> decide
inductive spW25 (cs:Nat→Addr)(kd:Nat)(vs:List V)(H:Hp)(Q:VK)(u3_:XK):Prop
 | mk (x:_) (p:_) (n c v:Nat) (ws:List Nat) (z0_:vs=[.ref x,.int (c:Int),.int (v:Int)]) (z1_:Chp cs H x p kd n ws) (z2_:Kd kd n ws) (z3_:c<ksize kd ws) (z4_:v≤255) (z5_:∀ H',H' p=some (.lst (vN (kwr kd n ws c v)))→(∀ b,b≠p→H' b=H b)→Q .non H')
def csOf (a b c d e:Addr):Nat→Addr
 | 0=>a
 | 1=>b
 | 2=>c
 | 3=>d
 | _=>e
theorem za1 {P:Program}{w:World}{K:W.Frag}{mg:Str→Option Value}{base:Heap}{k:Nat}{C:Addr}{m:Str}{ks:List Str}{gV:List V→List V→List V}{sp sp':Sp}(M:Mth P w K mg base k C m ks gV sp)(h:∀ vs H Q E,sp' vs H Q E→sp vs H Q E):Mth P w K mg base k C m ks gV sp':=by
 obtain ⟨c,f,fd,ps,g,a,F,b⟩:=M
 exact ⟨c,f,fd,ps,g,a,F.imp h,b⟩
theorem zgL {cs:Nat→Addr}{kd:Nat}(hk:kd=0∨kd=2∨kd=3):∀ vs H Q E,spW25 cs kd vs H Q E→spWrite (cs kd) vs H Q E:=by
 rintro vs H Q E ⟨x,p,n,c,v,ws,rfl,o,kk,hc,hv,q⟩
 obtain ⟨dx,e⟩:=o.ex
 have h4:kd≠4:=by omega
 have h1:kd≠1:=by omega
 unfold ksize at hc
 unfold kwr at q
 rw [if_neg h4] at hc
 rw [if_neg h4,if_neg h1] at q
 unfold kext at e
 rw [if_neg h4] at e
 exact ⟨x,p,vN ws,[],c,(v:Int),rfl,⟨⟨dx,_,e⟩,o.ls,.inl rfl⟩,by rw [zaq];have:=kk.ln;omega,by rw [zaq];exact hc,by omega,by omega,q _ (by rw [← zlc];exact zac) fun b hb=>zag hb⟩
theorem zlN {cs:Nat→Addr}:∀ vs H Q E,spW25 cs 1 vs H Q E→spFixW (cs 1) vs H Q E:=by
 rintro vs H Q E ⟨x,p,n,c,v,ws,rfl,o,kk,hc,hv,q⟩
 obtain ⟨dx,e⟩:=o.ex
 exact ⟨x,p,vN ws,[],c,(v:Int),rfl,⟨⟨dx,_,e⟩,o.ls,.inl rfl⟩,by rw [zaq];have:=kk.ln;omega,by rw [zaq];exact hc,by omega,by omega,q _ o.ls fun b hb=>rfl⟩
theorem w_pipe {cs:Nat→Addr}:∀ vs H Q E,spW25 cs 4 vs H Q E→spPWrite (cs 4) vs H Q E:=by
 rintro vs H Q E ⟨x,p,n,c,v,ws,rfl,o,kk,hc,hv,q⟩
 have hl:=(kk.pi rfl).1
 have hn:=kk.n2
 refine ⟨x,p,n,ws,(c:Int),v,rfl,⟨o.ex,o.ls⟩,hv,by omega,?_⟩
 unfold kwr at q
 rw [if_pos rfl] at q
 have hc:c<2:=hc
 rcases (show c=0∨c=1 by omega) with rfl | rfl
 ·refine .inl ⟨rfl,?_⟩
  rw [if_neg (by decide)] at q
  by_cases h:ws.length<n
  ·rw [if_pos h] at q
   exact .inl ⟨h,q _ zac fun b hb=>zag hb⟩
  ·rw [if_neg h] at q
   exact .inr ⟨h,q _ o.ls fun b hb=>rfl⟩
 ·exact .inr ⟨rfl,q _ zac fun b hb=>zag hb⟩
abbrev zbW:Stmt:=zav (top 26) 1
theorem zeP:FnScope ["self"] ["self"] (zai zbW):=sck rfl rfl rfl (by decide +kernel)
theorem za9 {f C:Addr}{fd:FuncData}(F:Fun K "__len__" "Chip.__len__" zbW f fd)(T:Blt mg)(c:ClsOk K C):FnOk P w K mg base CX0 1 f fd ["self"] (spLen C List.length):=by
 refine F.ok zeP (by walk_at "l") (fun cdv A outer s H vs Q E hr h=>?_)
 ·obtain ⟨a,p,ws,ext,rfl,o,k⟩:=h
  refine ⟨_,(zaf (zam (zap zar (by rfl) T.len PySem.boot_len (zaa (zaz (pv 0) rfl) zae)))),?rd⟩
  obtain ⟨⟨dx,hd,e⟩,l,nn⟩:=o
  exact ⟨_,rfl,a,C,dx,_,_,rfl,e,c.cl,c.held,rfl,p,ws,rfl,.inl (SqL.of l),k⟩
abbrev zbd:Stmt:=zav (top 26) 5
theorem zdj:FnScope ["self","cell"] ["self","cell"] (zai zbd):=sck rfl rfl rfl (by decide +kernel)
theorem zaM {f C:Addr}{fd:FuncData}(F:Fun K "check_cell" "Chip.check_cell" zbd f fd){L:List V→Nat}(T:Blt mg)(Gis_number:Cal P w K mg base 1 "is_number" ["thing","last"] spIsNum)(M:Mth P w K mg base 1 C "__len__" [] (fun vs _=>vs) (spLen C L)):FnOk P w K mg base CX0 3 f fd ["self","cell"] (spChkC C L):=by
 refine F.ok zdj (by walk_at "l") (fun cdv A outer s H vs Q E hr h=>?_)
 ·obtain ⟨a,p,ws,ext,c,rfl,o,h0,h1,h2,k⟩:=h
  refine ⟨_,(zaf (zay (zaK (zaG (pe_c Gis_number (zaa (pv 1) (zaa (zak zbR (zjj 1 ⟨rfl,rfl,rfl,rfl,rfl⟩ (hrm hr) rfl T.len (pv 0)) zad) zae))))) (zaf zaJ) zan)),?rd⟩
  have o':=o
  obtain ⟨⟨dx,hd,e⟩,l,nn⟩:=o
  refine ⟨_,rfl,_,rfl,a,C,dx,_,_,_,rfl,e,M,a,p,ws,ext,rfl,o',_,rfl,by omega,by omega,_,_,rfl,rfl,?_⟩
  exact ⟨c,_,rfl,_,rfl,zjF ⟨h0,by omega⟩ k⟩
abbrev za8:Stmt:=zav (top 26) 6
theorem zc1:FnScope ["self","cell","word"] ["self","cell","word"] (zai za8):=sck rfl rfl rfl (by decide +kernel)
theorem zaH {f C:Addr}{fd:FuncData}(F:Fun K "check_write" "Chip.check_write" za8 f fd){L:List V→Nat}(T:Blt mg)(Gcheck_word:Cal P w K mg base 3 "check_word" ["word"] spChkWord)(M:Mth P w K mg base 3 C "check_cell" [] (fun vs _=>vs) (spChkC C L)):FnOk P w K mg base CX0 4 f fd ["self","cell","word"] (spChkW C L):=by
 refine F.ok zc1 (by walk_at "l") (fun cdv A outer s H vs Q E hr h=>?_)
 ·obtain ⟨a,p,ws,ext,c,v,rfl,o,h0,h1,h2,h3,h4,k⟩:=h
  refine ⟨_,(zab (zau (zaL 3 ⟨rfl,rfl,rfl,rfl,rfl⟩ (hrm hr) (pv 0) (zaa (pv 1) zae)))
   (zaf (zau (pe_c Gcheck_word (zaa (pv 2) zae))))),?rd⟩
  have o':=o
  obtain ⟨⟨dx,hd,e⟩,l,nn⟩:=o
  refine ⟨_,rfl,a,C,dx,_,_,_,rfl,e,M,by rcases nn with rfl | ⟨r,rfl⟩ <;> rfl,_,rfl,a,p,ws,ext,c,rfl,o',h0,h1,h2,?_⟩
  exact ⟨_,rfl,v,rfl,h3,h4,k⟩
abbrev zdu:Stmt:=zav (top 26) 7
theorem zgX:FnScope ["self","cell"] ["self","cell"] (zai zdu):=sck rfl rfl rfl (by decide +kernel)
theorem zb4 {f C:Addr}{fd:FuncData}(F:Fun K "look" "Chip.look" zdu f fd)(T:Blt mg)(c_:ClsOk K C)(M:Mth P w K mg base 3 C "check_cell" [] (fun vs _=>vs) (spChkC C List.length)):FnOk P w K mg base CX0 4 f fd ["self","cell"] (spLook C):=by
 refine F.ok zgX (by walk_at "l") (fun cdv A outer s H vs Q E hr h=>?_)
 ·obtain ⟨a,p,ws,ext,c,x,rfl,o,h0,h1,k⟩:=h
  refine ⟨_,(zab (zau (zaL 3 ⟨rfl,rfl,rfl,rfl,rfl⟩ (hrm hr) (pv 0) (zaa (pv 1) zae)))
   (zaf (zam (pe_x zal (zaz (pv 0) rfl) (pv 1))))),?rd⟩
  have o':=o
  obtain ⟨⟨dx,hd,e⟩,l,nn⟩:=o
  have hc:c<ws.length:=(Xag.mp h1).1
  refine ⟨_,rfl,a,C,dx,_,_,_,rfl,e,M,by rcases nn with rfl | ⟨r,rfl⟩ <;> rfl,_,rfl,a,p,ws,ext,_,rfl,o',by omega,by omega,h0,?_⟩
  exact ⟨_,rfl,a,C,dx,_,_,rfl,e,c_.cl,c_.held,rfl,_,rfl,p,_,_,_,rfl,rfl,SqL.of l,zaP h1,k⟩
abbrev zcM:Stmt:=zav (top 26) 4
theorem zfY:FnScope ["self"] ["self"] (zai zcM):=sck rfl rfl rfl (by decide +kernel)
theorem zba {f C:Addr}{fd:FuncData}(F:Fun K "state" "Chip.state" zcM f fd)(T:Blt mg)(c:ClsOk K C):FnOk P w K mg base CX0 1 f fd ["self"] (spState C):=by
 refine F.ok zfY (by walk_at "l") (fun cdv A outer s H vs Q E hr h=>?_)
 ·obtain ⟨a,p,ws,ext,rfl,o,k⟩:=h
  refine ⟨_,(zaf (zam (za4 zb6 (by rfl) T.tuple zb7 (zaa (zaz (pv 0) rfl) zae)))),?rd⟩
  obtain ⟨⟨dx,hd,e⟩,l,nn⟩:=o
  exact ⟨_,rfl,a,C,dx,_,_,rfl,e,c.cl,c.held,rfl,p,ws,rfl,.inl ⟨SqL.of l,k⟩⟩
abbrev zdt:Stmt:=zav (top 26) 8
theorem zgW:FnScope ["self","cell"] ["self","cell"] (zai zdt):=sck rfl rfl rfl (by decide +kernel)
theorem zcS {f C:Addr}{fd:FuncData}(F:Fun K "read" "Chip.read" zdt f fd)(T:Blt mg)(M:Mth P w K mg base 4 C "look" [] (fun vs _=>vs) (spLook C)):FnOk P w K mg base CX0 5 f fd ["self","cell"] (spLook C):=by
 refine F.ok zgW (by walk_at "l") (fun cdv A outer s H vs Q E hr h=>?_)
 ·obtain ⟨a,p,ws,ext,c,x,rfl,o,h0,h1,k⟩:=h
  refine ⟨_,(zaf (zam (zaL 4 ⟨rfl,rfl,rfl,rfl,rfl⟩ (hrm hr) (pv 0) (zaa (pv 1) zae)))),?rd⟩
  have o':=o
  obtain ⟨⟨dx,hd,e⟩,l,nn⟩:=o
  exact ⟨_,rfl,a,C,dx,_,_,_,rfl,e,M,by rcases nn with rfl | ⟨r,rfl⟩ <;> rfl,_,rfl,a,p,ws,ext,c,x,rfl,o',h0,h1,k⟩
abbrev zcL:Stmt:=zav (top 26) 9
theorem zfX:FnScope ["self","cell","word"] ["self","cell","word"] (zai zcL):=sck rfl rfl rfl (by decide +kernel)
theorem zcm {f C:Addr}{fd:FuncData}(F:Fun K "write" "Chip.write" zcL f fd)(T:Blt mg)(c_:ClsOk K C)(M:Mth P w K mg base 4 C "check_write" [] (fun vs _=>vs) (spChkW C List.length)):FnOk P w K mg base CX0 5 f fd ["self","cell","word"] (spWrite C):=by
 refine F.ok zfX (by walk_at "l") (fun cdv A outer s H vs Q E hr h=>?_)
 ·obtain ⟨a,p,ws,ext,c,v,rfl,o,h0,h1,h2,h3,k⟩:=h
  refine ⟨_,(zab (zau (zaL 4 ⟨rfl,rfl,rfl,rfl,rfl⟩ (hrm hr) (pv 0) (zaa (pv 1) (zaa (pv 2) zae))))
   (zaf (zbP (pv 2) (zjh (zaz (pv 0) rfl) (pv 1) zfl)))),?rd⟩
  have o':=o
  obtain ⟨⟨dx,hd,e⟩,l,nn⟩:=o
  refine ⟨_,rfl,a,C,dx,_,_,_,rfl,e,M,by rcases nn with rfl | ⟨r,rfl⟩ <;> rfl,_,rfl,_,rfl,a,p,ws,ext,_,v,rfl,o',by omega,by omega,h0,h2,h3,?_⟩
  refine ⟨_,rfl,_,rfl,a,C,dx,_,_,rfl,e,c_.cl,c_.held,rfl,_,rfl,p,_,_,c,rfl,rfl,l,?_,k⟩
  exact zjE h1
abbrev zcg:Stmt:=zav (top 28) 1
theorem zfo:FnScope ["self","cell","word"] ["self","cell","word"] (zai zcg):=sck rfl rfl rfl (by decide +kernel)
theorem zfA {f C:Addr}{fd:FuncData}(F:Fun K "write" "Fixed.write" zcg f fd)(T:Blt mg)(M:Mth P w K mg base 4 C "check_write" [] (fun vs _=>vs) (spChkW C List.length)):FnOk P w K mg base CX0 5 f fd ["self","cell","word"] (spFixW C):=by
 refine F.ok zfo (by walk_at "l") (fun cdv A outer s H vs Q E hr h=>?_)
 ·obtain ⟨a,p,ws,ext,c,v,rfl,o,h0,h1,h2,h3,k⟩:=h
  refine ⟨_,(zaf (zau (zaL 4 ⟨rfl,rfl,rfl,rfl,rfl⟩ (hrm hr) (pv 0) (zaa (pv 1) (zaa (pv 2) zae))))),?rd⟩
  have o':=o
  obtain ⟨⟨dx,hd,e⟩,l,nn⟩:=o
  exact ⟨_,rfl,a,C,dx,_,_,_,rfl,e,M,by rcases nn with rfl | ⟨r,rfl⟩ <;> rfl,_,rfl,_,rfl,a,p,ws,ext,_,v,rfl,o',by omega,by omega,h0,h2,h3,k⟩
abbrev zcK:Stmt:=zav (top 30) 1
theorem scMeter_read:FnScope ["self","cell","word"] ["self","cell"] (zai zcK):=sck rfl rfl rfl (by decide +kernel)
theorem zge {f C:Addr}{fd:FuncData}(F:Fun K "read" "Meter.read" zcK f fd)(T:Blt mg)(N:Nums mg)(c:ClsOk K C)(M:Mth P w K mg base 4 C "look" [] (fun vs _=>vs) (spLook C)):FnOk P w K mg base CX0 5 f fd ["self","cell"] (spMetR C):=by
 refine F.ok scMeter_read (by walk_at "l") (fun cdv A outer s H vs Q E hr h=>?_)
 ·obtain ⟨a,p,ext,v,rfl,o,k⟩:=h
  refine ⟨_,(zab (ps_L 2 scMeter_read.nd (zaL 4 ⟨rfl,rfl,rfl,rfl,rfl⟩ (hrm hr) (pv 0) (zaa (pv 1) zae)))
   (zab (zbP (zak zaB (zak zaR (pv 2) zad) (zak zaR (zbg rfl N.LAST_WORD) zad)) (zjh (zaz (pv 0) rfl) (pv 1) zfl))
   (zaf (zam (pv 2))))),?rd⟩
  have o':=o
  obtain ⟨⟨dx,hd,e⟩,l,nn⟩:=o
  refine ⟨_,rfl,a,C,dx,_,_,_,rfl,e,M,by rcases nn with rfl | ⟨r,rfl⟩ <;> rfl,_,rfl,a,p,_,ext,0,_,rfl,o',by show 1≤5000;decide,rfl,?_⟩
  refine ⟨_,rfl,_,_,rfl,rfl,_,_,rfl,rfl,_,_,rfl,rfl,(show (0:Int)<255+1 by decide),?_⟩
  refine ⟨_,rfl,a,C,dx,_,_,rfl,e,c.cl,c.held,rfl,_,rfl,p,_,_,0,rfl,rfl,l,rfl,?_⟩
  exact ⟨_,rfl,k⟩
abbrev zbV:Stmt:=zav (top 31) 1
theorem zeO:FnScope ["self"] ["self"] (zai zbV):=sck rfl rfl rfl (by decide +kernel)
theorem zeS {f C:Addr}{fd:FuncData}(F:Fun K "__len__" "Pipe.__len__" zbV f fd)(T:Blt mg)(c:ClsOk K C):FnOk P w K mg base CX0 1 f fd ["self"] (spLen C two):=by
 refine F.ok zeO (by walk_at "l") (fun cdv A outer s H vs Q E hr h=>?_)
 ·obtain ⟨a,p,ws,ext,rfl,o,k⟩:=h
  refine ⟨_,(zaf (zam zad)),?rd⟩
  exact k
abbrev zds:Stmt:=zav (top 31) 2
theorem zgV:FnScope ["self","cell"] ["self","cell"] (zai zds):=sck rfl rfl rfl (by decide +kernel)
theorem zhe {f C:Addr}{fd:FuncData}(F:Fun K "look" "Pipe.look" zds f fd)(T:Blt mg)(c:ClsOk K C)(M:Mth P w K mg base 3 C "check_cell" [] (fun vs _=>vs) (spChkC C two)):FnOk P w K mg base CX0 4 f fd ["self","cell"] (spPLook C):=by
 refine F.ok zgV (by walk_at "l") (fun cdv A outer s H vs Q E hr h=>?_)
 ·obtain ⟨a,p,r,ws,cc,rfl,o,k⟩:=h
  refine ⟨_,(zab (zau (zaL 3 ⟨rfl,rfl,rfl,rfl,rfl⟩ (hrm hr) (pv 0) (zaa (pv 1) zae)))
   (zab (zay (zas zby (pv 1) zad (zat _)) (zaf (zam (zap zar (by rfl) T.len PySem.boot_len (zaa (zaz (pv 0) rfl) zae)))) zan)
   (zaf (zam (zhD (zfr (zaz (pv 0) rfl) (fun _=>rfl)) (pe_x zal (zaz (pv 0) rfl) zad) zad))))),?rd⟩
  have o':=o.ob
  obtain ⟨⟨dx,e⟩,l⟩:=o
  have hc:0≤cc∧cc<2:=by rcases k with ⟨rfl,_⟩ | ⟨rfl,_⟩ <;> decide
  refine ⟨_,rfl,a,C,dx,_,_,_,rfl,e,M,rfl,_,rfl,a,p,_,_,cc,rfl,o',hc.1,by show cc<((2:Nat):Int);omega,by show 2≤5000;decide,?_⟩
  rcases k with ⟨rfl,k⟩ | ⟨rfl,k⟩
  ·refine ⟨_,rfl,rfl,_,rfl,iteF ?_⟩
   refine ⟨_,rfl,a,C,dx,_,_,rfl,e,c.cl,c.held,rfl,?_⟩
   refine ⟨_,.inl ⟨_,SqL.of l,rfl⟩,?_⟩
   cases ws with
   | nil=>exact iteF k
   | cons w0 ws=>exact iteT ⟨_,rfl,a,C,dx,_,_,rfl,e,c.cl,c.held,rfl,p,_,_,_,rfl,rfl,SqL.of l,(zaP (j:=0) rfl:atI (vN (w0 :: ws)) ((0:Nat):Int)=_),k⟩
  ·refine ⟨_,rfl,rfl,_,rfl,iteT ?_⟩
   refine ⟨_,rfl,a,C,dx,_,_,rfl,e,c.cl,c.held,rfl,p,_,rfl,.inl (SqL.of l),?_⟩
   rw [zaq];exact k
abbrev zdr:Stmt:=zav (top 31) 3
theorem scPipe_read:FnScope ["self","cell","word"] ["self","cell"] (zai zdr):=sck rfl rfl rfl (by decide +kernel)
theorem zhd {f C:Addr}{fd:FuncData}(F:Fun K "read" "Pipe.read" zdr f fd)(T:Blt mg)(c:ClsOk K C)(M:Mth P w K mg base 4 C "look" [] (fun vs _=>vs) (spPLook C)):FnOk P w K mg base CX0 5 f fd ["self","cell"] (spPRead C):=by
 refine F.ok scPipe_read (by walk_at "l") (fun cdv A outer s H vs Q E hr h=>?_)
 ·obtain ⟨a,p,r,ws,cc,rfl,o,k⟩:=h
  refine ⟨_,(zab (ps_L 2 scPipe_read.nd (zaL 4 ⟨rfl,rfl,rfl,rfl,rfl⟩ (hrm hr) (pv 0) (zaa (pv 1) zae)))
   (zab (zay (zas zby (pv 1) zad (zat _)) (zaf (zma (zaz (pv 0) rfl))) zan)
   (zaf (zam (pv 2))))),?rd⟩
  have o':=o
  obtain ⟨⟨dx,e⟩,l⟩:=o
  rcases k with ⟨rfl,k⟩ | ⟨rfl,k⟩
  ·refine ⟨_,rfl,a,C,dx,_,_,_,rfl,e,M,rfl,_,rfl,a,p,r,ws,0,rfl,o',.inl ⟨rfl,?_⟩⟩
   refine ⟨_,rfl,rfl,_,rfl,iteT ?_⟩
   refine ⟨_,rfl,a,C,dx,_,_,rfl,e,c.cl,c.held,rfl,p,_,rfl,l,?_⟩
   refine ⟨_,rfl,?_⟩
   rw [← zlS] at k
   exact k
  ·refine ⟨_,rfl,a,C,dx,_,_,_,rfl,e,M,rfl,_,rfl,a,p,r,ws,1,rfl,o',.inr ⟨rfl,?_⟩⟩
   exact ⟨_,rfl,rfl,_,rfl,iteF ⟨_,rfl,k⟩⟩
abbrev zcJ:Stmt:=zav (top 31) 4
theorem zfW:FnScope ["self","cell","word"] ["self","cell","word"] (zai zcJ):=sck rfl rfl rfl (by decide +kernel)
theorem zgd {f C:Addr}{fd:FuncData}(F:Fun K "write" "Pipe.write" zcJ f fd)(T:Blt mg)(c:ClsOk K C)(M:Mth P w K mg base 4 C "check_write" [] (fun vs _=>vs) (spChkW C two)):FnOk P w K mg base CX0 5 f fd ["self","cell","word"] (spPWrite C):=by
 refine F.ok zfW (by walk_at "l") (fun cdv A outer s H vs Q E hr h=>?_)
 ·obtain ⟨a,p,r,ws,cc,v,rfl,o,hv,hz,k⟩:=h
  refine ⟨_,(zab (zau (zaL 4 ⟨rfl,rfl,rfl,rfl,rfl⟩ (hrm hr) (pv 0) (zaa (pv 1) (zaa (pv 2) zae))))
   (zaf (zay (zas zby (pv 1) zad (zat _)) (zaf (zau (zf2 PySem.F.plainAttrs_list PySem.F.slot_list_clear PySem.F.type_list_clear zfF (zaz (pv 0) rfl)))) (zaf (zay (zas zh8 (zap zar (by rfl) T.len PySem.boot_len (zaa (zaz (pv 0) rfl) zae)) (zaz (pv 0) rfl) (zat _)) (zaf (zau (zdy PySem.F.plainAttrs_list PySem.F.slot_list_append PySem.F.type_list_append zaN (zaz (pv 0) rfl) (zaa (pv 2) zae)))) zan))))),?rd⟩
  have o':=o.ob
  obtain ⟨⟨dx,e⟩,l⟩:=o
  have hc:0≤cc∧cc<2:=by rcases k with ⟨rfl,_⟩ | ⟨rfl,_⟩ <;> decide
  refine ⟨_,rfl,a,C,dx,_,_,_,rfl,e,M,rfl,_,rfl,_,rfl,a,p,_,_,cc,(v:Int),rfl,o',hc.1,by show cc<((2:Nat):Int);omega,by show 2≤5000;decide,by omega,by omega,?_⟩
  rcases k with ⟨rfl,k⟩ | ⟨rfl,k⟩
  ·refine ⟨_,rfl,rfl,_,rfl,iteF ?_⟩
   refine ⟨_,rfl,a,C,dx,_,_,rfl,e,c.cl,c.held,rfl,p,_,rfl,.inl (SqL.of l),?_⟩
   refine ⟨_,rfl,a,C,dx,_,_,rfl,e,c.cl,c.room,rfl,_,_,rfl,rfl,_,rfl,?_⟩
   rw [zaq]
   rcases k with ⟨h1,k⟩ | ⟨h1,k⟩
   ·rw [Xah (show (ws.length:Int)<(r:Int) by omega)]
    refine iteT ?_
    refine ⟨_,rfl,a,C,dx,_,_,rfl,e,c.cl,c.held,rfl,.inl ⟨rfl,_,SqL.of l⟩,_,rfl,p,_,_,rfl,rfl,l,?_,?_⟩
    ·rw [zaq];exact XaM hz (by decide)
    ·rw [zcb] at k;exact k
   ·rw [Xai (show ¬ (ws.length:Int)<(r:Int) by omega)]
    exact iteF k
  ·refine ⟨_,rfl,rfl,_,rfl,iteT ?_⟩
   exact ⟨_,rfl,a,C,dx,_,_,rfl,e,c.cl,c.held,rfl,.inl ⟨rfl,_,SqL.of l⟩,p,_,rfl,rfl,l,k⟩
abbrev zbn:Stmt:=zav (top 27) 0
theorem zdN:FnScope ["self","cells","word"] ["self","cells","word"] (zai zbn):=sck rfl rfl rfl (by decide +kernel)
theorem zdU {f C:Addr}{fd:FuncData}{dV:Value}(F:FunD K "__init__" "Store.__init__" zbn dV f fd)(T:Blt mg)(N:Nums mg)(c:ClsOk K C)(Gis_number:Cal P w K mg base 1 "is_number" ["thing","last"] spIsNum)(Gis_word:Cal P w K mg base 2 "is_word" ["thing"] spIsWord)(GCChip___init__:Clm P w K mg base 1 "Chip" "__init__" (spInit K)):FnOk P w K mg base CX0 3 f fd ["self","cells","word"] (spMkSH C):=by
 refine F.ok zdN (by walk_at "l") (fun cdv A outer s H vs Q E hr h=>?_)
 ·obtain ⟨a,dx,n,v,rfl,h0,h1,h2,h3,ha,k⟩:=h
  refine ⟨_,(zab (zay (PW.pt (zbN (zaK (zaG (pe_c Gis_number (zaa (pv 1) (zaa (zbg rfl N.MOST_CELLS) zae))))) (zbN (zas zh8 (pv 1) zad (zat _)) (zbA (zaK (zaG (pe_c Gis_word (zaa (pv 2) zae)))))))) (zaf zaJ) zan)
   (zaf (zau (zf1 GCChip___init__ (hrm hr) rfl (zaa (pv 0) (zaa zaQ (zaa (zak zlr (zax (zaa (pv 2) zae)) (pv 1)) zae))))))),?rd⟩
  refine ⟨_,rfl,(n:Int),4096,rfl,_,rfl,?_⟩
  rw [Xah (show (0:Int)≤(n:Int)∧(n:Int)≤4096 by omega)]
  refine iteF ⟨_,rfl,_,_,rfl,rfl,_,rfl,?_⟩
  rw [Xai (show ¬ (n:Int)<1 by omega)]
  refine iteF ⟨_,rfl,v,rfl,_,rfl,zjF ⟨h2,h3⟩ ?_⟩
  refine ⟨_,rfl,_,rfl,by show 1≤sizeLine;decide,fun l hl=>?_⟩
  have en:((n:Int)).toNat=n:=by omega
  refine ⟨_,rfl,l,_,_,rfl,rfl,zac,by omega,by omega,?_,fun p hp=>?_⟩
  ·rw [en];show 1 * n≤sizeLine;exact Xar (by omega) (show 4096≤sizeLine by decide)
  rw [en,show (List.replicate n [V.int v]).flatten=List.replicate n (V.int v) from zi4 n _]
  have nl:l≠a:=fun z=>by rw [z,ha] at hl;cases hl
  have hpl:p≠l:=fun z=>by rw [z,zac] at hp;cases hp
  have hp0:H p=none:=by rw [zag hpl] at hp;exact hp
  have ne:p≠a:=fun z=>by rw [z,ha] at hp0;cases hp0
  refine ⟨a,C,dx,p,_,rfl,by rw [zag (Ne.symm ne),zag (Ne.symm nl)];exact ha,c,fun H' e1 e2=>?_⟩
  refine k p H' hp0 ⟨dx,e1⟩ (by rw [e2 p ne];exact zac) fun b o hb e=>?_
  rw [e2 b hb,zag (zaj e hp0),zag (zaj e hl)];exact e
abbrev zbq:Stmt:=zav (top 28) 0
theorem scFixed___init__:FnScope ["self","words","held"] ["self","words"] (zai zbq):=sck rfl rfl rfl (by decide +kernel)
theorem zdX {f C:Addr}{fd:FuncData}(F:Fun K "__init__" "Fixed.__init__" zbq f fd)(T:Blt mg)(N:Nums mg)(c:ClsOk K C)(Gis_word:Cal P w K mg base 2 "is_word" ["thing"] spIsWord)(GCChip___init__:Clm P w K mg base 1 "Chip" "__init__" (spInit K)):FnOk P w K mg base CX0 3 f fd ["self","words"] (spMkFH C):=by
 refine F.ok scFixed___init__ (by walk_at "l") (fun cdv A outer s H vs Q E hr h=>?_)
 ·obtain ⟨a,dx,l,ws,rfl,hl,h1,h2,h3,ha,k⟩:=h
  refine' ⟨_,(zab (ps_L 2 scFixed___init__.nd (za4 zbb (by rfl) T.list zdF (zaa (pv 1) zae)))
   (zab (zay (PW.pt (zbN (zaK (zkD zh9 zh9 zad (zap zar (by rfl) T.len PySem.boot_len (zaa (pv 2) zae)) (zbg rfl N.MOST_CELLS))) (zbA (zaK (zaG (zap (zeM rfl) (by rfl) T.all zkb (zaa ?c1 zae))))))) (zaf zaJ) zan)
   (zaf (zau (zf1 GCChip___init__ (hrm hr) rfl (zaa (pv 0) (zaa zaQ (zaa (pv 2) zae)))))))),?rd⟩
  (case c1=>exact (zdx (Nc:=["word"]) [none] rfl (zaX (by rfl)) (zcP (pv 2)) (fun _ _ _ _ _=>(pg_L 0 (show (["word"]:List Str).Nodup by decide +kernel))) (fun _ _ _ _ _=>ze0) (fun _ _ _ _ _=>(pe_c Gis_word (zaa (pv 0) zae)))))
  refine ⟨_,rfl,l,_,rfl,.inl (SqL.of hl),fun p hp=>?_⟩
  have nl:p≠a:=fun z=>by rw [z,ha] at hp;cases hp
  refine ⟨_,rfl,p,_,rfl,.inl (SqL.of zac),_,_,rfl,rfl,_,rfl,?_⟩
  rw [zaq,Xah (show (1:Int)≤(ws.length:Int) by omega)]
  refine iteT ⟨_,_,rfl,rfl,_,rfl,?_⟩
  rw [Xah (show (ws.length:Int)≤4096 by omega)]
  refine iteF ⟨_,rfl,p,rfl,⟨_,SqL.of zac⟩,?_⟩
  refine zeK (K:=K) (a:=p) (xs:=vN ws) (fun j rs σ H1=>∃ v1,σ=[v1]∧rs=List.replicate j (V.bl true)∧H1=upd H p (.lst (vN ws))) (by rw [zaq];exact Xar h2 (by decide)) ⟨none,rfl,rfl,rfl⟩ ?_ ?_ ?_
  ·rintro j rs σ H1 hj ⟨v1,rfl,rfl,rfl⟩
   exact ⟨SqL.of zac,by rw [Xbj];exact Xae _⟩
  ·rintro j x rs σ H1 ex ⟨v1,rfl,rfl,rfl⟩
   obtain ⟨b,hb,rfl⟩:=ziN ex
   have:=h3 b (Xay hb)
   refine ⟨_,rfl,(b:Int),rfl,?_⟩
   rw [Xah (show (0:Int)≤(b:Int)∧(b:Int)≤255 by omega)]
   exact ⟨_,rfl,List.replicate_succ'.symm,rfl⟩
  ·rintro rs σ H1 ⟨v1,rfl,rfl,rfl⟩ D hD
   refine ⟨D,List.replicate (vN ws).length true,rfl,SqL.of (by rw [XbR];exact zac),_,rfl,?_⟩
   rw [show (List.replicate (vN ws).length true).all id=true by simp]
   refine iteF ⟨_,rfl,_,rfl,a,C,dx,p,_,rfl,?_,c,fun H' e1 e2=>?_⟩
   ·exact zah hD _ _ (zah hp _ _ ha)
   ·refine k p H' hp ⟨dx,e1⟩ (by rw [e2 p nl];exact zah hD _ _ zac) fun b o hb e=>?_
    rw [e2 b hb];exact zah hD _ _ (zah hp _ _ e)
abbrev zbp:Stmt:=zav (top 29) 0
theorem zdP:FnScope ["self","word"] ["self","word"] (zai zbp):=sck rfl rfl rfl (by decide +kernel)
theorem zdW {f C:Addr}{fd:FuncData}{dV:Value}(F:FunD K "__init__" "Latch.__init__" zbp dV f fd)(T:Blt mg)(c:ClsOk K C)(Gis_word:Cal P w K mg base 2 "is_word" ["thing"] spIsWord)(GCChip___init__:Clm P w K mg base 1 "Chip" "__init__" (spInit K)):FnOk P w K mg base CX0 3 f fd ["self","word"] (spMk1H C "latch"):=by
 refine F.ok zdP (by walk_at "l") (fun cdv A outer s H vs Q E hr h=>?_)
 ·obtain ⟨a,dx,v,rfl,h0,h1,ha,k⟩:=h
  refine ⟨_,(zab (zay (zaK (zaG (pe_c Gis_word (zaa (pv 1) zae)))) (zaf zaJ) zan)
   (zaf (zau (zf1 GCChip___init__ (hrm hr) rfl (zaa (pv 0) (zaa zaQ (zaa (zax (zaa (pv 1) zae)) zae))))))),?rd⟩
  refine ⟨_,rfl,v,rfl,_,rfl,zjF ⟨h0,h1⟩ ?_⟩
  refine ⟨_,rfl,_,rfl,by show 1≤sizeLine;decide,fun p hp=>?_⟩
  have ne:p≠a:=fun z=>by rw [z,ha] at hp;cases hp
  refine ⟨a,C,dx,p,_,rfl,by rw [zag (Ne.symm ne)];exact ha,c,fun H' e1 e2=>?_⟩
  refine k p H' hp ⟨dx,e1⟩ (by rw [e2 p ne];exact zac) fun b o hb e=>?_
  rw [e2 b hb,zag (zaj e hp)];exact e
abbrev zbo:Stmt:=zav (top 30) 0
theorem zdO:FnScope ["self","word"] ["self","word"] (zai zbo):=sck rfl rfl rfl (by decide +kernel)
theorem zdV {f C:Addr}{fd:FuncData}{dV:Value}(F:FunD K "__init__" "Meter.__init__" zbo dV f fd)(T:Blt mg)(c:ClsOk K C)(Gis_word:Cal P w K mg base 2 "is_word" ["thing"] spIsWord)(GCChip___init__:Clm P w K mg base 1 "Chip" "__init__" (spInit K)):FnOk P w K mg base CX0 3 f fd ["self","word"] (spMk1H C "meter"):=by
 refine F.ok zdO (by walk_at "l") (fun cdv A outer s H vs Q E hr h=>?_)
 ·obtain ⟨a,dx,v,rfl,h0,h1,ha,k⟩:=h
  refine ⟨_,(zab (zay (zaK (zaG (pe_c Gis_word (zaa (pv 1) zae)))) (zaf zaJ) zan)
   (zaf (zau (zf1 GCChip___init__ (hrm hr) rfl (zaa (pv 0) (zaa zaQ (zaa (zax (zaa (pv 1) zae)) zae))))))),?rd⟩
  refine ⟨_,rfl,v,rfl,_,rfl,zjF ⟨h0,h1⟩ ?_⟩
  refine ⟨_,rfl,_,rfl,by show 1≤sizeLine;decide,fun p hp=>?_⟩
  have ne:p≠a:=fun z=>by rw [z,ha] at hp;cases hp
  refine ⟨a,C,dx,p,_,rfl,by rw [zag (Ne.symm ne)];exact ha,c,fun H' e1 e2=>?_⟩
  refine k p H' hp ⟨dx,e1⟩ (by rw [e2 p ne];exact zac) fun b o hb e=>?_
  rw [e2 b hb,zag (zaj e hp)];exact e
abbrev zbG:Stmt:=zav (top 31) 0
theorem zeh:FnScope ["self","room"] ["self","room"] (zai zbG):=sck rfl rfl rfl (by decide +kernel)
theorem zev {f C:Addr}{fd:FuncData}{dV:Value}(F:FunD K "__init__" "Pipe.__init__" zbG dV f fd)(T:Blt mg)(N:Nums mg)(c:ClsOk K C)(Gis_number:Cal P w K mg base 1 "is_number" ["thing","last"] spIsNum)(Gtwo_figures:Cal P w K mg base 2 "two_figures" ["word"] sp2fig)(GCChip___init__:Clm P w K mg base 1 "Chip" "__init__" (spInit K)):FnOk P w K mg base CX0 3 f fd ["self","room"] (spMkP C):=by
 refine F.ok zeh (by walk_at "l") (fun cdv A outer s H vs Q E hr h=>?_)
 ·obtain ⟨a,dx,r,rfl,h0,h1,ha,k⟩:=h
  refine ⟨_,(zab (zay (PW.pt (zbN (zaK (zaG (pe_c Gis_number (zaa (pv 1) (zaa (zbg rfl N.MOST_ROOM) zae))))) (zbA (zas zh8 (pv 1) zad (zat _))))) (zaf zaJ) zan)
   (zab (zau (zf1 GCChip___init__ (hrm hr) rfl (zaa (pv 0) (zaa (pe_fs2 zaQ (pe_c Gtwo_figures (zaa (pv 1) zae))) (zaa (zax zae) zae)))))
   (zaf (zbe (pv 0) (pv 1) rfl)))),?rd⟩
  refine ⟨_,rfl,(r:Int),255,rfl,_,rfl,?_⟩
  rw [Xah (show (0:Int)≤(r:Int)∧(r:Int)≤255 by omega)]
  refine iteF ⟨_,rfl,_,_,rfl,rfl,_,rfl,?_⟩
  rw [Xai (show ¬ (r:Int)<1 by omega)]
  refine iteF ⟨_,rfl,_,rfl,by show 5≤1000;decide,_,rfl,r,rfl,h1,_,rfl,by show 1+1≤1000;decide,?_⟩
  refine ⟨by show 0≤sizeLine;decide,fun p hp=>?_⟩
  have ne:p≠a:=fun z=>by rw [z,ha] at hp;cases hp
  refine ⟨a,C,dx,p,_,rfl,by rw [zag (Ne.symm ne)];exact ha,c,fun H' e1 e2=>?_⟩
  refine ⟨_,rfl,_,rfl,a,C,dx,_,rfl,e1,c.cl,c.room,by show 2<1000;decide,?_⟩
  refine k p _ hp ⟨⟨dx,zac⟩,by rw [zag ne,e2 p ne];exact zac⟩ fun b o hb e=>?_
  rw [zag hb,e2 b hb,zag (zaj e hp)];exact e
abbrev zd7:Stmt:=top 54
theorem scrow_fits:FnScope ["row","chips","inner","chip","latch"] ["row","chips"] (zai zd7):=sck rfl rfl rfl (by decide +kernel)
def lenK (kd:Nat):List V→Nat:=if kd=4 then two else List.length
theorem Chp.ob {cs:Nat→Addr}{H:Hp}{x p:Addr}{kd n:Nat}{ws:List Nat}(o:Chp cs H x p kd n ws):Ob (cs kd) H x p (vN ws) (kext kd n):=by
 obtain ⟨dx,e⟩:=o.ex
 refine ⟨⟨dx,_,e⟩,o.ls,?_⟩
 unfold kext
 split
 ·exact .inr ⟨_,rfl⟩
 ·exact .inl rfl
inductive spR26 (cs:Nat→Addr)(kd:Nat)(vs:List V)(H:Hp)(Q:VK)(u3_:XK):Prop
 | mk (x:_) (p:_) (n c:Nat) (ws:List Nat) (z0_:vs=[.ref x,.int (c:Int)]) (z1_:Chp cs H x p kd n ws) (z2_:Kd kd n ws) (z3_:c<ksize kd ws) (z4_:∀ H',H' p=some (.lst (vN (krd kd ws c)))→(∀ b,b≠p→H' b=H b)→Q (.int (klk kd ws c:Int)) H')
inductive spL26 (cs:Nat→Addr)(kd:Nat)(vs:List V)(H:Hp)(Q:VK)(u3_:XK):Prop
 | mk (x:_) (p:_) (n c:Nat) (ws:List Nat) (z0_:vs=[.ref x,.int (c:Int)]) (z1_:Chp cs H x p kd n ws) (z2_:Kd kd n ws) (z3_:c<ksize kd ws) (z4_:Q (.int (klk kd ws c:Int)) H)
theorem zcp {cs:Nat→Addr}{kd:Nat}(hk:kd≠4):∀ vs H Q E,spL26 cs kd vs H Q E→spLook (cs kd) vs H Q E:=by
 rintro vs H Q E ⟨x,p,n,c,ws,rfl,o,kk,hc,q⟩
 obtain ⟨dx,e⟩:=o.ex
 unfold ksize at hc
 unfold klk at q
 rw [if_neg hk] at hc q
 unfold kext at e
 rw [if_neg hk] at e
 have hg:ws[c]? = some (ws.getD c 0):=by rw [Xby,Xav hc];rfl
 exact ⟨x,p,vN ws,[],c,_,rfl,⟨⟨dx,_,e⟩,o.ls,.inl rfl⟩,by rw [zaq];have:=kk.ln;omega,vN_at' hg,q⟩
theorem zkW {cs:Nat→Addr}:∀ vs H Q E,spL26 cs 4 vs H Q E→spPLook (cs 4) vs H Q E:=by
 rintro vs H Q E ⟨x,p,n,c,ws,rfl,o,kk,hc,q⟩
 refine ⟨x,p,n,ws,(c:Int),rfl,⟨o.ex,o.ls⟩,?_⟩
 have hc:c<2:=hc
 rcases (show c=0∨c=1 by omega) with rfl | rfl
 ·exact .inl ⟨rfl,q⟩
 ·exact .inr ⟨rfl,q⟩
theorem zeq {cs:Nat→Addr}{kd:Nat}(hk:kd=0∨kd=1∨kd=2):∀ vs H Q E,spR26 cs kd vs H Q E→spLook (cs kd) vs H Q E:=by
 rintro vs H Q E ⟨x,p,n,c,ws,rfl,o,kk,hc,q⟩
 refine zcp (by omega) _ H Q E ⟨x,p,n,c,ws,rfl,o,kk,hc,q H ?_ fun b hb=>rfl⟩
 rw [o.ls]
 unfold krd
 rw [if_neg (by omega),if_neg (fun z=>by omega)]
theorem zi8 {cs:Nat→Addr}:∀ vs H Q E,spR26 cs 3 vs H Q E→spMetR (cs 3) vs H Q E:=by
 rintro vs H Q E ⟨x,p,n,c,ws,rfl,o,kk,hc,q⟩
 obtain ⟨dx,e⟩:=o.ex
 obtain ⟨v,rfl⟩:∃ v,ws=[v]:=by
  have:=kk.l3 rfl
  cases ws with
  | nil=>cases this
  | cons a b=>cases b with | nil=>exact ⟨a,rfl⟩ | cons _ _=>cases this
 obtain rfl:c=0:=by have:c<1:=hc;omega
 refine ⟨x,p,[],(v:Int),rfl,⟨⟨dx,_,e⟩,o.ls,.inl rfl⟩,q _ ?_ fun b hb=>zag hb⟩
 rw [show ((v:Int)+1) % 256=(((v+1) % 256:Nat):Int) by omega]
 exact zac
theorem zkA {cs:Nat→Addr}:∀ vs H Q E,spR26 cs 4 vs H Q E→spPRead (cs 4) vs H Q E:=by
 rintro vs H Q E ⟨x,p,n,c,ws,rfl,o,kk,hc,q⟩
 refine ⟨x,p,n,ws,(c:Int),rfl,⟨o.ex,o.ls⟩,?_⟩
 have hc:c<2:=hc
 rcases (show c=0∨c=1 by omega) with rfl | rfl
 ·exact .inl ⟨rfl,q _ zac fun b hb=>zag hb⟩
 ·exact .inr ⟨rfl,q _ o.ls fun b hb=>rfl⟩
structure Dt where
 m:Nat
 x:Nat→Addr
 p:Nat→Addr
 kd:Nat→Nat
 n:Nat→Nat
 sz:Nat→Nat
structure Chs (cs:Nat→Addr)(D:Dt)(Y:Hp)(us:Nat→List Nat):Prop where
 o:∀ i,i<D.m→Chp cs Y (D.x i) (D.p i) (D.kd i) (D.n i) (us i)
 k:∀ i,i<D.m→Kd (D.kd i) (D.n i) (us i)
 h1:∀ i,i<D.m→D.kd i=2∨D.kd i=3→(us i).length=1
 z:∀ i,i<D.m→ksize (D.kd i) (us i)=D.sz i
 inj:∀ i j,i<D.m→j<D.m→D.p i=D.p j→i=j
 m1:D.m≤200
theorem Chs.same {cs:Nat→Addr}{D:Dt}{Y Z:Hp}{us:Nat→List Nat}(S:Chs cs D Y us)(s:Same Y Z):Chs cs D Z us:=⟨fun i h=>(S.o i h).same s,S.k,S.h1,S.z,S.inj,S.m1⟩
theorem kz_wr {kd n:Nat}(us:List Nat)(c v:Nat):ksize kd (kwr kd n us c v)=ksize kd us:=by
 unfold ksize kwr
 split
 ·rfl
 ·split
  ·rfl
  ·rw [XbP]
set_option tactic.hygienic true in
theorem kz_rd {kd n:Nat}(us:List Nat)(c:Nat)(ku:Kd kd n us):ksize kd (krd kd us c)=ksize kd us:=by
 unfold ksize krd
 split
 ·rfl
 ·split
  ·rename_i e;exact (ku.l3 e).symm
  ·split
   ·rename_i e1 _ e2;exact absurd e2.1 e1
   ·rfl
theorem k1_of {kd:Nat}{us vs:List Nat}(h:kd=2∨kd=3→us.length=1)(z:ksize kd vs=ksize kd us):kd=2∨kd=3→vs.length=1:=fun e=>by
 have h':=h e
 unfold ksize at z
 rw [if_neg (by omega),if_neg (by omega)] at z
 omega
def wset (us:Nat→List Nat)(i:Nat)(vs:List Nat):Nat→List Nat:=fun j=>if j=i then vs else us j
theorem Chs.put {cs:Nat→Addr}{D:Dt}{i:Nat}{Y Z:Hp}{us:Nat→List Nat}{vs:List Nat}(S:Chs cs D Y us)(hi:i<D.m)(kv:Kd (D.kd i) (D.n i) vs)(hz:ksize (D.kd i) vs=ksize (D.kd i) (us i))(e:Z (D.p i)=some (.lst (vN vs)))(k:∀ b,b≠D.p i→Z b=Y b):Chs cs D Z (wset us i vs):=by
 refine ⟨fun j h=>?_,fun j h=>?_,fun j h=>?_,fun j h=>?_,S.inj,S.m1⟩
 ·obtain ⟨d,ed⟩:=(S.o j h).ex
  refine ⟨⟨d,?_⟩,?_⟩
  ·rw [k _ fun z=>by have:=(S.o i hi).ls;rw [← z,ed] at this;cases this];exact ed
  ·unfold wset
   by_cases ej:j=i
   ·subst ej;rw [if_pos rfl];exact e
   ·rw [if_neg ej,k _ fun z=>ej (S.inj j i h hi z)];exact (S.o j h).ls
 all_goals
  unfold wset
  by_cases ej:j=i
  ·subst ej
   rw [if_pos rfl]
   first | exact kv | exact k1_of (S.h1 j h) hz | exact hz.trans (S.z j h)
  ·rw [if_neg ej]
   first | exact S.k j h | exact S.h1 j h | exact S.z j h
def chL (D:Dt):List V:=(List.range D.m).map fun i=>.ref (D.x i)
theorem zcW (D:Dt):(chL D).length=D.m:=by unfold chL;rw [Xaf,List.length_range]
theorem zeL {D:Dt}{i:Nat}(h:i<D.m):(chL D)[i]? = some (.ref (D.x i)):=by unfold chL;rw [Xat,List.getElem?_range h];rfl
def Fit (D:Dt)(r:Rw):Prop:=r.c<D.m∧2 ^ ones r.i≤D.sz r.c∧∀ c a b,r.l=some (c,a,b)→c<D.m∧D.kd c=2
inductive spFits (cs:Nat→Addr)(vs:List V)(H:Hp)(Q:VK)(u3_:XK):Prop
 | mk (t L:Addr) (r:Rw) (D:Dt) (us:Nat→List Nat) (z0_:vs=[.ref t,.ref L]) (z1_:RwAt H t r) (z2_:r.i<2 ^ 16) (z3_:H L=some (.lst (chL D))) (z4_:Chs cs D H us) (z5_:Fit D r) (z6_:∀ H',Same H H'→Q (.bl true) H')
theorem lkn {p:Addr}{kd n:Nat}{z:Str}(nm:Str)(h1:nm ≠ "head" := by decide)(h2:nm ≠ "held" := by decide)(h3:nm ≠ "room" := by decide):(("head",V.str z) :: ("held",V.ref p) :: kext kd n:List (Str×V)).lookup nm=none:=by
 unfold kext
 have e1:(nm == "head")=false:=beq_eq_false_iff_ne.mpr h1
 have e2:(nm == "held")=false:=beq_eq_false_iff_ne.mpr h2
 have e3:(nm == "room")=false:=beq_eq_false_iff_ne.mpr h3
 split <;> simp [List.lookup_cons,e1,e2,e3]
theorem zic {f:Addr}{cs:Nat→Addr}{fd:FuncData}(F:Fun K "row_fits" "row_fits" zd7 f fd)(T:Blt mg)(Gones_of:Cal P w K mg base 2 "ones_of" ["mask"] spOnes)(GLatch:mg "Latch" = some (.ref (cs 2)))(kk:W.kitOne K (.ref (cs 2)) (.ref (cs 2))=some true)(TL:∀ {H:Hp} {a dx:Addr} {fs:List (Str×V)},H a=some (.ins (cs 2) dx fs)→TyOf K H (.ref a) (.ref (cs 2)))
  (ML:∀ kd,kd<5→Mth P w K mg base 1 (cs kd) "__len__" [] (fun vs _=>vs) (spLen (cs kd) (lenK kd))):FnOk P w K mg base CX0 3 f fd ["row","chips"] (spFits cs):=by
 refine F.ok scrow_fits (by walk_at "l") (fun cdv A outer s H vs Q E hr h=>?_)
 ·obtain ⟨t,L,r,D,us,rfl,⟨lt,et,hlt⟩,hi,eL,S,⟨f1,f2,f3⟩,k⟩:=h
  refine ⟨_,(zab (zbP (zb0 (ziV (K:=K) rfl) (pv 0) (zbt zad) zft) (zbu rfl (zao (pg_L 2 scrow_fits.nd) (zao (pg_L 3 scrow_fits.nd) (zao (pg_L 4 scrow_fits.nd) zaV)))))
   (zab (zay (PW.pt (zbN (zas op_ge (pv 3) (zap zar (by rfl) T.len PySem.boot_len (zaa (pv 1) zae)) (zat _)) (zbA (zas zf5 (zak zdI zad (pe_c Gones_of (zaa (pv 2) zae))) (zjj 1 ⟨rfl,rfl,rfl,rfl,rfl⟩ (hrm hr) rfl T.len (pe_x zal (pv 1) (pv 3))) (zat _))))) (zaf (zam zb3)) zan)
   (zaf (zam (pe_or (zlq (ze2 (pv 4))) (zca (zbQ (zbv zh8 (pe_x zaA (pv 4) zad) (zap zar (by rfl) T.len PySem.boot_len (zaa (pv 1) zae)) (zat _)) (zca (zap (zhT (K:=K) rfl) (by rfl) T.isinstance zcA (zaa (pe_x zal (pv 1) (pe_x zaA (pv 4) zad)) (zaa (zhE rfl GLatch) zae))))))))))),?rd⟩
  have ec:cutV [V.int (r.m:Int),.int (r.w:Int),.int (r.i:Int),.int (r.c:Int),lt] (some 2) none=[.int (r.i:Int),.int (r.c:Int),lt]:=rfl
  have hsz:∀ i,i<D.m→D.sz i≤5000:=fun i h=>by
   rw [← S.z i h]
   unfold ksize
   split
   ·decide
   ·have:=(S.k i h).ln;omega
  refine ⟨_,rfl,2,rfl,t,_,rfl,SqT.of et,(fun e=>absurd (congrArg List.length e) (by rw [ec];simp)),fun tp htp=>?_⟩
  rw [ec]
  have s1:=zah (H:=H) (o:=HO.tup [.int (r.i:Int),.int (r.c:Int),lt]) htp
  refine ⟨tp,_,rfl,SqT.of zac,rfl,_,_,rfl,_,_,rfl,_,_,rfl,rfl,?_⟩
  refine ⟨_,rfl,_,rfl,L,_,rfl,.inl (SqL.of (s1 _ _ eL)),_,_,rfl,rfl,_,rfl,?_⟩
  rw [zcW,Xai (show ¬ (D.m:Int)≤(r.c:Int) by omega)]
  refine iteF ⟨_,rfl,r.i,rfl,Xak hi (by decide),fun H2 s2=>?_⟩
  have S2:=S.same (s1.trans s2)
  have h64:ones r.i≤64:=by
   have:=hsz _ f1
   by_cases hc:ones r.i≤64
   ·exact hc
   ·have:2 ^ 64≤2 ^ ones r.i:=XaQ (by decide) (by omega)
    have:(5000:Nat)<2 ^ 64:=by decide
    omega
  obtain ⟨dx,ex⟩:=(S2.o _ f1).ex
  have k5:=(S2.k _ f1).k5
  have hlen:lenK (D.kd r.c) (vN (us r.c))=D.sz r.c:=by
   rw [← S.z _ f1]
   unfold lenK ksize
   split
   ·rfl
   ·exact zaq _
  refine ⟨_,_,rfl,rfl,⟨by omega,by omega,by decide⟩,_,rfl,_,rfl,L,_,_,_,rfl,rfl,SqL.of (s2 _ _ (s1 _ _ eL)),zaP (zeL f1),?_⟩
  refine ⟨_,cs (D.kd r.c),dx,_,_,_,rfl,ex,ML _ k5,_,_,_,_,rfl,(S2.o _ f1).ob,?_⟩
  rw [hlen]
  have hz:=hsz _ f1
  refine ⟨_,rfl,by omega,by omega,_,_,rfl,rfl,_,rfl,?_⟩
  have e1:(1:Int) * 2 ^ ((ones r.i:Nat):Int).toNat=((2 ^ ones r.i:Nat):Int):=by rw [Int.one_mul,Xap];norm_cast
  rw [Xai (show ¬ ((D.sz r.c:Nat):Int)<(1:Int) * 2 ^ ((ones r.i:Nat):Int).toNat by rw [e1];omega)]
  refine iteF ?_
  refine zaw ?_
  try dsimp only
  have k:=k H2 (s1.trans s2)
  cases hl:r.l with
  | none =>
   rw [hl] at hlt
   obtain rfl:lt = .non:=hlt
   exact ⟨_,rfl,_,rfl,iteT k⟩
  | some o =>
   obtain ⟨c,a,b⟩:=o
   rw [hl] at hlt
   obtain ⟨u,rfl,eu⟩:=hlt
   obtain ⟨g1,g2⟩:=f3 c a b hl
   have eu2:=s2 _ _ (s1 _ _ eu)
   have eL2:=s2 _ _ (s1 _ _ eL)
   obtain ⟨dy,ey⟩:=(S2.o _ g1).ex
   rw [g2] at ey
   refine ⟨_,rfl,_,rfl,iteF ⟨_,rfl,u,_,_,_,rfl,rfl,SqT.of eu2,rfl,_,rfl,L,_,rfl,.inl (SqL.of eL2),_,_,rfl,rfl,_,rfl,?_⟩⟩
   rw [zcW,Xah (show (c:Int)<(D.m:Int) by omega)]
   refine iteT ⟨_,rfl,_,rfl,u,_,_,_,rfl,rfl,SqT.of eu2,rfl,L,_,_,_,rfl,rfl,SqL.of eL2,zaP (zeL g1),_,_,_,true,rfl,TL ey,kk,k⟩
structure Bd where
 b:Addr
 bits:Nat
 R:Addr
 ws:List (Addr×Rw)
 L:Addr
 la:Addr
 keys:List Nat
 W:Addr
 nw:Nat
def bdF (B:Bd)(f:Nat):List (Str×V):=[("bits",.int (B.bits:Int)),("rows",.ref B.R),("chips",.ref B.L),("floating",.int (f:Int)),("latches",.ref B.la),("watches",.ref B.W),("next_watch",.int (B.nw:Int))]
structure RwsFor (D:Dt)(m:Nat)(Y:Hp)(R:Addr)(ws:List (Addr×Rw)):Prop where
 e:Y R=some (.tup (refs ws))
 r:RwsAt2 m Y ws
 f:∀ z∈ws,Fit D z.2
 nc:ws.Pairwise fun a b=>NC a.2 b.2
 ln:ws.length≤60
theorem RwsFor.same {D:Dt}{m:Nat}{Y Z:Hp}{R:Addr}{ws:List (Addr×Rw)}(h:RwsFor D m Y R ws)(s:Same Y Z):RwsFor D m Z R ws:=⟨s _ _ h.e,h.r.same s,h.f,h.nc,h.ln⟩
structure BdAt (C:Addr)(B:Bd)(D:Dt)(Y:Hp)(f:Nat):Prop where
 e:∃ db,Y B.b=some (.ins C db (bdF B f))
 b1:1≤B.bits
 b2:B.bits≤16
 rf:RwsFor D B.bits Y B.R B.ws
 ch:Y B.L=some (.lst (chL D))
 la:Y B.la=some (.lst (vN B.keys))
 kl:∀ z∈B.ws,∀ c a b,z.2.l=some (c,a,b)→c∈B.keys
 ks:∀ k∈B.keys,k<D.m∧D.kd k=2
 kn:B.keys.Nodup
 f0:f≤255
 nl:∀ i,i<D.m→B.L≠D.p i∧B.la≠D.p i
theorem BdAt.same {C:Addr}{B:Bd}{D:Dt}{Y Z:Hp}{f:Nat}(h:BdAt C B D Y f)(s:Same Y Z):BdAt C B D Z f:=by
 obtain ⟨db,e⟩:=h.e
 exact ⟨⟨db,s _ _ e⟩,h.b1,h.b2,h.rf.same s,s _ _ h.ch,s _ _ h.la,h.kl,h.ks,h.kn,h.f0,h.nl⟩
structure ClsBd (K:W.Frag)(C:Addr):Prop where
 cls:Cls K C
 bits:NoAttr K C "bits"
 rows:NoAttr K C "rows"
 chips:NoAttr K C "chips"
 floating:NoAttr K C "floating"
 latches:NoAttr K C "latches"
 watches:NoAttr K C "watches"
 next_watch:NoAttr K C "next_watch"
structure Wa where
 x:Addr
 h:Addr
 m:Nat
 w:Nat
 k:Str
 hs:List (Str×Nat×Nat)
def Wa.on (z:Wa)(k:Str)(a:Nat):Bool:=(decide (z.k = "both") || decide (z.k=k)) && decide (a &&& z.m=z.w)
def Wa.hear (k:Str)(a v:Nat)(z:Wa):Wa:=if z.on k a=true then { z with hs:=z.hs ++ [(k,a,v)] } else z
theorem Wa.hear_h (k:Str)(a v:Nat)(z:Wa):(z.hear k a v).h=z.h∧(z.hear k a v).x=z.x:=by unfold Wa.hear;split <;> exact ⟨rfl,rfl⟩
def hrV (d:Str×Nat×Nat):List V:=[.str d.1,.int (d.2.1:Int),.int (d.2.2:Int)]
def waF (z:Wa):List (Str×V):=[("mask",.int (z.m:Int)),("want",.int (z.w:Int)),("kind",.str z.k),("heard",.ref z.h)]
structure WaAt (C:Addr)(Y:Hp)(z:Wa):Prop where
 e:∃ dx,Y z.x=some (.ins C dx (waF z))
 l:∃ ts:List Addr,Y z.h=some (.lst (ts.map V.ref))∧ts.length=z.hs.length∧∀ (i:Nat) (t:Addr) (d:Str×Nat×Nat),ts[i]? = some t→z.hs[i]? = some d→Y t=some (.tup (hrV d))
 n:z.hs.length≤1000000
def NoBd (o:HO):Prop:=(∀ l,o≠.lst l)∧(∀ q u,o≠.frz q u)∧∀ c d B f,o≠.ins c d (bdF B f)
theorem wa_bd {z:Wa}{B:Bd}{f:Nat}(h:waF z=bdF B f):False:=by
 have h4:=(List.cons.inj h).1
 exact absurd (congrArg Prod.fst h4) (by show ("mask" : Str) ≠ "bits"; decide)
theorem WaAt.keep {C:Addr}{Y Z:Hp}{z:Wa}(h:WaAt C Y z)(k:∀ a o,NoBd o→(∀ m,o≠.dK m)→Y a=some o→Z a=some o)(e:∀ o,Y z.h=some o→Z z.h=some o):WaAt C Z z:=by
 obtain ⟨dx,e1⟩:=h.e
 obtain ⟨ts,e2,e3,e4⟩:=h.l
 exact ⟨⟨dx,k _ _ ⟨(fun l q=>by cases q),(fun _ _ q=>by cases q),fun c d B f q=>wa_bd (HO.ins.inj q).2.2⟩ (fun m q=>by cases q) e1⟩,⟨ts,e _ e2,e3,fun i t d h1 h2=>k _ _ ⟨(fun l q=>by cases q),(fun _ _ q=>by cases q),fun c d B f q=>by cases q⟩ (fun m q=>by cases q) (e4 i t d h1 h2)⟩,h.n⟩
structure WsAt (W C:Addr)(Y:Hp)(wl:List (Nat×Wa)):Prop where
 d:Y W=some (.dK (wl.map fun z=>(Sum.inl (z.1:Int),V.ref z.2.x)))
 o:∀ z∈wl,WaAt C Y z.2
 i:(wl.map fun z=>z.2.h).Nodup
 x:(wl.map fun z=>z.2.x).Nodup
 m:wl.length≤1000
theorem WsAt.keep {W C:Addr}{Y Z:Hp}{wl:List (Nat×Wa)}(h:WsAt W C Y wl)(k:∀ a o,NoBd o→Y a=some o→Z a=some o)(e:∀ z∈wl,∀ o,Y z.2.h=some o→Z z.2.h=some o):WsAt W C Z wl:=
 ⟨k _ _ ⟨(fun l q=>by cases q),(fun _ _ q=>by cases q),fun c d B f q=>by cases q⟩ h.d,fun z hz=>(h.o z hz).keep (fun a o h _=>k a o h) (e z hz),h.i,h.x,h.m⟩
theorem WsAt.same {W C:Addr}{Y Z:Hp}{wl:List (Nat×Wa)}(h:WsAt W C Y wl)(s:Same Y Z):WsAt W C Z wl:=h.keep (fun a o _ e=>s _ _ e) fun z hz o e=>s _ _ e
def wsH (k:Str)(a v:Nat)(wl:List (Nat×Wa)):List (Nat×Wa):=wl.map fun z=>(z.1,z.2.hear k a v)
structure ClsWt (K:W.Frag)(C:Addr):Prop where
 cls:Cls K C
 mask:NoAttr K C "mask"
 want:NoAttr K C "want"
 kind:NoAttr K C "kind"
 heard:NoAttr K C "heard"
inductive spHear (C:Addr)(vs:List V)(H:Hp)(Q:VK)(u3_:XK):Prop
 | mk (z:Wa) (k:Str) (a v:Nat) (z0_:vs=[.ref z.x,.str k,.int (a:Int),.int (v:Int)]) (z1_:WaAt C H z) (z2_:z.hs.length<1000000) (z3_:∀ H',WaAt C H' (z.hear k a v)→(∀ b o,b≠z.h→H b=some o→H' b=some o)→Q .non H')
structure BW (C CW:Addr)(B:Bd)(D:Dt)(Y:Hp)(f:Nat)(wl:List (Nat×Wa)):Prop where
 b:BdAt C B D Y f
 w:WsAt B.W CW Y wl
 nh:∀ z∈wl,z.2.h≠B.L∧z.2.h≠B.la∧∀ i,i<D.m→z.2.h≠D.p i
theorem BW.same {C CW:Addr}{B:Bd}{D:Dt}{Y Z:Hp}{f:Nat}{wl:List (Nat×Wa)}(h:BW C CW B D Y f wl)(s:Same Y Z):BW C CW B D Z f wl:=⟨h.b.same s,h.w.same s,h.nh⟩
inductive spFinish (C CW:Addr)(vs:List V)(H:Hp)(Q:VK)(u3_:XK):Prop
 | mk (B:Bd) (D:Dt) (f:Nat) (kind:Str) (x v:Nat) (wl:List (Nat×Wa)) (z0_:vs=[.ref B.b,.str kind,.int (x:Int),.int (v:Int)]) (z1_:BW C CW B D H f wl) (z2_:(∀ z∈wl,z.2.hs.length<1000000)) (z3_:v≤255) (z4_:∀ H',BW C CW B D H' v (wsH kind x v wl)→(∀ a o,a≠B.b→(∀ z∈wl,a≠z.2.h)→H a=some o→H' a=some o)→Q .non H')
theorem BdAt.fl {C:Addr}{B:Bd}{D:Dt}{Y:Hp}{f v:Nat}{db:Addr}(h:BdAt C B D Y f)(hv:v≤255):BdAt C B D (upd Y B.b (.ins C db (bdF B v))) v:=by
 obtain ⟨d0,e⟩:=h.e
 have ne:∀ {a:Addr} {o:HO},Y a=some o→(∀ x y z,o≠.ins x y z)→upd Y B.b (.ins C db (bdF B v)) a=some o:=fun {a o} ea ho=>by
  rw [zag (fun z=>by rw [z,e] at ea;exact ho _ _ _ (Option.some.inj ea).symm)];exact ea
 refine ⟨⟨db,zac⟩,h.b1,h.b2,⟨ne h.rf.e (by intros;exact (fun z=>by cases z)),(fun z hz=>?_),h.rf.f,h.rf.nc,h.rf.ln⟩,ne h.ch (by intros;exact (fun z=>by cases z)),ne h.la (by intros;exact (fun z=>by cases z)),h.kl,h.ks,h.kn,hv,h.nl⟩
 obtain ⟨⟨lt,et,hlt⟩,ok⟩:=h.rf.r z hz
 refine ⟨⟨lt,ne et (by intros;exact (fun z=>by cases z)),?_⟩,ok⟩
 cases hl:z.2.l with
 | none=>rw [hl] at hlt;exact hlt
 | some o =>
  rw [hl] at hlt
  obtain ⟨u,eu,hu⟩:=hlt
  exact ⟨u,eu,ne hu (by intros;exact (fun z=>by cases z))⟩
def hld (us:Nat→List Nat)(c:Nat):Nat:=(us c).getD 0 0
def whoI (B:Bd)(us:Nat→List Nat)(x:Nat):Option Nat:=(B.ws.map (·.2)).findIdx? fun r=>ans r x (wrd B.keys (hld us))
inductive spChipOf (C:Addr)(vs:List V)(H:Hp)(Q:VK)(u3_:XK):Prop
 | mk (B:Bd) (D:Dt) (f i:Nat) (z:Addr×Rw) (z0_:vs=[.ref B.b,.int (i:Int)]) (z1_:BdAt C B D H f) (z2_:B.ws[i]? = some z) (z3_:Q (.ref (D.x z.2.c)) H)
theorem BdAt.lists {C:Addr}{B:Bd}{D:Dt}{Y Z:Hp}{f:Nat}(h:BdAt C B D Y f)(k:∀ a o,(∀ l,o≠.lst l)→Y a=some o→Z a=some o)(e1:Z B.L=some (.lst (chL D)))(e2:Z B.la=some (.lst (vN B.keys))):BdAt C B D Z f:=by
 obtain ⟨db,e⟩:=h.e
 refine ⟨⟨db,k _ _ (fun l z=>by cases z) e⟩,h.b1,h.b2,⟨k _ _ (fun l z=>by cases z) h.rf.e,(fun z hz=>?_),h.rf.f,h.rf.nc,h.rf.ln⟩,e1,e2,h.kl,h.ks,h.kn,h.f0,h.nl⟩
 obtain ⟨⟨lt,et,hlt⟩,ok⟩:=h.rf.r z hz
 refine ⟨⟨lt,k _ _ (fun l z=>by cases z) et,?_⟩,ok⟩
 cases hl:z.2.l with
 | none=>rw [hl] at hlt;exact hlt
 | some o =>
  rw [hl] at hlt
  obtain ⟨u,eu,hu⟩:=hlt
  exact ⟨u,eu,k _ _ (fun l z=>by cases z) hu⟩
theorem zgK {α:Type}(g:Nat→Addr→Addr→α)(k:Str)(a v:Nat)(wl:List (Nat×Wa)):(wsH k a v wl).map (fun z=>g z.1 z.2.h z.2.x)=wl.map fun z=>g z.1 z.2.h z.2.x:=by
 unfold wsH
 rw [Xa7]
 refine XbL fun z _=>?_
 show g z.1 (z.2.hear k a v).h (z.2.hear k a v).x=_
 rw [(Wa.hear_h k a v z.2).1,(Wa.hear_h k a v z.2).2]
abbrev zdh:Stmt:=top 55
theorem sccheck_map:FnScope ["bits","rows","chips","number","row"] ["bits","rows","chips"] (zai zdh):=sck rfl rfl rfl (by decide +kernel)
inductive spChkMap (cs:Nat→Addr)(vs:List V)(H:Hp)(Q:VK)(u3_:XK):Prop
 | mk (m:Nat) (R L:Addr) (D:Dt) (us:Nat→List Nat) (ws:List (Addr×Rw)) (z0_:vs=[.int (m:Int),.ref R,.ref L]) (z1_:1≤m) (z2_:m≤16) (z3_:RwsFor D m H R ws) (z4_:H L=some (.lst (chL D))) (z5_:Chs cs D H us) (z6_:∀ H',Same H H'→Q .non H')
theorem zg5 {f:Addr}{cs:Nat→Addr}{fd:FuncData}(F:Fun K "check_map" "check_map" zdh f fd)(T:Blt mg)(N:Nums mg)(Gis_number:Cal P w K mg base 1 "is_number" ["thing","last"] spIsNum)(Gis_map:Cal P w K mg base 5 "is_map" ["bits","thing"] spMapV)(Grow_fits:Cal P w K mg base 3 "row_fits" ["row","chips"] (spFits cs)):FnOk P w K mg base CX0 6 f fd ["bits","rows","chips"] (spChkMap cs):=by
 refine F.ok sccheck_map (by walk_at "l") (fun cdv A outer s H vs Q E hr h=>?_)
 ·obtain ⟨m,R,L,D,us,ws,rfl,h1,h2,hR,eL,S,k⟩:=h
  refine ⟨_,(zab (zay (PW.pt (zbN (zaK (zaG (pe_c Gis_number (zaa (pv 0) (zaa (zbg rfl N.MOST_BITS) zae))))) (zbA (zas zh8 (pv 0) zad (zat _))))) (zaf zaJ) zan)
   (zab (zay (zaK (zaG (pe_c Gis_map (zaa (pv 0) (zaa (pv 1) zae))))) (zaf zaJ) zan)
   (zaf (zbO PassesOwn.never rfl (zd2 rfl T.enumerate (zaa (pv 1) zae)) (zbu rfl (zao (pg_L 3 sccheck_map.nd) (zao (pg_L 4 sccheck_map.nd) zaV)))
   (zaf (zay (zaK (zaG (pe_c Grow_fits (zaa (pv 4) (zaa (pv 2) zae))))) (zaf zaJ) zan)))))),?rd⟩
  refine ⟨_,rfl,_,_,rfl,_,rfl,?_⟩
  rw [Xah (show 0≤(m:Int)∧(m:Int)≤16 by omega)]
  refine iteF ⟨_,rfl,_,_,rfl,rfl,_,rfl,?_⟩
  rw [Xai (show ¬ (m:Int)<1 by omega)]
  refine iteF (zaw ?_)
  try dsimp only
  refine ⟨_,rfl,_,rfl,m,R,ws,rfl,hR.e,hR.r,Xar hR.ln (by decide),h2,fun H1 s1=>⟨_,rfl,iteF (zaw ?_)⟩⟩
  try dsimp only
  refine ⟨_,rfl,R,rfl,⟨_,SqT.of (s1 _ _ hR.e)⟩,?_⟩
  refine zc8 (K:=K) (a:=R) (xs:=refs ws) (fun i σ X=>∃ (v3 v4:Option V),σ=[some (.int (m:Int)),some (.ref R),some (.ref L),v3,v4]∧Same H X) ⟨_,_,rfl,s1⟩ ?_ ?_ ?_
  ·rintro i σ X _ ⟨_,_,_,sX⟩
   exact SqT.of (sX _ _ hR.e)
  ·rintro i y U σ X hy hU ⟨v3,v4,rfl,sX⟩
   obtain ⟨z,hz,rfl⟩:=zbZ hy
   have hm:=Xay hz
   have sU:=sX.trans (zah (o:=.tup [.int (i:Int),.ref z.1]) hU)
   refine ze6 ?_
   refine ⟨_,rfl,_,rfl,z.1,L,z.2,D,us,rfl,(hR.r z hm).1.same sU,Xak (hR.r z hm).2.i0 (XaQ (by decide) h2),sU _ _ eL,S.same sU,hR.f z hm,fun H2 s2=>⟨_,rfl,iteF ⟨_,_,rfl,sU.trans s2⟩⟩⟩
  ·rintro σ X ⟨_,_,_,sX⟩
   exact k X sX
abbrev zce:Stmt:=top 56
theorem sccheck_clash:FnScope ["rows","clash","address","first","second","words"] ["rows"] (zai zce):=sck rfl rfl rfl (by decide +kernel)
inductive spChkCl (vs:List V)(H:Hp)(Q:VK)(u3_:XK):Prop
 | mk (m:Nat) (R:Addr) (D:Dt) (ws:List (Addr×Rw)) (z0_:vs=[.ref R]) (z1_:RwsFor D m H R ws) (z2_:∀ H',Same H H'→Q .non H')
theorem zfz {f:Addr}{fd:FuncData}(F:Fun K "check_clash" "check_clash" zce f fd)(T:Blt mg)(Gclash_of:Cal P w K mg base 4 "clash_of" ["rows"] spClashV):FnOk P w K mg base CX0 5 f fd ["rows"] spChkCl:=by
 refine F.ok sccheck_clash (by walk_at "l") (fun cdv A outer s H vs Q E hr h=>?_)
 ·obtain ⟨m,R,D,ws,rfl,hR,k⟩:=h
  refine ⟨_,(zab (ps_L 1 sccheck_clash.nd (pe_c Gclash_of (zaa (pv 0) zae)))
   (zaf (zay (zb9 (zcR (pv 1))) (zab (zbP (pv 1) (zbu rfl (zao (pg_L 2 sccheck_clash.nd) (zao (pg_L 3 sccheck_clash.nd) (zao (pg_L 4 sccheck_clash.nd) (zao (pg_L 5 sccheck_clash.nd) zaV))))))
   (zaf zaJ)) zan))),?rd⟩
  exact ⟨_,rfl,m,R,ws,rfl,hR.e,hR.r,hR.nc,Xar hR.ln (by decide),fun H1 s1=>⟨_,rfl,_,rfl,iteF (k H1 s1)⟩⟩
def kpm {α:Type}(n m:Nat)(ix:List Nat)(ds us zs:List α):List α:=if us.length=n∧zs.length=m then us ++ ix.filterMap (fun i=>(zs ++ ds)[i]?) else []
theorem ziL:∀ (ix:List Nat) {xs:List V} {ys:List Value},Vals xs ys→Vals (ix.filterMap fun i=>xs[i]?) (ix.filterMap fun i=>ys[i]?)
 | [],_,_,_=>.nil
 | i :: ix,xs,ys,h=>by
  rw [List.filterMap_cons,List.filterMap_cons]
  have ih:=ziL ix h
  cases e:xs[i]? with
  | none =>
   have:ys[i]? = none:=by rw [XbB] at e ⊢;rw [← h.length];exact e
   rw [this]
   exact ih
  | some x =>
   obtain ⟨y,ey,r⟩:=h.get e
   rw [ey]
   exact .cons r ih
theorem zbf {n m:Nat}{ix:List Nat}{ds:List V}{es:List Value}(d:Vals ds es){vs zs:List V}{us ws:List Value}(g:Vals vs us)(h:Vals zs ws):Vals (kpm n m ix ds vs zs) (kpm n m ix es us ws):=by
 unfold kpm
 rw [g.length,h.length]
 split
 ·exact g.append (ziL ix (h.append d))
 ·exact .nil
theorem zc6 {α:Type}{n m c:Nat}{ix:List Nat}{ds us zs:List α}(h:(kpm n m ix ds us zs).length=c+1):us.length=n∧zs.length=m:=by
 unfold kpm at h
 split at h
 ·assumption
 ·cases h
abbrev zbs:Stmt:=zav (top 58) 0
theorem zdR:FnScope ["self","bits","rows","chips","floating"] ["self","bits","rows","chips","floating"] (zai zbs):=sck rfl rfl rfl (by decide +kernel)
def lcs (ws:List (Addr×Rw)):List Nat:=ws.filterMap fun z=>z.2.l.map (·.1)
set_option tactic.hygienic true in
theorem zk4 (ys:List Int):(dd ys).Nodup:=by
 have g:∀ (l S:List Int),S.Nodup→(l.foldl (fun S n=>if n∈S then S else S ++ [n]) S).Nodup:=by
  intro l
  induction l with
  | nil=>intro S h;exact h
  | cons a l ih =>
   intro S h
   rw [List.foldl_cons]
   refine ih _ ?_
   split
   ·exact h
   ·rename_i ha
    rw [XaO]
    exact ⟨h,by simp,fun x hx y hy=>by rw [Xad] at hy;subst hy;exact fun z=>ha (z ▸ hx)⟩
 exact g ys [] Xbg
theorem zkR {ws:List (Addr×Rw)}{j:Nat}{z:Addr×Rw}(h:ws[j]? = some z):lcs (ws.take (j+1))=lcs (ws.take j) ++ (z.2.l.map (·.1)).toList:=by
 unfold lcs
 rw [List.take_succ,h,List.filterMap_append]
 congr 1
theorem lcs_mem {ws:List (Addr×Rw)}{c:Nat}:c∈lcs ws↔∃ z∈ws,∃ a b,z.2.l=some (c,a,b):=by
 unfold lcs
 rw [List.mem_filterMap]
 constructor
 ·rintro ⟨z,hz,e⟩
  obtain ⟨o,ho,rfl⟩:=XaE.mp e
  exact ⟨z,hz,o.2.1,o.2.2,ho⟩
 ·rintro ⟨z,hz,a,b,e⟩
  exact ⟨z,hz,by rw [e];rfl⟩
inductive spInitB (C:Addr)(cs:Nat→Addr)(vs:List V)(H:Hp)(Q:VK)(u3_:XK):Prop
 | mk (b db R L:Addr) (m fl:Nat) (D:Dt) (us:Nat→List Nat) (ws:List (Addr×Rw)) (z0_:vs=[.ref b,.int (m:Int),.ref R,.ref L,.int (fl:Int)]) (z1_:H b=some (.ins C db [])) (z2_:1≤m) (z3_:m≤16) (z4_:fl≤255) (z5_:RwsFor D m H R ws) (z6_:H L=some (.lst (chL D))) (z7_:Chs cs D H us) (z8_:∀ (B:Bd) (H':Hp),B.b=b→B.bits=m→B.R=R→B.ws=ws→H B.L=none→H B.la=none→H B.W=none→B.nw=0→H' B.W=some (.dK [])→BdAt C B D H' fl→(∀ a o,a≠b→H a=some o→H' a=some o)→Q .non H')
theorem zdZ {f:Addr}{C:Addr}{cs:Nat→Addr}{fd:FuncData}{dV:Value}(F:FunD K "__init__" "Board.__init__" zbs dV f fd)(T:Blt mg)(GBsorted:mg "sorted" = none)(cl:ClsBd K C)(Gcheck_map:Cal P w K mg base 6 "check_map" ["bits","rows","chips"] (spChkMap cs))(Gcheck_clash:Cal P w K mg base 5 "check_clash" ["rows"] spChkCl)(Gcheck_word:Cal P w K mg base 3 "check_word" ["word"] spChkWord):FnOk P w K mg base CX0 7 f fd ["self","bits","rows","chips","floating"] (spInitB C cs):=by
 refine F.ok zdR (by walk_at "l") (fun cdv A outer s H vs Q E hr h=>?_)
 ·obtain ⟨b,db,R,L,m,fl,D,us,ws,rfl,eb,h1,h2,hf,hR,eL,S,k⟩:=h
  refine' ⟨_,(zab (zau (pe_c Gcheck_map (zaa (pv 1) (zaa (pv 2) (zaa (pv 3) zae)))))
   (zab (zau (pe_c Gcheck_clash (zaa (pv 2) zae)))
   (zab (zau (pe_c Gcheck_word (zaa (pv 4) zae)))
   (zab (zbe (pv 0) (pv 1) rfl)
   (zab (zbe (pv 0) (pv 2) rfl)
   (zab (zbe (pv 0) (za4 zbb (by rfl) T.list zdF (zaa (pv 3) zae)) rfl)
   (zab (zbe (pv 0) (pv 4) rfl)
   (zab (zbe (pv 0) (zap (zgy rfl) (by rfl) GBsorted zgA (zaa ?c1 zae)) rfl)
   (zab (zbe (pv 0) zhF rfl)
   (zaf (zbe (pv 0) zad rfl))))))))))),?rd⟩
  (case c1=>exact (zh7 (Nc:=["row"]) [none] rfl (zaX (by rfl)) (zlo (pv 2)) (fun _ _ _ _ _=>(pg_L 0 (show (["row"]:List Str).Nodup by decide +kernel))) (fun _ _ _ _ _=>(zhC (zb9 (zcR (pe_x (zho (K:=K) rfl) (pv 0) zad))))) (fun _ _ _ _ _=>(pe_x (zho (K:=K) rfl) (pe_x (zho (K:=K) rfl) (pv 0) zad) zad))))
  refine ⟨_,rfl,_,rfl,_,rfl,m,R,L,D,us,ws,rfl,h1,h2,hR,eL,S,fun H1 s1=>?_⟩
  refine ⟨_,rfl,m,R,D,ws,rfl,hR.same s1,fun H2 s2=>?_⟩
  have s12:=s1.trans s2
  refine ⟨_,rfl,(fl:Int),rfl,by omega,by omega,?_⟩
  refine ⟨_,rfl,_,rfl,b,C,db,_,rfl,s12 _ _ eb,cl.cls,cl.bits,by show 0<1000;decide,?_⟩
  refine ⟨_,rfl,_,rfl,b,C,db,_,rfl,zac,cl.cls,cl.rows,by show 1<1000;decide,?_⟩
  have nLb:L≠b:=fun z=>by rw [z,eb] at eL;cases eL
  refine ⟨_,rfl,L,chL D,rfl,.inl (SqL.of (by rw [zag nLb,zag nLb];exact s12 _ _ eL)),fun l hl=>?_⟩
  have nlb:l≠b:=fun z=>by rw [z,zac] at hl;cases hl
  refine ⟨_,rfl,b,C,db,_,rfl,by rw [zag (Ne.symm nlb)];exact zac,cl.cls,cl.chips,by show 2<1000;decide,?_⟩
  refine ⟨_,rfl,_,rfl,b,C,db,_,rfl,zac,cl.cls,cl.floating,by show 3<1000;decide,?_⟩
  have hl2:H2 l=none:=by rw [zag nlb,zag nlb] at hl;exact hl
  refine zfN (fun Y=>Y b=some (.ins C db [("bits",.int (m:Int)),("rows",.ref R),("chips",.ref l),("floating",.int (fl:Int))])∧Y l=some (.lst (chL D))∧∀ a o,a≠b→H2 a=some o→Y a=some o) ⟨zac,by rw [zag nlb,zag nlb];exact zac,fun a o ha ea=>by rw [zag ha,zag ha,zag (zaj ea hl2),zag ha,zag ha];exact ea⟩ ?_
  rintro Y ⟨yb,yl,fr⟩
  have nRb:R≠b:=fun z=>by have:=hR.e;rw [z,eb] at this;cases this
  have yR:=fr _ _ nRb (s12 _ _ hR.e)
  refine ⟨_,rfl,R,rfl,⟨_,SqT.of yR⟩,?_⟩
  refine zj2 (K:=K) (xs:=refs ws) (fun j ys σ H1=>∃ v0,σ=[v0]∧ys=(lcs (ws.take j)).map (fun (n:Nat)=>(n:Int))∧ys.length≤j∧H1=Y) (by rw [zaC];have:=hR.ln;omega) ⟨none,rfl,rfl,Xae _,rfl⟩ ?_ ?_ ?_
  ·rintro j ys σ H1 hj ⟨v0,rfl,_,hl',rfl⟩
   exact ⟨SqT.of yR,hl'⟩
  ·rintro j y ys σ H1 hy ⟨v0,rfl,hys,hl',rfl⟩
   obtain ⟨z,hz,rfl⟩:=zbZ hy
   have hm:=Xay hz
   obtain ⟨lt,et,hlt⟩:=(hR.r z hm).1
   have yt:=fr _ _ (fun e=>by rw [e,eb] at et;cases et) (s12 _ _ et)
   rw [zkR hz]
   cases hl:z.2.l with
   | none =>
    rw [hl] at hlt
    obtain rfl:lt = .non:=hlt
    exact ⟨_,rfl,z.1,_,_,_,rfl,rfl,SqT.of yt,rfl,_,rfl,iteF ⟨_,rfl,by rw [hys];simp,by omega,rfl⟩⟩
   | some o =>
    obtain ⟨c,a,b'⟩:=o
    rw [hl] at hlt
    obtain ⟨u,rfl,eu⟩:=hlt
    have yu:=fr _ _ (fun e=>by rw [e,eb] at eu;cases eu) (s12 _ _ eu)
    refine ⟨_,rfl,z.1,_,_,_,rfl,rfl,SqT.of yt,rfl,_,rfl,iteT ⟨_,rfl,z.1,_,_,_,rfl,rfl,SqT.of yt,rfl,u,_,_,_,rfl,rfl,SqT.of yu,rfl,(c:Int),rfl,_,rfl,by rw [hys];simp,by rw [Xaq];simp;omega,rfl⟩⟩
  ·rintro ys σ H1 ⟨v0,rfl,hys,hl',rfl⟩ d hd
   rw [zaC,Xa8 (Xae _)] at hys
   have hln:=hR.ln
   have hdl:=zlF ys
   rw [zaC] at hl'
   have ndb:d≠b:=fun e=>by rw [e,yb] at hd;cases hd
   refine ⟨d,dd ys,rfl,zac,by omega,fun la ns hla pm _=>?_⟩
   have hns:∀ n∈ns,∃ c:Nat,n=(c:Int)∧c∈lcs ws:=fun n hn=>by
    have:=mem_dd.mp (pm.mem_iff.mp hn)
    rw [hys,XaC] at this
    obtain ⟨c,hc,e⟩:=this
    exact ⟨c,e.symm,hc⟩
   obtain ⟨keys,hk⟩:∃ keys:List Nat,ns=keys.map fun (n:Nat)=>(n:Int):=⟨ns.map Int.toNat,by
    rw [Xa7]
    conv=>lhs;rw [← List.map_id ns]
    refine XbL fun n hn=>?_
    obtain ⟨c,e,_⟩:=hns n hn
    show n=((n.toNat:Nat):Int)
    omega⟩
   have knd:keys.Nodup:=by
    have h1:ns.Nodup:=pm.nodup_iff.mpr (zk4 ys)
    rw [hk] at h1
    exact (List.pairwise_map.mp h1).imp fun h e=>h (by rw [e])
   have kmem:∀ c,c∈keys↔c∈lcs ws:=fun c=>by
    constructor
    ·intro hc
     obtain ⟨c',e,hc'⟩:=hns (c:Int) (by rw [hk];exact List.mem_map_of_mem hc)
     rw [show c=c' by omega];exact hc'
    ·intro hc
     have:(c:Int)∈ns:=pm.mem_iff.mpr (mem_dd.mpr (by rw [hys];exact List.mem_map_of_mem hc))
     rw [hk,XaC] at this
     obtain ⟨c',hc',e⟩:=this
     rw [show c=c' by omega];exact hc'
   have nlab:la≠b:=fun e=>by rw [e,zag (Ne.symm ndb),yb] at hla;cases hla
   have nlad:la≠d:=fun e=>by rw [e,zac] at hla;cases hla
   have yla:H1 la=none:=by rw [zag nlad] at hla;exact hla
   have eV:ns.map V.int=vN keys:=by rw [hk,Xa7];rfl
   rw [eV]
   refine ⟨_,rfl,b,C,db,_,rfl,by rw [zag (Ne.symm nlab),zag (Ne.symm ndb)];exact yb,cl.cls,cl.latches,by show 4<1000;decide,?_⟩
   refine zfN (fun Z=>Z b=some (.ins C db [("bits",.int (m:Int)),("rows",.ref R),("chips",.ref l),("floating",.int (fl:Int)),("latches",.ref la)])∧Z la=some (.lst (vN keys))∧∀ a o,a≠b→H1 a=some o→Z a=some o) ⟨zac,by rw [zag nlab];exact zac,fun a o ha ea=>by rw [zag ha,zag (zaj ea yla),zag (zaj ea hd)];exact ea⟩ ?_
   rintro Z ⟨zb,zla,frZ⟩ wd hwd
   have nwb:wd≠b:=fun e=>by rw [e,zb] at hwd;cases hwd
   refine ⟨_,rfl,b,C,db,_,rfl,by rw [zag (Ne.symm nwb)];exact zb,cl.cls,cl.watches,by show 5<1000;decide,?_⟩
   refine ⟨_,rfl,b,C,db,_,rfl,zac,cl.cls,cl.next_watch,by show 6<1000;decide,?_⟩
   have frV:∀ a o,a≠b→Z a=some o→upd (upd (upd Z wd (.dK [])) b (.ins C db [("bits",.int (m:Int)),("rows",.ref R),("chips",.ref l),("floating",.int (fl:Int)),("latches",.ref la),("watches",.ref wd)])) b (.ins C db (bdF ⟨b,m,R,ws,l,la,keys,wd,0⟩ fl)) a=some o:=fun a o ha ea=>by rw [zag ha,zag ha,zag (zaj ea hwd)];exact ea
   have frH:∀ a o,a≠b→H a=some o→upd (upd (upd Z wd (.dK [])) b (.ins C db [("bits",.int (m:Int)),("rows",.ref R),("chips",.ref l),("floating",.int (fl:Int)),("latches",.ref la),("watches",.ref wd)])) b (.ins C db (bdF ⟨b,m,R,ws,l,la,keys,wd,0⟩ fl)) a=some o:=fun a o ha ea=>frV a o ha (frZ a o ha (fr a o ha (s12 _ _ ea)))
   have hlaH:H la=none:=by
    cases h:H la with
    | none=>rfl
    | some o=>have:=fr la o nlab (s12 _ _ h);rw [yla] at this;cases this
   have hwdH:H wd=none:=by
    cases h:H wd with
    | none=>rfl
    | some o=>have:=frZ wd o nwb (fr wd o nwb (s12 _ _ h));rw [hwd] at this;cases this
   refine k ⟨b,m,R,ws,l,la,keys,wd,0⟩ _ rfl rfl rfl rfl (s12.free hl2) hlaH hwdH rfl (by rw [zag nwb,zag nwb];exact zac) ⟨⟨db,zac⟩,h1,h2,⟨frH _ _ nRb hR.e,fun z hz=>?_,hR.f,hR.nc,hR.ln⟩,frV _ _ nlb (frZ _ _ nlb yl),frV _ _ nlab zla,fun z hz c a b' e=>(kmem c).mpr (lcs_mem.mpr ⟨z,hz,a,b',e⟩),fun c hc=>?_,knd,hf,fun i hi=>⟨fun e=>?_,fun e=>?_⟩⟩ frH
   ·obtain ⟨⟨lt,et,hlt⟩,ok⟩:=hR.r z hz
    refine ⟨⟨lt,frH _ _ (fun e=>by rw [e,eb] at et;cases et) et,?_⟩,ok⟩
    cases hl:z.2.l with
    | none=>rw [hl] at hlt;exact hlt
    | some o =>
     rw [hl] at hlt
     obtain ⟨u,eu,hu⟩:=hlt
     exact ⟨u,eu,frH _ _ (fun e=>by rw [e,eb] at hu;cases hu) hu⟩
   ·obtain ⟨z,hz,a,b',e⟩:=lcs_mem.mp ((kmem c).mp hc)
    exact (hR.f z hz).2.2 c a b' e
   ·have:=s12 _ _ (S.o i hi).ls
    rw [← show l=D.p i from e,hl2] at this
    cases this
   ·have hls:=(S.o i hi).ls
    have:=fr _ _ (fun e=>by rw [e,eb] at hls;cases hls) (s12 _ _ hls)
    rw [← show la=D.p i from e,yla] at this
    cases this
abbrev zaZ:Stmt:=zav (top 8) 0
theorem zcv:FnScope ["self","address"] ["self","address"] (zai zaZ):=sck rfl rfl rfl (by decide +kernel)
inductive spNaI (C:Addr)(vs:List V)(H:Hp)(Q:VK)(u3_:XK):Prop
 | mk (e:Addr) (x:Int) (z0_:vs=[.ref e,.int x]) (z1_:x.natAbs<2 ^ 100) (z2_:H e=some (.ext (xFr e C none))) (z3_:∀ (dx:Addr) (H':Hp),H dx=none→dx≠e→H' e=some (.ext (xFr e C (some dx)))→H' dx=some (.ext (xDc dx [("address",.int x)]))→(∀ b o,b≠e→H b=some o→H' b=some o)→Q .non H')
theorem zcw {f C fI:Addr}{fd:FuncData}(F:Fun K "__init__" "NoAddress.__init__" zaZ f fd)(T:Blt mg)(GSBusError:SupI K mg "BusError")(c:ExcI K C fI)(t1:W.takerIn K C "address" = some none):FnOk P w K mg base CX0 1 f fd ["self","address"] (spNaI C):=by
 refine F.ok zcv (by walk_at "l") (fun cdv A outer s H vs Q E hr h=>?_)
 ·obtain ⟨e,x,rfl,hx,ee,k⟩:=h
  refine ⟨_,(zab (zau (zmg GSBusError rfl (zaa (pv 0) (zaa (pe_fsN ⟨_,_,_,rfl⟩ (pj_str zaQ (pj_int (pv 1) pj_nil))) zae))))
   (zaf (zkE rfl (pv 0) (pv 1) rfl))),?rd⟩
  refine ⟨_,rfl,_,rfl,(by decide:(12:Nat)≤1000),_,rfl,x,rfl,Xak hx (XaQ (by decide) (by decide)),fun z=>?_⟩
  refine ⟨e,C,fI,none,_,rfl,ee,c,?_⟩
  refine ⟨_,rfl,_,rfl,e,C,fI,rfl,ee,c,t1,fun dx hdx ne=>?_⟩
  refine k dx _ hdx ne (by rw [zag (Ne.symm ne)];exact zac) zac fun b o hb eb=>?_
  rw [zag (zaj eb hdx),zag hb]
  exact eb
theorem zjP {f:Addr}(h:W.isFn K (.ref f)=true):∃ oI,K.lookup f=some oI∧oI.cls = .type "function" := by
 have h:W.typeIn K (.ref f)=some (.type "function"):=beq_iff_eq.mp h
 unfold W.typeIn at h
 obtain ⟨oI,h1,h2⟩:=XaE.mp h
 exact ⟨oI,h1,h2⟩
abbrev zbJ:Stmt:=zav (top 58) 5
theorem zek:FnScope ["self","number"] ["self","number"] (zai zbJ):=sck rfl rfl rfl (by decide +kernel)
inductive spInBitsI (C:Addr)(vs:List V)(H:Hp)(Q:VK)(u3_:XK):Prop
 | mk (B:Bd) (D:Dt) (f:Nat) (x:Int) (z0_:vs=[.ref B.b,.int x]) (z1_:BdAt C B D H f) (z2_:Q (.bl (decide (0≤x∧x<((2 ^ B.bits:Nat):Int)))) H)
theorem zey {f:Addr}{C:Addr}{fd:FuncData}(F:Fun K "in_bits" "Board.in_bits" zbJ f fd)(T:Blt mg)(cl:ClsBd K C)(Gis_number:Cal P w K mg base 1 "is_number" ["thing","last"] spIsNum)(Gsize_of:Cal P w K mg base 1 "size_of" ["bits"] spSize):FnOk P w K mg base CX0 2 f fd ["self","number"] (spInBitsI C):=by
 refine F.ok zek (by walk_at "l") (fun cdv A outer s H vs Q E hr h=>?_)
 ·obtain ⟨B,D,f0,x,rfl,hB,k⟩:=h
  refine ⟨_,(zaf (zam (pe_c Gis_number (zaa (pv 1) (zaa (zak zbR (pe_c Gsize_of (zaa (zaz (pv 0) rfl) zae)) zad) zae))))),?rd⟩
  obtain ⟨db,e⟩:=hB.e
  refine ⟨_,rfl,_,rfl,B.b,C,db,_,_,rfl,e,cl.cls,cl.bits,rfl,B.bits,rfl,hB.b2,_,_,rfl,rfl,_,_,rfl,?_⟩
  have e2:((2 ^ B.bits:Nat):Int)=(2:Int) ^ B.bits:=by norm_cast
  rw [show decide (0≤x∧x<((2 ^ B.bits:Nat):Int))=decide (0≤x∧x≤(2:Int) ^ B.bits - 1) from Xbp.mpr ⟨fun z=>⟨by omega,by omega⟩,fun z=>by omega⟩] at k
  exact k
abbrev zaU:Stmt:=zav (top 58) 6
theorem zcf:FnScope ["self","address"] ["self","address"] (zai zaU):=sck rfl rfl rfl (by decide +kernel)
inductive spChkAdX (C CT:Addr)(vs:List V)(H:Hp)(Q:VK)(E:XK):Prop
 | mk (B:Bd) (D:Dt) (f:Nat) (x:Int) (z0_:vs=[.ref B.b,.int x]) (z1_:BdAt C B D H f) (z2_:x.natAbs<2 ^ 100) (z3_:((0≤x∧x<((2 ^ B.bits:Nat):Int)∧Q .non H)∨((¬ (0≤x∧x<((2 ^ B.bits:Nat):Int)))∧∀ (dx:Addr) (H':Hp),H' dx=some (.ext (xDc dx [("address",.int x)]))→Same H H'→E (.ref CT) (some dx) H')))
theorem zcn {f C CT:Addr}{fd:FuncData}(F:Fun K "check_address" "Board.check_address" zaU f fd)(T:Blt mg)(M_in_bits:Mth P w K mg base 2 C "in_bits" [] (fun vs _=>vs) (spInBitsI C))(GI_NoAddress:XIni P w K mg base 1 "NoAddress" CT (spNaI CT)):FnOk P w K mg base (CX1 P w) 3 f fd ["self","address"] (spChkAdX C CT):=by
 refine F.okX zcf (by walk_at "l") (fun cdv A outer s H vs Q E hr h=>?_)
 ·obtain ⟨B,D,f0,x,rfl,hB,hx,k⟩:=h
  refine ⟨_,(zaf (zay (PT.nox (zaK (zaG (zaL 2 ⟨rfl,rfl,rfl,rfl,rfl⟩ (hrm hr) (pv 0) (zaa (pv 1) zae))))) (zaf (zjb (E:=E) GI_NoAddress (hrm hr) rfl rfl rfl (PA.nox (zaa (pv 1) zae)) (fun pins σ H2 s2 ea od I e n hE=>ziI I e n hE))) zan)),?rd⟩
  obtain ⟨db,e⟩:=hB.e
  refine ⟨_,rfl,B.b,C,db,_,_,_,rfl,e,M_in_bits,rfl,_,rfl,B,D,f0,x,rfl,hB,_,rfl,?_⟩
  rcases k with ⟨h1,h2,k⟩ | ⟨hn,k⟩
  ·rw [Xah ⟨h1,h2⟩]
   exact iteF k
  ·rw [Xai hn]
   refine iteT ⟨_,rfl,(by decide:(1:Nat)≤1000),fun e he=>?_⟩
   refine ⟨e,x,rfl,hx,zac,fun dx H2 hdx ne e1 e2 fr=>⟨rfl,some dx,e1,?_⟩⟩
   refine k dx _ (by rw [zhz ne];exact e2) fun b o eb=>?_
   have hb:b≠e:=zaj eb he
   rw [zhz hb]
   exact fr b o hb (by rw [zag hb];exact eb)
abbrev zdv:Stmt:=zav (top 58) 1
theorem scBoard_who:FnScope ["self","address","words","number"] ["self","address"] (zai zdv):=sck rfl rfl rfl (by decide +kernel)
theorem zkq {l:List Nat}{j c:Nat}(hn:l.Nodup)(h:l[j]? = some c):c ∉ l.take j:=fun hm=>by
 obtain ⟨i,hi⟩:=List.mem_iff_getElem?.mp hm
 have hj:i<j:=by
  have:=(Xag.mp hi).1
  rw [Xa3] at this
  omega
 rw [List.getElem?_take_of_lt hj] at hi
 obtain ⟨a1,e1⟩:=Xag.mp hi
 obtain ⟨a2,e2⟩:=Xag.mp h
 exact (Xba.mp hn) i j a1 a2 hj (e1.trans e2.symm)
inductive spWhoX (C CT:Addr)(cs:Nat→Addr)(vs:List V)(H:Hp)(Q:VK)(E:XK):Prop
 | mk (B:Bd) (D:Dt) (us:Nat→List Nat) (f:Nat) (x:Int) (z0_:vs=[.ref B.b,.int x]) (z1_:BdAt C B D H f) (z2_:Chs cs D H us) (z3_:x.natAbs<2 ^ 100) (z4_:((∃ n:Nat,x=(n:Int)∧n<2 ^ B.bits∧(whoI B us n=none→∀ H',Same H H'→Q .non H')∧∀ (i:Nat) (z:Addr×Rw),whoI B us n=some i→B.ws[i]? = some z→∀ (t:Addr) (H':Hp),H t=none→H' t=some (.tup [.int (i:Int),.int (gath z.2.i n:Int)])→Same H H'→Q (.ref t) H')∨((¬ (0≤x∧x<((2 ^ B.bits:Nat):Int)))∧∀ (dx:Addr) (H':Hp),H' dx=some (.ext (xDc dx [("address",.int x)]))→Same H H'→E (.ref CT) (some dx) H')))
theorem zhf {f:Addr}{C CT:Addr}{cs:Nat→Addr}{fd:FuncData}(F:Fun K "who" "Board.who" zdv f fd)(T:Blt mg)(cl:ClsBd K C)(Ganswering:Cal P w K mg base 2 "answering" ["rows","address","words"] spAnsw)(Gcell_at:Cal P w K mg base 3 "cell_at" ["row","address"] spCellR)
  (MX_check_address:MthX P w K mg base 3 C "check_address" [] (fun vs _=>vs) (spChkAdX C CT)) (MK2:Mth P w K mg base 5 (cs 2) "look" [] (fun vs _=>vs) (spL26 cs 2)):FnOk P w K mg base (CX1 P w) 6 f fd ["self","address"] (spWhoX C CT cs):=by
 refine F.okX scBoard_who (by walk_at "l") (fun cdv A outer s H vs Q E hr h=>?_)
 ·obtain ⟨B,D,us,f0,x0,rfl,hB,S,hx100,k⟩:=h
  refine ⟨_,(zab (zau (zji 3 ⟨rfl,rfl,rfl,rfl,rfl⟩ (hrm hr) (Passes.s zhu) (pv 0) (zaa (pv 1) zae)))
   (zab (zgZ (i:=2) (Nc:=["chip","self"]) [none,some 0] scBoard_who.nd rfl rfl rfl (zaX (by rfl)) (zcP (zaz (pv 0) rfl)) (fun _ _ _ _ _=>(pg_L 0 (show (["chip","self"]:List Str).Nodup by decide +kernel))) (fun _ _ _ _ _=>ze0) (fun _ _ _ _ _=>(pv 0)) (fun _ _ _ _ _=>(zaL 5 ⟨rfl,rfl,rfl,rfl,rfl⟩ (hrm hr) (pe_x (zfH (K:=K) rfl) (zmj (K:=K) rfl (pv 1) rfl) (pv 0)) (zaa zad zae))))
   (zab (PS.nox (ps_L 3 scBoard_who.nd (pe_c Ganswering (zaa (zaz (pv 0) rfl) (zaa (pv 1) (zaa (pv 2) zae))))))
   (zab (PS.nox (zay (zb9 (ze2 (pv 3))) (zaf (zam ze1)) zan))
   (zaf (PS.nox (zam (za7 (zaa (pv 3) (zaa (pe_c Gcell_at (zaa (pe_x zaA (zaz (pv 0) rfl) (pv 3)) (zaa (pv 1) zae))) zae)))))))))),?rd⟩
  obtain ⟨db,e⟩:=hB.e
  have hln:B.keys.length≤1000:=by
   have:=zhI D.m B.keys hB.kn fun a ha=>(hB.ks a ha).1
   have:=S.m1
   omega
  rcases k.symm with ⟨hn,k⟩ | ⟨x,rfl,hx,k1,k2⟩
  ·exact ⟨_,rfl,B.b,C,db,_,_,_,rfl,e,MX_check_address,rfl,_,rfl,B,D,f0,x0,rfl,hB,hx100,.inr ⟨hn,fun dx H' e1 s1=>k dx H' e1 s1⟩⟩
  refine ⟨_,rfl,B.b,C,db,_,_,_,rfl,e,MX_check_address,rfl,_,rfl,B,D,f0,(x:Int),rfl,hB,hx100,.inl ⟨by omega,by omega,?_⟩⟩
  refine ⟨_,rfl,B.b,C,db,_,_,rfl,e,cl.cls,cl.latches,rfl,B.la,rfl,⟨_,SqL.of hB.la⟩,?_⟩
  refine zix (K:=K) (xs:=vN B.keys) (fun j ys σ H1=>∃ v0,σ=[v0,some (.ref B.b)]∧ys.length=j∧dk ys=dV (B.keys.take j) (hld us)∧H1=H) (by rw [zaq];exact hln) ⟨none,rfl,rfl,rfl,rfl⟩ ?_ ?_ ?_
  ·rintro j ys σ H1 hj ⟨v0,rfl,hl,_,rfl⟩
   exact ⟨SqL.of hB.la,by omega⟩
  ·rintro j y ys σ H1 hy ⟨v0,rfl,hl,hd,rfl⟩
   obtain ⟨c,hc,rfl⟩:=ziN hy
   have hcm:=hB.ks c (Xay hc)
   obtain ⟨dx,ex⟩:=(S.o c hcm.1).ex
   have kk:=S.k c hcm.1
   have h1:=S.h1 c hcm.1 (.inl hcm.2)
   rw [hcm.2] at ex
   have oc:=S.o c hcm.1
   rw [hcm.2] at oc kk
   have hv:klk 2 (us c) 0=hld us c:=rfl
   refine ⟨_,rfl,Sum.inl (c:Int),rfl,_,rfl,B.b,C,db,_,_,rfl,e,cl.cls,cl.chips,rfl,_,rfl,B.L,_,_,_,rfl,rfl,SqL.of hB.ch,zaP (zeL hcm.1),D.x c,cs 2,dx,_,_,_,rfl,ex,MK2,lkn _,D.x c,D.p c,D.n c,0,us c,rfl,oc,kk,(by show 0<(us c).length;omega),?_⟩
   refine ⟨_,rfl,by rw [Xaq,hl];rfl,?_,rfl⟩
   rw [zjS,hd,hv]
   rw [dV_new (zkq hB.kn hc),List.take_succ,hc]
   unfold dV
   congr 1
   funext z
   show V.int ((if z=c then hld us c else hld us z:Nat):Int)=V.int (hld us z:Int)
   by_cases ez:z=c
   ·rw [if_pos ez,ez]
   ·rw [if_neg ez]
  ·rintro ys σ H1 ⟨v0,rfl,hl,hd,rfl⟩ d hdn
   rw [zaq,Xa8 (Xae _)] at hd
   rw [hd]
   have s1:=zah (H:=H1) (o:=HO.dK (dV B.keys (hld us))) hdn
   refine ⟨_,rfl,B.b,C,db,_,_,rfl,s1 _ _ e,cl.cls,cl.rows,rfl,_,rfl,_,rfl,B.R,d,x,B.ws,B.keys,hld us,rfl,s1 _ _ hB.rf.e,(fun z hz=>(hB.rf.r z hz).1.same s1),zac,fun H2 s2=>?_⟩
   have s12:=s1.trans s2
   cases hw:whoI B us x with
   | none =>
    have ef:fstA (B.ws.map (·.2)) x (wrd B.keys (hld us)) = .non:=by unfold fstA;rw [show List.findIdx? (fun r=>ans r x (wrd B.keys (hld us))) (B.ws.map (·.2))=none from hw]
    rw [ef]
    exact ⟨_,rfl,_,rfl,iteT (k1 hw H2 s12)⟩
   | some i =>
    have ef:fstA (B.ws.map (·.2)) x (wrd B.keys (hld us)) = .int (i:Int):=by unfold fstA;rw [show List.findIdx? (fun r=>ans r x (wrd B.keys (hld us))) (B.ws.map (·.2))=some i from hw]
    rw [ef]
    obtain ⟨q,hq⟩:∃ q,(B.ws.map (·.2))[i]? = some q:=by
     obtain ⟨hi,_⟩:=XbF.mp hw
     exact ⟨_,Xav hi⟩
    rw [Xat] at hq
    obtain ⟨z,hz,_⟩:=XaE.mp hq
    have hzm:=hB.rf.r z (Xay hz)
    have hzi:z.2.i<2 ^ 64:=Xak hzm.2.i0 (XaQ (by decide) (by have:=hB.b2;omega))
    refine ⟨_,rfl,_,rfl,iteF (zaw ?_)⟩
    try dsimp only
    refine ⟨_,rfl,_,rfl,B.b,C,db,_,_,rfl,s12 _ _ e,cl.cls,cl.rows,rfl,_,rfl,B.R,_,_,_,rfl,rfl,SqT.of (s12 _ _ hB.rf.e),zaP (zi6 hz),_,rfl,z.1,z.2,x,rfl,hzm.1.same s12,hzi,fun H3 s3=>⟨by rw [sizeLine_eq];simp,fun t ht=>?_⟩⟩
    have s13:=s12.trans s3
    exact k2 i z hw hz t _ (s13.free ht) zac (s13.trans (zah ht))
abbrev zbX:Stmt:=zav (top 58) 8
theorem zeQ:FnScope ["self"] ["self"] (zai zbX):=sck rfl rfl rfl (by decide +kernel)
inductive spFloats (C:Addr)(vs:List V)(H:Hp)(Q:VK)(u3_:XK):Prop
 | mk (B:Bd) (D:Dt) (f:Nat) (z0_:vs=[.ref B.b]) (z1_:BdAt C B D H f) (z2_:Q (.int (f:Int)) H)
theorem zeT {f:Addr}{C:Addr}{fd:FuncData}(F:Fun K "floats" "Board.floats" zbX f fd)(T:Blt mg)(cl:ClsBd K C):FnOk P w K mg base CX0 1 f fd ["self"] (spFloats C):=by
 refine F.ok zeQ (by walk_at "l") (fun cdv A outer s H vs Q E hr h=>?_)
 ·obtain ⟨B,D,f0,rfl,hB,k⟩:=h
  refine ⟨_,(zaf (zam (zaz (pv 0) rfl))),?rd⟩
  obtain ⟨db,e⟩:=hB.e
  exact ⟨_,rfl,B.b,C,db,_,_,rfl,e,cl.cls,cl.floating,rfl,k⟩
abbrev zbm:Stmt:=zav (top 57) 0
theorem zdM:FnScope ["self","mask","want","kind"] ["self","mask","want","kind"] (zai zbm):=sck rfl rfl rfl (by decide +kernel)
inductive spWtI (K:W.Frag)(C:Addr)(vs:List V)(H:Hp)(Q:VK)(u3_:XK):Prop
 | mk (a dx:Addr) (m u:Nat) (k:Str) (z0_:vs=[.ref a,.int (m:Int),.int (u:Int),.str k]) (z1_:H a=some (.ins C dx [])) (z2_:∀ (h:Addr) (H':Hp),H h=none→WaAt C H' ⟨a,h,m,u,k,[]⟩→(∀ b o,b≠a→H b=some o→H' b=some o)→Q .non H')
theorem zdT {f:Addr}{C:Addr}{fd:FuncData}(F:Fun K "__init__" "Watch.__init__" zbm f fd)(T:Blt mg)(cl:ClsWt K C):FnOk P w K mg base CX0 1 f fd ["self","mask","want","kind"] (spWtI K C):=by
 refine F.ok zdM (by walk_at "l") (fun cdv A outer s H vs Q E hr h=>?_)
 ·obtain ⟨a,dx,m,u,kd,rfl,ha,k⟩:=h
  refine ⟨_,(zab (zbe (pv 0) (pv 1) rfl)
   (zab (zbe (pv 0) (pv 2) rfl)
   (zab (zbe (pv 0) (pv 3) rfl)
   (zaf (zbe (pv 0) (zax zae) rfl))))),?rd⟩
  refine ⟨_,rfl,_,rfl,a,C,dx,_,rfl,ha,cl.cls,cl.mask,by show 0<1000;decide,?_⟩
  refine ⟨_,rfl,_,rfl,a,C,dx,_,rfl,zac,cl.cls,cl.want,by show 1<1000;decide,?_⟩
  refine ⟨_,rfl,_,rfl,a,C,dx,_,rfl,zac,cl.cls,cl.kind,by show 2<1000;decide,?_⟩
  refine ⟨by show 0≤sizeLine;decide,fun h hh=>?_⟩
  have nha:h≠a:=fun z=>by rw [z,zac] at hh;cases hh
  refine ⟨_,rfl,a,C,dx,_,rfl,by rw [zag (Ne.symm nha)];exact zac,cl.cls,cl.heard,by show 3<1000;decide,?_⟩
  rw [zag nha,zag nha,zag nha] at hh
  refine k h _ hh ⟨⟨dx,zac⟩,⟨[],by rw [zag nha];exact zac,rfl,fun i t d e=>by cases e⟩,Nat.zero_le _⟩ fun b o hb e=>?_
  rw [zag hb,zag (zaj e hh),zag hb,zag hb,zag hb]
  exact e
abbrev zcI:Stmt:=zav (top 57) 1
theorem zfV:FnScope ["self","kind","address","word"] ["self","kind","address","word"] (zai zcI):=sck rfl rfl rfl (by decide +kernel)
theorem zgc {f:Addr}{C:Addr}{fd:FuncData}(F:Fun K "hear" "Watch.hear" zcI f fd)(T:Blt mg)(N:Nums mg)(cl:ClsWt K C):FnOk P w K mg base CX0 1 f fd ["self","kind","address","word"] (spHear C):=by
 refine F.ok zfV (by walk_at "l") (fun cdv A outer s H vs Q E hr h=>?_)
 ·obtain ⟨z,kd,a,v,rfl,hz,hn,k⟩:=h
  refine ⟨_,(zaf (zay (PW.pt (zi9 (zas (zia (K:=K) rfl) (zaz (pv 0) rfl) (za7 (zaa (zb2 rfl N.BOTH) (zaa (pv 1) zae))) (by with_unfolding_all rfl)) (zgY (zas zby (zak zaW (pv 2) (zaz (pv 0) rfl)) (zaz (pv 0) rfl) (zat _))))) (zaf (zau (zdy PySem.F.plainAttrs_list PySem.F.slot_list_append PySem.F.type_list_append zaN (zaz (pv 0) rfl) (zaa (za7 (zaa (pv 1) (zaa (pv 2) (zaa (pv 3) zae)))) zae)))) zan)),?rd⟩
  obtain ⟨dx,e⟩:=hz.e
  obtain ⟨ts,el,et,ed⟩:=hz.l
  have off:∀ X,Same H X→z.on kd a=false→Q .non X:=fun X s h=>k X (by unfold Wa.hear;rw [h];exact hz.keep (fun a o _ _ q=>s _ _ q) (fun o q=>s _ _ q)) fun b o _ q=>s _ _ q
  refine ⟨_,rfl,z.x,C,dx,_,_,rfl,e,cl.cls,cl.kind,rfl,_,rfl,by show 2≤sizeLine;decide,fun t ht=>⟨t,_,rfl,.inr (SqT.of zac),rfl,rfl,_,rfl,?_⟩⟩
  have s1:=zah (o:=.tup [.str "both",.str kd]) ht
  have e1:=s1 _ _ e
  have ei:inV (V.str z.k) [.str "both",.str kd]=(decide (z.k = "both") || decide (z.k=kd)):=by
   show (decide (("both" : Str)=z.k) || (decide (kd=z.k) || false))=_
   rw [Bool.or_false,show decide (("both" : Str)=z.k)=decide (z.k = "both") from Xbp.mpr ⟨Eq.symm,Eq.symm⟩,show decide (kd=z.k)=decide (z.k=kd) from Xbp.mpr ⟨Eq.symm,Eq.symm⟩]
  refine ite2 (fun h1=>?_) (fun h1=>?_)
  ·have h1:(decide (z.k = "both") || decide (z.k=kd))=true:=ei ▸ h1
   refine ⟨_,rfl,_,rfl,z.x,C,dx,_,_,rfl,e1,cl.cls,cl.mask,rfl,_,_,rfl,rfl,_,rfl,z.x,C,dx,_,_,rfl,e1,cl.cls,cl.want,rfl,rfl,_,rfl,ite2 (fun h2=>?_) (fun h2=>?_)⟩
   ·have h2:decide (V.int (Builtin.bitAnd (a:Int) (z.m:Int))=V.int (z.w:Int))=true:=h2
    rw [band] at h2
    have h3:a &&& z.m=z.w:=Int.ofNat.inj (V.int.inj (Xa2 h2))
    have eon:z.on kd a=true:=by unfold Wa.on;rw [h1,Xah h3];rfl
    refine ⟨_,rfl,z.x,C,dx,_,_,rfl,e1,cl.cls,cl.heard,rfl,.inl ⟨rfl,_,SqL.of (s1 _ _ el)⟩,_,rfl,_,rfl,_,rfl,by show 3≤sizeLine;decide,fun u hu=>?_⟩
    have s2:=s1.trans (zah (o:=.tup [.str kd,.int (a:Int),.int (v:Int)]) hu)
    have nh:∀ (b:Addr) (o:HO),(∀ l,o≠.lst l)→H b=some o→b≠z.h:=fun b o ho q r=>by rw [r,el] at q;exact ho _ (Option.some.inj q).symm
    have nu:u≠z.h:=fun r=>by rw [r,s1 _ _ el] at hu;cases hu
    refine ⟨z.h,_,_,rfl,rfl,s2 _ _ el,by rw [Xaf,et,sizeLine_eq];omega,k _ ?_ fun b o h q=>by rw [zag h];exact s2 _ _ q⟩
    unfold Wa.hear
    rw [eon,if_pos rfl]
    refine ⟨⟨dx,by rw [zag (nh _ _ (fun l r=>by cases r) e)];exact s2 _ _ e⟩,⟨ts ++ [u],by rw [zac,XaH];rfl,by show _=(z.hs ++ [(kd,a,v)]).length;rw [Xaq,Xaq,et];rfl,fun i t d h4 h5=>?_⟩,by show (z.hs ++ [(kd,a,v)]).length≤_;rw [Xaq];exact hn⟩
    have h5:(z.hs ++ [(kd,a,v)])[i]? = some d:=h5
    by_cases hi:i<ts.length
    ·rw [List.getElem?_append_left hi] at h4
     rw [List.getElem?_append_left (by omega)] at h5
     have q:=ed i t d h4 h5
     rw [zag (nh _ _ (fun l r=>by cases r) q)]
     exact s2 _ _ q
    ·rw [List.getElem?_append_right (by omega)] at h4
     rw [List.getElem?_append_right (by omega),← et] at h5
     cases hj:i - ts.length with
     | zero =>
      rw [hj] at h4 h5
      cases h4
      cases h5
      rw [zag nu]
      exact zac
     | succ j=>rw [hj] at h4;cases h4
   ·refine zaw (off _ s1 ?_)
    unfold Wa.on
    rw [Xai (p:=a &&& z.m=z.w) (fun q=>h2 ?_),XbG]
    show decide (V.int (Builtin.bitAnd (a:Int) (z.m:Int))=V.int (z.w:Int))=true
    rw [band,q]
    exact Xah rfl
  ·refine iteF (zaw (off _ s1 ?_))
   unfold Wa.on
   rw [← ei]
   exact (congrArg (· && _) (eq_false_of_ne_true h1)).trans rfl
abbrev zbK:Stmt:=zav (top 58) 7
theorem zel:FnScope ["self","number"] ["self","number"] (zai zbK):=sck rfl rfl rfl (by decide +kernel)
theorem zez {f:Addr}{C:Addr}{fd:FuncData}(F:Fun K "chip_of" "Board.chip_of" zbK f fd)(T:Blt mg)(cl:ClsBd K C):FnOk P w K mg base CX0 1 f fd ["self","number"] (spChipOf C):=by
 refine F.ok zel (by walk_at "l") (fun cdv A outer s H vs Q E hr h=>?_)
 ·obtain ⟨B,D,f0,i,z,rfl,hB,hz,k⟩:=h
  refine ⟨_,(zaf (zam (pe_x zal (zaz (pv 0) rfl) (pe_x zaA (pe_x zaA (zaz (pv 0) rfl) (pv 1)) zad)))),?rd⟩
  obtain ⟨db,e⟩:=hB.e
  have hm:=Xay hz
  obtain ⟨lt,et,_⟩:=(hB.rf.r z hm).1
  exact ⟨_,rfl,B.b,C,db,_,_,rfl,e,cl.cls,cl.chips,rfl,_,rfl,B.b,C,db,_,_,rfl,e,cl.cls,cl.rows,rfl,_,rfl,B.R,_,_,_,rfl,rfl,SqT.of hB.rf.e,zaP (zi6 hz),z.1,_,_,_,rfl,rfl,SqT.of et,rfl,B.L,_,_,_,rfl,rfl,SqL.of hB.ch,zaP (zeL (hB.rf.f z hm).1),k⟩
abbrev zbY:Stmt:=zav (top 58) 4
theorem scBoard_finish:FnScope ["self","kind","address","word","watch"] ["self","kind","address","word"] (zai zbY):=sck rfl rfl rfl (by decide +kernel)
theorem zeU {f:Addr}{C CW:Addr}{fd:FuncData}(F:Fun K "finish" "Board.finish" zbY f fd)(T:Blt mg)(cl:ClsBd K C)(M_hear:Mth P w K mg base 1 CW "hear" [] (fun vs _=>vs) (spHear CW)):FnOk P w K mg base CX0 2 f fd ["self","kind","address","word"] (spFinish C CW):=by
 refine F.ok scBoard_finish (by walk_at "l") (fun cdv A outer s H vs Q E hr h=>?_)
 ·obtain ⟨B,D,f0,kind,x,v,wl,rfl,hB,hn,hv,k⟩:=h
  refine ⟨_,(zab (zbe (pv 0) (pv 3) rfl)
   (zaf (zl8 (zbO PassesOwn.never rfl (zmc (zf2 PySem.F.plainAttrs_dict PySem.F.slot_dict_values PySem.F.type_dict_values zjv (zaz (pv 0) rfl))) (pg_L 4 scBoard_finish.nd)
   (zaf (zau (zaL 1 ⟨rfl,rfl,rfl,rfl,rfl⟩ (hrm hr) (pv 4) (zaa (pv 1) (zaa (pv 2) (zaa (pv 3) zae)))))))))),?rd⟩
  obtain ⟨db,e⟩:=hB.b.e
  refine ⟨_,rfl,_,rfl,B.b,C,db,_,rfl,e,cl.cls,cl.floating,(by unfold bdF;simp),?_⟩
  have b1:BdAt C B D (upd H B.b (.ins C db (bdF B v))) v:=hB.b.fl hv
  have w1:WsAt B.W CW (upd H B.b (.ins C db (bdF B v))) wl:=hB.w.keep (fun a o ho q=>by rw [zag (fun z=>by rw [z,e] at q;exact ho.2.2 _ _ _ _ (Option.some.inj q).symm)];exact q) (fun z hz o q=>by rw [zag (fun y=>by obtain ⟨ts,el,_⟩:=(hB.w.o z hz).l;rw [y,e] at el;cases el)];exact q)
  have fr1:∀ a o,a≠B.b→H a=some o→upd H B.b (.ins C db (bdF B v)) a=some o:=fun a o h q=>by rw [zag h];exact q
  have e1:upd H B.b (.ins C db (bdF B v)) B.b=some (.ins C db (bdF B v)):=zac
  have ew:=w1.d
  refine zfN (fun Y=>BdAt C B D Y v∧WsAt B.W CW Y wl∧(∀ a o,a≠B.b→H a=some o→Y a=some o)∧Y B.b=some (.ins C db (bdF B v))) ⟨b1,w1,fr1,e1⟩ fun Y ⟨b1,w1,fr1,e1⟩=>?_
  have nl:∀ z∈wl,∀ (X:Hp) (y:Wa),WaAt CW X y→y.h=z.2.h→∀ (a:Addr) (o:HO),(∀ l,o≠.lst l)→X a=some o→a≠z.2.h:=fun z hz X y hy ey a o ho q r=>by
   obtain ⟨ts,el,_⟩:=hy.l
   rw [ey] at el
   rw [r,el] at q
   exact ho _ (Option.some.inj q).symm
  refine ⟨B.W,_,w1.d,_,rfl,B.b,C,db,_,_,rfl,e1,cl.cls,cl.watches,rfl,.inr (.inr (.inl ⟨rfl,.inl ⟨_,w1.d⟩⟩)),B.W,_,rfl,rfl,w1.d,fun p hp=>⟨p,B.W,_,rfl,zac,zah hp _ _ w1.d,fun q=>?_⟩⟩
  have npW:p≠B.W:=fun z=>by rw [z,w1.d] at hp;cases hp
  have sp:∀ a o,a≠B.W→Y a=some o→upd (upd Y p (.ext (vwV p B.W))) B.W (.frz q (.dK (wl.map fun z=>(Sum.inl (z.1:Int),V.ref z.2.x)))) a=some o:=fun a o h y=>by rw [zag h];exact zah hp _ _ y
  refine zk0 (a:=B.W) (q:=q) (kvs:=wl.map fun z=>(Sum.inl (z.1:Int),V.ref z.2.x)) (fun i σ X=>∃ v4,σ=[some (.ref B.b),some (.str kind),some (.int (x:Int)),some (.int (v:Int)),v4]∧X B.W=some (.frz q (.dK (wl.map fun z=>(Sum.inl (z.1:Int),V.ref z.2.x))))∧(∀ (j:Nat) (z:Nat×Wa),wl[j]? = some z→WaAt CW X (if j<i then z.2.hear kind x v else z.2))∧∀ a o,a≠B.W→(∀ z∈wl,a≠z.2.h)→Y a=some o→X a=some o) ⟨_,rfl,zac,fun j z hz=>?_,fun a o h _ y=>sp a o h y⟩ (fun i σ X _ ⟨_,_,h,_⟩=>h) ?_ ?_
  ·rw [if_neg (Xbu _)]
   have wz:=w1.o z (Xay hz)
   exact wz.keep (fun a o _ hd y=>sp _ _ (fun r=>by rw [r,w1.d] at y;exact hd _ (Option.some.inj y).symm) y) (fun o y=>sp _ _ (fun r=>by obtain ⟨ts,el,_⟩:=wz.l;rw [r,w1.d] at el;cases el) y)
  ·rintro i k0 y σ X hk ⟨v4,rfl,eW,hw,fr⟩
   rw [Xat] at hk
   obtain ⟨z,hz,ez⟩:=XaE.mp hk
   obtain ⟨rfl,rfl⟩:=Prod.mk.inj ez
   have hm:=Xay hz
   have wz:=hw i z hz
   rw [if_neg (XaR _)] at wz
   obtain ⟨dx,ex⟩:=wz.e
   refine ⟨_,rfl,z.2.x,CW,dx,_,_,_,rfl,ex,M_hear,rfl,_,rfl,_,rfl,_,rfl,z.2,kind,x,v,rfl,wz,hn z hm,fun X' hz' fr'=>?_⟩
   have nz:∀ (a:Addr) (o:HO),(∀ l,o≠.lst l)→X a=some o→a≠z.2.h:=nl z hm X z.2 wz rfl
   refine ⟨_,rfl,fr' _ _ (nz _ _ (fun l r=>by cases r) eW) eW,fun j y hy=>?_,fun a o h1 h2 q=>fr' _ _ (h2 z hm) (fr a o h1 h2 q)⟩
   by_cases ej:j=i
   ·subst ej
    rw [hz] at hy
    cases hy
    rw [if_pos (XaZ _)]
    exact hz'
   ·have wy:=hw j y hy
    have eq:(if j<i+1 then y.2.hear kind x v else y.2)=(if j<i then y.2.hear kind x v else y.2):=by
     by_cases h:j<i
     ·rw [if_pos h,if_pos (by omega)]
     ·rw [if_neg h,if_neg (by omega)]
    rw [eq]
    have eh:(if j<i then y.2.hear kind x v else y.2).h=y.2.h:=by
     split
     ·exact (Wa.hear_h _ _ _ _).1
     ·rfl
    refine wy.keep (fun a o ho _ q=>fr' _ _ (nz _ _ ho.1 q) q) (fun o q=>fr' _ _ (fun r=>ej ?_) q)
    rw [eh] at r
    obtain ⟨h1,h2⟩:=Xag.mp hy
    obtain ⟨h3,h4⟩:=Xag.mp hz
    refine (List.getElem_inj (xs:=wl.map fun z=>z.2.h) (h₀:=by rw [Xaf];exact h1) (h₁:=by rw [Xaf];exact h3) hB.w.i).mp ?_
    rw [Xbi,Xbi,h2,h4]
    exact r
  ·rintro σ X ⟨v4,rfl,eW,hw,fr⟩
   rw [Xaf] at hw
   have frZ:∀ a o,(∀ z∈wl,a≠z.2.h)→Y a=some o→upd X B.W (.dK (wl.map fun z=>(Sum.inl (z.1:Int),V.ref z.2.x))) a=some o:=fun a o h y=>by
    by_cases r:a=B.W
    ·rw [r] at y ⊢
     rw [zac,← w1.d]
     exact y
    ·rw [zag r];exact fr a o r h y
   have ndl:∀ z∈wl,∀ (a:Addr) (o:HO),(∀ l,o≠.lst l)→Y a=some o→a≠z.2.h:=fun z hz a o ho y=>nl z hz Y z.2 (w1.o z hz) rfl a o ho y
   refine ⟨q,eW,k _ ⟨b1.lists (fun a o ho y=>frZ a o (fun z hz=>ndl z hz a o ho y) y) (frZ _ _ (fun z hz=>Ne.symm (hB.nh z hz).1) b1.ch) (frZ _ _ (fun z hz=>Ne.symm (hB.nh z hz).2.1) b1.la),⟨?_,fun z hz=>?_,?_,?_,?_⟩,fun z hz=>?_⟩ fun a o h1 h2 y=>frZ a o h2 (fr1 a o h1 y)⟩
   ·rw [zgK (fun n _ x=>((Sum.inl (n:Int):Key),V.ref x)),zac]
   ·unfold wsH at hz
    obtain ⟨y,hy,rfl⟩:=XaC.mp hz
    obtain ⟨j,hj,ej⟩:=List.mem_iff_getElem.mp hy
    have wy:=hw j y (Xag.mpr ⟨hj,ej⟩)
    rw [if_pos hj] at wy
    refine wy.keep (fun a o ho _ r=>?_) (fun o r=>?_)
    ·rw [zag (fun g=>by rw [g,eW] at r;exact ho.2.1 _ _ (Option.some.inj r).symm)];exact r
    ·rw [zag (fun g=>by rw [g,eW] at r;obtain ⟨ts,el,_⟩:=wy.l;rw [g,eW] at el;cases el)];exact r
   ·rw [zgK (fun _ h _=>h)];exact hB.w.i
   ·rw [zgK (fun _ _ x=>x)];exact hB.w.x
   ·unfold wsH;rw [Xaf];exact hB.w.m
   ·unfold wsH at hz
    obtain ⟨y,hy,rfl⟩:=XaC.mp hz
    show (y.2.hear kind x v).h≠_∧(y.2.hear kind x v).h≠_∧∀ i,i<D.m→(y.2.hear kind x v).h≠_
    rw [(Wa.hear_h _ _ _ _).1]
    exact hB.nh y hy
abbrev zcN:Stmt:=zav (top 58) 2
theorem scBoard_read:FnScope ["self","address","quiet","found","word","number","cell","chip"] ["self","address","quiet"] (zai zcN):=sck rfl rfl rfl (by decide +kernel)
def rdW (B:Bd)(D:Dt)(us:Nat→List Nat)(f x:Nat):Nat:=match whoI B us x with
 | none=>f
 | some i=>match B.ws[i]? with
  | none=>f
  | some z=>klk (D.kd z.2.c) (us z.2.c) (gath z.2.i x)
def rdU (B:Bd)(D:Dt)(us:Nat→List Nat)(x:Nat):Nat→List Nat:=match whoI B us x with
 | none=>us
 | some i=>match B.ws[i]? with
  | none=>us
  | some z=>wset us z.2.c (krd (D.kd z.2.c) (us z.2.c) (gath z.2.i x))
def wrU (B:Bd)(D:Dt)(us:Nat→List Nat)(x v:Nat):Nat→List Nat:=match whoI B us x with
 | none=>us
 | some i=>match B.ws[i]? with
  | none=>us
  | some z=>wset us z.2.c (kwr (D.kd z.2.c) (D.n z.2.c) (us z.2.c) (gath z.2.i x) v)
theorem BdAt.put {C:Addr}{B:Bd}{D:Dt}{Y Z:Hp}{f i:Nat}{l:List V}(h:BdAt C B D Y f)(hi:i<D.m)(hp:Y (D.p i)=some (.lst l))(k:∀ b,b≠D.p i→Z b=Y b):BdAt C B D Z f:=by
 obtain ⟨db,e⟩:=h.e
 have ne:∀ {a:Addr} {o:HO},Y a=some o→(∀ x,o≠.lst x)→Z a=some o:=fun {a o} ea ho=>by
  rw [k a (fun z=>by rw [z,hp] at ea;exact ho _ (Option.some.inj ea).symm)];exact ea
 refine ⟨⟨db,ne e (by intros;exact (fun z=>by cases z))⟩,h.b1,h.b2,⟨ne h.rf.e (by intros;exact (fun z=>by cases z)),(fun z hz=>?_),h.rf.f,h.rf.nc,h.rf.ln⟩,(by rw [k _ (h.nl i hi).1];exact h.ch),(by rw [k _ (h.nl i hi).2];exact h.la),h.kl,h.ks,h.kn,h.f0,h.nl⟩
 obtain ⟨⟨lt,et,hlt⟩,ok⟩:=h.rf.r z hz
 refine ⟨⟨lt,ne et (by intros;exact (fun z=>by cases z)),?_⟩,ok⟩
 cases hl:z.2.l with
 | none=>rw [hl] at hlt;exact hlt
 | some o =>
  rw [hl] at hlt
  obtain ⟨u,eu,hu⟩:=hlt
  exact ⟨u,eu,ne hu (by intros;exact (fun z=>by cases z))⟩
theorem zke {cs:Nat→Addr}{C:Addr}{B:Bd}{D:Dt}{Y:Hp}{f:Nat}{us:Nat→List Nat}(S:Chs cs D Y us)(h:BdAt C B D Y f):∀ i,i<D.m→D.x i≠B.b:=fun i hi z=>by
 obtain ⟨dx,ex⟩:=(S.o i hi).ex
 obtain ⟨db,e⟩:=h.e
 rw [z,e] at ex
 have:=Option.some.inj ex
 injection this with _ _ h3
 unfold bdF at h3
 have h4:=(List.cons.inj h3).1
 exact absurd (congrArg Prod.fst h4) (by show ("bits" : Str) ≠ "head"; decide)
set_option tactic.hygienic true in
theorem klk_le {kd n c:Nat}{ws:List Nat}(k:Kd kd n ws)(hl:ws.length≤255∨kd≠4):klk kd ws c≤255:=by
 unfold klk
 have hw:∀ v,v∈ws→v≤255:=k.w5
 split
 ·rename_i e4
  split
  ·have:=(k.pi e4).1;have:=k.n2;omega
  ·cases ws with
   | nil=>exact Nat.zero_le _
   | cons a l=>exact hw a XaB
 ·rw [Xby]
  cases h:ws[c]? with
  | none=>exact Nat.zero_le _
  | some v=>exact hw v (Xay h)
theorem BW.put {C CW:Addr}{B:Bd}{D:Dt}{Y Z:Hp}{f i:Nat}{l:List V}{wl:List (Nat×Wa)}(h:BW C CW B D Y f wl)(hi:i<D.m)(hp:Y (D.p i)=some (.lst l))(k:∀ b,b≠D.p i→Z b=Y b):BW C CW B D Z f wl:=
 ⟨h.b.put hi hp k,h.w.keep (fun a o ho e=>by rw [k a (fun q=>by rw [q,hp] at e;exact ho.1 _ (Option.some.inj e).symm)];exact e) (fun z hz o e=>by rw [k _ ((h.nh z hz).2.2 i hi)];exact e),h.nh⟩
def FrW (b:Addr)(wl:List (Nat×Wa))(D:Dt)(Y Z:Hp):Prop:=∀ a o,a≠b→(∀ z∈wl,a≠z.2.h)→(∀ i,i<D.m→a≠D.p i)→Y a=some o→Z a=some o
theorem FrW.trans {b:Addr}{wl:List (Nat×Wa)}{D:Dt}{X Y Z:Hp}(h:FrW b wl D X Y)(k:FrW b wl D Y Z):FrW b wl D X Z:=fun a o h1 h2 h3 e=>k a o h1 h2 h3 (h a o h1 h2 h3 e)
theorem FrW.of {b:Addr}{wl:List (Nat×Wa)}{D:Dt}{X Y:Hp}(h:Same X Y):FrW b wl D X Y:=fun a o _ _ _ e=>h a o e
theorem Chs.bw {cs:Nat→Addr}{C CW:Addr}{B:Bd}{D:Dt}{Y Z:Hp}{f:Nat}{us:Nat→List Nat}{wl:List (Nat×Wa)}(S:Chs cs D Y us)(h:BW C CW B D Y f wl)(k:∀ a o,a≠B.b→(∀ z∈wl,a≠z.2.h)→Y a=some o→Z a=some o):Chs cs D Z us:=by
 refine ⟨fun i hi=>?_,S.k,S.h1,S.z,S.inj,S.m1⟩
 obtain ⟨dx,ex⟩:=(S.o i hi).ex
 obtain ⟨db,e⟩:=h.b.e
 exact ⟨⟨dx,k _ _ (zke S h.b i hi) (fun z hz q=>by obtain ⟨ts,e2,_⟩:=(h.w.o z hz).l;rw [q,e2] at ex;cases ex) ex⟩,k _ _ (fun z=>by have:=(S.o i hi).ls;rw [z,e] at this;cases this) (fun z hz=>Ne.symm ((h.nh z hz).2.2 i hi)) (S.o i hi).ls⟩
inductive spRdX (C CT CW:Addr)(cs:Nat→Addr)(vs:List V)(H:Hp)(Q:VK)(E:XK):Prop
 | mk (B:Bd) (D:Dt) (us:Nat→List Nat) (f:Nat) (y:Int) (q:Bool) (wl:List (Nat×Wa)) (z0_:vs=[.ref B.b,.int y,.bl q]) (z1_:BW C CW B D H f wl) (z2_:(∀ z∈wl,z.2.hs.length<1000000)) (z3_:Chs cs D H us) (z4_:y.natAbs<2 ^ 100) (z5_:((∃ x:Nat,y=(x:Int)∧x<2 ^ B.bits∧(q=true→∀ H',Same H H'→Q (.int (rdW B D us f x:Int)) H')∧(q=false→∀ H',BW C CW B D H' (rdW B D us f x) (wsH "read" x (rdW B D us f x) wl)→Chs cs D H' (rdU B D us x)→FrW B.b wl D H H'→Q (.int (rdW B D us f x:Int)) H'))∨((¬ (0≤y∧y<((2 ^ B.bits:Nat):Int)))∧∀ (dx:Addr) (H':Hp),H' dx=some (.ext (xDc dx [("address",.int y)]))→Same H H'→E (.ref CT) (some dx) H')))
theorem zgf {f:Addr}{C CT CW:Addr}{cs:Nat→Addr}{fd:FuncData}{dV:Value}(F:FunD K "read" "Board.read" zcN dV f fd)(T:Blt mg)(N:Nums mg)(cl:ClsBd K C)
  (MX_who:MthX P w K mg base 6 C "who" [] (fun vs _=>vs) (spWhoX C CT cs)) (M_chip_of:Mth P w K mg base 1 C "chip_of" [] (fun vs _=>vs) (spChipOf C)) (M_finish:Mth P w K mg base 2 C "finish" [] (fun vs _=>vs) (spFinish C CW)) (MK:∀ kd,kd<5→Mth P w K mg base 5 (cs kd) "look" [] (fun vs _=>vs) (spL26 cs kd)) (MR:∀ kd,kd<5→Mth P w K mg base 5 (cs kd) "read" [] (fun vs _=>vs) (spR26 cs kd)):FnOk P w K mg base (CX1 P w) 7 f fd ["self","address","quiet"] (spRdX C CT CW cs):=by
 refine F.okX scBoard_read (by walk_at "l") (fun cdv A outer s H vs Q E hr h=>?_)
 ·obtain ⟨B,D,us,f0,x0,q,wl,rfl,hW,hn1,S,hx100,k⟩:=h
  have hB:=hW.b
  refine ⟨_,(zab (ps_L 3 scBoard_read.nd (zji 6 ⟨rfl,rfl,rfl,rfl,rfl⟩ (hrm hr) (Passes.s zhu) (pv 0) (zaa (pv 1) zae)))
   (zab (PS.nox (ps_L 4 scBoard_read.nd (zaz (pv 0) rfl)))
   (zab (PS.nox (zay (zb9 (zcR (pv 3))) (zab (zbP (pv 3) (zbu rfl (zao (pg_L 5 scBoard_read.nd) (zao (pg_L 6 scBoard_read.nd) zaV))))
   (zab (ps_L 7 scBoard_read.nd (zaL 1 ⟨rfl,rfl,rfl,rfl,rfl⟩ (hrm hr) (pv 0) (zaa (pv 5) zae)))
   (zaf (ps_L 4 scBoard_read.nd (zhD (zaG (pv 2)) (zaL 5 ⟨rfl,rfl,rfl,rfl,rfl⟩ (hrm hr) (pv 7) (zaa (pv 6) zae)) (zaL 5 ⟨rfl,rfl,rfl,rfl,rfl⟩ (hrm hr) (pv 7) (zaa (pv 6) zae))))))) zan))
   (zab (PS.nox (zay (zaK (zaG (pv 2))) (zaf (zau (zaL 2 ⟨rfl,rfl,rfl,rfl,rfl⟩ (hrm hr) (pv 0) (zaa (zb2 rfl N.READ) (zaa (pv 1) (zaa (pv 4) zae)))))) zan))
   (zaf (PS.nox (zam (pv 4)))))))),?rd⟩
  obtain ⟨db,e⟩:=hB.e
  rcases k.symm with ⟨hn,k⟩ | ⟨x,rfl,hx,k1,k2⟩
  ·exact ⟨_,rfl,B.b,C,db,_,_,_,rfl,e,MX_who,rfl,_,rfl,B,D,us,f0,x0,rfl,hB,S,hx100,.inr ⟨hn,fun dx H' e1 s1=>k dx H' e1 s1⟩⟩
  refine ⟨_,rfl,B.b,C,db,_,_,_,rfl,e,MX_who,rfl,_,rfl,B,D,us,f0,(x:Int),rfl,hB,S,hx100,.inl ⟨x,rfl,hx,fun hw H1 s1=>?_,fun i z hw hz t H1 ht et s1=>?_⟩⟩
  ·have hW1:=hW.same s1
   have hB1:=hW1.b
   have S1:=S.same s1
   obtain ⟨d1,e1⟩:=hB1.e
   have ev:rdW B D us f0 x=f0:=by unfold rdW;rw [hw]
   have eu:rdU B D us x=us:=by unfold rdU;rw [hw]
   rw [ev] at k1 k2
   rw [eu] at k2
   refine ⟨_,rfl,B.b,C,d1,_,_,rfl,e1,cl.cls,cl.floating,rfl,?_⟩
   refine ⟨_,rfl,_,rfl,iteF (zaw ?_)⟩
   try dsimp only
   cases q with
   | true=>exact ⟨_,rfl,_,rfl,iteF (zaw ⟨_,rfl,k1 rfl H1 s1⟩)⟩
   | false =>
    refine ⟨_,rfl,_,rfl,iteT ⟨_,rfl,B.b,C,d1,_,_,_,rfl,e1,M_finish,rfl,_,rfl,_,rfl,?_⟩⟩
    refine ⟨B,D,f0,"read",x,f0,wl,rfl,hW1,hn1,hB.f0,fun H2 hB2 k'=>?_⟩
    exact ⟨_,rfl,k2 rfl H2 hB2 (S1.bw hW1 k') ((FrW.of s1).trans fun a o h1 h2 _ ea=>k' a o h1 h2 ea)⟩
  ·have hW1:=hW.same s1
   have hB1:=hW1.b
   have S1:=S.same s1
   obtain ⟨d1,e1⟩:=hB1.e
   have hm:=Xay hz
   obtain ⟨f1,f2,f3⟩:=hB.rf.f z hm
   have oc:=S1.o _ f1
   have kc:=S1.k _ f1
   have hcell:gath z.2.i x<ksize (D.kd z.2.c) (us z.2.c):=by rw [S.z _ f1];exact Xak (zjM _ _) f2
   have ev:rdW B D us f0 x=klk (D.kd z.2.c) (us z.2.c) (gath z.2.i x):=by unfold rdW;rw [hw];dsimp only;rw [hz]
   have eu:rdU B D us x=wset us z.2.c (krd (D.kd z.2.c) (us z.2.c) (gath z.2.i x)):=by unfold rdU;rw [hw];dsimp only;rw [hz]
   rw [ev] at k1 k2
   rw [eu] at k2
   have hv:=klk_le (c:=gath z.2.i x) kc (if e4:D.kd z.2.c=4 then .inl (by have:=(kc.pi e4).1;have:=kc.n2;omega) else .inr e4)
   obtain ⟨dx,ex⟩:=oc.ex
   refine ⟨_,rfl,B.b,C,d1,_,_,rfl,e1,cl.cls,cl.floating,rfl,?_⟩
   refine ⟨_,rfl,_,rfl,iteT ?_⟩
   refine ⟨_,rfl,zhP et ?_⟩
   refine ⟨_,rfl,B.b,C,d1,_,_,_,rfl,e1,M_chip_of,rfl,_,rfl,B,D,f0,i,z,rfl,hB1,hz,?_⟩
   cases q with
   | true =>
    refine ⟨_,rfl,_,rfl,iteT ⟨_,rfl,D.x z.2.c,cs (D.kd z.2.c),dx,_,_,_,rfl,ex,MK _ kc.k5,lkn _,_,rfl,_,_,_,_,_,rfl,oc,kc,hcell,?_⟩⟩
    exact ⟨_,rfl,_,rfl,iteF (zaw ⟨_,rfl,k1 rfl H1 s1⟩)⟩
   | false =>
    refine ⟨_,rfl,_,rfl,iteF ⟨_,rfl,D.x z.2.c,cs (D.kd z.2.c),dx,_,_,_,rfl,ex,MR _ kc.k5,lkn _,_,rfl,_,_,_,_,_,rfl,oc,kc,hcell,fun H2 e2 kp=>?_⟩⟩
    have hW2:=hW1.put f1 oc.ls kp
    have S2:=S1.put f1 kc.rd (kz_rd _ _ kc) e2 kp
    obtain ⟨d2,e2b⟩:=hW2.b.e
    refine ⟨_,rfl,_,rfl,iteT ⟨_,rfl,B.b,C,d2,_,_,_,rfl,e2b,M_finish,rfl,_,rfl,_,rfl,?_⟩⟩
    refine ⟨B,D,f0,"read",x,_,wl,rfl,hW2,hn1,hv,fun H3 hB3 k'=>?_⟩
    exact ⟨_,rfl,k2 rfl H3 hB3 (S2.bw hW2 k') ((FrW.of s1).trans (FrW.trans (fun a o h1 h2 h3 ea=>by rw [kp a (h3 _ f1)];exact ea) fun a o h1 h2 _ ea=>k' a o h1 h2 ea))⟩
abbrev zci:Stmt:=zav (top 58) 3
theorem scBoard_write:FnScope ["self","address","word","found","number","cell"] ["self","address","word"] (zai zci):=sck rfl rfl rfl (by decide +kernel)
inductive spWrB (C CW:Addr)(cs:Nat→Addr)(vs:List V)(H:Hp)(Q:VK)(u3_:XK):Prop
 | mk (B:Bd) (D:Dt) (us:Nat→List Nat) (f x v:Nat) (wl:List (Nat×Wa)) (z0_:vs=[.ref B.b,.int (x:Int),.int (v:Int)]) (z1_:BW C CW B D H f wl) (z2_:(∀ z∈wl,z.2.hs.length<1000000)) (z3_:Chs cs D H us) (z4_:x<2 ^ B.bits) (z5_:v≤255) (z6_:∀ H',BW C CW B D H' v (wsH "write" x v wl)→Chs cs D H' (wrU B D us x v)→FrW B.b wl D H H'→Q .non H')
theorem zfB {f:Addr}{C CT CW:Addr}{cs:Nat→Addr}{fd:FuncData}(F:Fun K "write" "Board.write" zci f fd)(T:Blt mg)(N:Nums mg)(Gcheck_word:Cal P w K mg base 3 "check_word" ["word"] spChkWord)
  (M_who:Mth P w K mg base 6 C "who" [] (fun vs _=>vs) (fun vs H Q _=>spWhoX C CT cs vs H Q fun _ _ _=>False)) (M_chip_of:Mth P w K mg base 1 C "chip_of" [] (fun vs _=>vs) (spChipOf C)) (M_finish:Mth P w K mg base 2 C "finish" [] (fun vs _=>vs) (spFinish C CW)) (MW:∀ kd,kd<5→Mth P w K mg base 5 (cs kd) "write" [] (fun vs _=>vs) (spW25 cs kd)):FnOk P w K mg base CX0 7 f fd ["self","address","word"] (spWrB C CW cs):=by
 refine F.ok scBoard_write (by walk_at "l") (fun cdv A outer s H vs Q E hr h=>?_)
 ·obtain ⟨B,D,us,f0,x,v,wl,rfl,hW,hn1,S,hx,hv,k⟩:=h
  have hB:=hW.b
  have h16:2 ^ B.bits≤2 ^ 16:=XaQ (by decide) hB.b2
  refine ⟨_,(zab (ps_L 3 scBoard_write.nd (zaL 6 ⟨rfl,rfl,rfl,rfl,rfl⟩ (hrm hr) (pv 0) (zaa (pv 1) zae)))
   (zab (zau (pe_c Gcheck_word (zaa (pv 2) zae)))
   (zab (zay (zb9 (zcR (pv 3))) (zab (zbP (pv 3) (zbu rfl (zao (pg_L 4 scBoard_write.nd) (zao (pg_L 5 scBoard_write.nd) zaV))))
   (zaf (zau (zaL 5 ⟨rfl,rfl,rfl,rfl,rfl⟩ (hrm hr) (zaL 1 ⟨rfl,rfl,rfl,rfl,rfl⟩ (hrm hr) (pv 0) (zaa (pv 4) zae)) (zaa (pv 5) (zaa (pv 2) zae)))))) zan)
   (zaf (zau (zaL 2 ⟨rfl,rfl,rfl,rfl,rfl⟩ (hrm hr) (pv 0) (zaa (zb2 rfl N.WRITE) (zaa (pv 1) (zaa (pv 2) zae))))))))),?rd⟩
  obtain ⟨db,e⟩:=hB.e
  refine ⟨_,rfl,B.b,C,db,_,_,_,rfl,e,M_who,rfl,_,rfl,B,D,us,f0,(x:Int),rfl,hB,S,Xak (show x<_ from hx) (Xar h16 (by decide)),.inl ⟨x,rfl,hx,fun hw H1 s1=>?_,fun i z hw hz t H1 ht et s1=>?_⟩⟩
  ·have hW1:=hW.same s1
   have hB1:=hW1.b
   have S1:=S.same s1
   obtain ⟨d1,e1⟩:=hB1.e
   have eu:wrU B D us x v=us:=by unfold wrU;rw [hw]
   rw [eu] at k
   refine ⟨_,rfl,(v:Int),rfl,by omega,by omega,?_⟩
   refine ⟨_,rfl,_,rfl,iteF (zaw ?_)⟩
   try dsimp only
   refine ⟨_,rfl,B.b,C,d1,_,_,_,rfl,e1,M_finish,rfl,_,rfl,_,rfl,?_⟩
   refine ⟨B,D,f0,"write",x,v,wl,rfl,hW1,hn1,hv,fun H2 hB2 k'=>?_⟩
   exact k H2 hB2 (S1.bw hW1 k') ((FrW.of s1).trans fun a o h1 h2 _ ea=>k' a o h1 h2 ea)
  ·have hW1:=hW.same s1
   have hB1:=hW1.b
   have S1:=S.same s1
   obtain ⟨d1,e1⟩:=hB1.e
   have hm:=Xay hz
   obtain ⟨f1,f2,f3⟩:=hB.rf.f z hm
   have oc:=S1.o _ f1
   have kc:=S1.k _ f1
   have hcell:gath z.2.i x<ksize (D.kd z.2.c) (us z.2.c):=by rw [S.z _ f1];exact Xak (zjM _ _) f2
   have eu:wrU B D us x v=wset us z.2.c (kwr (D.kd z.2.c) (D.n z.2.c) (us z.2.c) (gath z.2.i x) v):=by unfold wrU;rw [hw];dsimp only;rw [hz]
   rw [eu] at k
   obtain ⟨dx,ex⟩:=oc.ex
   refine ⟨_,rfl,(v:Int),rfl,by omega,by omega,?_⟩
   refine ⟨_,rfl,_,rfl,iteT ?_⟩
   refine ⟨_,rfl,zhP et ?_⟩
   refine ⟨_,rfl,B.b,C,d1,_,_,_,rfl,e1,M_chip_of,rfl,_,rfl,B,D,f0,i,z,rfl,hB1,hz,?_⟩
   refine ⟨D.x z.2.c,cs (D.kd z.2.c),dx,_,_,_,rfl,ex,MW _ kc.k5,lkn _,_,rfl,_,rfl,_,_,_,_,_,_,rfl,oc,kc,hcell,hv,fun H2 e2 kp=>?_⟩
   have hW2:=hW1.put f1 oc.ls kp
   have S2:=S1.put f1 (kc.wr hv) (kz_wr _ _ _) e2 kp
   obtain ⟨d2,e2b⟩:=hW2.b.e
   refine ⟨_,rfl,B.b,C,d2,_,_,_,rfl,e2b,M_finish,rfl,_,rfl,_,rfl,?_⟩
   refine ⟨B,D,f0,"write",x,v,wl,rfl,hW2,hn1,hv,fun H3 hB3 k'=>?_⟩
   exact k H3 hB3 (S2.bw hW2 k') ((FrW.of s1).trans (FrW.trans (fun a o h1 h2 h3 ea=>by rw [kp a (h3 _ f1)];exact ea) fun a o h1 h2 _ ea=>k' a o h1 h2 ea))
abbrev zbL:Stmt:=zav (top 58) 9
theorem zem:FnScope ["self"] ["self"] (zai zbL):=sck rfl rfl rfl (by decide +kernel)
inductive spBitsOfB (C:Addr)(vs:List V)(H:Hp)(Q:VK)(u3_:XK):Prop
 | mk (B:Bd) (D:Dt) (f:Nat) (z0_:vs=[.ref B.b]) (z1_:BdAt C B D H f) (z2_:Q (.int (B.bits:Int)) H)
theorem zeA {f:Addr}{C:Addr}{fd:FuncData}(F:Fun K "bits_of" "Board.bits_of" zbL f fd)(T:Blt mg)(cl:ClsBd K C):FnOk P w K mg base CX0 1 f fd ["self"] (spBitsOfB C):=by
 refine F.ok zem (by walk_at "l") (fun cdv A outer s H vs Q E hr h=>?_)
 ·obtain ⟨B,D,f0,rfl,hB,k⟩:=h
  refine ⟨_,(zaf (zam (zaz (pv 0) rfl))),?rd⟩
  obtain ⟨db,e⟩:=hB.e
  exact ⟨_,rfl,B.b,C,db,_,_,rfl,e,cl.cls,cl.bits,rfl,k⟩
abbrev zbI:Stmt:=zav (top 58) 10
theorem zej:FnScope ["self"] ["self"] (zai zbI):=sck rfl rfl rfl (by decide +kernel)
inductive spRowsOf (C:Addr)(vs:List V)(H:Hp)(Q:VK)(u3_:XK):Prop
 | mk (B:Bd) (D:Dt) (f:Nat) (z0_:vs=[.ref B.b]) (z1_:BdAt C B D H f) (z2_:Q (.ref B.R) H)
theorem zex {f:Addr}{C:Addr}{fd:FuncData}(F:Fun K "rows_of" "Board.rows_of" zbI f fd)(T:Blt mg)(cl:ClsBd K C):FnOk P w K mg base CX0 1 f fd ["self"] (spRowsOf C):=by
 refine F.ok zej (by walk_at "l") (fun cdv A outer s H vs Q E hr h=>?_)
 ·obtain ⟨B,D,f0,rfl,hB,k⟩:=h
  refine ⟨_,(zaf (zam (zaz (pv 0) rfl))),?rd⟩
  obtain ⟨db,e⟩:=hB.e
  exact ⟨_,rfl,B.b,C,db,_,_,rfl,e,cl.cls,cl.rows,rfl,k⟩
abbrev zbr:Stmt:=zav (top 58) 11
theorem zdQ:FnScope ["self"] ["self"] (zai zbr):=sck rfl rfl rfl (by decide +kernel)
inductive spChipsOf (C:Addr)(vs:List V)(H:Hp)(Q:VK)(u3_:XK):Prop
 | mk (B:Bd) (D:Dt) (f:Nat) (z0_:vs=[.ref B.b]) (z1_:BdAt C B D H f) (z2_:∀ l,H l=none→Q (.ref l) (upd H l (.lst (chL D))))
theorem zdY {f:Addr}{C:Addr}{fd:FuncData}(F:Fun K "chips_of" "Board.chips_of" zbr f fd)(T:Blt mg)(cl:ClsBd K C):FnOk P w K mg base CX0 1 f fd ["self"] (spChipsOf C):=by
 refine F.ok zdQ (by walk_at "l") (fun cdv A outer s H vs Q E hr h=>?_)
 ·obtain ⟨B,D,f0,rfl,hB,k⟩:=h
  refine ⟨_,(zaf (zam (za4 zbb (by rfl) T.list zdF (zaa (zaz (pv 0) rfl) zae)))),?rd⟩
  obtain ⟨db,e⟩:=hB.e
  exact ⟨_,rfl,B.b,C,db,_,_,rfl,e,cl.cls,cl.chips,rfl,B.L,_,rfl,.inl (SqL.of hB.ch),k⟩
abbrev zcj:Stmt:=zav (top 58) 12
theorem scBoard_watch:FnScope ["self","mask","want","kind","number"] ["self","mask","want","kind"] (zai zcj):=sck rfl rfl rfl (by decide +kernel)
def Bd.next (B:Bd):Bd:={ B with nw:=B.nw+1 }
inductive spWatchC (C CW:Addr)(vs:List V)(H:Hp)(Q:VK)(u3_:XK):Prop
 | mk (B:Bd) (D:Dt) (f m u:Nat) (k:Str) (wl:List (Nat×Wa)) (z0_:vs=[.ref B.b,.int (m:Int),.int (u:Int),.str k]) (z1_:BW C CW B D H f wl) (z2_:m<2 ^ B.bits) (z3_:u<2 ^ B.bits) (z4_:(k = "read" ∨ k = "write" ∨ k = "both")) (z5_:(∀ z∈wl,z.1<B.nw)) (z6_:wl.length<900) (z7_:(∀ i,i<D.m→H (D.p i)≠none)) (z8_:∀ (x h:Addr) (H':Hp),H x=none→H h=none→BW C CW B.next D H' f (wl ++ [(B.nw,⟨x,h,m,u,k,[]⟩)])→(∀ a o,a≠B.b→a≠B.W→H a=some o→H' a=some o)→Q (.int (B.nw:Int)) H')
theorem BdAt.nxt {C:Addr}{B:Bd}{D:Dt}{Y Z:Hp}{f:Nat}{db:Addr}(h:BdAt C B D Y f)(e:Z B.b=some (.ins C db (bdF B.next f)))(k:∀ a o,a≠B.b→(∀ m,o≠.dK m)→Y a=some o→Z a=some o):BdAt C B.next D Z f:=by
 obtain ⟨d0,e0⟩:=h.e
 have ne:∀ {a:Addr} {o:HO},Y a=some o→(∀ x y z,o≠.ins x y z)→(∀ m,o≠.dK m)→Z a=some o:=fun {a o} ea ho hd=>k _ _ (fun z=>by rw [z,e0] at ea;exact ho _ _ _ (Option.some.inj ea).symm) hd ea
 refine ⟨⟨db,e⟩,h.b1,h.b2,⟨ne h.rf.e (fun _ _ _ z=>by cases z) (fun _ z=>by cases z),(fun z hz=>?_),h.rf.f,h.rf.nc,h.rf.ln⟩,ne h.ch (fun _ _ _ z=>by cases z) (fun _ z=>by cases z),ne h.la (fun _ _ _ z=>by cases z) (fun _ z=>by cases z),h.kl,h.ks,h.kn,h.f0,h.nl⟩
 obtain ⟨⟨lt,et,hlt⟩,ok⟩:=h.rf.r z hz
 refine ⟨⟨lt,ne et (fun _ _ _ z=>by cases z) (fun _ z=>by cases z),?_⟩,ok⟩
 cases hl:z.2.l with
 | none=>rw [hl] at hlt;exact hlt
 | some o =>
  rw [hl] at hlt
  obtain ⟨u,eu,hu⟩:=hlt
  exact ⟨u,eu,ne hu (fun _ _ _ z=>by cases z) (fun _ z=>by cases z)⟩
theorem zlP {wl:List (Nat×Wa)}{n:Nat}(h:∀ z∈wl,z.1<n):valV (wl.map fun z=>((Sum.inl (z.1:Int):Key),V.ref z.2.x)) (Sum.inl (n:Int))=none:=by
 unfold valV
 rw [List.find?_eq_none.mpr,Option.map_none]
 intro q hq
 obtain ⟨z,hz,rfl⟩:=XaC.mp hq
 have:=h z hz
 rw [decide_eq_true_eq]
 intro e
 have:=Sum.inl.inj e
 omega
theorem zfC {f:Addr}{C CW:Addr}{fd:FuncData}{dV:Value}(F:FunD K "watch" "Board.watch" zcj dV f fd)(T:Blt mg)(N:Nums mg)(cl:ClsBd K C)(M_in_bits:Mth P w K mg base 2 C "in_bits" [] (fun vs _=>vs) (spInBitsI C))(GMWatch_3:Mak P w K mg base 1 "Watch" CW [] (dP []) (spWtI K CW)):FnOk P w K mg base CX0 4 f fd ["self","mask","want","kind"] (spWatchC C CW):=by
 refine F.ok scBoard_watch (by walk_at "l") (fun cdv A outer s H vs Q E hr h=>?_)
 ·obtain ⟨B,D,f0,m,u,kd,wl,rfl,hW,hm,hu,hk,hlt,hl,hpi,k⟩:=h
  refine ⟨_,(zab (zay (PW.pt (zbN (zaK (zaG (zaL 2 ⟨rfl,rfl,rfl,rfl,rfl⟩ (hrm hr) (pv 0) (zaa (pv 1) zae)))) (zbN (zaK (zaG (zaL 2 ⟨rfl,rfl,rfl,rfl,rfl⟩ (hrm hr) (pv 0) (zaa (pv 2) zae)))) (zbA (zas (zfv (K:=K) rfl) (pv 3) (za7 (zaa (zb2 rfl N.READ) (zaa (zb2 rfl N.WRITE) (zaa (zb2 rfl N.BOTH) zae)))) (by with_unfolding_all rfl)))))) (zaf zaJ) zan)
   (zab (ps_L 4 scBoard_watch.nd (zaz (pv 0) rfl))
   (zab (zl9 (zc7 hr) (zaz (pv 0) rfl) (pv 4) (zdH GMWatch_3 (hrm hr) rfl (zaa (pv 1) (zaa (pv 2) (zaa (pv 3) zae)))) rfl)
   (zab (zjc (pv 0) zad in_add)
   (zaf (zam (pv 4))))))),?rd⟩
  obtain ⟨db,e⟩:=hW.b.e
  refine ⟨_,rfl,B.b,C,db,_,_,_,rfl,e,M_in_bits,rfl,_,rfl,B,D,f0,(m:Int),rfl,hW.b,_,rfl,?_⟩
  rw [Xah (show 0≤(m:Int)∧(m:Int)<((2 ^ B.bits:Nat):Int) by omega)]
  refine iteF ?_
  refine ⟨_,rfl,B.b,C,db,_,_,_,rfl,e,M_in_bits,rfl,_,rfl,B,D,f0,(u:Int),rfl,hW.b,_,rfl,?_⟩
  rw [Xah (show 0≤(u:Int)∧(u:Int)<((2 ^ B.bits:Nat):Int) by omega)]
  refine iteF ?_
  refine ⟨_,rfl,by show 3≤sizeLine;decide,fun t ht=>⟨t,_,rfl,.inr (SqT.of zac),rfl,rfl,_,rfl,?_⟩⟩
  have hi:inV (V.str kd) [.str "read",.str "write",.str "both"]=true:=by rcases hk with rfl | rfl | rfl <;> rfl
  refine ite2 (fun h1=>?_) (fun _=>zaw ?_)
  ·exfalso
   rw [if_pos rfl,hi] at h1
   cases h1
  try dsimp only
  have s1:=zah (o:=.tup [.str "read",.str "write",.str "both"]) ht
  have W1:=hW.same s1
  refine ⟨_,rfl,B.b,C,db,_,_,rfl,s1 _ _ e,cl.cls,cl.next_watch,rfl,?_⟩
  refine zfN (fun Y=>BW C CW B D Y f0 wl∧Same H Y∧Y B.b=some (.ins C db (bdF B f0))) ⟨W1,s1,s1 _ _ e⟩ fun Y ⟨W1,s1,e1⟩=>?_
  refine ⟨_,rfl,_,rfl,_,rfl,fun x dx hx hdx _=>⟨x,dx,m,u,kd,rfl,zac,fun h Z hh hz fr=>⟨rfl,?_⟩⟩⟩
  have sB:Same Y (upd (upd Y dx (.own x)) x (.ins CW dx [])):=zi2 hx hdx
  have hY:Y h=none:=sB.free hh
  have s2:Same Y Z:=fun b o q=>fr _ _ (zaj q hx) (sB _ _ q)
  have e2:=s2 _ _ e1
  have W2:=W1.same s2
  refine ⟨_,rfl,B.b,C,db,_,_,rfl,e2,cl.cls,cl.watches,rfl,_,rfl,B.W,_,rfl,DPut.k (k:=Sum.inl (B.nw:Int)) W2.w.d (by rw [Xaf,sizeLine_eq];omega),?_⟩
  rw [zkC _ (zlP hlt)]
  have nbW:B.b≠B.W:=fun z=>by have:=W2.w.d;rw [← z,e2] at this;cases this
  refine ⟨_,rfl,B.b,C,db,_,_,rfl,by rw [zag nbW];exact e2,cl.cls,cl.next_watch,rfl,_,_,rfl,rfl,db,_,by rw [zag nbW];exact e2,by show 7<1000;decide,?_⟩
  have kz:∀ a o,NoBd o→(∀ m,o≠.dK m)→Z a=some o→upd (upd Z B.W (.dK ((wl.map fun z=>(Sum.inl (z.1:Int),V.ref z.2.x)) ++ [(Sum.inl (B.nw:Int),V.ref x)]))) B.b (.ins C db (putF "next_watch" (.int ((B.nw:Int)+1)) (bdF B f0))) a=some o:=fun a o ho hd q=>by
   rw [zag (fun g=>by rw [g,e2] at q;exact ho.2.2 _ _ _ _ (Option.some.inj q).symm),zag (fun g=>by rw [g,W2.w.d] at q;exact hd _ (Option.some.inj q).symm)];exact q
  have kl:∀ a l,Z a=some (.lst l)→upd (upd Z B.W (.dK ((wl.map fun z=>(Sum.inl (z.1:Int),V.ref z.2.x)) ++ [(Sum.inl (B.nw:Int),V.ref x)]))) B.b (.ins C db (putF "next_watch" (.int ((B.nw:Int)+1)) (bdF B f0))) a=some (.lst l):=fun a l q=>by
   rw [zag (fun g=>by rw [g,e2] at q;cases q),zag (fun g=>by rw [g,W2.w.d] at q;cases q)];exact q
  refine ⟨_,rfl,k x h _ (s1.free hx) (s1.free hY) ⟨W2.b.nxt zac fun a o h1 h2 q=>?_,⟨?_,fun z hz1=>?_,?_,?_,?_⟩,fun z hz1=>?_⟩ fun a o h1 h2 q=>?_⟩
  ·rw [zag h1,zag (fun g=>by rw [g,W2.w.d] at q;exact h2 _ (Option.some.inj q).symm)];exact q
  ·show upd (upd Z B.W _) B.b _ B.W=_
   rw [zag (Ne.symm nbW),zac,XaH]
   rfl
  ·rcases XaF.mp hz1 with q | q
   ·exact (W2.w.o z q).keep kz fun o r=>by obtain ⟨ts,el,_⟩:=(W2.w.o z q).l;rw [kl _ _ el,← el];exact r
   ·rw [Xad.mp q]
    exact hz.keep kz fun o r=>by obtain ⟨ts,el,_⟩:=hz.l;rw [kl _ _ el,← el];exact r
  ·rw [XaH,XaO]
   refine ⟨W2.w.i,by simp,fun a ha b hb=>?_⟩
   obtain ⟨z,q,rfl⟩:=XaC.mp ha
   rw [Xad.mp hb]
   obtain ⟨ts,el,_⟩:=(W1.w.o z q).l
   exact zaj el hY
  ·rw [XaH,XaO]
   refine ⟨W2.w.x,by simp,fun a ha b hb=>?_⟩
   obtain ⟨z,q,rfl⟩:=XaC.mp ha
   rw [Xad.mp hb]
   obtain ⟨dz,ez⟩:=(W1.w.o z q).e
   exact zaj ez hx
  ·rw [Xaq];show wl.length+1≤1000;omega
  ·rcases XaF.mp hz1 with q | q
   ·exact hW.nh z q
   ·rw [Xad.mp q]
    exact ⟨Ne.symm (zaj W1.b.ch hY),Ne.symm (zaj W1.b.la hY),fun i hi g=>hpi i hi (s1.free (g ▸ hY))⟩
  ·rw [zag h1,zag h2];exact s2 _ _ (s1 _ _ q)
abbrev za3:Stmt:=zav (top 58) 13
theorem zcD:FnScope ["self","number"] ["self","number"] (zai za3):=sck rfl rfl rfl (by decide +kernel)
def WNo (wl:List (Nat×Wa))(n:Nat)(z:Nat×Wa):Prop:=valV (wl.map fun z=>((Sum.inl (z.1:Int):Key),V.ref z.2.x)) (Sum.inl (n:Int))=some (.ref z.2.x)∧z∈wl
inductive spChkWt (C CW:Addr)(vs:List V)(H:Hp)(Q:VK)(u3_:XK):Prop
 | mk (B:Bd) (D:Dt) (f n:Nat) (wl:List (Nat×Wa)) (z:Nat×Wa) (z0_:vs=[.ref B.b,.int (n:Int)]) (z1_:BW C CW B D H f wl) (z2_:WNo wl n z) (z3_:Q .non H)
theorem zcT {f:Addr}{C CW:Addr}{fd:FuncData}(F:Fun K "check_watch" "Board.check_watch" za3 f fd)(T:Blt mg)(cl:ClsBd K C):FnOk P w K mg base CX0 1 f fd ["self","number"] (spChkWt C CW):=by
 refine F.ok zcD (by walk_at "l") (fun cdv A outer s H vs Q E hr h=>?_)
 ·obtain ⟨B,D,f0,n,wl,z,rfl,hW,hn,k⟩:=h
  refine ⟨_,(zaf (zay (zb9 (zjk (zc7 hr) (pv 1) (zaz (pv 0) rfl))) (zaf zaJ) zan)),?rd⟩
  obtain ⟨db,e⟩:=hW.b.e
  refine ⟨_,rfl,_,rfl,B.b,C,db,_,_,rfl,e,cl.cls,cl.watches,rfl,B.W,_,rfl,DGet.k (k:=Sum.inl (n:Int)) hW.w.d,_,rfl,?_⟩
  rw [hn.1]
  exact iteF (zaw k)
abbrev zcO:Stmt:=zav (top 58) 14
theorem scBoard_news:FnScope ["self","number","watch","heard"] ["self","number"] (zai zcO):=sck rfl rfl rfl (by decide +kernel)
def wsN (x h:Addr)(wl:List (Nat×Wa)):List (Nat×Wa):=wl.map fun y=>if y.2.x=x then (y.1,{ y.2 with h:=h,hs:=[] }) else y
theorem ziK {α:Type}(g:Nat→Addr→α)(x h:Addr)(wl:List (Nat×Wa)):(wsN x h wl).map (fun z=>g z.1 z.2.x)=wl.map fun z=>g z.1 z.2.x:=by
 unfold wsN
 rw [Xa7]
 refine XbL fun z _=>?_
 show g (if z.2.x=x then (z.1,{ z.2 with h:=h,hs:=[] }) else z).1 (if z.2.x=x then (z.1,{ z.2 with h:=h,hs:=[] }) else z).2.x=_
 split <;> rfl
theorem BdAt.kw {C:Addr}{B:Bd}{D:Dt}{Y Z:Hp}{f:Nat}(h:BdAt C B D Y f)(k:∀ a o,(∀ c d y,o≠.ins c d (waF y))→Y a=some o→Z a=some o):BdAt C B D Z f:=by
 obtain ⟨db,e⟩:=h.e
 refine ⟨⟨db,k _ _ (fun c d y g=>wa_bd (HO.ins.inj g).2.2.symm) e⟩,h.b1,h.b2,⟨k _ _ (fun _ _ _ z=>by cases z) h.rf.e,(fun z hz=>?_),h.rf.f,h.rf.nc,h.rf.ln⟩,k _ _ (fun _ _ _ z=>by cases z) h.ch,k _ _ (fun _ _ _ z=>by cases z) h.la,h.kl,h.ks,h.kn,h.f0,h.nl⟩
 obtain ⟨⟨lt,et,hlt⟩,ok⟩:=h.rf.r z hz
 refine ⟨⟨lt,k _ _ (fun _ _ _ z=>by cases z) et,?_⟩,ok⟩
 cases hl:z.2.l with
 | none=>rw [hl] at hlt;exact hlt
 | some o =>
  rw [hl] at hlt
  obtain ⟨u,eu,hu⟩:=hlt
  exact ⟨u,eu,k _ _ (fun _ _ _ z=>by cases z) hu⟩
inductive spNews (C CW:Addr)(vs:List V)(H:Hp)(Q:VK)(u3_:XK):Prop
 | mk (B:Bd) (D:Dt) (f n:Nat) (wl:List (Nat×Wa)) (z:Nat×Wa) (z0_:vs=[.ref B.b,.int (n:Int)]) (z1_:BW C CW B D H f wl) (z2_:WNo wl n z) (z3_:(∀ i,i<D.m→H (D.p i)≠none)) (z4_:∀ (h:Addr) (H':Hp),H h=none→BW C CW B D H' f (wsN z.2.x h wl)→(∀ a o,a≠z.2.x→H a=some o→H' a=some o)→Q (.ref z.2.h) H')
theorem zgg {f:Addr}{C CW:Addr}{fd:FuncData}(F:Fun K "news" "Board.news" zcO f fd)(T:Blt mg)(cl:ClsBd K C)(cw:ClsWt K CW)(M_check_watch:Mth P w K mg base 1 C "check_watch" [] (fun vs _=>vs) (spChkWt C CW)):FnOk P w K mg base CX0 2 f fd ["self","number"] (spNews C CW):=by
 refine F.ok scBoard_news (by walk_at "l") (fun cdv A outer s H vs Q E hr h=>?_)
 ·obtain ⟨B,D,f0,n,wl,z,rfl,hW,hn,hpi,k⟩:=h
  refine ⟨_,(zab (zau (zaL 1 ⟨rfl,rfl,rfl,rfl,rfl⟩ (hrm hr) (pv 0) (zaa (pv 1) zae)))
   (zab (ps_L 2 scBoard_news.nd (zfu (zc7 hr) (zaz (pv 0) rfl) (pv 1) (fun _ _=>rfl)))
   (zab (ps_L 3 scBoard_news.nd (zaz (pv 2) rfl))
   (zab (zbe (pv 2) (zax zae) rfl)
   (zaf (zam (pv 3))))))),?rd⟩
  obtain ⟨db,e⟩:=hW.b.e
  have wz:=hW.w.o z hn.2
  obtain ⟨dx,ez⟩:=wz.e
  refine ⟨_,rfl,B.b,C,db,_,_,_,rfl,e,M_check_watch,rfl,_,rfl,B,D,f0,n,wl,z,rfl,hW,hn,?_⟩
  refine ⟨_,rfl,B.b,C,db,_,_,rfl,e,cl.cls,cl.watches,rfl,_,rfl,B.W,_,rfl,hn.1 ▸ DGet.k (k:=Sum.inl (n:Int)) hW.w.d,?_⟩
  refine ⟨_,rfl,z.2.x,CW,dx,_,_,rfl,ez,cw.cls,cw.heard,rfl,?_⟩
  refine ⟨by show 0≤sizeLine;decide,fun h hh=>?_⟩
  have s1:=zah (o:=.lst []) hh
  have ex1:=s1 _ _ ez
  refine ⟨_,rfl,z.2.x,CW,dx,_,rfl,ex1,cw.cls,cw.heard,by show 4<1000;decide,?_⟩
  have nhx:h≠z.2.x:=fun g=>by rw [g,ez] at hh;cases hh
  have kz:∀ a o,a≠z.2.x→H a=some o→upd (upd H h (.lst [])) z.2.x (.ins CW dx (putF "heard" (.ref h) (waF z.2))) a=some o:=fun a o ha q=>by rw [zag ha];exact s1 _ _ q
  have nx:∀ (a:Addr) (o:HO),(∀ c d y,o≠.ins c d (waF y))→H a=some o→a≠z.2.x:=fun a o ho q g=>by rw [g,ez] at q;exact ho _ _ _ (Option.some.inj q).symm
  have uniq:∀ y∈wl,y.2.x=z.2.x→y=z:=fun y hy g=>by
   obtain ⟨i,hi,ei⟩:=List.mem_iff_getElem.mp hy
   obtain ⟨j,hj,ej⟩:=List.mem_iff_getElem.mp hn.2
   have:=(List.getElem_inj (xs:=wl.map fun z=>z.2.x) (h₀:=by rw [Xaf];exact hi) (h₁:=by rw [Xaf];exact hj) hW.w.x).mp (by rw [Xbi,Xbi,ei,ej];exact g)
   subst this
   rw [← ei,← ej]
  refine ⟨_,rfl,k h _ hh ⟨?_,⟨?_,fun y hy=>?_,?_,?_,?_⟩,fun y hy=>?_⟩ kz⟩
  ·refine hW.b.kw fun a o ho q=>kz a o (nx a o ho q) q
  ·rw [ziK (fun n x=>((Sum.inl (n:Int):Key),V.ref x))]
   exact kz _ _ (nx _ _ (fun c d y g=>by cases g) hW.w.d) hW.w.d
  ·unfold wsN at hy
   obtain ⟨y0,h0,rfl⟩:=XaC.mp hy
   by_cases g:y0.2.x=z.2.x
   ·rw [if_pos g,uniq y0 h0 g]
    exact ⟨⟨dx,zac⟩,⟨[],by show upd _ _ _ h=_;rw [zag nhx];exact zac,rfl,fun i t d e=>by cases e⟩,Nat.zero_le _⟩
   ·rw [if_neg g]
    obtain ⟨dy,ey⟩:=(hW.w.o y0 h0).e
    obtain ⟨ts,el,et,ed⟩:=(hW.w.o y0 h0).l
    exact ⟨⟨dy,kz _ _ g ey⟩,⟨ts,kz _ _ (nx _ _ (fun c d y g=>by cases g) el) el,et,fun i t d h1 h2=>kz _ _ (nx _ _ (fun c d y g=>by cases g) (ed i t d h1 h2)) (ed i t d h1 h2)⟩,(hW.w.o y0 h0).n⟩
  ·unfold wsN
   rw [Xa7]
   refine Xba.mpr fun i j hi hj hij=>?_
   rw [Xaf] at hi hj
   rw [Xbi,Xbi]
   have ni:=Xba.mp hW.w.i i j (by rw [Xaf];exact hi) (by rw [Xaf];exact hj) hij
   have nx':=Xba.mp hW.w.x i j (by rw [Xaf];exact hi) (by rw [Xaf];exact hj) hij
   rw [Xbi,Xbi] at ni nx'
   have fr:∀ y∈wl,y.2.h≠h:=fun y hy=>by obtain ⟨ts,el,_⟩:=(hW.w.o y hy).l;exact zaj el hh
   show (if wl[i].2.x=z.2.x then (wl[i].1,{ wl[i].2 with h:=h,hs:=[] }) else wl[i]).2.h≠(if wl[j].2.x=z.2.x then (wl[j].1,{ wl[j].2 with h:=h,hs:=[] }) else wl[j]).2.h
   by_cases g:wl[i].2.x=z.2.x
   ·rw [if_pos g,if_neg (fun g'=>nx' (g.trans g'.symm))]
    exact Ne.symm (fr _ (Xbh hj))
   ·rw [if_neg g]
    by_cases g':wl[j].2.x=z.2.x
    ·rw [if_pos g']
     exact fr _ (Xbh hi)
    ·rw [if_neg g']
     exact ni
  ·have:=ziK (fun _ x=>x) z.2.x h wl
   rw [this]
   exact hW.w.x
  ·unfold wsN;rw [Xaf];exact hW.w.m
  ·unfold wsN at hy
   obtain ⟨y0,h0,rfl⟩:=XaC.mp hy
   by_cases g:y0.2.x=z.2.x
   ·rw [if_pos g]
    exact ⟨Ne.symm (zaj hW.b.ch hh),Ne.symm (zaj hW.b.la hh),fun i hi q=>hpi i hi (q ▸ hh)⟩
   ·rw [if_neg g]
    exact hW.nh y0 h0
abbrev zch:Stmt:=zav (top 26) 2
theorem zfp:FnScope ["self","other"] ["self","other"] (zai zch):=sck rfl rfl rfl (by decide +kernel)
inductive spCEq (cs:Nat→Addr)(kd:Nat)(vs:List V)(H:Hp)(Q:VK)(u3_:XK):Prop
 | mk (a:_) (b:_) (p:_) (q:_) (kd' n n':Nat) (ws us:List Nat) (z0_:kd'<5) (z1_:vs=[.ref a,.ref b]) (z2_:Chp cs H a p kd n ws) (z3_:Chp cs H b q kd' n' us) (z4_:Q (.bl (decide (zjA kd n=zjA kd' n') && decide (ws=us))) H)
theorem za5 {f D:Addr}{cs:Nat→Addr}{kd:Nat}{fd:FuncData}(F:Fun K "__eq__" "Chip.__eq__" zch f fd)(T:Blt mg)(hk:kd<5)(c:∀ kd,kd<5→ClsOk K (cs kd))(ty:∀ kd,kd<5→TyC K (cs kd) D)(GChip:mg "Chip" = some (.ref D)):FnOk P w K mg base CX0 1 f fd ["self","other"] (spCEq cs kd):=by
 refine F.ok zfp (by walk_at "l") (fun cdv A outer s H vs Q E hr h=>?_)
 ·obtain ⟨a,b,p,q,kd',n,n',ws,us,h5,rfl,oa,ob,k⟩:=h
  refine ⟨_,(zaf (zam (zbQ (zap (zhT (K:=K) rfl) (by rfl) T.isinstance zcA (zaa (pv 1) (zaa (zhE rfl GChip) zae))) (zbQ (zbv zby (zaz (pv 0) rfl) (zaz (pv 1) rfl) (zat _)) (zca (zbv (zls (Xbn (zc7 hr)) (K:=K) rfl) (zaz (pv 0) rfl) (zaz (pv 1) rfl) (zat _))))))),?rd⟩
  obtain ⟨⟨dx,ea⟩,la⟩:=oa
  obtain ⟨⟨dy,eb⟩,lb⟩:=ob
  have c1:=c kd hk
  have c2:=c kd' h5
  have ty:=ty kd' h5
  refine ⟨_,rfl,_,_,D,_,rfl,.ins eb c2.cl ty.c1 ty.c2 ty.c3 ty.c4,ty.c5,true,rfl,iteT ?_⟩
  refine ⟨_,rfl,a,cs kd,dx,_,_,rfl,ea,c1.cl,c1.head,rfl,_,rfl,b,cs kd',dy,_,_,rfl,eb,c2.cl,c2.head,rfl,rfl,_,rfl,?_⟩
  by_cases e:zjA kd n=zjA kd' n'
  ·rw [Xah e,Bool.true_and] at k
   rw [Xah (congrArg V.str e)]
   refine iteT ?_
   refine ⟨_,rfl,a,cs kd,dx,_,_,rfl,ea,c1.cl,c1.held,rfl,_,rfl,b,cs kd',dy,_,_,rfl,eb,c2.cl,c2.held,rfl,p,q,_,_,rfl,rfl,SqL.of (by rw [← zld];exact la),SqL.of (by rw [← zld];exact lb),?_⟩
   rw [Bool.false_bne,show decide ((ws.map fun (n:Nat)=>(n:Int))=us.map fun (n:Nat)=>(n:Int))=decide (ws=us) from Xbp.mpr zhj]
   exact k
  ·rw [Xai e,Bool.false_and] at k
   rw [Xai (fun z=>e (V.str.inj z))]
   exact iteF k
abbrev zcF:Stmt:=top 60
theorem sc_law_draws:FnScope ["cell","count","row","rest","base","more","k","stir"] ["cell","count"] (zai zcF):=sck rfl rfl rfl (by decide +kernel)
inductive spDraws (vs:List V)(H:Hp)(Q:VK)(u3_:XK):Prop
 | mk (c:Int) (n:Nat) (z0_:vs=[.int c,.int (n:Int)]) (z1_:n≤200) (z2_:∀ (p:Addr) (H':Hp) (row:List Nat),H p=none→H' p=some (.lst (vN row))→row.length=n→(∀ v∈row,v<2 ^ 31)→Same H H'→Q (.ref p) H')
theorem zf9 {f:Addr}{fd:FuncData}(F:Fun K "_law_draws" "_law_draws" zcF f fd)(T:Blt mg):FnOk P w K mg base CX0 1 f fd ["cell","count"] spDraws:=by
 refine F.ok sc_law_draws (by walk_at "l") (fun cdv A outer s H vs Q E hr h=>?_)
 ·obtain ⟨c,n,rfl,hn,k⟩:=h
  refine ⟨_,(zab (ps_L 2 sc_law_draws.nd (zax zae))
   (zab (ps_L 3 sc_law_draws.nd (zak zbR (pv 0) (zak zhH zad zad)))
   (zab (ps_L 4 sc_law_draws.nd (zak zaR (zak zaB (pv 0) zad) zad))
   (zab (ps_L 5 sc_law_draws.nd (zak zaB (pv 0) zad))
   (zab (zbO PassesOwn.never rfl (zck rfl T.range (zaa (pv 1) zae)) (pg_L 6 sc_law_draws.nd)
   (zab (ps_L 7 sc_law_draws.nd (zak zaB (zak zdz (pv 4) (zak zaR (zak zdz zad (pv 6)) zad)) zad))
   (zab (ps_L 7 sc_law_draws.nd (zak zaB (zak zaR (zak zhH (pv 7) zad) (zak zhH (zak zaR (pv 6) zad) zad)) zad))
   (zab (ps_L 7 sc_law_draws.nd (zak zaD (zak zaB (zak zhH (zak zaR (pv 7) (pv 5)) zad) zad) zad))
   (zab (zay (zas zf5 (pv 3) zad (zat _)) (zab (ps_L 7 sc_law_draws.nd (zak zaB (pv 3) zad))
   (zaf (ps_L 3 sc_law_draws.nd (zak zaD (pv 3) zad)))) zan)
   (zaf (zau (zdy PySem.F.plainAttrs_list PySem.F.slot_list_append PySem.F.type_list_append zaN (pv 2) (zaa (pv 7) zae)))))))))
   (zaf (zam (pv 2)))))))),?rd⟩
  refine ⟨by show 0≤sizeLine;decide,fun l hl=>?_⟩
  refine ⟨_,rfl,_,_,rfl,rfl,⟨by decide,by decide,by decide⟩,_,_,rfl,rfl,?_⟩
  refine ⟨_,rfl,_,_,rfl,rfl,(show (0:Int)<1000000007 by decide),_,_,rfl,rfl,?_⟩
  refine ⟨_,rfl,_,_,rfl,rfl,(show (0:Int)<999983 by decide),?_⟩
  refine ⟨_,rfl,_,rfl,by omega,by omega,?_⟩
  have b0:=Xbv c (show (1000000007:Int)≠0 by decide)
  have b1:=Xbl c (show (0:Int)<1000000007 by decide)
  have m0:=Xbv c (show (999983:Int)≠0 by decide)
  have m1:=Xbl c (show (0:Int)<999983 by decide)
  rw [Xap]
  refine zeJ (n:=n) (fun i σ X=>∃ (v6 v7:Option V) (rest:Int) (row:List Nat),σ=[some (.int c),some (.int (n:Int)),some (.ref l),some (.int rest),some (.int (c % 1000000007+1)),some (.int (c % 999983)),v6,v7]∧X l=some (.lst (vN row))∧row.length=i∧(∀ v∈row,v<2 ^ 31)∧Same H X) ⟨none,none,_,[],rfl,zac,rfl,(fun v hv=>by cases hv),zah hl⟩ ?_ ?_
  ·rintro i σ X hi ⟨v6,v7,rest,row,rfl,eX,hlen,hrow,sX⟩
   refine ⟨_,rfl,_,rfl,_,_,rfl,rfl,zeC (by decide) (by omega),_,_,rfl,rfl,_,_,rfl,rfl,zeC (by omega) (by omega),_,_,rfl,rfl,(show (0:Int)<2147483647 by decide),?_⟩
   generalize hs1:(c % 1000000007+1) * (2 * (0+(i:Int))+3) % 2147483647=st1
   have s10:0≤st1:=by rw [← hs1];exact Xbv _ (by decide)
   have s11:st1<2147483647:=by rw [← hs1];exact Xbl _ (by decide)
   refine ⟨_,rfl,_,_,rfl,rfl,⟨by decide,by decide,by omega⟩,_,rfl,_,_,rfl,rfl,_,_,rfl,rfl,⟨by decide,by decide,by omega⟩,_,_,rfl,rfl,_,_,rfl,rfl,(show (0:Int)<2147483629 by decide),?_⟩
   show za6 7 (V.int ((st1 ^ (5:Int).toNat+(0+(i:Int)+1) ^ (3:Int).toNat) % 2147483629)) _ _ _
   generalize hs2:(st1 ^ (5:Int).toNat+(0+(i:Int)+1) ^ (3:Int).toNat) % 2147483629=st2
   have s20:0≤st2:=by rw [← hs2];exact Xbv _ (by decide)
   have s21:st2<2147483629:=by rw [← hs2];exact Xbl _ (by decide)
   refine ⟨_,rfl,_,rfl,_,_,rfl,rfl,_,_,rfl,rfl,⟨by decide,by decide,by omega⟩,_,_,rfl,rfl,(show (0:Int)<2147483587 by decide),_,_,rfl,rfl,(show (0:Int)<16∧(16:Int).natAbs.log2<9000 by decide),?_⟩
   show za6 7 (V.int ((st2+c % 999983) ^ (3:Int).toNat % 2147483587 / 16)) _ _ _
   generalize hs3:(st2+c % 999983) ^ (3:Int).toNat % 2147483587=st3
   have s30:0≤st3:=by rw [← hs3];exact Xbv _ (by decide)
   have s31:st3<2147483587:=by rw [← hs3];exact Xbl _ (by decide)
   have app:∀ v:Int,0≤v→v<2147483587→∃ row':List Nat,upd X l (.lst (vN row ++ [V.int v])) l=some (.lst (vN row'))∧row'.length=i+1∧(∀ u∈row',u<2 ^ 31)∧Same H (upd X l (.lst (vN row ++ [V.int v]))):=fun v h0 h1=>by
    obtain ⟨u,rfl⟩:=Int.eq_ofNat_of_zero_le h0
    refine ⟨row ++ [u],by rw [zac,zcb],by rw [Xaq,hlen];rfl,fun z hz=>?_,fun b o e=>by rw [zag (zaj e hl)];exact sX b o e⟩
    rcases XaF.mp hz with hz | hz
    ·exact hrow z hz
    ·rw [Xad] at hz;omega
   have hsz:(vN row).length<sizeLine:=by rw [zaq,hlen];exact zcZ (by omega)
   refine ⟨_,rfl,_,_,rfl,rfl,_,rfl,ite2 (fun h1=>?_) (fun h1=>zaw ?_)⟩
   ·refine ⟨_,rfl,_,_,rfl,rfl,(show (0:Int)<1000003 by decide),?_⟩
    refine ⟨_,rfl,_,_,rfl,rfl,(show (0:Int)<1000003∧(1000003:Int).natAbs.log2<9000 by decide),?_⟩
    have r0:=Xbv rest (show (1000003:Int)≠0 by decide)
    have r1:=Xbl rest (show (0:Int)<1000003 by decide)
    obtain ⟨row',g1,g2,g3,g4⟩:=app (rest % 1000003) r0 (by omega)
    exact ⟨_,rfl,.inl ⟨rfl,_,SqL.of eX⟩,_,rfl,l,_,_,rfl,rfl,eX,hsz,_,_,_,row',rfl,g1,g2,g3,g4⟩
   ·dsimp only
    obtain ⟨row',g1,g2,g3,g4⟩:=app (st3 / 16) (by omega) (by omega)
    exact ⟨_,rfl,.inl ⟨rfl,_,SqL.of eX⟩,_,rfl,l,_,_,rfl,rfl,eX,hsz,_,_,_,row',rfl,g1,g2,g3,g4⟩
  ·rintro σ X ⟨v6,v7,rest,row,rfl,eX,hlen,hrow,sX⟩
   exact ⟨_,rfl,k l X row hl eX hlen hrow sX⟩
abbrev zdo:Stmt:=top 61
theorem sc_law_ones:FnScope ["own_mask","found","bit"] ["own_mask"] (zai zdo):=sck rfl rfl rfl (by decide +kernel)
theorem zlh (m i:Nat):sgl (m % 2 ^ (i+1))=sgl (m % 2 ^ i) ++ (if m &&& 2 ^ i=0 then [] else [2 ^ i]):=by
 rw [← zeB,← zeB,show zcy m (i+1)=zcy m i ++ [m / 2 ^ i % 2] from zfa i m]
 have e:m &&& 2 ^ i=2 ^ i * (m / 2 ^ i % 2):=by
  apply Nat.eq_of_testBit_eq
  intro j
  rw [XaG,Xbo]
  rcases (show m / 2 ^ i % 2=0∨m / 2 ^ i % 2=1 by omega) with h | h
  ·rw [h,Nat.mul_zero,Nat.zero_testBit]
   by_cases e:i=j
   ·subst e
    rw [Nat.testBit_eq_decide_div_mod_eq,h];rfl
   ·rw [Xai e,XbG]
  ·rw [h,Nat.mul_one,Xbo]
   by_cases e:i=j
   ·subst e
    rw [Nat.testBit_eq_decide_div_mod_eq,h];simp
   ·rw [Xai e,XbG]
 rw [e]
 rcases (show m / 2 ^ i % 2=0∨m / 2 ^ i % 2=1 by omega) with h | h
 ·rw [h,if_pos (by omega),Xbm,zgh]
 ·rw [h,if_neg (by have:=Xbw i;omega),zfS _ (zgB i m),zdJ]
inductive spOnesL (vs:List V)(H:Hp)(Q:VK)(u3_:XK):Prop
 | mk (n:Nat) (z0_:vs=[.int (n:Int)]) (z1_:n<2 ^ 32) (z2_:∀ (p:Addr) (H':Hp),H p=none→H' p=some (.lst (vN (sgl n)))→Same H H'→Q (.ref p) H')
theorem zha {f:Addr}{fd:FuncData}(F:Fun K "_law_ones" "_law_ones" zdo f fd)(T:Blt mg):FnOk P w K mg base CX0 1 f fd ["own_mask"] spOnesL:=by
 refine F.ok sc_law_ones (by walk_at "l") (fun cdv A outer s H vs Q E hr h=>?_)
 ·obtain ⟨n,rfl,hn,k⟩:=h
  refine ⟨_,(zab (ps_L 1 sc_law_ones.nd (zax zae))
   (zab (ps_L 2 sc_law_ones.nd zad)
   (zab (zfs PassesOwn.never (zas zh9 (pv 2) (pv 0) (zat _)) (zab (zay (zas zf5 (zak zaW (pv 0) (pv 2)) zad (zat _)) (zaf (zau (zdy PySem.F.plainAttrs_list PySem.F.slot_list_append PySem.F.type_list_append zaN (pv 1) (zaa (pv 2) zae)))) zan)
   (zaf (zlm (i:=2) sc_law_ones.nd rfl (Or.inl rfl) (pv 2) zjG))))
   (zaf (zam (pv 1)))))),?rd⟩
  refine ⟨by show 0≤sizeLine;decide,fun l hl=>?_⟩
  refine zfd (fun σ X=>∃ (i:Nat),σ=[some (.int (n:Int)),some (.ref l),some (.int ((2 ^ i:Nat):Int))]∧i≤33∧X l=some (.lst (vN (sgl (n % 2 ^ i))))∧Same H X) (fun σ _=>match σ with | [_,_,some (.int b)]=>(2 * n+2 - b.toNat) | _=>0)
   ⟨0,rfl,by decide,by rw [Nat.pow_zero,Nat.mod_one,zc0];exact zac,zah hl⟩ ?_ ?_
  ·rintro σ X ⟨i,rfl,hi,eX,sX⟩
   have hsz:(vN (sgl (n % 2 ^ i))).length<sizeLine:=by
    rw [zaq,zbM]
    have:=zfw 64 (n % 2 ^ i) (XaM (Nat.mod_le _ _) (Xak hn (by decide)))
    exact zcZ (by omega)
   have hp:=Xbw i
   refine ⟨_,rfl,_,rfl,_,_,rfl,rfl,_,rfl,ite2 (fun h1=>?_) (fun h1=>?_)⟩
   ·have h1:2 ^ i≤n:=by have:=Xa2 h1;omega
    have hi32:i<32:=by
     by_cases h:i<32
     ·exact h
     ·have:2 ^ 32≤2 ^ i:=XaQ (by decide) (by omega)
      omega
    have st:=zlh n i
    have e2:((2 ^ i:Nat):Int)+((2 ^ i:Nat):Int)=((2 ^ (i+1):Nat):Int):=by rw [Xbe];omega
    have e3:Builtin.bitAnd (n:Int) ((2 ^ i:Nat):Int)=((n &&& 2 ^ i:Nat):Int):=band _ _
    have hms:2 * n+2 - (((2 ^ i:Nat):Int)+((2 ^ i:Nat):Int)).toNat<2 * n+2 - ((2 ^ i:Nat):Int).toNat:=by rw [Xap,e2,Xap,Xbe];omega
    refine ⟨_,rfl,_,rfl,_,_,rfl,rfl,_,_,rfl,rfl,_,rfl,ite2 (fun h2=>?_) (fun h2=>zaw ?_)⟩
    ·have h2:¬ n &&& 2 ^ i=0:=fun z=>by
      have h2:=Xa2 h2
      rw [e3,z] at h2
      exact absurd h2 (by decide)
     rw [if_neg h2] at st
     refine ⟨_,rfl,.inl ⟨rfl,_,SqL.of eX⟩,_,rfl,l,_,_,rfl,rfl,eX,hsz,?_⟩
     refine ⟨_,rfl,_,rfl,_,_,rfl,rfl,⟨⟨i+1,?_,by omega,by rw [zac,st,zcb],fun b o e=>by rw [zag (zaj e hl)];exact sX b o e⟩,hms⟩⟩
     rw [← e2];rfl
    ·have h2:n &&& 2 ^ i=0:=by
      by_cases z:n &&& 2 ^ i=0
      ·exact z
      ·exact absurd (Xah (show (0:Int)<Builtin.bitAnd (n:Int) ((2 ^ i:Nat):Int) by rw [e3];omega)) h2
     rw [if_pos h2,Xbm] at st
     try dsimp only
     refine ⟨_,rfl,_,rfl,_,_,rfl,rfl,⟨⟨i+1,?_,by omega,by rw [st];exact eX,sX⟩,hms⟩⟩
     rw [← e2];rfl
   ·have h1:n<2 ^ i:=by
     by_cases z:2 ^ i≤n
     ·exact absurd (Xah (show ((2 ^ i:Nat):Int)≤(n:Int) by omega)) h1
     ·omega
    rw [Nat.mod_eq_of_lt h1] at eX
    exact ⟨_,rfl,k l X hl eX sX⟩
  ·rintro σ X Q1 Q2 hq h
   obtain ⟨v,e,v2,e',i,j,e1,e2,c,e3,h⟩:=h
   exact ⟨v,e,v2,e',i,j,e1,e2,c,e3,hq _ _ h⟩
structure MdB (H:Hp)(m row:Addr)(kd n:Nat)(ws:List Nat):Prop where
 at_:H m=some (.lst [.str (zbi kd),.ref row,.int (n:Int)])
 ls:H row=some (.lst (vN ws))
theorem zfe {x:Str}{l:List V}{ws:List Nat}:vN ws≠V.str x :: l:=fun z=>by
 cases ws with
 | nil=>cases z
 | cons a b=>have:=(List.cons.inj z).1;cases this
theorem MdB.same {H H':Hp}{m row:Addr}{kd n:Nat}{ws:List Nat}(d:MdB H m row kd n ws)(s:Same H H'):MdB H' m row kd n ws:=⟨s _ _ d.at_,s _ _ d.ls⟩
structure Mod (D:Dt)(md rw:Nat→Addr)(Y:Hp)(us:Nat→List Nat):Prop where
 o:∀ i,i<D.m→MdB Y (md i) (rw i) (D.kd i) (D.n i) (us i)
 k:∀ i,i<D.m→Kd (D.kd i) (D.n i) (us i)
 h1:∀ i,i<D.m→D.kd i=2∨D.kd i=3→(us i).length=1
 z:∀ i,i<D.m→ksize (D.kd i) (us i)=D.sz i
 inj:∀ i j,i<D.m→j<D.m→rw i=rw j→i=j
theorem Mod.same {D:Dt}{md rw:Nat→Addr}{Y Z:Hp}{us:Nat→List Nat}(M:Mod D md rw Y us)(s:Same Y Z):Mod D md rw Z us:=⟨fun i h=>(M.o i h).same s,M.k,M.h1,M.z,M.inj⟩
def mdL (D:Dt)(md:Nat→Addr):List V:=(List.range D.m).map fun i=>.ref (md i)
theorem zlv {D:Dt}{md:Nat→Addr}{i:Nat}(h:i<D.m):(mdL D md)[i]? = some (.ref (md i)):=by unfold mdL;rw [Xat,List.getElem?_range h];rfl
theorem zjl:∀ a b:Nat,a &&& b=0→a ||| b=a+b:=by
 intro a
 induction a using Nat.strongRecOn with
 | _ a ih =>
  intro b h
  by_cases ha:a=0
  ·subst ha;simp
  ·have h2:(a / 2) &&& (b / 2)=0:=by rw [← Nat.and_div_two,h]
   have e1:(a ||| b) / 2=a / 2+b / 2:=(Nat.or_div_two (a:=a) (b:=b)).trans (ih (a / 2) (by omega) (b / 2) h2)
   have e2:(a ||| b) % 2=(a % 2 ||| b % 2):=Nat.or_mod_two_pow (n:=1)
   have e3:(a &&& b) % 2=(a % 2 &&& b % 2):=Nat.and_mod_two_pow (n:=1)
   rw [h] at e3
   have e4:a % 2 ||| b % 2=a % 2+b % 2:=by
    rcases (show a % 2=0∨a % 2=1 by omega) with x | x <;> rcases (show b % 2=0∨b % 2=1 by omega) with y | y <;> rw [x,y] at e3 ⊢ <;> first | rfl | (exact absurd e3 (by decide))
   omega
theorem zkL (i:Nat):ones (2 ^ i)=1:=by
 induction i with
 | zero=>rw [show 2 ^ 0=2 * 0+1 from rfl,zcr,zc3]
 | succ i ih=>rw [Xbe,Nat.mul_comm,zbw,ih]
theorem zg2 {i p:Nat}(h:i.testBit p=false):ones (i ||| 2 ^ p)=ones i+1:=by
 have hd:i &&& 2 ^ p=0:=Nat.eq_of_testBit_eq fun j=>by
  rw [XaG,Xbo,Nat.zero_testBit]
  by_cases e:p=j
  ·subst e;rw [h];rfl
  ·rw [Xai e,XbG]
 rw [zjl _ _ hd,zk3 _ _ hd,zkL]
def Few (n m r:Nat):Prop:=r &&& n=r∧ones r≤m
inductive spFew (vs:List V)(H:Hp)(Q:VK)(u3_:XK):Prop
 | mk (n m:Nat) (z0_:vs=[.int (n:Int),.int (m:Int)]) (z1_:n<2 ^ 32) (z2_:∀ (r:Nat) (H':Hp),Few n m r→Same H H'→Q (.int (r:Int)) H')
theorem zd4 (n:Nat):∀ i k,∃ r,((sgl (n % 2 ^ i)).take k).sum=r∧r &&& n=r∧r<2 ^ i∧ones r≤k
 | 0,k=>⟨0,by rw [Nat.pow_zero,Nat.mod_one,zc0];simp,by simp,by simp,by rw [zc3];omega⟩
 | i+1,k=>by
  have hp:2 ^ (i+1)=2 * 2 ^ i:=by rw [Xbe];omega
  have h0:=Xbw i
  rw [zlh]
  by_cases hb:n &&& 2 ^ i=0
  ·rw [if_pos hb,Xbm]
   obtain ⟨r,h1,h2,h3,h4⟩:=zd4 n i k
   exact ⟨r,h1,h2,by omega,h4⟩
  ·rw [if_neg hb]
   by_cases hk:k≤(sgl (n % 2 ^ i)).length
   ·rw [List.take_append_of_le_length hk]
    obtain ⟨r,h1,h2,h3,h4⟩:=zd4 n i k
    exact ⟨r,h1,h2,by omega,h4⟩
   ·obtain ⟨r,h1,h2,h3,h4⟩:=zd4 n i (sgl (n % 2 ^ i)).length
    rw [List.take_length] at h1
    have hf:r.testBit i=false:=Nat.testBit_lt_two_pow h3
    have hd:r &&& 2 ^ i=0:=Nat.eq_of_testBit_eq fun j=>by
     rw [XaG,Xbo,Nat.zero_testBit]
     by_cases e:i=j
     ·subst e;rw [hf];rfl
     ·rw [Xai e,XbG]
    have hbt:n.testBit i=true:=by
     cases h:n.testBit i with
     | true=>rfl
     | false =>
      refine absurd (Nat.eq_of_testBit_eq fun j=>?_) hb
      rw [XaG,Xbo,Nat.zero_testBit]
      by_cases e:i=j
      ·subst e;rw [h];rfl
      ·rw [Xai e,XbG]
    refine ⟨r ||| 2 ^ i,?_,?_,?_,?_⟩
    ·rw [Xa8 (by rw [Xaq];simp;omega),List.sum_append,h1,zjl _ _ hd];simp
    ·refine Nat.eq_of_testBit_eq fun j=>?_
     have:=congrArg (fun x=>Nat.testBit x j) h2
     simp only [XaG] at this
     rw [XaG,Nat.testBit_or,Xbo]
     by_cases e:i=j
     ·subst e;rw [hbt];simp
     ·rw [Xai e,Bool.or_false];exact this
    ·rw [zjl _ _ hd];omega
    ·rw [zg2 hf];omega
theorem few_is {n:Nat}(hn:n<2 ^ 32)(k:Nat):Few n k ((sgl n).take k).sum:=by
 obtain ⟨r,h1,h2,_,h4⟩:=zd4 n 32 k
 rw [Nat.mod_eq_of_lt hn] at h1
 rw [h1]
 exact ⟨h2,h4⟩
structure Cm where
 x:Addr
 p:Addr
 m:Addr
 r:Addr
 kd:Nat
 n:Nat
 us:List Nat
structure CmOk (cs:Nat→Addr)(X:Hp)(c:Cm):Prop where
 ch:Chp cs X c.x c.p c.kd c.n c.us
 md:MdB X c.m c.r c.kd c.n c.us
 k:Kd c.kd c.n c.us
 h1:c.kd=2∨c.kd=3→c.us.length=1
 ne:c.p≠c.r
theorem CmOk.same {cs:Nat→Addr}{X Y:Hp}{c:Cm}(h:CmOk cs X c)(s:Same X Y):CmOk cs Y c:=⟨h.ch.same s,h.md.same s,h.k,h.h1,h.ne⟩
structure CMs (cs:Nat→Addr)(X:Hp)(cl:List Cm):Prop where
 o:∀ c∈cl,CmOk cs X c
 nd:((cl.map (·.p)) ++ (cl.map (·.r))).Nodup
theorem CMs.same {cs:Nat→Addr}{X Y:Hp}{cl:List Cm}(h:CMs cs X cl)(s:Same X Y):CMs cs Y cl:=⟨fun c hc=>(h.o c hc).same s,h.nd⟩
theorem CMs.add {cs:Nat→Addr}{X Y:Hp}{cl:List Cm}{c:Cm}(h:CMs cs X cl)(s:Same X Y)(hp:X c.p=none)(hr:X c.r=none)(ho:CmOk cs Y c):CMs cs Y (cl ++ [c]):=by
 have fp:∀ d∈cl,d.p≠c.p∧d.p≠c.r∧d.r≠c.p∧d.r≠c.r:=fun d hd=>by
  have e1:=(h.o d hd).ch.ls
  have e2:=(h.o d hd).md.ls
  exact ⟨(fun z=>by rw [z,hp] at e1;cases e1),(fun z=>by rw [z,hr] at e1;cases e1),(fun z=>by rw [z,hp] at e2;cases e2),(fun z=>by rw [z,hr] at e2;cases e2)⟩
 refine ⟨fun d hd=>?_,?_⟩
 ·rcases XaF.mp hd with hd | hd
  ·exact (h.same s).o d hd
  ·rw [Xad.mp hd];exact ho
 ·obtain ⟨n1,n2,n3⟩:=XaO.mp h.nd
  rw [XaH,XaH]
  refine XaO.mpr ⟨XaO.mpr ⟨n1,by simp,fun a ha b hb=>?_⟩,XaO.mpr ⟨n2,by simp,fun a ha b hb=>?_⟩,fun a ha b hb=>?_⟩
  ·obtain ⟨d,hd,rfl⟩:=XaC.mp ha
   have hb:b=c.p:=by simpa using hb
   rw [hb];exact (fp d hd).1
  ·obtain ⟨d,hd,rfl⟩:=XaC.mp ha
   have hb:b=c.r:=by simpa using hb
   rw [hb];exact (fp d hd).2.2.2
  ·rcases XaF.mp ha with ha | ha <;> rcases XaF.mp hb with hb | hb
   ·exact n3 a ha b hb
   ·obtain ⟨d,hd,rfl⟩:=XaC.mp ha
    have hb:b=c.r:=by simpa using hb
    rw [hb];exact (fp d hd).2.1
   ·obtain ⟨d,hd,rfl⟩:=XaC.mp hb
    have ha:a=c.p:=by simpa using ha
    rw [ha];exact Ne.symm (fp d hd).2.2.1
   ·have ha:a=c.p:=by simpa using ha
    have hb:b=c.r:=by simpa using hb
    rw [ha,hb];exact ho.ne
theorem CMs.updL {cs:Nat→Addr}{X:Hp}{cl:List Cm}{L:Addr}{o:HO}(h:CMs cs X cl)(hL:∀ c∈cl,c.x≠L∧c.p≠L∧c.m≠L∧c.r≠L):CMs cs (upd X L o) cl:=by
 refine ⟨fun c hc=>?_,h.nd⟩
 obtain ⟨a1,a2,a3,a4⟩:=hL c hc
 have ok:=h.o c hc
 obtain ⟨dx,e⟩:=ok.ch.ex
 exact ⟨⟨⟨dx,by rw [zag a1];exact e⟩,by rw [zag a2];exact ok.ch.ls⟩,⟨by rw [zag a3];exact ok.md.at_,by rw [zag a4];exact ok.md.ls⟩,ok.k,ok.h1,ok.ne⟩
def dfCm:Cm:=⟨0,0,0,0,0,0,[]⟩
def dtC (cl:List Cm):Dt:=⟨cl.length,fun i=>(cl.getD i dfCm).x,fun i=>(cl.getD i dfCm).p,fun i=>(cl.getD i dfCm).kd,fun i=>(cl.getD i dfCm).n,fun i=>ksize (cl.getD i dfCm).kd (cl.getD i dfCm).us⟩
def usC (cl:List Cm)(i:Nat):List Nat:=(cl.getD i dfCm).us
theorem zaS {cl:List Cm}{i:Nat}(h:i<cl.length):cl.getD i dfCm∈cl∧cl[i]? = some (cl.getD i dfCm):=by
 rw [Xby,Xav h]
 exact ⟨Xbh _,rfl⟩
theorem nd_at {l:List Addr}(h:l.Nodup){i j:Nat}{a:Addr}(h1:l[i]? = some a)(h2:l[j]? = some a):i=j:=by
 obtain ⟨l1,e1⟩:=Xag.mp h1
 obtain ⟨l2,e2⟩:=Xag.mp h2
 exact (List.getElem_inj h).mp (e1.trans e2.symm)
theorem CMs.chs {cs:Nat→Addr}{X:Hp}{cl:List Cm}(h:CMs cs X cl)(hl:cl.length≤200):Chs cs (dtC cl) X (usC cl):=by
 refine ⟨fun i hi=>(h.o _ (zaS hi).1).ch,fun i hi=>(h.o _ (zaS hi).1).k,fun i hi=>(h.o _ (zaS hi).1).h1,fun i hi=>rfl,fun i j hi hj e=>?_,hl⟩
 have h1:(cl.map (·.p))[i]? = some (cl.getD i dfCm).p:=by rw [Xat,(zaS hi).2];rfl
 have h2:(cl.map (·.p))[j]? = some (cl.getD j dfCm).p:=by rw [Xat,(zaS hj).2];rfl
 rw [← show (cl.getD i dfCm).p=(cl.getD j dfCm).p from e] at h2
 exact nd_at (XaO.mp h.nd).1 h1 h2
theorem CMs.mod {cs:Nat→Addr}{X:Hp}{cl:List Cm}(h:CMs cs X cl):Mod (dtC cl) (fun i=>(cl.getD i dfCm).m) (fun i=>(cl.getD i dfCm).r) X (usC cl):=by
 refine ⟨fun i hi=>(h.o _ (zaS hi).1).md,fun i hi=>(h.o _ (zaS hi).1).k,fun i hi=>(h.o _ (zaS hi).1).h1,fun i hi=>rfl,fun i j hi hj e=>?_⟩
 have h1:(cl.map (·.r))[i]? = some (cl.getD i dfCm).r:=by rw [Xat,(zaS hi).2];rfl
 have h2:(cl.map (·.r))[j]? = some (cl.getD j dfCm).r:=by rw [Xat,(zaS hj).2];rfl
 rw [← show (cl.getD i dfCm).r=(cl.getD j dfCm).r from e] at h2
 exact nd_at (XaO.mp h.nd).2.1 h1 h2
theorem zj5 (cl:List Cm):chL (dtC cl)=cl.map fun c=>V.ref c.x:=by
 unfold chL
 apply List.ext_getElem?
 intro i
 rw [Xat,Xat]
 by_cases h:i<cl.length
 ·rw [(zaS h).2,List.getElem?_range (show i<(dtC cl).m from h)]
  rfl
 ·rw [XaD (Nat.le_of_not_lt h),XaD (show (List.range (dtC cl).m).length≤i by rw [List.length_range];exact Nat.le_of_not_lt h)]
  rfl
theorem mdL_cm (cl:List Cm):mdL (dtC cl) (fun i=>(cl.getD i dfCm).m)=cl.map fun c=>V.ref c.m:=by
 unfold mdL
 apply List.ext_getElem?
 intro i
 rw [Xat,Xat]
 by_cases h:i<cl.length
 ·rw [(zaS h).2,List.getElem?_range (show i<(dtC cl).m from h)]
  rfl
 ·rw [XaD (Nat.le_of_not_lt h),XaD (show (List.range (dtC cl).m).length≤i by rw [List.length_range];exact Nat.le_of_not_lt h)]
  rfl
theorem zbS {H2 H':Hp}{x dx:Addr}{C:Addr}(hx:H2 x=none)(hdx:H2 dx=none)(ne:dx≠x)(k:ziF x (upd (upd H2 dx (.own x)) x (.ins C dx [])) H'):Same H2 H':=fun a o e=>by
 have na:a≠x:=zaj e hx
 exact k a o na (by rw [zag na,zag (zaj e hdx)];exact e)
theorem drw {row:List Nat}(n:Nat)(hl:n≤row.length)(hw:∀ v∈row,v<2 ^ 31):∃ dr:Nat→Nat,∀ j:Nat,j<n→atI (vN row) (j:Int)=some (.int (dr j:Int))∧dr j<2 ^ 31:=⟨fun j=>row.getD j 0,fun j hj=>by
 have hj':j<row.length:=by omega
 have e:row.getD j 0=row[j]:=by rw [Xby,Xav hj'];rfl
 show _=some (V.int ((row.getD j 0:Nat):Int))∧row.getD j 0<2 ^ 31
 rw [e]
 exact ⟨zaP (by unfold vN;rw [Xat,Xav hj'];rfl),hw _ (Xbh _)⟩⟩
abbrev zep:Stmt:=top 69
theorem zh3:FnScope ["number","most"] ["number","most"] (zai zep):=sck rfl rfl rfl (by decide +kernel)
theorem zij {f:Addr}{fd:FuncData}(F:Fun K "_law_few" "_law_few" zep f fd)(T:Blt mg)(G_law_ones:Cal P w K mg base 1 "_law_ones" ["own_mask"] spOnesL):FnOk P w K mg base CX0 2 f fd ["number","most"] spFew:=by
 refine F.ok zh3 (by walk_at "l") (fun cdv A outer s H vs Q E hr h=>?_)
 ·obtain ⟨n,m,rfl,hn,k⟩:=h
  refine ⟨_,(zaf (zam (zap (zgx rfl) (by rfl) T.sum PyProof.Rows.boot_sum (zaa (zb0 zea (pe_c G_law_ones (zaa (pv 0) zae)) zft (zbt (pv 1))) zae)))),?rd⟩
  refine ⟨_,rfl,n,rfl,hn,fun p H1 hp ep s1=>?_⟩
  have ec:cutV (vN (sgl n)) none (some (m:Int))=(((sgl n).take m).map fun (a:Nat)=>(a:Int)).map V.int:=by
   unfold cutV
   rw [HT.sIx_nat,HT.sIx_none,zaq,Nat.sub_zero,List.drop_zero]
   unfold vN
   rw [List.map_take,List.map_take,Xa7]
   by_cases h:m≤(sgl n).length
   ·rw [Nat.min_eq_left h];rfl
   ·rw [Nat.min_eq_right (by omega),Xa8 (by rw [Xaf];exact Xae _),Xa8 (by rw [Xaf];omega)];rfl
  have sm:∀ l:List Nat,(l.map fun (a:Nat)=>(a:Int)).sum=((l.sum:Nat):Int):=fun l=>by
   induction l with
   | nil=>rfl
   | cons a l ih=>rw [Xaz,List.sum_cons,List.sum_cons,ih];omega
  refine ⟨_,rfl,m,rfl,p,_,rfl,SqL.of ep,fun q hq=>?_⟩
  rw [ec]
  refine ⟨q,_,rfl,SqL.of zac,?_⟩
  rw [sm]
  exact k _ _ (few_is hn m) (s1.trans (zah hq))
abbrev zdm:Stmt:=top 65
theorem zgU:FnScope ["model"] ["model"] (zai zdm):=sck rfl rfl rfl (by decide +kernel)
inductive spSz34 (vs:List V)(H:Hp)(Q:VK)(u3_:XK):Prop
 | mk (m r:Addr) (kd n:Nat) (us:List Nat) (z0_:vs=[.ref m]) (z1_:MdB H m r kd n us) (z2_:kd<5) (z3_:Q (.int (ksize kd us:Int)) H)
theorem zg8 {f:Addr}{fd:FuncData}(F:Fun K "_law_size" "_law_size" zdm f fd)(T:Blt mg):FnOk P w K mg base CX0 1 f fd ["model"] spSz34:=by
 refine F.ok zgU (by walk_at "l") (fun cdv A outer s H vs Q E hr h=>?_)
 ·obtain ⟨m,r,kd,n,us,rfl,hM,hk,k⟩:=h
  refine ⟨_,(zab (zay (zas zby (pe_x zal (pv 0) zad) zaQ (zat _)) (zaf (zam zad)) zan)
   (zaf (zam (zap zar (by rfl) T.len PySem.boot_len (zaa (pe_x zal (pv 0) zad) zae))))),?rd⟩
  refine ⟨_,rfl,m,_,_,_,rfl,rfl,SqL.of hM.at_,rfl,rfl,_,rfl,?_⟩
  rw [show decide (V.str (zbi kd)=V.str "pipe")=decide (kd=4) from zbB (j:=4) hk (by decide)]
  unfold ksize at k
  by_cases e:kd=4
  ·rw [if_pos e] at k
   rw [Xah e]
   exact iteT k
  ·rw [if_neg e] at k
   rw [Xai e]
   refine iteF (zaw ?_)
   try dsimp only
   refine ⟨_,rfl,m,_,_,_,rfl,rfl,SqL.of hM.at_,rfl,r,_,rfl,.inl (SqL.of hM.ls),?_⟩
   rw [zaq]
   exact k
abbrev zdq:Stmt:=top 63
theorem sc_law_chip:FnScope ["one","other","own_kind","own_word","cells","words","room"] ["one","other"] (zai zdq):=sck rfl rfl rfl (by decide +kernel)
inductive spChip34 (cs:Nat→Addr)(vs:List V)(H:Hp)(Q:VK)(u3_:XK):Prop
 | mk (one other:Nat) (z0_:vs=[.int (one:Int),.int (other:Int)]) (z1_:one<2 ^ 31) (z2_:other<2 ^ 31) (z3_:∀ (t:Addr) (c:Cm) (H':Hp),H t=none→H' t=some (.tup [.ref c.x,.ref c.m])→H c.p=none→H c.r=none→H c.m=none→CmOk cs H' c→Same H H'→Q (.ref t) H')
theorem zhc {f:Addr}{cs:Nat→Addr}{fd:FuncData}(F:Fun K "_law_chip" "_law_chip" zdq f fd)(T:Blt mg)
  (GMFixed_1:Mak P w K mg base 3 "Fixed" (cs 1) [] (dP []) (spMkFH (cs 1))) (GMPipe_1:Mak P w K mg base 3 "Pipe" (cs 4) [] (dP []) (spMkP (cs 4))) (GMLatch_1:Mak P w K mg base 3 "Latch" (cs 2) [] (dP []) (spMk1H (cs 2) "latch")) (GMMeter_1:Mak P w K mg base 3 "Meter" (cs 3) [] (dP []) (spMk1H (cs 3) "meter")) (GMStore_2:Mak P w K mg base 3 "Store" (cs 0) [] (dP []) (spMkSH (cs 0))):FnOk P w K mg base CX0 5 f fd ["one","other"] (spChip34 cs):=by
 refine F.ok sc_law_chip (by walk_at "l") (fun cdv A outer s H vs Q E hr h=>?_)
 ·obtain ⟨one,other,rfl,h1,h2,k⟩:=h
  refine ⟨_,(zab (ps_L 2 sc_law_chip.nd (pe_x zal (zax (zaa zaQ (zaa zaQ (zaa zaQ (zaa zaQ (zaa zaQ (zaa zaQ (zaa zaQ zae)))))))) (zak zaB (pv 0) zad)))
   (zab (ps_L 3 sc_law_chip.nd (zak zaB (pv 1) zad))
   (zab (zay (zas zby (pv 2) zaQ (zat _)) (zab (ps_L 4 sc_law_chip.nd (pe_x zal (zax (zaa (zak zaR zad (zak zaB (zak zaD (pv 0) zad) zad)) (zaa zad (zaa zad (zaa zad zae))))) (zak zaB (zak zaD (pv 0) zad) zad)))
   (zaf (zam (za7 (zaa (zdH GMStore_2 (hrm hr) rfl (zaa (pv 4) (zaa (pv 3) zae))) (zaa (zax (zaa (pv 2) (zaa (zak zlr (zax (zaa (pv 3) zae)) (pv 4)) (zaa zad zae)))) zae)))))) zan)
   (zab (zay (zas zby (pv 2) zaQ (zat _)) (zab (zeZ (i:=5) (Nc:=["k","other"]) [none,some 1] sc_law_chip.nd rfl rfl rfl (zaX (by rfl)) (zck rfl T.range (zaa (zak zaR zad (zak zaB (zak zaD (pv 0) zad) zad)) zae)) (fun _ _ _ _ _=>(pg_L 0 (show (["k","other"]:List Str).Nodup by decide +kernel))) (fun _ _ _ _ _=>ze0) (fun _ _ _ _ _=>(zak zaB (zak zaR (zak zaD (pv 1) (zak zaR zad (pv 0))) (zak zdz zad (pv 0))) zad)))
   (zaf (zam (za7 (zaa (zdH GMFixed_1 (hrm hr) rfl (zaa (pv 5) zae)) (zaa (zax (zaa (pv 2) (zaa (pv 5) (zaa zad zae)))) zae)))))) zan)
   (zab (zay (zas zby (pv 2) zaQ (zat _)) (zaf (zam (za7 (zaa (zdH GMLatch_1 (hrm hr) rfl (zaa (pv 3) zae)) (zaa (zax (zaa (pv 2) (zaa (zax (zaa (pv 3) zae)) (zaa zad zae)))) zae))))) zan)
   (zab (zay (zas zby (pv 2) zaQ (zat _)) (zaf (zam (za7 (zaa (zdH GMMeter_1 (hrm hr) rfl (zaa (pv 3) zae)) (zaa (zax (zaa (pv 2) (zaa (zax (zaa (pv 3) zae)) (zaa zad zae)))) zae))))) zan)
   (zab (ps_L 6 sc_law_chip.nd (pe_x zal (zax (zaa (zak zaR zad (zak zaB (zak zaD (pv 0) zad) zad)) (zaa zad zae))) (za4 zj8 (by rfl) T.int zlI (zaa (zbv zby (zak zaB (zak zaD (pv 0) zad) zad) zad (zat _)) zae))))
   (zaf (zam (za7 (zaa (zdH GMPipe_1 (hrm hr) rfl (zaa (pv 6) zae)) (zaa (zax (zaa (pv 2) (zaa (zax zae) (zaa (pv 6) zae)))) zae)))))))))))),?rd⟩
  have hv:other % 256≤255:=by omega
  have ev:(other:Int) % 256=((other % 256:Nat):Int):=by omega
  refine za2 (fun σ X=>∃ kd:Nat,kd<5∧σ=[some (.int (one:Int)),some (.int (other:Int)),some (.str (zbi kd)),none,none,none,none]∧Same H X) (fun N hN=>?_) ?_
  ·refine ⟨by show 7≤sizeLine;decide,fun l hl=>⟨_,rfl,_,_,rfl,rfl,(show (0:Int)<7 by decide),?_⟩⟩
   obtain ⟨kd,hkd,ek⟩:∃ kd:Nat,kd<5∧atI [V.str "store",V.str "fixed",V.str "latch",V.str "meter",V.str "pipe",V.str "latch",V.str "store"] ((one:Int) % 7)=some (.str (zbi kd)):=by
    rw [show (one:Int) % 7=((one % 7:Nat):Int) by omega]
    rcases (show one % 7=0∨one % 7=1∨one % 7=2∨one % 7=3∨one % 7=4∨one % 7=5∨one % 7=6 by omega) with h | h | h | h | h | h | h <;> rw [h]
    ·exact ⟨0,by decide,rfl⟩
    ·exact ⟨1,by decide,rfl⟩
    ·exact ⟨2,by decide,rfl⟩
    ·exact ⟨3,by decide,rfl⟩
    ·exact ⟨4,by decide,rfl⟩
    ·exact ⟨2,by decide,rfl⟩
    ·exact ⟨0,by decide,rfl⟩
   exact ⟨l,_,_,_,rfl,rfl,SqL.of zac,ek,hN _ _ ⟨kd,hkd,rfl,zah hl⟩⟩
  rintro σ X ⟨kd,hkd,rfl,sX⟩
  refine za2 (fun σ Y=>σ=[some (.int (one:Int)),some (.int (other:Int)),some (.str (zbi kd)),some (.int ((other % 256:Nat):Int)),none,none,none]∧Y=X) (fun N hN=>?_) ?_
  ·refine ⟨_,rfl,_,_,rfl,rfl,(show (0:Int)<256 by decide),hN _ _ ⟨?_,rfl⟩⟩
   try dsimp only
   rw [ev]
   rfl
  rintro σ Y ⟨rfl,rfl⟩
  generalize other % 256=v at *
  have same_p:∀ {Z:Hp} {x dx p:Addr} {C:Addr},Z x=none→Z dx=none→dx≠x→upd (upd Z dx (.own x)) x (.ins C dx []) p=none→Z p=none:=fun {Z x dx p C} hx hdx ne h=>zi1 ((zah (o:=.own x) hdx).trans (zah (o:=.ins C dx []) (by rw [zag (Ne.symm ne)];exact hx))) h
  have fin:∀ (x p r:Addr) (kd n:Nat) (us:List Nat) (Z:Hp),Same H Z→H p=none→H r=none→Chp cs Z x p kd n us→Z r=some (.lst (vN us))→Kd kd n us→(kd=2∨kd=3→us.length=1)→p≠r→3≤sizeLine∧∀ a,Z a=none→2≤sizeLine∧∀ t,upd Z a (.lst [.str (zbi kd),.ref r,.int (n:Int)]) t=none→Q (.ref t) (upd (upd Z a (.lst [.str (zbi kd),.ref r,.int (n:Int)])) t (.tup [.ref x,.ref a])):=fun x p r kd n us Z sZ hp hr' hc er hk h1' hne=>by
   refine ⟨by decide,fun a ha=>⟨by decide,fun t ht=>?_⟩⟩
   have sa:=zah (o:=.lst [V.str (zbi kd),.ref r,.int (n:Int)]) ha
   have st:=zah (o:=.tup [.ref x,.ref a]) ht
   exact k t ⟨x,p,a,r,kd,n,us⟩ _ (sZ.trans sa |>.free ht) zac hp hr' (sZ.free ha) ⟨hc.same (sa.trans st),⟨st _ _ zac,st _ _ (sa _ _ er)⟩,hk,h1',hne⟩ ((sZ.trans sa).trans st)
  
  refine za2 (fun σ Z=>σ=[some (.int (one:Int)),some (.int (other:Int)),some (.str (zbi kd)),some (.int (v:Int)),none,none,none]∧Z=Y∧kd≠0) (fun N hN=>?_) ?_
  ·refine ⟨_,rfl,rfl,_,rfl,?_⟩
   rw [show decide (V.str (zbi kd)=V.str "store")=decide (kd=0) from zbB (j:=0) hkd (by decide)]
   by_cases e:kd=0
   ·subst e
    rw [Xah rfl]
    refine iteT ⟨_,rfl,_,_,rfl,rfl,⟨by decide,by decide +kernel⟩,_,_,rfl,rfl,(show (0:Int)<40 by decide),_,_,rfl,rfl,by show 4≤sizeLine;decide,fun l hl=>⟨_,rfl,_,_,rfl,rfl,⟨by decide,by decide +kernel⟩,_,_,rfl,rfl,(show (0:Int)<4 by decide),?_⟩⟩
    obtain ⟨cn,c1,c2,ec⟩:∃ cn:Nat,1≤cn∧cn≤300∧atI [V.int ((1:Int)+(one:Int) / 7 % 40),V.int 2,V.int 64,V.int 300] ((one:Int) / 280 % 4)=some (.int (cn:Int)):=by
     rw [show (one:Int) / 280 % 4=((one / 280 % 4:Nat):Int) by omega]
     rcases (show one / 280 % 4=0∨one / 280 % 4=1∨one / 280 % 4=2∨one / 280 % 4=3 by omega) with h | h | h | h <;> rw [h]
     ·exact ⟨1+one / 7 % 40,by omega,by omega,by show some (V.int ((1:Int)+(one:Int) / 7 % 40))=_;rw [show (1:Int)+(one:Int) / 7 % 40=((1+one / 7 % 40:Nat):Int) by omega]⟩
     ·exact ⟨2,by decide,by decide,rfl⟩
     ·exact ⟨64,by decide,by decide,rfl⟩
     ·exact ⟨300,by decide,by decide,rfl⟩
    refine ⟨l,_,_,_,rfl,rfl,SqL.of zac,ec,?_⟩
    have sl:=sX.trans (zah (o:=.lst [V.int ((1:Int)+(one:Int) / 7 % 40),V.int 2,V.int 64,V.int 300]) hl)
    refine ⟨_,rfl,_,rfl,fun x dx hx hdx ne=>⟨x,dx,cn,(v:Int),rfl,c1,by omega,by omega,by omega,zac,fun p Z1 hp ex el kp=>⟨rfl,?_⟩⟩⟩
    have sm:=zbS hx hdx ne kp
    have hp1:=same_p hx hdx ne hp
    refine ⟨_,rfl,_,rfl,by show 1≤sizeLine;decide,fun g hg=>⟨_,rfl,g,_,_,rfl,rfl,zac,by omega,by omega,?_,fun r hr'=>?_⟩⟩
    ·rw [Xap];exact Xar (show 1 * cn≤300 by omega) (by decide)
    have sg:=zah (o:=.lst [V.int (v:Int)]) hg
    have er:(List.replicate ((cn:Int)).toNat [V.int (v:Int)]).flatten=vN (List.replicate cn v):=by rw [Xap];exact zky cn v
    rw [er]
    have sr:=zah (o:=.lst (vN (List.replicate cn v))) hr'
    have elv:Z1 p=some (.lst (vN (List.replicate cn v))):=by rw [el];unfold vN;rw [XbR]
    refine fin x p r 0 0 (List.replicate cn v) _ (sl.trans sm |>.trans sg |>.trans sr) (sl.free hp1) ((sl.trans sm).trans sg |>.free hr') ⟨?_,(sg.trans sr) _ _ elv⟩ zac ⟨by decide,fun w hw=>by rw [List.eq_of_mem_replicate hw];exact hv,by rw [Xbj];omega,fun _=>by rw [Xbj];exact c1,(fun h=>absurd h (by decide)),(fun h=>absurd h (by decide)),by decide⟩ (fun h=>by rcases h with h | h <;> cases h) ?_
    ·obtain ⟨d0,e0⟩:=ex
     exact ⟨d0,(sg.trans sr) _ _ e0⟩
    ·intro z
     have:=sg _ _ elv
     rw [z,hr'] at this;cases this
   ·rw [Xai e]
    exact iteF (hN _ _ ⟨rfl,rfl,e⟩)
  rintro σ Z ⟨rfl,rfl,e0⟩
  
  refine za2 (fun σ Y=>σ=[some (.int (one:Int)),some (.int (other:Int)),some (.str (zbi kd)),some (.int (v:Int)),none,none,none]∧Y=Z∧kd≠1) (fun N hN=>?_) ?_
  ·refine ⟨_,rfl,rfl,_,rfl,?_⟩
   rw [show decide (V.str (zbi kd)=V.str "fixed")=decide (kd=1) from zbB (j:=1) hkd (by decide)]
   by_cases e:kd=1
   ·subst e
    rw [Xah rfl]
    refine iteT ⟨_,rfl,_,_,rfl,rfl,⟨by decide,by decide +kernel⟩,_,_,rfl,rfl,(show (0:Int)<20 by decide),_,_,rfl,rfl,_,rfl,by omega,by omega,?_⟩
    rw [show ((1:Int)+(one:Int) / 7 % 20).toNat=1+one / 7 % 20 by omega]
    generalize hc:1+one / 7 % 20=cn
    have c1:1≤cn∧cn≤20:=by omega
    refine ze9 (n:=cn) (fun i ys σ X'=>∃ (v0:Option V) (l:List Nat),σ=[v0,some (.int (other:Int))]∧ys=vN l∧l.length=i∧(∀ w∈l,w≤255)∧X'=Z) (Xar c1.2 (by decide)) ⟨none,[],rfl,rfl,rfl,(fun _ h=>nomatch h),rfl⟩ ?_ ?_ ?_
    ·rintro i ys σ X' ⟨v0,l,rfl,rfl,hl,_⟩
     rw [zaq,hl];exact Xae _
    ·rintro i ys σ X' hi ⟨v0,l,rfl,rfl,hl,hw,rfl⟩
     rw [Int.zero_add]
     refine ⟨_,rfl,_,rfl,_,_,rfl,rfl,_,_,rfl,rfl,⟨by omega,log_ok (by omega) (by omega)⟩,_,rfl,_,_,rfl,rfl,zeC (by decide) (by omega),_,_,rfl,rfl,_,_,rfl,rfl,(show (0:Int)<256 by decide),?_⟩
     refine ⟨_,l ++ [((other / (1+i)+7 * i) % 256:Nat)],rfl,?_,by simp [hl],fun w hw'=>?_,rfl⟩
     ·rw [zcb]
      congr 2
     ·rcases XaF.mp hw' with h | h
      ·exact hw w h
      ·rw [Xad.mp h];omega
    ·rintro ys σ X' ⟨v0,l,rfl,rfl,hl,hw,rfl⟩ r hr'
     have sr:=sX.trans (zah (o:=.lst (vN l)) hr')
     refine ⟨_,rfl,fun x dx hx hdx ne=>⟨x,dx,r,l,rfl,?_,by omega,by omega,hw,zac,fun p Z1 hp ex el kp=>⟨rfl,?_⟩⟩⟩
     ·rw [zag (fun z=>by rw [← z,zac] at hx;cases hx),zag (fun z=>by rw [← z,zac] at hdx;cases hdx)];exact zac
     have sm:=zbS hx hdx ne kp
     have hp1:=same_p hx hdx ne hp
     have er:=sm _ _ (zac (H:=X') (a:=r) (o:=.lst (vN l)))
     refine ⟨_,rfl,_,rfl,fin x p r 1 0 l Z1 (sr.trans sm) (sr.free hp1) (sX.free hr') ⟨ex,el⟩ er ⟨by decide,hw,by omega,fun _=>by omega,(fun h=>absurd h (by decide)),(fun h=>absurd h (by decide)),by decide⟩ (fun h=>by rcases h with h | h <;> cases h) ?_⟩
     intro z
     rw [z,zac] at hp1;cases hp1
   ·rw [Xai e]
    exact iteF (hN _ _ ⟨rfl,rfl,e⟩)
  rintro σ Y ⟨rfl,rfl,e1⟩
  refine za2 (fun σ Z=>σ=[some (.int (one:Int)),some (.int (other:Int)),some (.str (zbi kd)),some (.int (v:Int)),none,none,none]∧Z=Y∧kd≠2) (fun N hN=>?_) ?_
  ·refine ⟨_,rfl,rfl,_,rfl,?_⟩
   rw [show decide (V.str (zbi kd)=V.str "latch")=decide (kd=2) from zbB (j:=2) hkd (by decide)]
   by_cases e:kd=2
   ·subst e
    rw [Xah rfl]
    refine iteT ⟨_,rfl,fun x dx hx hdx ne=>⟨x,dx,(v:Int),rfl,by omega,by omega,zac,fun p Z1 hp ex el kp=>⟨rfl,?_⟩⟩⟩
    have sm:=zbS hx hdx ne kp
    have hp1:=same_p hx hdx ne hp
    refine ⟨_,rfl,_,rfl,by show 1≤sizeLine;decide,fun r hr'=>?_⟩
    have sr:=zah (o:=.lst [V.int (v:Int)]) hr'
    refine fin x p r 2 0 [v] _ ((sX.trans sm).trans sr) (sX.free hp1) ((sX.trans sm).free hr') ⟨?_,sr _ _ el⟩ zac ⟨by decide,fun w hw=>by rw [Xad] at hw;omega,by show 1≤4096;decide,fun _=>Xae _,fun _=>rfl,(fun h=>absurd h (by decide)),by decide⟩ (fun _=>rfl) ?_
    ·obtain ⟨d0,e0⟩:=ex
     exact ⟨d0,sr _ _ e0⟩
    ·intro z
     rw [z,hr'] at el;cases el
   ·rw [Xai e]
    exact iteF (hN _ _ ⟨rfl,rfl,e⟩)
  rintro σ Y' ⟨rfl,rfl,e2⟩
  refine zkw (fun σ Z=>σ=[some (.int (one:Int)),some (.int (other:Int)),some (.str (zbi kd)),some (.int (v:Int)),none,none,none]∧Z=Y') (fun σ Z=>σ=[some (.int (one:Int)),some (.int (other:Int)),some (.str (zbi kd)),some (.int (v:Int)),none,none,none]∧Z=Y'∧kd≠3) ?_ ?_ _ _ ⟨rfl,rfl⟩
  ·rintro σ Z ⟨rfl,rfl⟩ N hN
   refine ⟨_,rfl,rfl,_,rfl,?_⟩
   rw [show decide (V.str (zbi kd)=V.str "meter")=decide (kd=3) from zbB (j:=3) hkd (by decide)]
   by_cases e:kd=3
   ·subst e
    rw [Xah rfl]
    refine iteT ⟨_,rfl,fun x dx hx hdx ne=>⟨x,dx,(v:Int),rfl,by omega,by omega,zac,fun p Z1 hp ex el kp=>⟨rfl,?_⟩⟩⟩
    have sm:=zbS hx hdx ne kp
    have hp1:=same_p hx hdx ne hp
    refine ⟨_,rfl,_,rfl,by show 1≤sizeLine;decide,fun r hr'=>?_⟩
    have sr:=zah (o:=.lst [V.int (v:Int)]) hr'
    refine fin x p r 3 0 [v] _ ((sX.trans sm).trans sr) (sX.free hp1) ((sX.trans sm).free hr') ⟨?_,sr _ _ el⟩ zac ⟨by decide,fun w hw=>by rw [Xad] at hw;omega,by show 1≤4096;decide,fun _=>Xae _,fun _=>rfl,(fun h=>absurd h (by decide)),by decide⟩ (fun _=>rfl) ?_
    ·obtain ⟨d0,e0⟩:=ex
     exact ⟨d0,sr _ _ e0⟩
    ·intro z
     rw [z,hr'] at el;cases el
   ·rw [Xai e]
    exact iteF (hN _ _ ⟨rfl,rfl,e⟩)
  rintro σ Z ⟨rfl,rfl,e3⟩
  obtain rfl:kd=4:=by omega
  refine ⟨_,rfl,_,_,rfl,rfl,⟨by decide,by decide +kernel⟩,_,_,rfl,rfl,(show (0:Int)<9 by decide),_,_,rfl,rfl,by show 2≤sizeLine;decide,fun l hl=>⟨_,rfl,_,_,rfl,rfl,⟨by decide,by decide +kernel⟩,_,_,rfl,rfl,(show (0:Int)<8 by decide),rfl,.inr ⟨_,rfl,?_⟩⟩⟩
  obtain ⟨rm,c1,c2,ec⟩:∃ rm:Nat,1≤rm∧rm≤255∧atI [V.int ((1:Int)+(one:Int) / 7 % 9),V.int 255] (if decide (V.int ((one:Int) / 63 % 8)=V.int 3)=true then 1 else 0)=some (.int (rm:Int)):=by
   by_cases h:decide (V.int ((one:Int) / 63 % 8)=V.int 3)=true
   ·rw [if_pos h];exact ⟨255,by decide,by decide,rfl⟩
   ·rw [if_neg h]
    exact ⟨1+one / 7 % 9,by omega,by omega,by show some (V.int ((1:Int)+(one:Int) / 7 % 9))=_;rw [show (1:Int)+(one:Int) / 7 % 9=((1+one / 7 % 9:Nat):Int) by omega]⟩
  have sl:=sX.trans (zah (o:=.lst [V.int ((1:Int)+(one:Int) / 7 % 9),V.int 255]) hl)
  refine ⟨l,_,_,_,rfl,rfl,SqL.of zac,ec,?_⟩
  refine ⟨_,rfl,fun x dx hx hdx ne=>⟨x,dx,rm,rfl,c1,c2,zac,fun p Z1 hp ob kp=>⟨rfl,?_⟩⟩⟩
  have sm:=zbS hx hdx ne kp
  have hp1:=same_p hx hdx ne hp
  refine ⟨_,rfl,by show 0≤sizeLine;decide,fun r hr'=>⟨_,rfl,?_⟩⟩
  have sr:=zah (o:=.lst []) hr'
  refine fin x p r 4 rm [] _ ((sl.trans sm).trans sr) (sl.free hp1) ((sl.trans sm).free hr') ⟨?_,sr _ _ ob.ls⟩ zac ⟨by decide,(fun w hw=>nomatch hw),by decide,(fun h=>absurd rfl h),(fun h=>absurd h (by decide)),fun _=>⟨Nat.zero_le _,c1⟩,c2⟩ (fun h=>by rcases h with h | h <;> cases h) ?_
  ·obtain ⟨d0,e0⟩:=ob.ex
   exact ⟨d0,sr _ _ e0⟩
  ·intro z
   have:=ob.ls
   rw [z,hr'] at this;cases this
abbrev zcG:Stmt:=top 64
theorem sc_law_chips:FnScope ["row","own_chips","models","k","chip","model"] ["row"] (zai zcG):=sck rfl rfl rfl (by decide +kernel)
inductive spChips34 (cs:Nat→Addr)(vs:List V)(H:Hp)(Q:VK)(u3_:XK):Prop
 | mk (L:Addr) (row:List Nat) (c:Nat) (z0_:vs=[.ref L]) (z1_:H L=some (.lst (vN row))) (z2_:row.length=2 * c) (z3_:1≤c) (z4_:c≤9) (z5_:(∀ v∈row,v<2 ^ 31)) (z6_:∀ (t CL ML:Addr) (cl:List Cm) (H':Hp),H t=none→H CL=none→H ML=none→CL≠ML→H' t=some (.tup [.ref CL,.ref ML])→H' CL=some (.lst (cl.map fun c=>.ref c.x))→H' ML=some (.lst (cl.map fun c=>.ref c.m))→cl.length=c→CMs cs H' cl→(∀ c∈cl,H c.p=none∧H c.r=none∧c.p≠CL∧c.p≠ML∧c.r≠CL∧c.r≠ML)→Same H H'→Q (.ref t) H')
theorem zga {f:Addr}{cs:Nat→Addr}{fd:FuncData}(F:Fun K "_law_chips" "_law_chips" zcG f fd)(T:Blt mg)(G_law_chip:Cal P w K mg base 5 "_law_chip" ["one","other"] (spChip34 cs)):FnOk P w K mg base CX0 6 f fd ["row"] (spChips34 cs):=by
 refine F.ok sc_law_chips (by walk_at "l") (fun cdv A outer s H vs Q E hr h=>?_)
 ·obtain ⟨L,row,c,rfl,eL,hl,c1,c9,hw,k⟩:=h
  refine ⟨_,(zab (ps_L 1 sc_law_chips.nd (zax zae))
   (zab (ps_L 2 sc_law_chips.nd (zax zae))
   (zab (zbO PassesOwn.never rfl (zf0 rfl T.range (zaa zad (zaa (zak zbR (zap zar (by rfl) T.len PySem.boot_len (zaa (pv 0) zae)) zad) (zaa zad zae)))) (pg_L 3 sc_law_chips.nd)
   (zab (zbP (pe_c G_law_chip (zaa (pe_x zal (pv 0) (pv 3)) (zaa (pe_x zal (pv 0) (zak zaR (pv 3) zad)) zae))) (zbu rfl (zao (pg_L 4 sc_law_chips.nd) (zao (pg_L 5 sc_law_chips.nd) zaV))))
   (zab (zau (zdy PySem.F.plainAttrs_list PySem.F.slot_list_append PySem.F.type_list_append zaN (pv 1) (zaa (pv 4) zae)))
   (zaf (zau (zdy PySem.F.plainAttrs_list PySem.F.slot_list_append PySem.F.type_list_append zaN (pv 2) (zaa (pv 5) zae)))))))
   (zaf (zam (za7 (zaa (pv 1) (zaa (pv 2) zae)))))))),?rd⟩
  refine ⟨by show 0≤sizeLine;decide,fun CL hCL=>⟨by show 0≤sizeLine;decide,fun ML hML=>?_⟩⟩
  have s1:=zah (o:=.lst []) hCL
  have s2:=s1.trans (zah (o:=.lst []) hML)
  have nCM:CL≠ML:=fun z=>by rw [← z,zac] at hML;cases hML
  have hMH:H ML=none:=s1.free hML
  have nLC:L≠CL:=zaj eL hCL
  have nLM:L≠ML:=zaj eL hMH
  obtain ⟨r1,r2,r3⟩:=zhA (j:=2 * c - 1) (st:=2) (n:=c) (by omega) (by decide) (by decide) (by omega)
  have ej:(((vN row).length:Nat):Int) - 1=((2 * c - 1:Nat):Int):=by rw [zaq,hl];omega
  rw [← ej] at r1 r2 r3
  refine ⟨_,rfl,L,_,rfl,.inl (SqL.of (s2 _ _ eL)),_,_,rfl,rfl,0,_,2,c,rfl,by decide,r1,r2,r3,?_⟩
  refine ze7 (n:=c) (fun i σ X=>∃ (v:Option V×Option V×Option V) (cl:List Cm),σ=[some (.ref L),some (.ref CL),some (.ref ML),v.1,v.2.1,v.2.2]∧X CL=some (.lst (cl.map fun c=>.ref c.x))∧X ML=some (.lst (cl.map fun c=>.ref c.m))∧cl.length=i∧CMs cs X cl∧(∀ c∈cl,H c.p=none∧H c.r=none∧c.p≠CL∧c.p≠ML∧c.r≠CL∧c.r≠ML∧c.x≠CL∧c.x≠ML∧c.m≠CL∧c.m≠ML)∧Same H X) ⟨(_,_,_),[],rfl,zah hML _ _ zac,zac,rfl,⟨(fun _ h=>nomatch h),Xbg⟩,(fun _ h=>nomatch h),s2⟩ ?_ ?_
  ·rintro i σ X hi ⟨v,cl,rfl,hh⟩
   have eC:=hh.1
   have eM:=hh.2.1
   have hlen:=hh.2.2.1
   have hC:=hh.2.2.2.1
   have hF:=hh.2.2.2.2.1
   have sX:=hh.2.2.2.2.2
   obtain ⟨dr,hdr⟩:=drw (row:=row) (2 * c) (by omega) hw
   have eX:=sX _ _ eL
   have e1:(0:Int)+(i:Int) * 2=((2 * i:Nat):Int):=by omega
   rw [e1]
   have eb':atI (vN row) (((2 * i:Nat):Int)+1)=some (.int (dr (2 * i+1):Int)):=by rw [show ((2 * i:Nat):Int)+1=((2 * i+1:Nat):Int) by omega];exact (hdr _ (by omega)).1
   refine ⟨_,rfl,_,rfl,L,_,_,_,rfl,rfl,SqL.of eX,(hdr (2 * i) (by omega)).1,_,rfl,_,rfl,_,_,rfl,rfl,L,_,_,_,rfl,rfl,SqL.of eX,eb',?_⟩
   refine ⟨dr (2 * i),dr (2 * i+1),rfl,(hdr _ (by omega)).2,(hdr _ (by omega)).2,fun t cm X1 ht et hp hr' hm ok s1=>zhP et ?_⟩
   have hC1:=hC.add s1 hp hr' ok
   have eC1:=s1 _ _ eC
   have eM1:=s1 _ _ eM
   have nx:∀ {q:Addr} {l:List V},X1 q=some (.lst l)→cm.x≠q:=fun {q l} h z=>by
    obtain ⟨dx,e⟩:=ok.ch.ex;rw [z,h] at e;cases e
   have nn:∀ {q z:Addr} {o:HO},X q=some o→X z=none→z≠q:=fun {q z o} h1 h2 e=>by rw [e,h1] at h2;cases h2
   have hF1:∀ c∈cl ++ [cm],H c.p=none∧H c.r=none∧c.p≠CL∧c.p≠ML∧c.r≠CL∧c.r≠ML∧c.x≠CL∧c.x≠ML∧c.m≠CL∧c.m≠ML:=fun c hc=>by
    rcases XaF.mp hc with hc | hc
    ·exact hF c hc
    ·rw [Xad.mp hc]
     exact ⟨sX.free hp,sX.free hr',nn eC hp,nn eM hp,nn eC hr',nn eM hr',nx eC1,nx eM1,nn eC hm,nn eM hm⟩
   try dsimp only [za6,List.set]
   refine ⟨_,rfl,.inl ⟨rfl,_,SqL.of eC1⟩,_,rfl,CL,_,_,rfl,rfl,eC1,?_,?_⟩
   ·rw [Xaf];exact XaM (show cl.length≤9 by omega) (by decide)
   have eM2:upd X1 CL (.lst ((cl.map fun c=>V.ref c.x) ++ [.ref cm.x])) ML=some (.lst (cl.map fun c=>.ref c.m)):=by rw [zag (Ne.symm nCM)];exact eM1
   refine ⟨_,rfl,.inl ⟨rfl,_,SqL.of eM2⟩,_,rfl,ML,_,_,rfl,rfl,eM2,?_,?_⟩
   ·rw [Xaf];exact XaM (show cl.length≤9 by omega) (by decide)
   refine ⟨(_,_,_),cl ++ [cm],rfl,?_,?_,by simp [hlen],?_,hF1,fun z o ez=>?_⟩
   ·rw [zag nCM,zac,XaH];rfl
   ·rw [zac,XaH];rfl
   ·exact (hC1.updL fun c hc=>let f:=hF1 c hc;⟨f.2.2.2.2.2.2.1,f.2.2.1,f.2.2.2.2.2.2.2.2.1,f.2.2.2.2.1⟩).updL fun c hc=>let f:=hF1 c hc;⟨f.2.2.2.2.2.2.2.1,f.2.2.2.1,f.2.2.2.2.2.2.2.2.2,f.2.2.2.2.2.1⟩
   ·rw [zag (zaj ez hMH),zag (zaj ez hCL)];exact s1 _ _ (sX _ _ ez)
  ·rintro σ X ⟨v,cl,rfl,eC,eM,hlen,hC,hF,sX⟩
   refine ⟨_,rfl,_,rfl,by show 2≤sizeLine;decide,fun t ht=>?_⟩
   have st:=zah (o:=.tup [.ref CL,.ref ML]) ht
   exact k t CL ML cl _ (sX.free ht) hCL hMH nCM zac (st _ _ eC) (st _ _ eM) hlen (hC.same st) (fun c hc=>let f:=hF c hc;⟨f.1,f.2.1,f.2.2.1,f.2.2.2.1,f.2.2.2.2.1,f.2.2.2.2.2.1⟩) (sX.trans st)
abbrev zen:Stmt:=top 70
theorem sc_law_row:FnScope ["r","own_bits","models","top","high","own_mask","chip","most","many","inner","latches","latch","asked"] ["r","own_bits","models"] (zai zen):=sck rfl rfl rfl (by decide +kernel)
theorem andnot (a b:Nat):a - (a &&& b)=a ^^^ (a &&& b):=by
 have h:=or_is a (a &&& b)
 have h1:a ||| (a &&& b)=a:=by apply Nat.eq_of_testBit_eq;intro i;simp;cases a.testBit i <;> simp
 have h2:a &&& (a &&& b)=a &&& b:=by apply Nat.eq_of_testBit_eq;intro i;simp
 rw [h1,h2] at h
 omega
theorem left_of {T mask A i:Nat}(hm:T &&& mask=mask)(hA:A &&& (T - mask)=A)(hi:i &&& A=i):i≤T∧i &&& mask=0:=by
 have e:T - mask=T ^^^ (T &&& mask):=by rw [← andnot,hm]
 have h1:i≤A:=by rw [← hi];exact XbK
 have h2:A≤T - mask:=by rw [← hA];exact XbK
 refine ⟨by omega,?_⟩
 apply Nat.eq_of_testBit_eq
 intro j
 have b1:=congrArg (fun x=>Nat.testBit x j) hi
 have b2:=congrArg (fun x=>Nat.testBit x j) hA
 rw [e] at b2
 simp only [XaG,Nat.testBit_xor,Nat.zero_testBit] at b1 b2 ⊢
 revert b1 b2
 cases i.testBit j <;> cases A.testBit j <;> cases mask.testBit j <;> cases T.testBit j <;> simp
theorem zmN {x m:Nat}:x &&& (2 ^ m - 1)<2 ^ m:=by
 have h:=Xbw m
 have h2:x &&& (2 ^ m - 1)≤2 ^ m - 1:=XbK
 omega
theorem zlT {mask m:Nat}(h:mask<2 ^ m):(2 ^ m - 1) &&& mask=mask:=by
 rw [Nat.and_comm,Nat.and_two_pow_sub_one_eq_mod,Nat.mod_eq_of_lt h]
theorem zh6 {ns:List Nat}{a k:Nat}(hl:ns.length=k)(hk:0<k):∃ u∈ns,atI (vN ns) ((a:Int) % (k:Int))=some (.int (u:Int)):=by
 have h:a % k<ns.length:=by rw [hl];exact Nat.mod_lt _ hk
 refine ⟨ns[a % k],Xbh _,?_⟩
 rw [show (a:Int) % (k:Int)=((a % k:Nat):Int) by norm_cast]
 refine zaP ?_
 unfold vN
 rw [Xat,Xav h]
 rfl
theorem zkT {cs:Nat→Addr}{H:Hp}{cl:List Cm}{ML:Addr}{Q:List V→Hp→Prop}(eM:H ML=some (.lst (cl.map fun c=>.ref c.m)))(hC:CMs cs H cl)(c9:cl.length≤9)(k:∀ l:List Nat,l.length≤9→(∀ x∈l,x<cl.length∧(cl.getD x dfCm).kd=2)→Q (vN l) H) :
  zgH (Itr 0 cl.length) (za6 0) (zlU (tOp rEq (tOp (rIxL K) (tOp (rIxL K) (tVar 1) (tVar 0)) (tC (.int 0))) (tC (.str "latch")))) (tVar 0) Q [none,some (.ref ML)] H:=by
 refine ze9 (n:=cl.length) (fun j ys σ Y=>∃ (v0:Option V) (l:List Nat),σ=[v0,some (.ref ML)]∧ys=vN l∧l.length≤j∧(∀ x∈l,x<cl.length∧(cl.getD x dfCm).kd=2)∧Y=H) (Xar c9 (by decide)) ⟨none,[],rfl,rfl,Xae _,(fun x h=>nomatch h),rfl⟩ ?_ ?_ ?_
 ·rintro j ys σ Y ⟨_,l,_,rfl,hl,_⟩
  rw [zaq];exact hl
 ·rintro j ys σ Y hj ⟨v0,l,rfl,rfl,hl,hx,rfl⟩
  rw [Int.zero_add]
  have okj:=hC.o _ (zaS hj).1
  have hat:atI (cl.map fun c=>V.ref c.m) (j:Int)=some (.ref (cl.getD j dfCm).m):=zaP (by rw [Xat,(zaS hj).2];rfl)
  have kn:decide (V.str (zbi (cl.getD j dfCm).kd)=V.str "latch")=decide ((cl.getD j dfCm).kd=2):=zbB (j:=2) okj.k.k5 (by decide)
  refine ⟨_,rfl,_,rfl,ML,_,_,_,rfl,rfl,SqL.of eM,hat,(cl.getD j dfCm).m,_,_,_,rfl,rfl,SqL.of okj.md.at_,rfl,rfl,_,rfl,?_⟩
  rw [kn]
  by_cases h2:(cl.getD j dfCm).kd=2
  ·rw [Xah h2]
   refine iteT ⟨_,rfl,_,l ++ [j],rfl,by rw [zcb],by rw [Xaq];simp;omega,fun x h=>?_,rfl⟩
   rcases XaF.mp h with h | h
   ·exact hx x h
   ·obtain rfl:=Xad.mp h;exact ⟨hj,h2⟩
  ·rw [Xai h2]
   exact iteF ⟨_,l,rfl,rfl,by omega,hx,rfl⟩
 ·rintro ys σ Y ⟨v0,l,rfl,rfl,hl,hx,rfl⟩
  exact k l (by omega) hx
inductive spRow34 (cs:Nat→Addr)(vs:List V)(H:Hp)(Q:VK)(u3_:XK):Prop
 | mk (L ML:Addr) (row:List Nat) (m:Nat) (cl:List Cm) (z0_:vs=[.ref L,.int (m:Int),.ref ML]) (z1_:H L=some (.lst (vN row))) (z2_:row.length=8) (z3_:(∀ v∈row,v<2 ^ 31)) (z4_:1≤m) (z5_:m≤16) (z6_:H ML=some (.lst (cl.map fun c=>.ref c.m))) (z7_:1≤cl.length) (z8_:cl.length≤9) (z9_:CMs cs H cl) (z10_:∀ (t:Addr) (r:Rw) (H':Hp),H t=none→RwAt H' t r→RwOk m r→Fit (dtC cl) r→Same H H'→Q (.ref t) H')
set_option tactic.hygienic true in
theorem zih {f:Addr}{cs:Nat→Addr}{fd:FuncData}(F:Fun K "_law_row" "_law_row" zen f fd)(T:Blt mg)(G_law_few:Cal P w K mg base 2 "_law_few" ["number","most"] spFew)(G_law_size:Cal P w K mg base 1 "_law_size" ["model"] spSz34):FnOk P w K mg base CX0 3 f fd ["r","own_bits","models"] (spRow34 cs):=by
 refine F.ok sc_law_row (by walk_at "l") (fun cdv A outer s H vs Q E hr h=>?_)
 ·obtain ⟨L,ML,row,m,cl,rfl,eL,hl,hw,m1,m2,eM,c1,c9,hC,k⟩:=h
  refine ⟨_,(zab (ps_L 3 sc_law_row.nd (zak zbR (zak zdI zad (pv 1)) zad))
   (zab (ps_L 4 sc_law_row.nd (zak zaR (zak zbR (pv 3) (zak zdI zad (zak zaB (zak zaD (pe_x zal (pv 0) zad) zad) (pv 1)))) zad))
   (zab (ps_L 5 sc_law_row.nd (zak zaW (pe_x zal (zax (zaa (pe_x zal (pv 0) zad) (zaa (zak zml (pe_x zal (pv 0) zad) (pe_x zal (pv 0) zad)) (zaa (zak zaW (pe_x zal (pv 0) zad) (pe_x zal (pv 0) zad)) (zaa (pv 4) (zaa (pe_c G_law_few (zaa (zak zaW (pe_x zal (pv 0) zad) (pv 3)) (zaa (zak zaB (pe_x zal (pv 0) zad) zad) zae))) zae)))))) (zak zaB (pe_x zal (pv 0) zad) zad)) (pv 3)))
   (zab (ps_L 6 sc_law_row.nd (zak zaB (pe_x zal (pv 0) zad) (zap zar (by rfl) T.len PySem.boot_len (zaa (pv 2) zae))))
   (zab (ps_L 7 sc_law_row.nd zad)
   (zab (zfs PassesOwn.never (zas zh9 (zak zdI zad (pv 7)) (pe_c G_law_size (zaa (pe_x zal (pv 2) (pv 6)) zae)) (zat _)) (zaf (zlm (i:=7) sc_law_row.nd rfl (Or.inl rfl) zad zjG)))
   (zab (ps_L 8 sc_law_row.nd (pe_x zal (zax (zaa (pv 7) (zaa (zak zaB (zak zaD (pe_x zal (pv 0) zad) zad) (zak zaR (pv 7) zad)) zae))) (zak zaB (zak zaD (pe_x zal (pv 0) zad) zad) zad)))
   (zab (ps_L 9 sc_law_row.nd (pe_c G_law_few (zaa (pe_x zal (zax (zaa (zak zbR (pv 3) (pv 5)) (zaa (zak zaW (pe_x zal (pv 0) zad) (zak zbR (pv 3) (pv 5))) zae))) (zak zaB (pe_x zal (pv 0) zad) zad)) (zaa (pv 8) zae))))
   (zab (zeZ (i:=10) (Nc:=["k","models"]) [none,some 2] sc_law_row.nd rfl rfl rfl (zaX (by rfl)) (zck rfl T.range (zaa (zap zar (by rfl) T.len PySem.boot_len (zaa (pv 2) zae)) zae)) (fun _ _ _ _ _=>(pg_L 0 (show (["k","models"]:List Str).Nodup by decide +kernel))) (fun _ _ _ _ _=>(zhC (zas zby (pe_x (zfH (K:=K) rfl) (pe_x (zfH (K:=K) rfl) (pv 1) (pv 0)) zad) zaQ (zat _)))) (fun _ _ _ _ _=>(pv 0)))
   (zab (ps_L 11 sc_law_row.nd ze1)
   (zab (zay (PW.pt (zi9 (zas (zmo (Xbn (zc7 hr)) (K:=K) rfl) (pv 10) (zax zae) (zat _)) (zgY (zas zf5 (zak zaB (pe_x zal (pv 0) zad) zad) zad (zat _))))) (zab (ps_L 12 sc_law_row.nd (zak zaB (pe_x zal (zax (zaa (zak zaD (pe_x zal (pv 0) zad) zad) (zaa (zak zdI zad (zak zaB (zak zaD (pe_x zal (pv 0) zad) zad) zad)) (zaa zad zae)))) (zak zaB (pe_x zal (pv 0) zad) zad)) zad))
   (zaf (ps_L 11 sc_law_row.nd (za7 (zaa (pe_x zal (pv 10) (zak zaB (zak zaD (pe_x zal (pv 0) zad) zad) (zap zar (by rfl) T.len PySem.boot_len (zaa (pv 10) zae)))) (zaa (pv 12) (zaa (zak zaW (zak zaD (pe_x zal (pv 0) zad) zad) (pv 12)) zae))))))) zan)
   (zaf (zam (za7 (zaa (pv 5) (zaa (zak zaW (pe_x zal (pv 0) zad) (pv 5)) (zaa (pv 9) (zaa (pv 6) (zaa (pv 11) zae))))))))))))))))))),?rd⟩
  have e1:(1:Int) * 2 ^ ((m:Nat):Int).toNat=((2 ^ m:Nat):Int):=by rw [Int.one_mul,Xap];norm_cast
  have h0m:0<2 ^ m:=Xbw m
  have h2m:2 ^ m≤2 ^ 16:=XaQ (by decide) m2
  obtain ⟨dr,hdr⟩:=drw (row:=row) 8 (by omega) hw
  have y0:atI (vN row) 0=some (.int (dr 0:Int)):=(hdr 0 (by decide)).1
  have y1:atI (vN row) 1=some (.int (dr 1:Int)):=(hdr 1 (by decide)).1
  have y2:atI (vN row) 2=some (.int (dr 2:Int)):=(hdr 2 (by decide)).1
  have y3:atI (vN row) 3=some (.int (dr 3:Int)):=(hdr 3 (by decide)).1
  have y4:atI (vN row) 4=some (.int (dr 4:Int)):=(hdr 4 (by decide)).1
  have y5:atI (vN row) 5=some (.int (dr 5:Int)):=(hdr 5 (by decide)).1
  have y6:atI (vN row) 6=some (.int (dr 6:Int)):=(hdr 6 (by decide)).1
  have y7:atI (vN row) 7=some (.int (dr 7:Int)):=(hdr 7 (by decide)).1
  have ix:∀ {X:Hp},Same H X→SqL K X L (vN row):=fun s=>SqL.of (s _ _ eL)
  generalize hT:2 ^ m - 1=T
  
  refine za2 (fun σ X=>σ=[some (.ref L),some (.int (m:Int)),some (.ref ML),some (.int (T:Int)),none,none,none,none,none,none,none,none,none]∧X=H) (fun N hN=>?_) ?_
  ·refine ⟨_,rfl,_,_,rfl,rfl,⟨by omega,by omega,by decide⟩,_,_,rfl,rfl,hN _ _ ⟨?_,rfl⟩⟩
   try dsimp only
   rw [e1,show ((2 ^ m:Nat):Int) - 1=(T:Int) by omega]
   rfl
  rintro σ X ⟨rfl,rfl⟩
  
  refine za2 (fun σ Y=>∃ hh:Nat,hh≤2 ^ 31∧σ=[some (.ref L),some (.int (m:Int)),some (.ref ML),some (.int (T:Int)),some (.int (hh:Int)),none,none,none,none,none,none,none,none]∧Y=X) (fun N hN=>?_) ?_
  ·refine ⟨_,rfl,_,rfl,L,_,_,_,rfl,rfl,ix (Same.refl _),y0,_,_,rfl,rfl,⟨by decide,by decide +kernel⟩,_,rfl,_,_,rfl,rfl,(by show (0:Int)<(m:Int);omega),_,_,rfl,rfl,⟨?_,?_,by decide⟩,_,_,rfl,rfl,_,_,rfl,rfl,?_⟩
   ·exact Xbv _ (by omega)
   ·have:=Xbl ((dr 0:Int) / 16) (show (0:Int)<(m:Int) by omega);omega
   have ek:(dr 0:Int) / 16 % (m:Int)=((dr 0 / 16 % m:Nat):Int):=by norm_cast
   have hk:dr 0 / 16 % m<m:=Nat.mod_lt _ (by omega)
   have hk2:2 ^ (dr 0 / 16 % m)≤T:=by
    have:2 ^ (dr 0 / 16 % m)≤2 ^ (m - 1):=XaQ (by decide) (by omega)
    have e:2 ^ m=2 * 2 ^ (m - 1):=by rw [← Nat.pow_succ'];congr 1;omega
    have:=Xbw (m - 1)
    omega
   refine hN _ _ ⟨T - 2 ^ (dr 0 / 16 % m)+1,?_,?_,rfl⟩
   ·have:=Nat.sub_le T (2 ^ (dr 0 / 16 % m));have:(2:Nat) ^ 16=65536:=by decide
    have:(2:Nat) ^ 31=2147483648:=by decide
    omega
   try dsimp only
   rw [ek,show (1:Int) * 2 ^ ((dr 0 / 16 % m:Nat):Int).toNat=((2 ^ (dr 0 / 16 % m):Nat):Int) by rw [Int.one_mul,Xap];norm_cast]
   rw [show (T:Int) - ((2 ^ (dr 0 / 16 % m):Nat):Int)+1=((T - 2 ^ (dr 0 / 16 % m)+1:Nat):Int) by omega]
   rfl
  rintro σ Y ⟨hh,hh1,rfl,rfl⟩
  
  refine za2 (fun σ X=>∃ mask:Nat,mask<2 ^ m∧σ=[some (.ref L),some (.int (m:Int)),some (.ref ML),some (.int (T:Int)),some (.int (hh:Int)),some (.int (mask:Int)),none,none,none,none,none,none,none]∧Same Y X) (fun N hN=>?_) ?_
  ·have i0:=ix (Same.refl Y)
   refine ⟨_,rfl,L,_,_,_,rfl,rfl,i0,y0,_,rfl,L,_,_,_,rfl,rfl,i0,y0,_,rfl,L,_,_,_,rfl,rfl,i0,y1,_,_,rfl,rfl,_,rfl,L,_,_,_,rfl,rfl,i0,y0,_,rfl,L,_,_,_,rfl,rfl,i0,y1,_,_,rfl,rfl,_,rfl,_,rfl,L,_,_,_,rfl,rfl,i0,y0,_,rfl,_,_,rfl,rfl,_,rfl,L,_,_,_,rfl,rfl,i0,y1,_,_,rfl,rfl,(show (0:Int)<4 by decide),?_⟩
   refine ⟨dr 0 &&& T,dr 1 % 4,?_,?_,fun r H1 hr s1=>⟨by show 5≤sizeLine;decide,fun p hp=>?_⟩⟩
   ·show [V.int (Builtin.bitAnd (dr 0:Int) (T:Int)),V.int ((dr 1:Int) % 4)]=_
    rw [band,show (dr 1:Int) % 4=((dr 1 % 4:Nat):Int) by omega]
   ·exact XaM Nat.and_le_left (XbI (hdr 0 (by decide)).2 (by decide))
   obtain ⟨u,_,eu⟩:=zh6 (ns:=[dr 0,dr 0 ||| dr 1,dr 0 &&& dr 1,hh,r]) (a:=dr 2) (k:=5) rfl (by decide)
   refine ⟨_,rfl,L,_,_,_,rfl,rfl,ix (s1.trans (zah hp)),y2,_,_,rfl,rfl,(show (0:Int)<5 by decide),p,_,_,.int (u:Int),rfl,rfl,SqL.of zac,?_,_,rfl,_,_,rfl,rfl,?_⟩
   ·show atI [V.int (dr 0:Int),V.int (Builtin.bitOr (dr 0:Int) (dr 1:Int)),V.int (Builtin.bitAnd (dr 0:Int) (dr 1:Int)),V.int (hh:Int),V.int (r:Int)] ((dr 2:Int) % 5)=_
    rw [bor,band]
    exact eu
   refine hN _ _ ⟨u &&& T,by rw [← hT];exact zmN,?_,s1.trans (zah hp)⟩
   try dsimp only
   rw [band]
   rfl
  rintro σ X ⟨mask,hmask,rfl,sX⟩
  
  refine za2 (fun σ Z=>σ=[some (.ref L),some (.int (m:Int)),some (.ref ML),some (.int (T:Int)),some (.int (hh:Int)),some (.int (mask:Int)),some (.int ((dr 3 % cl.length:Nat):Int)),none,none,none,none,none,none]∧Z=X) (fun N hN=>?_) ?_
  ·refine ⟨_,rfl,L,_,_,_,rfl,rfl,ix sX,y3,_,rfl,ML,_,rfl,.inl (SqL.of (sX _ _ eM)),_,_,rfl,rfl,?_,hN _ _ ⟨?_,rfl⟩⟩
   ·rw [Xaf];omega
   try dsimp only
   rw [Xaf,show (dr 3:Int) % (cl.length:Int)=((dr 3 % cl.length:Nat):Int) by norm_cast]
   rfl
  rintro σ Z ⟨rfl,rfl⟩
  have hch:dr 3 % cl.length<cl.length:=Nat.mod_lt _ (by omega)
  generalize dr 3 % cl.length=ch at hch ⊢
  refine za2 (fun σ Y=>σ=[some (.ref L),some (.int (m:Int)),some (.ref ML),some (.int (T:Int)),some (.int (hh:Int)),some (.int (mask:Int)),some (.int (ch:Int)),some (.int (0:Int)),none,none,none,none,none]∧Y=Z) (fun N hN=>?_) ?_
  ·exact hN _ _ ⟨rfl,rfl⟩
  rintro σ Y ⟨rfl,rfl⟩
  
  refine za2 (fun σ X=>∃ mo:Nat,2 ^ mo≤ksize (cl.getD ch dfCm).kd (cl.getD ch dfCm).us∧mo≤16∧σ=[some (.ref L),some (.int (m:Int)),some (.ref ML),some (.int (T:Int)),some (.int (hh:Int)),some (.int (mask:Int)),some (.int (ch:Int)),some (.int (mo:Int)),none,none,none,none,none]∧X=Y) (fun N hN=>?_) ?_
  ·have okc:=hC.o _ (zaS hch).1
   have eMX:=sX _ _ eM
   have hat:atI (cl.map fun c=>V.ref c.m) (ch:Int)=some (.ref (cl.getD ch dfCm).m):=zaP (by rw [Xat,(zaS hch).2];rfl)
   have kz1:1≤ksize (cl.getD ch dfCm).kd (cl.getD ch dfCm).us∧ksize (cl.getD ch dfCm).kd (cl.getD ch dfCm).us≤4096:=by
    have kk:=okc.k
    unfold ksize
    split
    ·exact ⟨by decide,by decide⟩
    ·rename_i h;exact ⟨kk.l1 h,kk.ln⟩
   have okX:=okc.same sX
   refine zfd (fun σ W=>∃ mo:Nat,2 ^ mo≤ksize (cl.getD ch dfCm).kd (cl.getD ch dfCm).us∧σ=[some (.ref L),some (.int (m:Int)),some (.ref ML),some (.int (T:Int)),some (.int (hh:Int)),some (.int (mask:Int)),some (.int (ch:Int)),some (.int (mo:Int)),none,none,none,none,none]∧W=Y) (fun σ _=>match σ with | [_,_,_,_,_,_,_,some (.int b),_,_,_,_,_]=>13 - b.toNat | _=>0) ⟨0,kz1.1,rfl,rfl⟩ ?_ ?_
   ·rintro σ W ⟨mo,hmo,rfl,rfl⟩
    have mo12:mo<13:=by
     by_cases h:mo<13
     ·exact h
     ·have:2 ^ 13≤2 ^ mo:=XaQ (by decide) (by omega)
      omega
    have e2:(2:Int) * 2 ^ ((mo:Nat):Int).toNat=((2 ^ (mo+1):Nat):Int):=by rw [Xap,Xbe];push_cast;omega
    refine ⟨_,rfl,_,_,rfl,rfl,⟨by omega,by omega,by decide⟩,_,rfl,_,rfl,ML,_,_,_,rfl,rfl,SqL.of eMX,hat,_,_,_,_,_,rfl,okX.md,okX.k.k5,_,_,rfl,rfl,_,rfl,ite2 (fun h1=>?_) (fun h1=>?_)⟩
    ·have h1:2 ^ (mo+1)≤ksize (cl.getD ch dfCm).kd (cl.getD ch dfCm).us:=by
      have:=Xa2 h1;rw [e2] at this;omega
     refine ⟨_,rfl,_,_,rfl,rfl,⟨mo+1,h1,?_,rfl⟩,?_⟩
     ·rfl
     ·show 13 - ((mo:Int)+1).toNat<13 - ((mo:Nat):Int).toNat
      omega
    ·exact hN _ _ ⟨mo,hmo,by omega,rfl,rfl⟩
   ·rintro σ W Q1 Q2 hq h
    obtain ⟨v,e,i,j,ei,ej,c,v2,e2,v3,e3,a,b,c1_,d,f1,f2,f3,f4,m1_,r1,kd1,n1,us1,g1,g2,g3,i2,j2,g4,g5,b2,g6,h⟩:=h
    exact ⟨v,e,i,j,ei,ej,c,v2,e2,v3,e3,a,b,c1_,d,f1,f2,f3,f4,m1_,r1,kd1,n1,us1,g1,g2,g3,i2,j2,g4,g5,b2,g6,hq _ _ h⟩
  rintro σ X ⟨mo,hmo,hmo16,rfl,rfl⟩
  have hTm:T &&& mask=mask:=by rw [← hT];exact zlT hmask
  have hmT:mask≤T:=by omega
  
  refine za2 (fun σ Y=>∃ u2:Nat,u2≤mo∧σ=[some (.ref L),some (.int (m:Int)),some (.ref ML),some (.int (T:Int)),some (.int (hh:Int)),some (.int (mask:Int)),some (.int (ch:Int)),some (.int (mo:Int)),some (.int (u2:Int)),none,none,none,none]∧Same X Y) (fun N hN=>?_) ?_
  ·refine ⟨_,rfl,_,rfl,L,_,_,_,rfl,rfl,ix sX,y4,_,_,rfl,rfl,⟨by decide,by decide +kernel⟩,_,rfl,_,_,rfl,rfl,_,_,rfl,rfl,(show (0:Int)<(mo:Int)+1 by omega),by show 2≤sizeLine;decide,fun p2 hp2=>?_⟩
   have sp2:=sX.trans (zah (o:=.lst [V.int (mo:Int),V.int ((dr 4:Int) / 64 % ((mo:Int)+1))]) hp2)
   obtain ⟨u2,hu2,eu2⟩:=zh6 (ns:=[mo,dr 4 / 64 % (mo+1)]) (a:=dr 5 / 2) (k:=2) rfl (by decide)
   have hu2':u2≤mo:=by
    rcases Xao.mp hu2 with rfl | hu
    ·exact Xae _
    ·rw [Xad.mp hu];have:=Nat.mod_lt (dr 4 / 64) (show 0<mo+1 by omega);omega
   refine ⟨_,rfl,L,_,_,_,rfl,rfl,ix sp2,y5,_,_,rfl,rfl,⟨by decide,by decide +kernel⟩,_,_,rfl,rfl,(show (0:Int)<2 by decide),p2,_,_,.int (u2:Int),rfl,rfl,SqL.of zac,?_,?_⟩
   ·show atI [V.int (mo:Int),V.int ((dr 4:Int) / 64 % ((mo:Int)+1))] ((dr 5:Int) / 2 % 2)=_
    rw [show (dr 4:Int) / 64 % ((mo:Int)+1)=((dr 4 / 64 % (mo+1):Nat):Int) by push_cast;rfl,show (dr 5:Int) / 2=((dr 5 / 2:Nat):Int) by omega]
    exact eu2
   exact hN _ _ ⟨u2,hu2',rfl,zah hp2⟩
  rintro σ X0 ⟨u2,hu2',rfl,sX0⟩
  replace sX:=sX.trans sX0
  clear sX0
  
  refine za2 (fun σ Y=>∃ inn:Nat,inn≤T∧inn &&& mask=0∧ones inn≤mo∧σ=[some (.ref L),some (.int (m:Int)),some (.ref ML),some (.int (T:Int)),some (.int (hh:Int)),some (.int (mask:Int)),some (.int (ch:Int)),some (.int (mo:Int)),some (.int (u2:Int)),some (.int (inn:Int)),none,none,none]∧Same X0 Y) (fun N hN=>?_) ?_
  ·have eTm:(T:Int) - (mask:Int)=((T - mask:Nat):Int):=by omega
   refine ⟨_,rfl,_,rfl,_,_,rfl,rfl,_,rfl,L,_,_,_,rfl,rfl,ix sX,y4,_,rfl,_,rfl,_,_,rfl,rfl,_,_,rfl,rfl,by show 2≤sizeLine;decide,fun p hp=>?_⟩
   have sp:=sX.trans (zah (o:=.lst [V.int ((T:Int) - (mask:Int)),V.int (Builtin.bitAnd (dr 4:Int) ((T:Int) - (mask:Int)))]) hp)
   obtain ⟨u,hu,eu⟩:=zh6 (ns:=[T - mask,dr 4 &&& (T - mask)]) (a:=dr 5) (k:=2) rfl (by decide)
   have hu':u &&& (T - mask)=u:=by
    rcases Xao.mp hu with rfl | hu
    ·exact Nat.and_self _
    ·rw [Xad.mp hu,Nat.and_assoc,Nat.and_self]
   refine ⟨_,rfl,L,_,_,_,rfl,rfl,ix sp,y5,_,_,rfl,rfl,(show (0:Int)<2 by decide),p,_,_,.int (u:Int),rfl,rfl,SqL.of zac,?_,?_⟩
   ·show atI [V.int ((T:Int) - (mask:Int)),V.int (Builtin.bitAnd (dr 4:Int) ((T:Int) - (mask:Int)))] ((dr 5:Int) % 2)=_
    rw [eTm,band]
    exact eu
   refine ⟨_,rfl,?_⟩
   refine ⟨u,u2,rfl,?_,fun r H1 hr s1=>?_⟩
   ·have:u≤T - mask:=by rw [← hu'];exact XbK
    have:(2:Nat) ^ 16=65536:=by decide
    have:(2:Nat) ^ 32=4294967296:=by decide
    omega
   obtain ⟨l1,l2⟩:=left_of hTm hu' hr.1
   exact hN _ _ ⟨r,l1,l2,Xar hr.2 hu2',rfl,(zah hp).trans s1⟩
  rintro σ Y ⟨inn,hiT,him,hio,rfl,sXY⟩
  have sY:=sX.trans sXY
  
  refine za2 (fun σ X=>∃ (LL:Addr) (l:List Nat),σ=[some (.ref L),some (.int (m:Int)),some (.ref ML),some (.int (T:Int)),some (.int (hh:Int)),some (.int (mask:Int)),some (.int (ch:Int)),some (.int (mo:Int)),some (.int (u2:Int)),some (.int (inn:Int)),some (.ref LL),none,none]∧X LL=some (.lst (vN l))∧l.length≤9∧(∀ x∈l,x<cl.length∧(cl.getD x dfCm).kd=2)∧Same Y X) (fun N hN=>?_) ?_
  ·have eMX:=sY _ _ eM
   refine ⟨_,rfl,ML,_,rfl,.inl (SqL.of eMX),_,rfl,by rw [Xaf];omega,by rw [Xaf];omega,?_⟩
   rw [Xaf,Xap]
   exact zkT eMX (hC.same sY) c9 fun l hl hx LL hLL=>hN _ _ ⟨LL,l,rfl,zac,hl,hx,zah hLL⟩
  rintro σ X ⟨LL,l,rfl,eLL,hl9,hlx,sYX⟩
  have sX2:=sY.trans sYX
  clear sX sXY sY sYX
  refine za2 (fun σ Y=>σ=[some (.ref L),some (.int (m:Int)),some (.ref ML),some (.int (T:Int)),some (.int (hh:Int)),some (.int (mask:Int)),some (.int (ch:Int)),some (.int (mo:Int)),some (.int (u2:Int)),some (.int (inn:Int)),some (.ref LL),some .non,none]∧Y=X) (fun N hN=>?_) ?_
  ·exact hN _ _ ⟨rfl,rfl⟩
  rintro σ Y ⟨rfl,rfl⟩
  
  refine za2 (fun σ X=>∃ (lo:Option (Nat×Nat×Nat)) (lv:V) (v11:Option V),LatV X lv lo∧LatOk lo∧(∀ c a b,lo=some (c,a,b)→c<cl.length∧(cl.getD c dfCm).kd=2)∧σ=[some (.ref L),some (.int (m:Int)),some (.ref ML),some (.int (T:Int)),some (.int (hh:Int)),some (.int (mask:Int)),some (.int (ch:Int)),some (.int (mo:Int)),some (.int (u2:Int)),some (.int (inn:Int)),some (.ref LL),some lv,v11]∧Same Y X) (fun N hN=>?_) ?_
  ·refine ⟨_,rfl,by show 0≤sizeLine;decide,fun e he=>⟨LL,e,_,rfl,rfl,SqL.of (zah he _ _ eLL),SqL.of zac,_,rfl,ite2 (fun h1=>?_) (fun h1=>?_)⟩⟩
   ·have se:=sX2.trans (zah (o:=.lst []) he)
    have sne:=zah (o:=.lst []) he
    have l1:1≤l.length:=by
     cases l with
     | nil=>exact absurd h1 (by decide)
     | cons _ _=>simp
    have eL2:=sne _ _ eLL
    generalize upd Y e (.lst [])=Z at *
    refine ⟨_,rfl,L,_,_,_,rfl,rfl,ix se,y6,_,_,rfl,rfl,(show (0:Int)<3 by decide),_,_,rfl,rfl,_,rfl,ite2 (fun h2=>?_) (fun h2=>?_)⟩
    ·refine ⟨_,rfl,L,_,_,_,rfl,rfl,ix se,y6,_,_,rfl,rfl,⟨by decide,by decide +kernel⟩,_,rfl,L,_,_,_,rfl,rfl,ix se,y6,_,_,rfl,rfl,⟨by decide,by decide +kernel⟩,_,_,rfl,rfl,(show (0:Int)<8 by decide),_,_,rfl,rfl,⟨by omega,by omega,by decide⟩,by show 3≤sizeLine;decide,fun p hp=>?_⟩
     have e6:(dr 6:Int) / 3=((dr 6 / 3:Nat):Int):=by omega
     have e68:(1:Int) * 2 ^ ((dr 6:Int) / 3 % 8).toNat=((2 ^ (dr 6 / 3 % 8):Nat):Int):=by rw [show (dr 6:Int) / 3 % 8=((dr 6 / 3 % 8:Nat):Int) by omega,Int.one_mul,Xap];norm_cast
     obtain ⟨u,_,eu⟩:=zh6 (ns:=[dr 6 / 3,2 ^ (dr 6 / 3 % 8),3]) (a:=dr 7) (k:=3) rfl (by decide)
     have snp:=sne.trans (zah (o:=.lst [V.int ((dr 6:Int) / 3),V.int ((1:Int) * 2 ^ ((dr 6:Int) / 3 % 8).toNat),V.int 3]) hp)
     have sp:=sX2.trans snp
     have eL3:=zah (o:=.lst [V.int ((dr 6:Int) / 3),V.int ((1:Int) * 2 ^ ((dr 6:Int) / 3 % 8).toNat),V.int 3]) hp _ _ eL2
     refine ⟨_,rfl,L,_,_,_,rfl,rfl,ix sp,y7,_,_,rfl,rfl,(show (0:Int)<3 by decide),p,_,_,.int (u:Int),rfl,rfl,SqL.of zac,?_,_,_,rfl,rfl,(show (0:Int)<256 by decide),?_⟩
     ·show atI [V.int ((dr 6:Int) / 3),V.int ((1:Int) * 2 ^ ((dr 6:Int) / 3 % 8).toNat),V.int 3] ((dr 7:Int) % 3)=_
      rw [e68,e6]
      exact eu
     try dsimp only [za6,List.set]
     rw [show (u:Int) % 256=((u % 256:Nat):Int) by omega]
     have hll:(0:Int)<((vN l).length:Int):=by rw [zaq];omega
     obtain ⟨x,hx,ex⟩:=zh6 (ns:=l) (a:=dr 7 / 3) (k:=l.length) rfl (by omega)
     refine ⟨_,rfl,_,rfl,L,_,_,_,rfl,rfl,ix sp,y7,_,_,rfl,rfl,⟨by decide,by decide +kernel⟩,_,rfl,LL,_,rfl,.inl (SqL.of eL3),_,_,rfl,rfl,hll,LL,_,_,.int (x:Int),rfl,rfl,SqL.of eL3,?_,?_⟩
     ·rw [zaq,show (dr 7:Int) / 3=((dr 7 / 3:Nat):Int) by omega];exact ex
     refine ⟨_,rfl,_,rfl,L,_,_,_,rfl,rfl,ix sp,y7,_,_,rfl,rfl,⟨by decide,by decide +kernel⟩,_,rfl,_,_,rfl,rfl,by show 3≤sizeLine;decide,fun q hq=>?_⟩
     obtain ⟨hx1,hx2⟩:=hlx x hx
     refine hN _ _ ⟨some (x,u % 256,dr 7 / 30 &&& (u % 256)),.ref q,_,⟨q,rfl,?_⟩,⟨by omega,by omega,by rw [Nat.and_assoc,Nat.and_self]⟩,fun c a b h=>?_,rfl,snp.trans (zah hq)⟩
     ·rw [zac]
      try dsimp only
      rw [show (dr 7:Int) / 30=((dr 7 / 30:Nat):Int) by omega,band]
     ·obtain ⟨rfl,rfl⟩:=Prod.mk.inj (Option.some.inj h) |>.imp_right (fun h=>(Prod.mk.inj h).1)
      exact ⟨hx1,hx2⟩
    ·exact zaw (hN _ _ ⟨none,.non,_,rfl,trivial,(fun _ _ _ h=>nomatch h),rfl,sne⟩)
   ·exact iteF (zaw (hN _ _ ⟨none,.non,_,rfl,trivial,(fun _ _ _ h=>nomatch h),rfl,zah he⟩))
  rintro σ X ⟨lo,lv,v11,hlv,hlo,hlc,rfl,sYX⟩
  refine ⟨_,rfl,_,rfl,L,_,_,_,rfl,rfl,ix (sX2.trans sYX),y1,_,rfl,_,_,rfl,rfl,_,rfl,_,rfl,_,rfl,by show 5≤sizeLine;decide,fun t ht=>?_⟩
  have st:=(sX2.trans sYX).trans (zah (o:=.tup [V.int (mask:Int),V.int (Builtin.bitAnd (dr 1:Int) (mask:Int)),V.int (inn:Int),V.int (ch:Int),lv]) ht)
  refine k t ⟨mask,dr 1 &&& mask,inn,ch,lo⟩ _ ((sX2.trans sYX).free ht) ⟨lv,?_,?_⟩ ⟨hmask,XaM XbK hmask,by rw [Nat.and_assoc,Nat.and_self],by show inn<2 ^ m;omega,him,by show ch<100;omega,hlo⟩ ⟨hch,?_,hlc⟩ st
  ·rw [zac]
   try dsimp only
   rw [band]
  ·exact LatV.same hlv (zah ht)
  ·exact Xar (XaQ (by decide) hio) hmo
abbrev zdn:Stmt:=top 71
theorem sc_law_pair:FnScope ["one","other","words","latch","told","chip","first","last"] ["one","other"] (zai zdn):=sck rfl rfl rfl (by decide +kernel)
inductive spPairL (vs:List V)(H:Hp)(Q:VK)(u3_:XK):Prop
 | mk (t u:Addr) (r q:Rw) (z0_:vs=[.ref t,.ref u]) (z1_:RwAt H t r) (z2_:RwAt H u q) (z3_:(zbk r q=false→∀ H',Same H H'→Q .non H')) (z4_:(zbk r q=true→∀ (p:Addr) (H':Hp),Same H H'→Q (.ref p) H'))
structure Grp (X:Hp)(d:Addr)(g:List (Nat×Addr×List V)):Prop where
 e:X d=some (.dK (g.map fun y=>((Sum.inl (y.1:Int):Key),V.ref y.2.1)))
 l:∀ y∈g,X y.2.1=some (.lst y.2.2)
 nd:(g.map (·.1)).Nodup
 na:(g.map (·.2.1)).Nodup
def gOne (A:Addr)(lt:V):Option (Nat×Nat×Nat)→List (Nat×Addr×List V)
 | none=>[]
 | some (c,_,_)=>[(c,A,[lt])]
def gTwo (A B:Addr)(lt lu:V):Option (Nat×Nat×Nat)→Option (Nat×Nat×Nat)→List (Nat×Addr×List V)
 | none,o=>gOne B lu o
 | some (c,_,_),none=>[(c,A,[lt])]
 | some (c,_,_),some (d,_,_)=>if c=d then [(c,A,[lt,lu])] else [(c,A,[lt]),(d,B,[lu])]
def Gi (lt lu:V)(o p:Option (Nat×Nat×Nat))(i:Nat)(g:List (Nat×Addr×List V)):Prop:=match i with
 | 0=>g=[]
 | 1=>∃ A,g=gOne A lt o
 | _=>∃ A B,g=gTwo A B lt lu o p
theorem ziM:∀ {g:List (Nat×Addr×List V)} {y:Nat×Addr×List V},(g.map (·.1)).Nodup→y∈g→valV (g.map fun y=>((Sum.inl (y.1:Int):Key),V.ref y.2.1)) (Sum.inl (y.1:Int))=some (V.ref y.2.1)
 | [],_,_,h=>by cases h
 | z :: g,y,hn,h=>by
  rw [Xaz,XbO] at hn
  rw [Xaz]
  by_cases e:z.1=y.1
  ·rcases Xao.mp h with rfl | h
   ·exact zaT rfl
   ·exact absurd (XaC.mpr ⟨y,h,e.symm⟩) hn.1
  ·rw [zaY (fun q=>e (by have:=Sum.inl.inj q;omega))]
   rcases Xao.mp h with rfl | h
   ·exact absurd rfl e
   ·exact ziM hn.2 h
theorem zg9 {f:Addr}{fd:FuncData}(F:Fun K "_law_pair" "_law_pair" zdn f fd)(T:Blt mg)(GBsorted:mg "sorted" = none):FnOk P w K mg base CX0 1 f fd ["one","other"] spPairL:=by
 refine F.ok sc_law_pair (by walk_at "l") (fun cdv A outer s H vs Q E hr h=>?_)
 ·obtain ⟨t,u,r,q,rfl,⟨lt,et,hlt⟩,⟨lu,eu,hlu⟩,k1,k2⟩:=h
  refine ⟨_,(zab (zay (zas zf5 (zak zaW (zak zaW (zak zjm (pe_x zaA (pv 0) zad) (pe_x zaA (pv 1) zad)) (pe_x zaA (pv 0) zad)) (pe_x zaA (pv 1) zad)) zad (zat _)) (zaf (zam ze1)) zan)
   (zab (ps_L 2 sc_law_pair.nd zhF)
   (zab (zbO PassesOwn.never rfl (zcP (zax (zaa (pe_x zaA (pv 0) zad) (zaa (pe_x zaA (pv 1) zad) zae)))) (pg_L 3 sc_law_pair.nd)
   (zaf (zay (zb9 (zcR (pv 3))) (zab (zau (zdy PySem.F.plainAttrs_dict PySem.F.slot_dict_setdefault PySem.F.type_dict_setdefault zfE (pv 2) (zaa (pe_x zaA (pv 3) zad) (zaa (zax zae) zae))))
   (zaf (zau (zdy PySem.F.plainAttrs_list PySem.F.slot_list_append PySem.F.type_list_append zaN (zfu (zc7 hr) (pv 2) (pe_x zaA (pv 3) zad) (fun _ _=>rfl)) (zaa (pv 3) zae))))) zan)))
   (zab (ps_L 4 sc_law_pair.nd (zax zae))
   (zab (zbO PassesOwn.never rfl (zcP (zap (zgz rfl) (by rfl) GBsorted zgA (zaa (pv 2) zae))) (pg_L 5 sc_law_pair.nd)
   (zab (ps_L 6 sc_law_pair.nd (pe_x zal (zfu (zc7 hr) (pv 2) (pv 5) (fun _ _=>rfl)) zad))
   (zab (ps_L 7 sc_law_pair.nd (pe_x zal (zfu (zc7 hr) (pv 2) (pv 5) (fun _ _=>rfl)) (pe_un un_neg zad)))
   (zab (zay (zas zf5 (zak zaW (zak zaW (zak zjm (pe_x zaA (pv 6) zad) (pe_x zaA (pv 7) zad)) (pe_x zaA (pv 6) zad)) (pe_x zaA (pv 7) zad)) zad (zat _)) (zaf (zam ze1)) zan)
   (zaf (zau (zdy PySem.F.plainAttrs_list PySem.F.slot_list_append PySem.F.type_list_append zaN (pv 4) (zaa (za7 (zaa (pv 5) (zaa (zak zml (pe_x zaA (pv 6) zad) (pe_x zaA (pv 7) zad)) zae))) zae))))))))
   (zaf (zam (za7 (zaa (zak zml (pe_x zaA (pv 0) zad) (pe_x zaA (pv 1) zad)) (zaa (za4 zb6 (by rfl) T.tuple zb7 (zaa (pv 4) zae)) zae)))))))))),?rd⟩
  have eA:decide ((0:Int)<Builtin.bitAnd (Builtin.bitAnd (Builtin.bitXor (r.w:Int) (q.w:Int)) (r.m:Int)) (q.m:Int)) = !agr r.m r.w q.m q.w:=by
   rw [bxor,band,band]
   unfold agr
   by_cases h:(r.w ^^^ q.w) &&& r.m &&& q.m=0
   ·rw [Xah h,h];rfl
   ·rw [Xai h];exact Xah (by omega)
  refine ⟨_,rfl,t,_,_,_,rfl,rfl,SqT.of et,rfl,_,rfl,u,_,_,_,rfl,rfl,SqT.of eu,rfl,_,_,rfl,rfl,_,rfl,t,_,_,_,rfl,rfl,SqT.of et,rfl,_,_,rfl,rfl,_,rfl,u,_,_,_,rfl,rfl,SqT.of eu,rfl,_,_,rfl,rfl,_,_,rfl,rfl,_,rfl,?_⟩
  rw [eA]
  cases hA:agr r.m r.w q.m q.w with
  | false=>exact iteT (k1 (by unfold zbk;rw [hA,Bool.false_and]) H (Same.refl _))
  | true =>
   refine iteF (zaw ?_)
   try dsimp only
   have hcl:zbk r q=latA r.l q.l:=by unfold zbk;rw [hA,Bool.true_and]
   intro d hd
   have s1:=zah (H:=H) (o:=HO.dK []) hd
   refine ⟨_,rfl,t,_,_,_,rfl,rfl,SqT.of (s1 _ _ et),rfl,_,rfl,u,_,_,_,rfl,rfl,SqT.of (s1 _ _ eu),rfl,by show 2≤sizeLine;decide,fun L hL=>⟨L,rfl,⟨_,SqL.of zac⟩,?_⟩⟩
   have s2:=s1.trans (zah (o:=.lst [lt,lu]) hL)
   refine zfI (K:=K) (xs:=[lt,lu]) (fun i σ X=>∃ (v3:Option V) (g:List (Nat×Addr×List V)),σ=[some (.ref t),some (.ref u),some (.ref d),v3,none,none,none,none]∧X L=some (.lst [lt,lu])∧Same H X∧Grp X d g∧(∀ y∈g,H y.2.1=none∧y.2.1≠L)∧Gi lt lu r.l q.l i g) ⟨none,[],rfl,zac,s2,⟨zah hL _ _ zac,(fun y hy=>by cases hy),Xbg,Xbg⟩,(fun y hy=>by cases hy),rfl⟩ ?_ ?_ ?_
   ·rintro i σ X _ ⟨_,_,_,e,_⟩
    exact SqL.of e
   ·rintro i x σ X hx ⟨v3,g,rfl,eL,sX,G,gN,gi⟩
    obtain ⟨o,ho,hnone,hnew,hold⟩:∃ o,LatV H x o∧(o=none→Gi lt lu r.l q.l (i+1) g)∧(∀ c a b N,o=some (c,a,b)→c ∉ g.map (·.1)→Gi lt lu r.l q.l (i+1) (g ++ [(c,N,[x])]))∧(∀ c a b,o=some (c,a,b)→c∈g.map (·.1)→∃ A,g=[(c,A,[lt])]∧Gi lt lu r.l q.l (i+1) [(c,A,[lt,x])]):=by
     rcases (show i=0∨i=1 by have:=(Xag.mp hx).1;simp at this;omega) with rfl | rfl
     ·cases hx
      obtain rfl:g=[]:=gi
      refine ⟨r.l,hlt,fun e=>⟨d,by rw [e];rfl⟩,fun c a b N e _=>⟨N,by rw [e];rfl⟩,fun c a b e hc=>by cases hc⟩
     ·cases hx
      obtain ⟨A,rfl⟩:=gi
      refine ⟨q.l,hlu,fun e=>⟨A,A,?_⟩,fun c a b N e hc=>⟨A,N,?_⟩,fun c a b e hc=>?_⟩
      ·rw [e]
       cases r.l with
       | none=>rfl
       | some o=>rfl
      ·rw [e]
       cases hr:r.l with
       | none=>rfl
       | some o =>
        obtain ⟨c',a',b'⟩:=o
        rw [hr] at hc
        have hne:c'≠c:=fun z=>hc (by rw [← z];exact Xad.mpr rfl)
        show _=if c'=c then _ else _
        rw [if_neg hne];rfl
      ·cases hr:r.l with
       | none=>rw [hr] at hc;cases hc
       | some o =>
        obtain ⟨c',a',b'⟩:=o
        rw [hr] at hc
        obtain rfl:c=c':=Xad.mp hc
        refine ⟨A,rfl,A,A,?_⟩
        rw [e]
        show _=if c=c then _ else _
        rw [if_pos rfl]
    have hdg:∀ y∈g,y.2.1≠d:=fun y hy e=>by have:=G.l y hy;rw [e,G.e] at this;cases this
    cases ho':o with
    | none =>
     rw [ho'] at ho
     obtain rfl:x = .non:=ho
     exact ⟨_,rfl,_,rfl,iteF (zaw ⟨_,g,rfl,eL,sX,G,gN,hnone ho'⟩)⟩
    | some o1 =>
     obtain ⟨c,a,b⟩:=o1
     rw [ho'] at ho
     obtain ⟨uu,rfl,euu⟩:=ho
     have eu1:=sX _ _ euu
     refine ⟨_,rfl,_,rfl,iteT ?_⟩
     refine ⟨_,rfl,.inr (.inr (.inl ⟨rfl,.inl ⟨_,G.e⟩⟩)),_,rfl,uu,_,_,_,rfl,rfl,SqT.of eu1,rfl,by show 0≤sizeLine;decide,fun N hN=>?_⟩
     have sN:=zah (H:=X) (o:=HO.lst []) hN
     have nNL:L≠N:=fun e=>by rw [e,hN] at eL;cases eL
     have nNd:d≠N:=fun e=>by have:=G.e;rw [e,hN] at this;cases this
     have ndL:L≠d:=fun e=>by have:=G.e;rw [← e,eL] at this;cases this
     have hNn:H N=none:=by cases h:H N with | none=>rfl | some o=>have:=sX _ _ h;rw [hN] at this;cases this
     have hgl:g.length≤1:=by
      rcases (show i=0∨i=1 by have:=(Xag.mp hx).1;simp at this;omega) with rfl | rfl
      ·obtain rfl:g=[]:=gi
       exact Nat.zero_le _
      ·obtain ⟨A,rfl⟩:=gi
       cases r.l with
       | none=>exact Nat.zero_le _
       | some o=>exact Xae _
     by_cases hc:c∈g.map (·.1)
     ·obtain ⟨A1,rfl,gi'⟩:=hold c a b ho' hc
      have hA1:=gN _ (Xad.mpr rfl)
      have nA1:A1≠d:=hdg _ (Xad.mpr rfl)
      have hv:valV [((Sum.inl (c:Int):Key),V.ref A1)] (Sum.inl (c:Int))=some (V.ref A1):=zaT rfl
      refine ⟨d,_,Sum.inl (c:Int),.ref N,rfl,rfl,sN _ _ G.e,by simp,fun v' hv'=>?_,fun hn=>?_⟩
      ·have eA1:=sN _ _ (G.l _ (Xad.mpr rfl))
       refine ⟨_,rfl,_,rfl,uu,_,_,_,rfl,rfl,SqT.of (sN _ _ eu1),rfl,d,.ref A1,rfl,(by rw [← hv];exact DGet.k (k:=Sum.inl (c:Int)) (sN _ _ G.e)),.inl ⟨rfl,_,SqL.of eA1⟩,_,rfl,A1,_,_,rfl,rfl,eA1,by show 1<sizeLine;decide,?_⟩
       refine ⟨_,[(c,A1,[lt,.ref uu])],rfl,by rw [zag (Ne.symm hA1.2),zag nNL];exact eL,fun b' o' e=>by rw [zag (zaj e hA1.1)];exact sN _ _ (sX _ _ e),⟨by rw [zag (Ne.symm nA1),zag nNd];exact G.e,fun y hy=>?_,by simp,by simp⟩,fun y hy=>?_,gi'⟩
       ·obtain rfl:=Xad.mp hy
        exact zac
       ·obtain rfl:=Xad.mp hy
        exact hA1
      ·exact absurd (hv.symm.trans hn) (by simp)
     ·have hv:valV (g.map fun y=>((Sum.inl (y.1:Int):Key),V.ref y.2.1)) (Sum.inl (c:Int))=none:=by
       cases h:valV (g.map fun y=>((Sum.inl (y.1:Int):Key),V.ref y.2.1)) (Sum.inl (c:Int)) with
       | none=>rfl
       | some v =>
        have:=zlQ h
        rw [Xa7,XaC] at this
        obtain ⟨y,hy,e⟩:=this
        have e:(y.1:Int)=(c:Int):=Sum.inl.inj e
        exact absurd (XaC.mpr ⟨y,hy,show y.1=c by omega⟩) hc
      have ep:putK (g.map fun y=>((Sum.inl (y.1:Int):Key),V.ref y.2.1)) (Sum.inl (c:Int)) (.ref N)=(g ++ [(c,N,[V.ref uu])]:List (Nat×Addr×List V)).map fun y=>((Sum.inl (y.1:Int):Key),V.ref y.2.1):=by
       unfold putK
       rw [zbT,hv,XaH]
       rfl
      refine ⟨d,_,Sum.inl (c:Int),.ref N,rfl,rfl,sN _ _ G.e,by rw [Xaf];omega,fun v' hv'=>absurd (hv.symm.trans hv') (by simp),fun _=>?_⟩
      have hv2:valV ((g ++ [(c,N,[V.ref uu])]:List (Nat×Addr×List V)).map fun y=>((Sum.inl (y.1:Int):Key),V.ref y.2.1)) (Sum.inl (c:Int))=some (.ref N):=by rw [← ep,zko,if_pos rfl]
      rw [ep]
      have nud:uu≠d:=fun e=>by have:=G.e;rw [← e,eu1] at this;cases this
      refine ⟨_,rfl,_,rfl,uu,_,_,_,rfl,rfl,SqT.of (by rw [zag nud];exact sN _ _ eu1),rfl,d,.ref N,rfl,(by rw [← hv2];exact DGet.k (k:=Sum.inl (c:Int)) zac),.inl ⟨rfl,_,SqL.of (by rw [zag (Ne.symm nNd)];exact zac)⟩,_,rfl,N,[],_,rfl,rfl,by rw [zag (Ne.symm nNd)];exact zac,by show 0<sizeLine;decide,?_⟩
      have hNg:∀ y∈g,y.2.1≠N:=fun y hy e=>by have:=G.l y hy;rw [e,hN] at this;cases this
      refine ⟨_,g ++ [(c,N,[.ref uu])],rfl,by rw [zag nNL,zag ndL,zag nNL];exact eL,fun b' o' e=>by rw [zag (zaj e hNn),zag (zaj e hd)];exact sN _ _ (sX _ _ e),⟨by rw [zag nNd];exact zac,fun y hy=>?_,?_,?_⟩,fun y hy=>?_,hnew c a b N ho' hc⟩
      ·rcases XaF.mp hy with hy | hy
       ·rw [zag (hNg y hy),zag (hdg y hy),zag (hNg y hy)];exact G.l y hy
       ·obtain rfl:=Xad.mp hy
        exact zac
      ·rw [XaH,XaO]
       exact ⟨G.nd,by simp,fun z hz z' hz'=>by obtain rfl:=Xad.mp hz';exact fun e=>hc (e ▸ hz)⟩
      ·rw [XaH,XaO]
       refine ⟨G.na,by simp,fun z hz z' hz'=>?_⟩
       obtain rfl:=Xad.mp hz'
       obtain ⟨y,hy,rfl⟩:=XaC.mp hz
       exact hNg y hy
      ·rcases XaF.mp hy with hy | hy
       ·exact gN y hy
       ·obtain rfl:=Xad.mp hy
        exact ⟨hNn,Ne.symm nNL⟩
   ·rintro σ X ⟨v3,g,rfl,eL,sX,G,gN,gi⟩
    obtain ⟨A,B,hgi⟩:=gi
    
    have hgood:∀ y∈g,∃ (u1 u2:Addr) (c1 a1 b1 c2 a2 b2:Nat),y.2.2[0]? = some (V.ref u1)∧atI y.2.2 (-1)=some (V.ref u2)∧H u1=some (.tup [.int (c1:Int),.int (a1:Int),.int (b1:Int)])∧H u2=some (.tup [.int (c2:Int),.int (a2:Int),.int (b2:Int)])∧(zbk r q=true→agr a1 b1 a2 b2=true)∧(zbk r q=false→agr a1 b1 a2 b2=false):=by
     have self:∀ a b:Nat,agr a b a b=true:=fun a b=>by unfold agr;rw [Nat.xor_self];simp
     rw [hgi]
     intro y hy
     cases hr:r.l with
     | none =>
      cases hq:q.l with
      | none=>rw [hr,hq] at hy;cases hy
      | some o =>
       obtain ⟨c,a,b⟩:=o
       rw [hr,hq] at hy
       rw [hq] at hlu
       obtain ⟨u1,rfl,e1⟩:=hlu
       obtain rfl:=Xad.mp hy
       exact ⟨u1,u1,c,a,b,c,a,b,rfl,zdb [] _,e1,e1,fun _=>self a b,fun h=>by rw [hcl,hr,hq] at h;cases h⟩
     | some o =>
      obtain ⟨c,a,b⟩:=o
      rw [hr] at hlt
      obtain ⟨u1,rfl,e1⟩:=hlt
      cases hq:q.l with
      | none =>
       rw [hr,hq] at hy
       obtain rfl:=Xad.mp hy
       exact ⟨u1,u1,c,a,b,c,a,b,rfl,zdb [] _,e1,e1,fun _=>self a b,fun h=>by rw [hcl,hr,hq] at h;cases h⟩
      | some o2 =>
       obtain ⟨d',x,y'⟩:=o2
       rw [hr,hq] at hy
       rw [hq] at hlu
       obtain ⟨u2,rfl,e2⟩:=hlu
       have hlA:zbk r q=if c=d' then agr a b x y' else true:=by rw [hcl,hr,hq];rfl
       by_cases hcd:c=d'
       ·rw [show gTwo A B (V.ref u1) (V.ref u2) (some (c,a,b)) (some (d',x,y'))=[(c,A,[.ref u1,.ref u2])] from if_pos hcd] at hy
        obtain rfl:=Xad.mp hy
        rw [if_pos hcd] at hlA
        exact ⟨u1,u2,c,a,b,d',x,y',rfl,zdb [V.ref u1] _,e1,e2,fun h=>by rw [← hlA];exact h,fun h=>by rw [← hlA];exact h⟩
       ·rw [if_neg hcd] at hlA
        rw [show gTwo A B (V.ref u1) (V.ref u2) (some (c,a,b)) (some (d',x,y'))=[(c,A,[.ref u1]),(d',B,[.ref u2])] from if_neg hcd] at hy
        rcases Xao.mp hy with rfl | hy
        ·exact ⟨u1,u1,c,a,b,c,a,b,rfl,zdb [] _,e1,e1,fun _=>self a b,fun h=>by rw [hlA] at h;cases h⟩
        ·obtain rfl:=Xad.mp hy
         exact ⟨u2,u2,d',x,y',d',x,y',rfl,zdb [] _,e2,e2,fun _=>self x y',fun h=>by rw [hlA] at h;cases h⟩
    have hne:zbk r q=false→g≠[]:=fun h e=>by
     rw [e] at hgi
     rw [hcl] at h
     cases hr:r.l with
     | none=>rw [hr] at h;cases h
     | some o =>
      cases hq:q.l with
      | none=>rw [hr,hq] at h;cases h
      | some o2 =>
       rw [hr,hq] at hgi
       have hgi:([]:List (Nat×Addr×List V))=if o.1=o2.1 then _ else _:=hgi
       split at hgi <;> cases hgi
    have hg2:g.length≤2:=by
     rw [hgi]
     cases r.l with
     | none=>cases q.l with
      | none=>exact Nat.zero_le _
      | some o=>show 1≤2;decide
     | some o=>cases q.l with
      | none=>show 1≤2;decide
      | some o2 =>
       show (if o.1=o2.1 then _ else _:List (Nat×Addr×List V)).length≤2
       split <;> simp
    refine ⟨by show 0≤sizeLine;decide,fun TL hTL=>?_⟩
    have sT:=zah (H:=X) (o:=HO.lst []) hTL
    have nTd:TL≠d:=fun e=>by have:=G.e;rw [← e,hTL] at this;cases this
    have hTn:H TL=none:=sX.free hTL
    refine ⟨_,rfl,d,_,g.map fun y=>(y.1:Int),rfl,sT _ _ G.e,by rw [Xa7,Xa7];rfl,by rw [Xaf];omega,fun l ns hl pm _=>⟨l,rfl,⟨_,SqL.of zac⟩,?_⟩⟩
    have sl:=sT.trans (zah (o:=.lst (ns.map V.int)) hl)
    have nlT:TL≠l:=fun e=>by rw [← e,zac] at hl;cases hl
    have hpl:ns.length=g.length:=by rw [pm.length_eq,Xaf]
    refine zfI (K:=K) (xs:=ns.map V.int) (fun i σ Y=>∃ (v5 v6 v7:Option V) (ts:List V),σ=[some (.ref t),some (.ref u),some (.ref d),v3,some (.ref TL),v5,v6,v7]∧(zbk r q=true∨i=0)∧Y TL=some (.lst ts)∧ts.length≤i∧∀ a o,a≠TL→upd (upd X TL (.lst [])) l (.lst (ns.map V.int)) a=some o→Y a=some o) ⟨none,none,none,[],rfl,.inr rfl,by rw [zag nlT];exact zac,Xae _,fun a o _ e=>e⟩ ?_ ?_ ?_
    ·rintro i σ Y _ ⟨_,_,_,_,_,_,_,_,fr⟩
     exact SqL.of (fr _ _ (Ne.symm nlT) zac)
    ·rintro i x σ Y hx ⟨v5,v6,v7,ts,rfl,hci,eT,htl,fr⟩
     rw [Xat] at hx
     obtain ⟨n,hn,rfl⟩:=XaE.mp hx
     obtain ⟨y,hy,rfl⟩:=XaC.mp (pm.mem_iff.mp (Xay hn))
     obtain ⟨u1,u2,c1,a1,b1,c2,a2,b2,g1,g2,g3,g4,g5,g6⟩:=hgood y hy
     have frH:∀ a o,H a=some o→Y a=some o:=fun a o e=>fr a o (zaj e hTn) (sl _ _ (sX _ _ e))
     have eD:Y d=some (.dK (g.map fun y=>((Sum.inl (y.1:Int):Key),V.ref y.2.1))):=fr _ _ (Ne.symm nTd) (sl _ _ G.e)
     have eY:Y y.2.1=some (.lst y.2.2):=fr _ _ (fun e=>by have:=G.l y hy;rw [e,hTL] at this;cases this) (sl _ _ (G.l y hy))
     have hv:valV (g.map fun y=>((Sum.inl (y.1:Int):Key),V.ref y.2.1)) (Sum.inl (y.1:Int))=some (V.ref y.2.1):=ziM G.nd hy
     have eA2:decide ((0:Int)<Builtin.bitAnd (Builtin.bitAnd (Builtin.bitXor (b1:Int) (b2:Int)) (a1:Int)) (a2:Int)) = !agr a1 b1 a2 b2:=by
      rw [bxor,band,band]
      unfold agr
      by_cases h:(b1 ^^^ b2) &&& a1 &&& a2=0
      ·rw [Xah h,h];rfl
      ·rw [Xai h];exact Xah (by omega)
     refine ⟨_,rfl,_,rfl,d,_,rfl,(by rw [← hv];exact DGet.k (k:=Sum.inl (y.1:Int)) eD),y.2.1,_,_,_,rfl,rfl,SqL.of eY,(zaP (j:=0) g1:atI _ ((0:Nat):Int)=_),?_⟩
     refine ⟨_,rfl,_,rfl,d,_,rfl,(by rw [← hv];exact DGet.k (k:=Sum.inl (y.1:Int)) eD),?_⟩
     refine ⟨1,rfl,y.2.1,_,_,_,rfl,rfl,SqL.of eY,g2,?_⟩
     have h3:=frH _ _ g3
     have h4:=frH _ _ g4
     refine ⟨_,rfl,u1,_,_,_,rfl,rfl,SqT.of h3,rfl,_,rfl,u2,_,_,_,rfl,rfl,SqT.of h4,rfl,_,_,rfl,rfl,_,rfl,u1,_,_,_,rfl,rfl,SqT.of h3,rfl,_,_,rfl,rfl,_,rfl,u2,_,_,_,rfl,rfl,SqT.of h4,rfl,_,_,rfl,rfl,_,_,rfl,rfl,_,rfl,?_⟩
     rw [eA2]
     cases hA2:agr a1 b1 a2 b2 with
     | false =>
      refine iteT (k1 ?_ Y frH)
      cases h:zbk r q with
      | false=>rfl
      | true=>rw [g5 h] at hA2;cases hA2
     | true =>
      have hct:zbk r q=true:=by
       cases h:zbk r q with
       | true=>rfl
       | false=>rw [g6 h] at hA2;cases hA2
      have hil:i<ns.length:=(Xag.mp hn).1
      refine iteF (zaw ?_)
      try dsimp only
      refine ⟨_,rfl,.inl ⟨rfl,_,SqL.of eT⟩,_,rfl,_,rfl,u1,_,_,_,rfl,rfl,SqT.of h3,rfl,_,rfl,u2,_,_,_,rfl,rfl,SqT.of h4,rfl,_,_,rfl,rfl,by show 2≤sizeLine;decide,fun tp htp=>?_⟩
      have sp:=zah (H:=Y) (o:=HO.tup [.int (y.1:Int),.int (Builtin.bitOr (b1:Int) (b2:Int))]) htp
      refine ⟨TL,ts,_,rfl,rfl,sp _ _ eT,by rw [sizeLine_eq];omega,?_⟩
      exact ⟨_,_,_,ts ++ [.ref tp],rfl,.inl hct,zac,by rw [Xaq];simp;omega,fun a o ha e=>by rw [zag ha];exact sp _ _ (fr a o ha e)⟩
    ·rintro σ Y ⟨v5,v6,v7,ts,rfl,hci,eT,htl,fr⟩
     have frH:∀ a o,H a=some o→Y a=some o:=fun a o e=>fr a o (zaj e hTn) (sl _ _ (sX _ _ e))
     have hct:zbk r q=true:=by
      cases h:zbk r q with
      | true=>rfl
      | false =>
       rcases hci with e | e
       ·rw [h] at e;cases e
       ·rw [Xaf,hpl] at e
        exact absurd (List.length_eq_zero_iff.mp e) (hne h)
     refine ⟨_,rfl,t,_,_,_,rfl,rfl,SqT.of (frH _ _ et),rfl,_,rfl,u,_,_,_,rfl,rfl,SqT.of (frH _ _ eu),rfl,_,_,rfl,rfl,_,rfl,TL,ts,rfl,.inl ⟨SqL.of eT,fun tp htp=>⟨by show 2≤sizeLine;decide,fun p hp=>?_⟩⟩⟩
     exact k2 hct p _ ((show Same H Y from frH).trans ((zah htp).trans (zah hp)))
abbrev zeo:Stmt:=top 72
theorem sc_law_map:FnScope ["row","own_bits","models","own_rows","k","one"] ["row","own_bits","models"] (zai zeo):=sck rfl rfl rfl (by decide +kernel)
theorem zhU (m w n v:Nat):agr m w n v=agr n v m w:=by unfold agr;rw [Nat.xor_comm,Nat.and_assoc,Nat.and_comm m n,← Nat.and_assoc]
theorem ziz (r q:Rw):zbk r q=zbk q r:=by
 unfold zbk
 rw [zhU]
 congr 1
 cases r.l with
 | none=>cases q.l <;> rfl
 | some o =>
  cases q.l with
  | none=>rfl
  | some o2 =>
   show (if o.1=o2.1 then agr o.2.1 o.2.2 o2.2.1 o2.2.2 else true)=if o2.1=o.1 then agr o2.2.1 o2.2.2 o.2.1 o.2.2 else true
   by_cases e:o.1=o2.1
   ·rw [if_pos e,if_pos e.symm,zhU]
   ·rw [if_neg e,if_neg (Ne.symm e)]
theorem zj0 {row:List Nat}{a n:Nat}(h:a+n≤row.length):cutV (vN row) (some (a:Int)) (some ((a+n:Nat):Int))=vN ((row.drop a).take n):=by
 unfold cutV
 rw [HT.sIx_nat,HT.sIx_nat,zaq,Nat.min_eq_left (by omega),Nat.min_eq_left (by omega),show a+n - a=n by omega]
 unfold vN
 rw [List.map_take,List.map_drop]
inductive spMap34 (cs:Nat→Addr)(vs:List V)(H:Hp)(Q:VK)(u3_:XK):Prop
 | mk (L ML:Addr) (row:List Nat) (c m:Nat) (cl:List Cm) (z0_:vs=[.ref L,.int (m:Int),.ref ML]) (z1_:H L=some (.lst (vN row))) (z2_:row.length=8 * c) (z3_:c≤6) (z4_:(∀ v∈row,v<2 ^ 31)) (z5_:1≤m) (z6_:m≤16) (z7_:H ML=some (.lst (cl.map fun c=>.ref c.m))) (z8_:1≤cl.length) (z9_:cl.length≤9) (z10_:CMs cs H cl) (z11_:∀ (R:Addr) (ws:List (Addr×Rw)) (H':Hp),H R=none→RwsFor (dtC cl) m H' R ws→ws.length≤6→Same H H'→Q (.ref R) H')
theorem zii {f:Addr}{cs:Nat→Addr}{fd:FuncData}(F:Fun K "_law_map" "_law_map" zeo f fd)(T:Blt mg)(G_law_row:Cal P w K mg base 3 "_law_row" ["r","own_bits","models"] (spRow34 cs))(G_law_pair:Cal P w K mg base 1 "_law_pair" ["one","other"] spPairL):FnOk P w K mg base CX0 4 f fd ["row","own_bits","models"] (spMap34 cs):=by
 refine F.ok sc_law_map (by walk_at "l") (fun cdv A outer s H vs Q E hr h=>?_)
 ·obtain ⟨L,ML,row,c,m,cl,rfl,eL,hl,c6,hw,m1,m2,eM,c1,c9,hC,k⟩:=h
  refine' ⟨_,(zab (ps_L 3 sc_law_map.nd (zax zae))
   (zab (zbO PassesOwn.never rfl (zf0 rfl T.range (zaa zad (zaa (zak zbR (zap zar (by rfl) T.len PySem.boot_len (zaa (pv 0) zae)) zad) (zaa zad zae)))) (pg_L 4 sc_law_map.nd)
   (zab (zll (i:=5) sc_law_map.nd rfl (Or.inr rfl) (pe_c G_law_row (zaa (zb0 zea (pv 0) (zbt (pv 4)) (zbt (zak zaR (pv 4) zad))) (zaa (pv 1) (zaa (pv 2) zae)))))
   (zaf (zay (zas (zmr (Xbn (zc7 hr)) (K:=K) rfl) ?c1 (zax zae) (zat _)) (zaf (zau (zdy PySem.F.plainAttrs_list PySem.F.slot_list_append PySem.F.type_list_append zaN (pv 3) (zaa (pv 5) zae)))) zan))))
   (zaf (zam (za4 zb6 (by rfl) T.tuple zb7 (zaa (pv 3) zae)))))),?rd⟩
  (case c1=>exact (zdx (Nc:=["other","one"]) [none,some 5] rfl (zaX (by rfl)) (zcP (pv 3)) (fun _ _ _ _ _=>(pg_L 0 (show (["other","one"]:List Str).Nodup by decide +kernel))) (fun _ _ _ _ _=>(zhC (zb9 (zcR (pe_c G_law_pair (zaa (pv 1) (zaa (pv 0) zae))))))) (fun _ _ _ _ _=>(pv 0))))
  refine ⟨by show 0≤sizeLine;decide,fun RL hRL=>?_⟩
  have s1:=zah (o:=.lst []) hRL
  obtain ⟨r1,r2,r3⟩:Builtin.Range.small 0 (((vN row).length:Int) - 7) 8=true∧Builtin.divisionGoesByPylong ((((vN row).length:Int) - 7) - 0) 8=false∧Builtin.Range.rangeSize 0 (((vN row).length:Int) - 7) 8=(c:Int):=by
   by_cases h0:c=0
   ·rw [zaq,hl,h0];exact ⟨by decide,by decide,by decide⟩
   ·rw [zaq,hl,show ((8 * c:Nat):Int) - 7=((8 * c - 7:Nat):Int) by omega]
    exact zhA (j:=8 * c - 7) (st:=8) (n:=c) (by omega) (by decide) (by decide) (by omega)
  refine ⟨_,rfl,L,_,rfl,.inl (SqL.of (s1 _ _ eL)),_,_,rfl,rfl,0,_,8,c,rfl,by decide,r1,r2,r3,?_⟩
  refine ze7 (n:=c) (fun i σ X=>∃ (v:Option V×Option V) (ws:List (Addr×Rw)),σ=[some (.ref L),some (.int (m:Int)),some (.ref ML),some (.ref RL),v.1,v.2]∧X RL=some (.lst (refs ws))∧RwsAt2 m X ws∧(∀ z∈ws,Fit (dtC cl) z.2)∧ws.Pairwise (fun a b=>NC a.2 b.2)∧ws.length≤i∧Same H X) ⟨(_,_),[],rfl,zac,(fun _ h=>nomatch h),(fun _ h=>nomatch h),List.Pairwise.nil,Xae _,s1⟩ ?_ ?_
  ·rintro i σ X hi ⟨v,ws,rfl,hh⟩
   have eRL:=hh.1
   have hat2:=hh.2.1
   have hfit:=hh.2.2.1
   have hnc:=hh.2.2.2.1
   have hlen:=hh.2.2.2.2.1
   have sX:=hh.2.2.2.2.2
   rw [show (0:Int)+(i:Int) * 8=((8 * i:Nat):Int) by omega]
   have e8:((8 * i:Nat):Int)+8=((8 * i+8:Nat):Int):=by omega
   refine ⟨_,rfl,_,rfl,((8 * i:Nat):Int),rfl,_,rfl,_,_,rfl,rfl,((8 * i+8:Nat):Int),congrArg V.int e8,L,_,rfl,SqL.of (sX _ _ eL),fun g hg=>?_⟩
   rw [zj0 (by omega)]
   have sg:=zah (o:=.lst (vN ((row.drop (8 * i)).take 8))) hg
   refine ⟨_,rfl,_,rfl,g,ML,_,m,cl,rfl,zac,by rw [Xa3,Xa4];omega,(fun v hv=>hw v (XbE (List.mem_of_mem_take hv))),m1,m2,(sX.trans sg) _ _ eM,c1,c9,hC.same (sX.trans sg),fun ta rN Z hta raN okN fitN s2=>?_⟩
   have sZ:=sg.trans s2
   try dsimp only [za6,List.set]
   have eRZ:=sZ _ _ eRL
   refine ⟨_,rfl,RL,rfl,⟨_,SqL.of eRZ⟩,?_⟩
   refine zeK (K:=K) (xs:=refs ws) (fun j ys σ U=>∃ v0,σ=[v0,some (.ref ta)]∧ys.length≤j∧(ys=[]→∀ (k:Nat) (z:Addr×Rw),k<j→ws[k]? = some z→zbk rN z.2=false)∧Same Z U) (by rw [zaC,sizeLine_eq];omega) ⟨none,rfl,Xae _,(fun _ k z hk=>absurd hk (Xbu _)),Same.refl _⟩ ?_ ?_ ?_
   ·rintro j ys σ U _ ⟨_,_,hl,_,sU⟩
    exact ⟨SqL.of (sU _ _ eRZ),hl⟩
   ·rintro j x ys σ U hx ⟨v0,rfl,hl,hcl,sU⟩
    obtain ⟨z,hz,rfl⟩:=zbZ hx
    have raz:=((hat2 z (Xay hz)).1.same sZ).same sU
    refine ⟨_,rfl,_,rfl,ta,z.1,rN,z.2,rfl,raN.same sU,raz,fun hc U1 s1=>⟨_,rfl,iteF ?_⟩,fun hc p U1 s1=>⟨_,rfl,iteT ⟨_,rfl,?_⟩⟩⟩
    ·refine ⟨_,rfl,by omega,fun he k z' hk hz'=>?_,sU.trans s1⟩
     rcases (show k<j∨k=j by omega) with e | e
     ·exact hcl he k z' e hz'
     ·rw [e,hz] at hz';cases hz';exact hc
    ·exact ⟨_,rfl,by rw [Xaq];simp;omega,fun he=>absurd he (by simp),sU.trans s1⟩
   ·rintro ys σ U ⟨v0,rfl,hl,hcl,sU⟩ Dc hDc
    rw [zaC] at hcl
    refine ⟨by show 0≤sizeLine;decide,fun e0 he0=>?_⟩
    have y1:=(sZ.trans sU).trans ((zah (o:=.lst ys) hDc).trans (zah (o:=.lst []) he0))
    refine ⟨Dc,e0,ys,rfl,rfl,SqL.of (zah he0 _ _ zac),SqL.of zac,_,rfl,ite2 (fun h1=>?_) (fun h1=>zaw ?_)⟩
    ·have hys:ys=[]:=List.isEmpty_iff.mp h1
     have eR2:=y1 _ _ eRL
     refine ⟨_,rfl,.inl ⟨rfl,_,SqL.of eR2⟩,_,rfl,RL,_,_,rfl,rfl,eR2,by rw [zaC,sizeLine_eq];omega,?_⟩
     refine ⟨(_,_),ws ++ [(ta,rN)],rfl,?_,fun z hz=>?_,fun z hz=>?_,?_,by rw [Xaq];simp;omega,fun a q' e=>by rw [zag (zaj e hRL)];exact y1 _ _ (sX _ _ e)⟩
     ·rw [zac];unfold refs;rw [XaH];rfl
     ·rcases XaF.mp hz with hz | hz
      ·exact ⟨((hat2 z hz).1.same y1).updL eR2,(hat2 z hz).2⟩
      ·obtain rfl:=Xad.mp hz
       exact ⟨((raN.same sU).same ((zah hDc).trans (zah he0))).updL eR2,okN⟩
     ·rcases XaF.mp hz with hz | hz
      ·exact hfit z hz
      ·obtain rfl:=Xad.mp hz
       exact fitN
     ·rw [List.pairwise_append]
      refine ⟨hnc,List.pairwise_singleton _ _,fun a ha b hb=>?_⟩
      obtain rfl:=Xad.mp hb
      obtain ⟨k',hk'⟩:=List.mem_iff_getElem?.mp ha
      have hcf:=hcl hys k' a (Xag.mp hk').1 hk'
      exact ⟨by rw [ziz];exact hcf,hcf⟩
    ·exact ⟨(_,_),ws,rfl,y1 _ _ eRL,hat2.same y1,hfit,hnc,by omega,sX.trans y1⟩
  ·rintro σ X ⟨v,ws,rfl,eRL,hat2,hfit,hnc,hlen,sX⟩
   refine ⟨_,rfl,RL,refs ws,rfl,.inl ⟨SqL.of eRL,fun R hR=>?_⟩⟩
   have sR:=zah (H:=X) (o:=HO.tup (refs ws)) hR
   exact k R ws _ (sX.free hR) ⟨zac,hat2.same sR,hfit,hnc,by omega⟩ (by omega) (sX.trans sR)
abbrev zcH:Stmt:=top 74
theorem sc_law_board:FnScope ["row","own_bits","own_chips","models","own_rows"] ["row"] (zai zcH):=sck rfl rfl rfl (by decide +kernel)
structure Bo34 (cs:Nat→Addr)(H:Hp)(R CL ML:Addr)(m:Nat)(cl:List Cm)(ws:List (Addr×Rw))(X:Hp):Prop where
 m1:1≤m
 m2:m≤16
 rf:RwsFor (dtC cl) m X R ws
 l6:ws.length≤6
 eC:X CL=some (.lst (cl.map fun c=>.ref c.x))
 eM:X ML=some (.lst (cl.map fun c=>.ref c.m))
 nCM:CL≠ML
 c9:cl.length≤9
 C:CMs cs X cl
 fr:∀ c∈cl,H c.p=none∧H c.r=none∧c.p≠CL∧c.p≠ML∧c.r≠CL∧c.r≠ML
 s:Same H X
theorem Bo34.same {cs:Nat→Addr}{H X Y:Hp}{R CL ML:Addr}{m:Nat}{cl:List Cm}{ws:List (Addr×Rw)}(h:Bo34 cs H R CL ML m cl ws X)(s:Same X Y):Bo34 cs H R CL ML m cl ws Y:=⟨h.m1,h.m2,h.rf.same s,h.l6,s _ _ h.eC,s _ _ h.eM,h.nCM,h.c9,h.C.same s,h.fr,h.s.trans s⟩
inductive spBoard34 (cs:Nat→Addr)(vs:List V)(H:Hp)(Q:VK)(u3_:XK):Prop
 | mk (L:Addr) (row:List Nat) (z0_:vs=[.ref L]) (z1_:H L=some (.lst (vN row))) (z2_:row.length=80) (z3_:(∀ v∈row,v<2 ^ 31)) (z4_:∀ (t R CL ML:Addr) (m:Nat) (cl:List Cm) (ws:List (Addr×Rw)) (H':Hp),H' t=some (.tup [.int (m:Int),.ref R,.ref CL,.ref ML])→Bo34 cs H R CL ML m cl ws H'→Q (.ref t) H')
theorem zgb {f:Addr}{cs:Nat→Addr}{fd:FuncData}(F:Fun K "_law_board" "_law_board" zcH f fd)(T:Blt mg)(G_law_chips:Cal P w K mg base 6 "_law_chips" ["row"] (spChips34 cs))(G_law_map:Cal P w K mg base 4 "_law_map" ["row","own_bits","models"] (spMap34 cs)):FnOk P w K mg base CX0 7 f fd ["row"] (spBoard34 cs):=by
 refine F.ok sc_law_board (by walk_at "l") (fun cdv A outer s H vs Q E hr h=>?_)
 ·obtain ⟨L,row,rfl,eL,hl,hw,k⟩:=h
  refine ⟨_,(zab (ps_L 1 sc_law_board.nd (pe_x zal (zax (zaa zad (zaa (zak zaR zad (zak zaB (zak zaD (pe_x zal (pv 0) zad) zad) zad)) (zaa zad (zaa (zak zaR zad (zak zaB (zak zaD (pe_x zal (pv 0) zad) zad) zad)) zae))))) (zak zaB (pe_x zal (pv 0) zad) zad)))
   (zab (zay (zas zby (zak zaB (zak zaD (pe_x zal (pv 0) zad) zad) zad) zad (zat _)) (zaf (zam (za7 (zaa (pv 1) (zaa (za7 zae) (zaa (zax zae) (zaa (zax zae) zae))))))) zan)
   (zab (zbP (pe_c G_law_chips (zaa (zb0 zea (pv 0) (zbt zad) (zbt (zak zaR zad (zak zdz zad (zak zaR zad (zak zaB (pe_x zal (pv 0) zad) zad)))))) zae)) (zbu rfl (zao (pg_L 2 sc_law_board.nd) (zao (pg_L 3 sc_law_board.nd) zaV))))
   (zab (ps_L 4 sc_law_board.nd (pe_c G_law_map (zaa (zb0 zea (pv 0) (zbt zad) (zbt (zak zaR zad (zak zdz zad (zak zaB (zak zaD (pe_x zal (pv 0) zad) zad) zad))))) (zaa (pv 1) (zaa (pv 3) zae)))))
   (zaf (zam (za7 (zaa (pv 1) (zaa (pv 4) (zaa (pv 2) (zaa (pv 3) zae))))))))))),?rd⟩
  obtain ⟨dr,hdr⟩:=drw (row:=row) 80 (by omega) hw
  have y0:atI (vN row) 0=some (.int (dr 0:Int)):=(hdr 0 (by decide)).1
  have y1:atI (vN row) 1=some (.int (dr 1:Int)):=(hdr 1 (by decide)).1
  
  refine za2 (fun σ X=>∃ m:Nat,1≤m∧m≤16∧σ=[some (.ref L),some (.int (m:Int)),none,none,none]∧Same H X) (fun N hN=>?_) ?_
  ·have i0:SqL K H L (vN row):=SqL.of eL
   refine ⟨_,rfl,L,_,_,_,rfl,rfl,i0,y0,_,_,rfl,rfl,⟨by decide,by decide +kernel⟩,_,_,rfl,rfl,(show (0:Int)<16 by decide),_,_,rfl,rfl,_,rfl,L,_,_,_,rfl,rfl,i0,y0,_,_,rfl,rfl,⟨by decide,by decide +kernel⟩,_,_,rfl,rfl,(show (0:Int)<6 by decide),_,_,rfl,rfl,by show 4≤sizeLine;decide,fun p hp=>?_⟩
   have sp:=zah (o:=.lst [V.int 16,V.int ((1:Int)+(dr 0:Int) / 4 % 16),V.int 8,V.int ((4:Int)+(dr 0:Int) / 4 % 6)]) hp
   obtain ⟨u,hu,eu⟩:=zh6 (ns:=[16,1+dr 0 / 4 % 16,8,4+dr 0 / 4 % 6]) (a:=dr 0) (k:=4) rfl (by decide)
   refine ⟨_,rfl,L,_,_,_,rfl,rfl,SqL.of (sp _ _ eL),y0,_,_,rfl,rfl,(show (0:Int)<4 by decide),p,_,_,.int (u:Int),rfl,rfl,SqL.of zac,?_,?_⟩
   ·show atI [V.int 16,V.int ((1:Int)+(dr 0:Int) / 4 % 16),V.int 8,V.int ((4:Int)+(dr 0:Int) / 4 % 6)] ((dr 0:Int) % 4)=_
    rw [show (1:Int)+(dr 0:Int) / 4 % 16=((1+dr 0 / 4 % 16:Nat):Int) by omega,show (4:Int)+(dr 0:Int) / 4 % 6=((4+dr 0 / 4 % 6:Nat):Int) by omega]
    exact eu
   have hu2:1≤u∧u≤16:=by
    simp only [Xao,Xbc,or_false] at hu
    omega
   exact hN _ _ ⟨u,hu2.1,hu2.2,rfl,sp⟩
  rintro σ X ⟨m,m1,m2,rfl,sX⟩
  
  refine za2 (fun σ Y=>σ=[some (.ref L),some (.int (m:Int)),none,none,none]∧Y=X) (fun N hN=>?_) ?_
  ·refine ⟨_,rfl,L,_,_,_,rfl,rfl,SqL.of (sX _ _ eL),y1,_,_,rfl,rfl,⟨by decide,by decide +kernel⟩,_,_,rfl,rfl,(show (0:Int)<12 by decide),rfl,_,rfl,ite2 (fun h1=>?_) (fun h1=>zaw (hN _ _ ⟨rfl,rfl⟩))⟩
   refine ⟨_,rfl,by show 0≤sizeLine;decide,fun R hR=>⟨by show 0≤sizeLine;decide,fun CL hCL=>⟨by show 0≤sizeLine;decide,fun ML hML=>⟨by show 4≤sizeLine;decide,fun t ht=>?_⟩⟩⟩⟩
   have q1:=zah (o:=.tup []) hR
   have q2:=zah (o:=.lst []) hCL
   have q3:=zah (o:=.lst []) hML
   have q4:=zah (o:=.tup [.int (m:Int),.ref R,.ref CL,.ref ML]) ht
   have nCM:CL≠ML:=fun z=>by rw [← z,zac] at hML;cases hML
   exact k t R CL ML m [] [] _ zac ⟨m1,m2,⟨q4 _ _ (q3 _ _ (q2 _ _ zac)),(fun _ h=>nomatch h),(fun _ h=>nomatch h),List.Pairwise.nil,by decide⟩,by decide,q4 _ _ (q3 _ _ zac),q4 _ _ zac,nCM,by decide,⟨(fun _ h=>nomatch h),Xbg⟩,(fun _ h=>nomatch h),sX.trans (q1.trans (q2.trans (q3.trans q4)))⟩
  rintro σ Y ⟨rfl,rfl⟩
  have c1:dr 1 % 9<9:=Nat.mod_lt _ (by decide)
  have c2:dr 1 / 9 % 7<7:=Nat.mod_lt _ (by decide)
  have e1:(2:Int)+2 * (1+(dr 1:Int) % 9)=((2+2 * (1+dr 1 % 9):Nat):Int):=by omega
  have e2:(20:Int)+8 * ((dr 1:Int) / 9 % 7)=((20+8 * (dr 1 / 9 % 7):Nat):Int):=by omega
  refine ⟨_,rfl,(2:Nat),rfl,_,rfl,L,_,_,_,rfl,rfl,SqL.of (sX _ _ eL),y1,_,_,rfl,rfl,(show (0:Int)<9 by decide),_,_,rfl,rfl,_,_,rfl,rfl,?_,_,_,rfl,rfl,((2+2 * (1+dr 1 % 9):Nat):Int),congrArg V.int e1,L,_,rfl,SqL.of (sX _ _ eL),fun g hg=>?_⟩
  ·exact zeC (by decide) (by omega)
  rw [zj0 (by omega)]
  have sg:=zah (o:=.lst (vN ((row.drop 2).take (2 * (1+dr 1 % 9))))) hg
  refine ⟨g,_,1+dr 1 % 9,rfl,zac,by rw [Xa3,Xa4];omega,by omega,by omega,(fun v hv=>hw v (XbE (List.mem_of_mem_take hv))),fun t CL ML cl Z ht hCL hML nCM et eC eM hlen hC hfr s2=>zhP et ?_⟩
  try dsimp only [za6,List.set]
  have sZ:=sX.trans (sg.trans s2)
  refine ⟨_,rfl,(20:Nat),rfl,_,rfl,L,_,_,_,rfl,rfl,SqL.of (sZ _ _ eL),y1,_,_,rfl,rfl,⟨by decide,by decide +kernel⟩,_,_,rfl,rfl,(show (0:Int)<7 by decide),_,_,rfl,rfl,?_,_,_,rfl,rfl,((20+8 * (dr 1 / 9 % 7):Nat):Int),congrArg V.int e2,L,_,rfl,SqL.of (sZ _ _ eL),fun g2 hg2=>?_⟩
  ·exact zeC (by decide) (by omega)
  rw [zj0 (by omega)]
  have sg2:=zah (o:=.lst (vN ((row.drop 20).take (8 * (dr 1 / 9 % 7))))) hg2
  refine ⟨_,rfl,_,rfl,g2,ML,_,dr 1 / 9 % 7,m,cl,rfl,zac,by rw [Xa3,Xa4];omega,by omega,(fun v hv=>hw v (XbE (List.mem_of_mem_take hv))),m1,m2,sg2 _ _ eM,by omega,by omega,hC.same sg2,fun R ws W hR hrf l6 s3=>?_⟩
  refine ⟨_,rfl,_,rfl,_,rfl,_,rfl,by show 4≤sizeLine;decide,fun t2 ht2=>?_⟩
  have sW:=sg2.trans s3
  have st:=zah (o:=.tup [.int (m:Int),.ref R,.ref CL,.ref ML]) ht2
  have sf:=sX.trans sg
  refine k t2 R CL ML m cl ws _ zac (Bo34.same ⟨m1,m2,hrf,l6,sW _ _ eC,sW _ _ eM,nCM,by omega,hC.same sW,fun c hc=>?_,sZ.trans sW⟩ st)
  obtain ⟨f1,f2,f3⟩:=hfr c hc
  exact ⟨sf.free f1,sf.free f2,f3⟩
inductive spWrM (vs:List V)(H:Hp)(Q:VK)(u3_:XK):Prop
 | mk (m:_) (row:_) (kd n c v:Nat) (ws:List Nat) (z0_:vs=[.ref m,.int (c:Int),.int (v:Int)]) (z1_:MdB H m row kd n ws) (z2_:Kd kd n ws) (z3_:c<ksize kd ws) (z4_:∀ H',H' row=some (.lst (vN (kwr kd n ws c v)))→ziF row H H'→Q .non H')
abbrev zbc:Stmt:=top 68
theorem zdi:FnScope ["model","cell","own_word"] ["model","cell","own_word"] (zai zbc):=sck rfl rfl rfl (by decide +kernel)
theorem zdA {f:Addr}{fd:FuncData}(F:Fun K "_law_chip_write" "_law_chip_write" zbc f fd)(T:Blt mg):FnOk P w K mg base CX0 1 f fd ["model","cell","own_word"] spWrM:=by
 refine F.ok zdi (by walk_at "l") (fun cdv A outer s H vs Q E hr h=>?_)
 ·obtain ⟨m,row,kd,n,c,v,ws,rfl,d,kk,hc,k⟩:=h
  refine ⟨_,(zaf (zay (zas zby (pe_x zal (pv 0) zad) zaQ (zat _)) (zaf (zay (zas zby (pv 1) zad (zat _)) (zaf (zau (zf2 PySem.F.plainAttrs_list PySem.F.slot_list_clear PySem.F.type_list_clear zfF (pe_x zal (pv 0) zad)))) (zaf (zay (zas zh8 (zap zar (by rfl) T.len PySem.boot_len (zaa (pe_x zal (pv 0) zad) zae)) (pe_x zal (pv 0) zad) (zat _)) (zaf (zau (zdy PySem.F.plainAttrs_list PySem.F.slot_list_append PySem.F.type_list_append zaN (pe_x zal (pv 0) zad) (zaa (pv 2) zae)))) zan)))) (zaf (zay (zas zeR (pe_x zal (pv 0) zad) zaQ (zat _)) (zaf (zbP (pv 2) (zjh (pe_x zal (pv 0) zad) (pv 1) zfl))) zan)))),?rd⟩
  have h5:=kk.k5
  have kn4:decide (V.str (zbi kd)=V.str "pipe")=decide (kd=4):=zbB (j:=4) h5 (by decide)
  have kn1:decide (V.str (zbi kd)=V.str "fixed")=decide (kd=1):=zbB (j:=1) h5 (by decide)
  have kn1':(!decide (V.str (zbi kd)=V.str "fixed")) = !decide (kd=1):=by rw [kn1]
  unfold kwr at k
  unfold ksize at hc
  refine ⟨_,rfl,m,_,_,_,rfl,rfl,SqL.of d.at_,rfl,rfl,_,rfl,?_⟩
  rw [kn4]
  by_cases e4:kd=4
  ·rw [if_pos e4] at k hc
   rw [Xah e4]
   refine iteT ⟨_,rfl,rfl,_,rfl,?_⟩
   by_cases e1:c=1
   ·subst e1
    rw [if_pos rfl] at k
    refine iteT ⟨_,rfl,m,_,_,_,rfl,rfl,SqL.of d.at_,rfl,.inl ⟨rfl,_,SqL.of d.ls⟩,row,_,rfl,rfl,d.ls,?_⟩
    exact k _ zac fun b o hb z=>by rw [zag hb];exact z
   ·rw [if_neg e1] at k
    rw [Xai (show ¬ V.int (c:Int)=V.int 1 from fun z=>e1 (by have:=V.int.inj z;omega))]
    refine iteF ⟨_,rfl,m,_,_,_,rfl,rfl,SqL.of d.at_,rfl,row,_,rfl,.inl (SqL.of d.ls),_,rfl,m,_,_,_,rfl,rfl,SqL.of d.at_,rfl,_,_,rfl,rfl,_,rfl,?_⟩
    rw [zaq]
    by_cases hl:ws.length<n
    ·rw [if_pos hl] at k
     rw [Xah (show (ws.length:Int)<(n:Int) by omega)]
     refine iteT ⟨_,rfl,m,_,_,_,rfl,rfl,SqL.of d.at_,rfl,.inl ⟨rfl,_,SqL.of d.ls⟩,_,rfl,row,_,_,rfl,rfl,d.ls,?_,?_⟩
     ·rw [zaq];exact XaM kk.ln (by decide)
     rw [← zcb]
     exact k _ zac fun b o hb z=>by rw [zag hb];exact z
    ·rw [if_neg hl] at k
     rw [Xai (show ¬ (ws.length:Int)<(n:Int) by omega)]
     exact iteF (k _ d.ls fun b o hb z=>z)
  ·rw [if_neg e4] at k hc
   rw [Xai e4]
   refine iteF ⟨_,rfl,m,_,_,_,rfl,rfl,SqL.of d.at_,rfl,rfl,_,rfl,?_⟩
   rw [kn1']
   by_cases e1:kd=1
   ·rw [if_pos e1] at k
    rw [Xah e1]
    exact iteF (k _ d.ls fun b o hb z=>z)
   ·rw [if_neg e1] at k
    rw [Xai e1]
    refine iteT ⟨_,rfl,_,rfl,m,_,_,_,rfl,rfl,SqL.of d.at_,rfl,_,rfl,row,_,_,c,rfl,rfl,d.ls,zjE (by rw [zaq];exact hc),?_⟩
    rw [zlc]
    exact k _ zac fun b o hb z=>by rw [zag hb];exact z
abbrev zdl:Stmt:=top 75
theorem sc_law_told:FnScope ["board","own_bits","own_rows","own_chips","own_floating","found","numbers"] ["board","own_bits","own_rows","own_chips","own_floating"] (zai zdl):=sck rfl rfl rfl (by decide +kernel)
inductive spTold31 (C:Addr)(cs:Nat→Addr)(vs:List V)(H:Hp)(Q:VK)(u3_:XK):Prop
 | mk (B:Bd) (D:Dt) (us:Nat→List Nat) (f:Nat) (CL:Addr) (z0_:vs=[.ref B.b,.int (B.bits:Int),.ref B.R,.ref CL,.int (f:Int)]) (z1_:BdAt C B D H f) (z2_:Chs cs D H us) (z3_:H CL=some (.lst (chL D))) (z4_:∀ X,Same H X→Q (.bl true) X)
theorem zg7 {f:Addr}{C:Addr}{cs:Nat→Addr}{fd:FuncData}(F:Fun K "_law_told" "_law_told" zdl f fd)(T:Blt mg)(GBany:mg "any" = none)(M_chips_of:Mth P w K mg base 1 C "chips_of" [] (fun vs _=>vs) (spChipsOf C))(M_rows_of:Mth P w K mg base 1 C "rows_of" [] (fun vs _=>vs) (spRowsOf C))(M_bits_of:Mth P w K mg base 1 C "bits_of" [] (fun vs _=>vs) (spBitsOfB C))(M_floats:Mth P w K mg base 1 C "floats" [] (fun vs _=>vs) (spFloats C))
  (ME:∀ kd,kd<5→Mth P w K mg base 1 (cs kd) "__eq__" [] (fun vs _=>vs) (spCEq cs kd)):FnOk P w K mg base CX0 2 f fd ["board","own_bits","own_rows","own_chips","own_floating"] (spTold31 C cs):=by
 refine F.ok sc_law_told (by walk_at "l") (fun cdv A outer s H vs Q E hr h=>?_)
 ·obtain ⟨B,D,us,f0,CL,rfl,hB,S,eC,k⟩:=h
  refine' ⟨_,(zab (ps_L 5 sc_law_told.nd (zb1 1 ⟨rfl,rfl,rfl,rfl,rfl⟩ (hrm hr) (pv 0)))
   (zab (zay (PW.pt (zbN (zaK (zaG (zap (zbC "list" (K:=K) rfl) (by rfl) T.isinstance zcA (zaa (pv 5) (zaa (zcl rfl T.list zdF zl7) zae))))) (zbN (zas zeR (zap zar (by rfl) T.len PySem.boot_len (zaa (pv 5) zae)) (zap zar (by rfl) T.len PySem.boot_len (zaa (pv 3) zae)) (zat _)) (zbA (zas (op_neS (Xbn (zc7 hr)) (K:=K) rfl) (zb1 1 ⟨rfl,rfl,rfl,rfl,rfl⟩ (hrm hr) (pv 0)) (pv 2) (zat _)))))) (zaf (zam zb3)) zan)
   (zab (zay (PW.pt (zbN (zaK (zaG (zap (zbC "tuple" (K:=K) rfl) (by rfl) T.isinstance zcA (zaa (zb1 1 ⟨rfl,rfl,rfl,rfl,rfl⟩ (hrm hr) (pv 0)) (zaa (zcl rfl T.tuple zb7 zd1) zae))))) (zbA (zaK (zaG (zap (zeM rfl) (by rfl) T.all zkb (zaa ?c2 zae))))))) (zaf (zam zb3)) zan)
   (zab (ps_L 6 sc_law_told.nd (zax (zaa (zb1 1 ⟨rfl,rfl,rfl,rfl,rfl⟩ (hrm hr) (pv 0)) (zaa (zb1 1 ⟨rfl,rfl,rfl,rfl,rfl⟩ (hrm hr) (pv 0)) zae))))
   (zaf (zam (zbQ (zbv (zls (Xbn (zc7 hr)) (K:=K) rfl) (pv 6) (zax (zaa (pv 1) (zaa (pv 4) zae))) (zat _)) (zca (zlp (zap (zj9 rfl) (by rfl) GBany bt_any (zaa ?c1 zae))))))))))),?rd⟩
  (case c1=>exact (zdx (Nc:=["one"]) [none] rfl (zaX (by rfl)) (zcP (pv 6)) (fun _ _ _ _ _=>(pg_L 0 (show (["one"]:List Str).Nodup by decide +kernel))) (fun _ _ _ _ _=>ze0) (fun _ _ _ _ _=>(zap (zbC "bool" (K:=K) rfl) (by rfl) T.isinstance zcA (zaa (pv 0) (zaa (zcl rfl T.bool zka zi3) zae))))))
  (case c2=>exact (zdx (Nc:=["one","other"]) [none,none] rfl (zaX (by rfl)) (zmb rfl T.zip (zaa (pv 5) (zaa (pv 3) zae))) (fun _ _ _ _ _=>(zjg 2 (K:=K) rfl rfl (zao (pg_L 0 (show (["one","other"]:List Str).Nodup by decide +kernel)) (zao (pg_L 1 (show (["one","other"]:List Str).Nodup by decide +kernel)) zaV)))) (fun _ _ _ _ _=>ze0) (fun _ _ _ _ _=>(zbv (zmp 1 ⟨rfl,rfl,rfl,rfl,rfl⟩ (hrm hr)) (pv 0) (pv 1) (zat _)))))
  obtain ⟨db,eb⟩:=hB.e
  refine ⟨_,rfl,B.b,C,db,_,_,_,rfl,eb,M_chips_of,rfl,B,D,_,rfl,hB,fun l hl=>?_⟩
  have sl:=zah (o:=.lst (chL D)) hl
  try dsimp only [za6,List.set]
  replace eC:=sl _ _ eC
  replace hB:=hB.same sl
  replace S:=S.same sl
  replace eb:=sl _ _ eb
  replace k:∀ X,Same (upd H l (.lst (chL D))) X→Q (.bl true) X:=fun X s=>k X (sl.trans s)
  have el:upd H l (.lst (chL D)) l=some (.lst (chL D)):=zac
  have m1:=S.m1
  generalize upd H l (.lst (chL D))=X2 at *
  refine ⟨_,rfl,_,_,_,rfl,.lst el,rfl,true,rfl,iteF ?_⟩
  refine ⟨_,rfl,l,_,rfl,.inl (SqL.of el),_,rfl,CL,_,rfl,.inl (SqL.of eC),rfl,_,rfl,?_⟩
  rw [Xah rfl]
  refine iteF ⟨_,rfl,B.b,C,db,_,_,_,rfl,eb,M_rows_of,rfl,B,D,_,rfl,hB,_,rfl,B.R,_,rfl,rfl,SqT.of hB.rf.e,_,rfl,iteF (zaw ?_)⟩
  try dsimp only
  refine ⟨_,rfl,B.b,C,db,_,_,_,rfl,eb,M_rows_of,rfl,B,D,_,rfl,hB,_,_,_,rfl,.tup hB.rf.e,rfl,true,rfl,iteF ?_⟩
  refine ⟨_,rfl,_,rfl,false,l,CL,_,_,rfl,el,eC,?_⟩
  refine zj1 (xs:=chL D) (ys:=chL D) (fun j rs σ H1=>∃ v1 v2,σ=[v1,v2]∧rs=List.replicate j (V.bl true)∧Same X2 H1) rfl (by rw [zcW,sizeLine_eq];omega) ⟨none,none,rfl,rfl,fun _ _ z=>z⟩ ?_ ?_ ?_
  ·rintro j rs σ H1 hj ⟨v1,v2,rfl,rfl,s1⟩
   exact ⟨s1 _ _ el,s1 _ _ eC,by rw [Xbj];exact Xae _⟩
  ·rintro j x y U rs σ H1 ex ey hU ⟨v1,v2,rfl,rfl,s1⟩
   refine ze6 ?_
   have s2:=s1.trans (zah (o:=.tup [x,y]) hU)
   have hj:j<D.m:=by rw [← zcW D];exact (Xag.mp ex).1
   rw [zeL hj] at ex ey
   cases ex
   cases ey
   have o:=(S.o j hj).same s2
   have k5:=(S.k j hj).k5
   obtain ⟨dx,exx⟩:=o.ex
   refine ⟨_,rfl,_,rfl,D.x j,D.x j,cs (D.kd j),cs (D.kd j),dx,_,dx,_,_,_,rfl,rfl,exx,exx,(by simp [W.notFirst]),ME _ k5,(fun h=>nomatch h),D.x j,D.x j,D.p j,D.p j,D.kd j,D.n j,D.n j,us j,us j,k5,rfl,o,o,_,rfl,?_⟩
   rw [Xah rfl,Xah rfl]
   exact ⟨_,_,rfl,List.replicate_succ'.symm,s2⟩
  ·rintro rs σ H1 ⟨v1,v2,rfl,rfl,s1⟩ D' hD
   refine ⟨D',List.replicate (chL D).length true,rfl,SqL.of (by rw [XbR];exact zac),?_⟩
   rw [show (List.replicate (chL D).length true).all id=true by simp]
   have s3:=s1.trans (zah (o:=.lst (List.replicate (chL D).length (V.bl true))) hD)
   generalize upd H1 D' (.lst (List.replicate (chL D).length (V.bl true)))=X3 at *
   refine ⟨true,rfl,iteF (zaw ?_)⟩
   try dsimp only
   have hB3:=hB.same s3
   obtain ⟨db3,eb3⟩:=hB3.e
   refine ⟨_,rfl,B.b,C,db3,_,_,_,rfl,eb3,M_bits_of,rfl,B,D,_,rfl,hB3,_,rfl,B.b,C,db3,_,_,_,rfl,eb3,M_floats,rfl,B,D,_,rfl,hB3,by show 2≤sizeLine;decide,fun q hq=>?_⟩
   have s4:=s3.trans (zah (o:=.lst [V.int (B.bits:Int),V.int (f0:Int)]) hq)
   have eq:upd X3 q (.lst [V.int (B.bits:Int),V.int (f0:Int)]) q=some (.lst [V.int (B.bits:Int),V.int (f0:Int)]):=zac
   generalize upd X3 q (.lst [V.int (B.bits:Int),V.int (f0:Int)])=X4 at *
   try dsimp only [za6,List.set]
   refine ⟨_,rfl,_,rfl,_,rfl,by show 2≤sizeLine;decide,fun u hu=>?_⟩
   have s5:=zah (o:=.lst [V.int (B.bits:Int),V.int (f0:Int)]) hu
   refine ⟨q,u,[(B.bits:Int),(f0:Int)],[(B.bits:Int),(f0:Int)],rfl,rfl,SqL.of (s5 _ _ eq),SqL.of zac,?_⟩
   replace k:∀ X,Same (upd X4 u (.lst [V.int (B.bits:Int),V.int (f0:Int)])) X→Q (.bl true) X:=fun X s=>k X ((s4.trans s5).trans s)
   replace eq:=s5 _ _ eq
   generalize upd X4 u (.lst [V.int (B.bits:Int),V.int (f0:Int)])=X5 at *
   rw [Xah rfl]
   refine ⟨true,rfl,iteT ?_⟩
   refine ⟨_,rfl,q,rfl,⟨_,SqL.of eq⟩,?_⟩
   refine zeK (K:=K) (xs:=[V.int (B.bits:Int),V.int (f0:Int)]) (fun j ys σ U=>∃ v0,σ=[v0]∧ys=List.replicate j (V.bl false)∧Same X5 U) (by show 2≤sizeLine;decide) ⟨none,rfl,rfl,Same.refl _⟩ ?_ ?_ ?_
   ·rintro j ys σ U _ ⟨_,rfl,rfl,sU⟩
    exact ⟨SqL.of (sU _ _ eq),by rw [Xbj];exact Xae _⟩
   ·rintro j x ys σ U hx ⟨v0,rfl,rfl,sU⟩
    have hi:∃ i:Int,x = .int i:=by
     rcases j with _ | _ | j
     ·exact ⟨_,(Option.some.inj hx).symm⟩
     ·exact ⟨_,(Option.some.inj hx).symm⟩
     ·cases hx
    obtain ⟨i,rfl⟩:=hi
    exact ⟨_,rfl,_,_,_,rfl,.int _,rfl,_,rfl,List.replicate_succ'.symm,sU⟩
   ·rintro ys σ U ⟨v0,rfl,rfl,sU⟩ Dc hDc
    refine ⟨Dc,List.replicate 2 false,rfl,SqL.of (by rw [XbR];exact zac),?_⟩
    exact ⟨false,rfl,k _ (sU.trans (zah hDc))⟩
abbrev zbl:Stmt:=top 76
theorem sc_law_very_ones:FnScope ["board","own_chips","models","found","k"] ["board","own_chips","models"] (zai zbl):=sck rfl rfl rfl (by decide +kernel)
theorem md_rw {D:Dt}{md rw:Nat→Addr}{Y:Hp}{us:Nat→List Nat}(M:Mod D md rw Y us){i j:Nat}(hi:i<D.m)(hj:j<D.m):md i≠rw j:=fun z=>by
 have l:=(M.o i hi).at_
 rw [z,(M.o j hj).ls] at l
 exact zfe (HO.lst.inj (Option.some.inj l))
theorem Mod.put {D:Dt}{md rw:Nat→Addr}{i:Nat}{Y Z:Hp}{us:Nat→List Nat}{vs:List Nat}(M:Mod D md rw Y us)(hi:i<D.m)(kv:Kd (D.kd i) (D.n i) vs)(hz:ksize (D.kd i) vs=ksize (D.kd i) (us i))(e:Z (rw i)=some (.lst (vN vs)))(k:ziF (rw i) Y Z):Mod D md rw Z (wset us i vs):=by
 refine ⟨fun j h=>⟨k _ _ (md_rw M h hi) (M.o j h).at_,?_⟩,fun j h=>?_,fun j h=>?_,fun j h=>?_,M.inj⟩
 ·unfold wset
  by_cases ej:j=i
  ·subst ej;rw [if_pos rfl];exact e
  ·rw [if_neg ej];exact k _ _ (fun z=>ej (M.inj j i h hi z)) (M.o j h).ls
 all_goals
  unfold wset
  by_cases ej:j=i
  ·subst ej
   rw [if_pos rfl]
   first | exact kv | exact k1_of (M.h1 j h) hz | exact hz.trans (M.z j h)
  ·rw [if_neg ej]
   first | exact M.k j h | exact M.h1 j h | exact M.z j h
structure Ty31 (C CW:Addr)(cs:Nat→Addr)(D:Dt)(md rw:Nat→Addr)(CL ML:Addr)(B:Bd)(f:Nat)(X:Hp)(us:Nat→List Nat):Prop where
 b:BW C CW B D X f []
 S:Chs cs D X us
 M:Mod D md rw X us
 eC:X CL=some (.lst (chL D))
 eM:X ML=some (.lst (mdL D md))
 np:∀ i j,i<D.m→j<D.m→rw i≠D.p j
 rk:∀ i,i<D.m→rw i≠ML∧rw i≠CL∧rw i≠B.L∧rw i≠B.la
 pk:∀ i,i<D.m→D.p i≠ML∧D.p i≠CL
section
variable {C CW CL ML:Addr}{cs:Nat→Addr}{X Z:Hp}{B:Bd}{D:Dt}{md rw:Nat→Addr}{us:Nat→List Nat}{f:Nat}
theorem Ty31.same (t:Ty31 C CW cs D md rw CL ML B f X us)(s:Same X Z):Ty31 C CW cs D md rw CL ML B f Z us:=⟨t.b.same s,t.S.same s,t.M.same s,s _ _ t.eC,s _ _ t.eM,t.np,t.rk,t.pk⟩
theorem Ty31.both (t:Ty31 C CW cs D md rw CL ML B f X us){kk:Nat}{vs:List Nat}{Z1:Hp}(hk:kk<D.m)(kv:Kd (D.kd kk) (D.n kk) vs)(hz:ksize (D.kd kk) vs=ksize (D.kd kk) (us kk))
  (e1:Z1 (D.p kk)=some (.lst (vN vs))) (k1:∀ a,a≠D.p kk→Z1 a=X a) (e2:Z (rw kk)=some (.lst (vN vs))) (k2:ziF (rw kk) Z1 Z):Ty31 C CW cs D md rw CL ML B f Z (wset us kk vs):=by
 have b1:=t.b.put hk (t.S.o kk hk).ls k1
 have S1:=t.S.put hk kv hz e1 k1
 have mp:∀ i,i<D.m→md i≠D.p kk:=fun i hi q=>by
  have l:=(t.M.o i hi).at_
  rw [q,(t.S.o kk hk).ls] at l
  exact zfe (HO.lst.inj (Option.some.inj l))
 have M1:Mod D md rw Z1 us:=⟨fun i hi=>⟨by rw [k1 _ (mp i hi)];exact (t.M.o i hi).at_,by rw [k1 _ (t.np i kk hi hk)];exact (t.M.o i hi).ls⟩,t.M.k,t.M.h1,t.M.z,t.M.inj⟩
 have er:Z1 (rw kk)=some (.lst (vN (us kk))):=(M1.o kk hk).ls
 have no:∀ a o,(∀ l,o≠.lst l)→Z1 a=some o→Z a=some o:=fun a o ho e=>k2 _ _ (fun q=>by rw [q,er] at e;exact ho _ (Option.some.inj e).symm) e
 refine ⟨⟨b1.b.lists no (k2 _ _ (Ne.symm (t.rk kk hk).2.2.1) b1.b.ch) (k2 _ _ (Ne.symm (t.rk kk hk).2.2.2) b1.b.la),b1.w.keep (fun a o ho e=>no a o ho.1 e) (fun z hz=>by cases hz),fun z hz=>by cases hz⟩,⟨fun i hi=>?_,S1.k,S1.h1,S1.z,S1.inj,S1.m1⟩,M1.put hk kv hz e2 k2,k2 _ _ (Ne.symm (t.rk kk hk).2.1) ?_,k2 _ _ (Ne.symm (t.rk kk hk).1) ?_,t.np,t.rk,t.pk⟩
 ·obtain ⟨dx,ex⟩:=(S1.o i hi).ex
  exact ⟨⟨dx,no _ _ (fun l q=>by cases q) ex⟩,k2 _ _ (Ne.symm (t.np kk i hk hi)) (S1.o i hi).ls⟩
 ·rw [k1 _ (Ne.symm (t.pk kk hk).2)];exact t.eC
 ·rw [k1 _ (Ne.symm (t.pk kk hk).1)];exact t.eM
end
inductive spVery31 (C CW:Addr)(cs:Nat→Addr)(vs:List V)(H:Hp)(Q:VK)(u3_:XK):Prop
 | mk (B:Bd) (D:Dt) (md rw:Nat→Addr) (us:Nat→List Nat) (f:Nat) (CL ML:Addr) (z0_:vs=[.ref B.b,.ref CL,.ref ML]) (z1_:Ty31 C CW cs D md rw CL ML B f H us) (z2_:D.m≤9) (z3_:∀ X us',BW C CW B D X f []→Chs cs D X us'→(∀ a o,(∀ i,i<D.m→a≠D.p i∧a≠rw i)→H a=some o→X a=some o)→Q (.bl true) X)
set_option tactic.hygienic true in
theorem zdS {f:Addr}{C CW:Addr}{cs:Nat→Addr}{fd:FuncData}(F:Fun K "_law_very_ones" "_law_very_ones" zbl f fd)(T:Blt mg)(M_chips_of:Mth P w K mg base 1 C "chips_of" [] (fun vs _=>vs) (spChipsOf C))(MW:∀ kd,kd<5→Mth P w K mg base 5 (cs kd) "write" [] (fun vs _=>vs) (spW25 cs kd))(G_law_chip_write:Cal P w K mg base 1 "_law_chip_write" ["model","cell","own_word"] spWrM)(MS:∀ kd,kd<5→Mth P w K mg base 1 (cs kd) "state" [] (fun vs _=>vs) (spState (cs kd))):FnOk P w K mg base CX0 6 f fd ["board","own_chips","models"] (spVery31 C CW cs):=by
 refine F.ok sc_law_very_ones (by walk_at "l") (fun cdv A outer s H vs Q E hr h=>?_)
 ·obtain ⟨B,D,md,rw_,us,f0,CL,ML,rfl,t,m9,k⟩:=h
  refine ⟨_,(zab (ps_L 3 sc_law_very_ones.nd (zb1 1 ⟨rfl,rfl,rfl,rfl,rfl⟩ (hrm hr) (pv 0)))
   (zab (zbO PassesOwn.never rfl (zck rfl T.range (zaa (zap zar (by rfl) T.len PySem.boot_len (zaa (pv 1) zae)) zae)) (pg_L 4 sc_law_very_ones.nd)
   (zab (zau (zaL 5 ⟨rfl,rfl,rfl,rfl,rfl⟩ (hrm hr) (pe_x zal (pv 3) (pv 4)) (zaa zad (zaa (zak zaR zad (pv 4)) zae))))
   (zab (zau (pe_c G_law_chip_write (zaa (pe_x zal (pv 2) (pv 4)) (zaa zad (zaa (zak zaR zad (pv 4)) zae)))))
   (zaf (zay (zas (op_neL (Xbn (zc7 hr)) (K:=K) rfl) (za4 zbb (by rfl) T.list zdF (zaa (zb1 1 ⟨rfl,rfl,rfl,rfl,rfl⟩ (hrm hr) (pe_x zal (pv 1) (pv 4))) zae)) (pe_x zal (pe_x zal (pv 2) (pv 4)) zad) (zat _)) (zaf (zam zb3)) zan)))))
   (zaf (zam zb3)))),?rd⟩
  obtain ⟨db,eb⟩:=t.b.b.e
  refine ⟨_,rfl,B.b,C,db,_,_,_,rfl,eb,M_chips_of,rfl,B,D,_,rfl,t.b.b,fun l hl=>?_⟩
  have sl:=zah (o:=.lst (chL D)) hl
  try dsimp only [za6,List.set]
  have tl:=t.same sl
  have el:upd H l (.lst (chL D)) l=some (.lst (chL D)):=zac
  have nl:∀ i,i<D.m→l≠D.p i∧l≠rw_ i:=fun i hi=>⟨Ne.symm (zaj (t.S.o i hi).ls hl),Ne.symm (zaj (t.M.o i hi).ls hl)⟩
  generalize upd H l (.lst (chL D))=X2 at *
  refine ⟨_,rfl,CL,_,rfl,.inl (SqL.of tl.eC),_,rfl,by omega,by rw [zcW];omega,?_⟩
  rw [Xap,zcW]
  refine zeJ (n:=D.m) (fun i σ X=>∃ (v4:Option V) (us':Nat→List Nat),σ=[some (.ref B.b),some (.ref CL),some (.ref ML),some (.ref l),v4]∧Ty31 C CW cs D md rw_ CL ML B f0 X us'∧(∀ a o,(∀ i,i<D.m→a≠D.p i∧a≠rw_ i)→X2 a=some o→X a=some o)) ⟨_,_,rfl,tl,fun _ _ _ e=>e⟩ ?_ ?_
  ·rintro i σ X hi ⟨v4,us',rfl,tx,fr⟩
   have elx:=fr _ _ nl el
   obtain ⟨dx,ex⟩:=(tx.S.o i hi).ex
   have kc:=tx.S.k i hi
   rw [show (0:Int)+(i:Int)=(i:Int) by omega]
   have e77:(77:Int)+(i:Int)=((77+i:Nat):Int):=by omega
   have h0:0<ksize (D.kd i) (us' i):=by
    unfold ksize
    split
    ·decide
    ·rename_i z;exact kc.l1 z
   have hv:77+i≤255:=by omega
   refine ⟨_,rfl,_,rfl,l,_,_,_,rfl,rfl,SqL.of elx,zaP (zeL hi),D.x i,cs (D.kd i),dx,_,_,_,rfl,ex,MW _ kc.k5,lkn _,_,rfl,_,_,rfl,rfl,D.x i,D.p i,D.n i,0,77+i,us' i,congrArg (fun z=>[V.ref (D.x i),V.int 0,V.int z]) e77,tx.S.o i hi,kc,h0,hv,fun W2 e2 k2=>?_⟩
   refine ⟨_,rfl,_,rfl,ML,_,_,_,rfl,rfl,SqL.of ?_,zaP (zlv hi),_,rfl,_,_,rfl,rfl,md i,rw_ i,D.kd i,D.n i,0,77+i,us' i,congrArg (fun z=>[V.ref (md i),V.int 0,V.int z]) e77,?_,kc,h0,fun W3 e3 k3=>?_⟩
   ·rw [k2 _ (Ne.symm (tx.pk i hi).1)];exact tx.eM
   ·refine ⟨?_,by rw [k2 _ (tx.np i i hi hi)];exact (tx.M.o i hi).ls⟩
    rw [k2 _ fun q=>?_]
    ·exact (tx.M.o i hi).at_
    ·have l:=(tx.M.o i hi).at_
     rw [q,(tx.S.o i hi).ls] at l
     exact zfe (HO.lst.inj (Option.some.inj l))
   have t3:=tx.both hi (kc.wr hv) (kz_wr _ _ _) e2 k2 e3 k3
   have fr3:∀ a o,(∀ i,i<D.m→a≠D.p i∧a≠rw_ i)→X2 a=some o→W3 a=some o:=fun a o h e=>k3 _ _ (h i hi).2 (by rw [k2 _ (h i hi).1];exact fr a o h e)
   have ew:wset us' i (kwr (D.kd i) (D.n i) (us' i) 0 (77+i)) i=kwr (D.kd i) (D.n i) (us' i) 0 (77+i):=by unfold wset;rw [if_pos rfl]
   generalize kwr (D.kd i) (D.n i) (us' i) 0 (77+i)=vs at *
   generalize wset us' i vs=uz at *
   obtain ⟨d3,ex3⟩:=(t3.S.o i hi).ex
   have k3':=t3.S.k i hi
   try dsimp only
   refine ⟨_,rfl,_,rfl,CL,_,_,_,rfl,rfl,SqL.of t3.eC,zaP (zeL hi),D.x i,cs (D.kd i),d3,_,_,_,rfl,ex3,MS _ k3'.k5,lkn _,_,_,_,_,rfl,(t3.S.o i hi).ob,fun q hq=>?_⟩
   have sq:=zah (o:=.tup (vN (uz i))) hq
   refine ⟨q,vN (uz i),rfl,.inr (SqT.of zac),fun l2 hl2=>?_⟩
   have sl2:=sq.trans (zah (o:=.lst (vN (uz i))) hl2)
   have t4:=t3.same sl2
   refine ⟨_,rfl,_,rfl,ML,_,_,_,rfl,rfl,SqL.of t4.eM,zaP (zlv hi),md i,_,_,_,rfl,rfl,SqL.of (t4.M.o i hi).at_,rfl,?_⟩
   refine ⟨l2,rw_ i,(uz i).map (fun (b:Nat)=>(b:Int)),(uz i).map (fun (b:Nat)=>(b:Int)),rfl,rfl,zlR (SqL.of zac),zlR (SqL.of (t4.M.o i hi).ls),_,rfl,?_⟩
   rw [Xah rfl]
   exact iteF (zaw ⟨_,_,rfl,t4,fun a o h e=>sl2 _ _ (fr3 a o h e)⟩)
  ·rintro σ X ⟨v4,us',rfl,tx,fr⟩
   exact k X us' tx.b tx.S fun a o h e=>fr a o h (sl _ _ e)
abbrev zbF:Stmt:=top 77
theorem sc_law_by_names:FnScope ["board","own_bits","own_floating","place","ear","other","told"] ["board","own_bits","own_floating"] (zai zbF):=sck rfl rfl rfl (by decide +kernel)
def w31 (n:Nat)(x1 h1 x2 h2:Addr)(hs gs:List (Str×Nat×Nat)):List (Nat×Wa):=[(n,⟨x1,h1,0,0,"both",hs⟩),(n+1,⟨x2,h2,0,0,"write",gs⟩)]
section
variable {n a v:Nat}{x1 h1 x2 h2:Addr}{hs gs:List (Str×Nat×Nat)}
theorem w31_r:wsH "read" a v (w31 n x1 h1 x2 h2 hs gs)=w31 n x1 h1 x2 h2 (hs ++ [(("read" : Str),a,v)]) gs:=by
 have o1:(Wa.mk x1 h1 0 0 "both" hs).on "read" a=true:=by unfold Wa.on;rw [Nat.and_zero];rfl
 have o2:(Wa.mk x2 h2 0 0 "write" gs).on "read" a=false:=by unfold Wa.on;rw [Nat.and_zero];rfl
 unfold wsH w31 Wa.hear
 rw [Xaz,Xaz,List.map_nil,o1,o2]
 rfl
theorem w31_w:wsH "write" a v (w31 n x1 h1 x2 h2 hs gs)=w31 n x1 h1 x2 h2 (hs ++ [(("write" : Str),a,v)]) (gs ++ [(("write" : Str),a,v)]):=by
 have o1:(Wa.mk x1 h1 0 0 "both" hs).on "write" a=true:=by unfold Wa.on;rw [Nat.and_zero];rfl
 have o2:(Wa.mk x2 h2 0 0 "write" gs).on "write" a=true:=by unfold Wa.on;rw [Nat.and_zero];rfl
 unfold wsH w31 Wa.hear
 rw [Xaz,Xaz,List.map_nil,o1,o2]
 rfl
theorem zkm (l1:hs.length<1000000)(l2:gs.length<1000000):∀ z∈w31 n x1 h1 x2 h2 hs gs,z.2.hs.length<1000000:=fun z hz=>by
 rcases Xao.mp hz with rfl | hz
 ·exact l1
 ·rw [Xad.mp hz];exact l2
theorem wno1:WNo (w31 n x1 h1 x2 h2 hs gs) n (n,⟨x1,h1,0,0,"both",hs⟩):=by
 refine ⟨?_,XaB⟩
 unfold valV w31
 rw [Xaz,List.find?_cons_of_pos (by exact Xah rfl)]
 rfl
theorem wno2 (ne:x2≠x1)(h:Addr):WNo (wsN x1 h (w31 n x1 h1 x2 h2 hs gs)) (n+1) (n+1,⟨x2,h2,0,0,"write",gs⟩):=by
 have e:wsN x1 h (w31 n x1 h1 x2 h2 hs gs)=w31 n x1 h x2 h2 [] gs:=by
  unfold wsN w31
  rw [Xaz,Xaz,List.map_nil,if_pos rfl,if_neg ne]
 rw [e]
 refine ⟨?_,Xax _ XaB⟩
 unfold valV w31
 rw [Xaz,List.find?_cons_of_neg (by intro z;have:=Sum.inl.inj (Xa2 z);omega),Xaz,List.find?_cons_of_pos (by exact Xah rfl)]
 rfl
end
theorem Chs.wt {C CW:Addr}{cs:Nat→Addr}{B:Bd}{D:Dt}{X Z:Hp}{us:Nat→List Nat}{f:Nat}{wl:List (Nat×Wa)}(S:Chs cs D X us)(h:BW C CW B D X f wl)(fr:∀ a o,a≠B.b→a≠B.W→X a=some o→Z a=some o):Chs cs D Z us:=by
 refine ⟨fun i hi=>?_,S.k,S.h1,S.z,S.inj,S.m1⟩
 obtain ⟨dx,ex⟩:=(S.o i hi).ex
 obtain ⟨db,e⟩:=h.b.e
 exact ⟨⟨dx,fr _ _ (zke S h.b i hi) (fun q=>by rw [q,h.w.d] at ex;cases ex) ex⟩,fr _ _ (fun z=>by have:=(S.o i hi).ls;rw [z,e] at this;cases this) (fun z=>by have:=(S.o i hi).ls;rw [z,h.w.d] at this;cases this) (S.o i hi).ls⟩
inductive spNames31 (C CW:Addr)(cs:Nat→Addr)(vs:List V)(H:Hp)(Q:VK)(u3_:XK):Prop
 | mk (B:Bd) (D:Dt) (us:Nat→List Nat) (f:Nat) (z0_:vs=[.ref B.b,.int (B.bits:Int),.int (f:Int)]) (z1_:BW C CW B D H f []) (z2_:Chs cs D H us) (z3_:∀ X,(∀ a o,a≠B.b→a≠B.W→(∀ i,i<D.m→a≠D.p i)→H a=some o→X a=some o)→Q (.bl true) X)
theorem zeu {f:Addr}{C CA CT CW:Addr}{cs:Nat→Addr}{fd:FuncData}(F:Fun K "_law_by_names" "_law_by_names" zbF f fd)(T:Blt mg)(M_watch_2:Mth P w K mg base 4 C "watch" ["want","mask"] (kpm 1 2 [1,0,2] [.str "both"]) (spWatchC C CW))(M_watch_3:Mth P w K mg base 4 C "watch" ["want","kind","mask"] (kpm 1 3 [2,0,1] []) (spWatchC C CW))(M_read_qa:Mth P w K mg base 7 C "read" ["quiet","address"] (kpm 1 2 [1,0] []) (fun vs H Q _=>spRdX C CT CW cs vs H Q fun _ _ _=>False))(M_read_aq:Mth P w K mg base 7 C "read" ["address","quiet"] (kpm 1 2 [0,1] []) (fun vs H Q _=>spRdX C CT CW cs vs H Q fun _ _ _=>False))(M_read_a:Mth P w K mg base 7 C "read" ["address"] (kpm 1 1 [0,1] [.bl false]) (fun vs H Q _=>spRdX C CT CW cs vs H Q fun _ _ _=>False))(M_who_a:Mth P w K mg base 6 C "who" ["address"] (kpm 1 1 [0] []) (fun vs H Q _=>spWhoX C CA cs vs H Q fun _ _ _=>False))(M_who:Mth P w K mg base 6 C "who" [] (fun vs _=>vs) (fun vs H Q _=>spWhoX C CA cs vs H Q fun _ _ _=>False))
  (M_write_wa:Mth P w K mg base 7 C "write" ["word","address"] (kpm 1 2 [1,0] []) (spWrB C CW cs)) (M_floats:Mth P w K mg base 1 C "floats" [] (fun vs _=>vs) (spFloats C)) (M_news:Mth P w K mg base 2 C "news" [] (fun vs _=>vs) (spNews C CW)):FnOk P w K mg base CX0 8 f fd ["board","own_bits","own_floating"] (spNames31 C CW cs):=by
 refine F.ok sc_law_by_names (by walk_at "l") (fun cdv A outer s H vs Q E hr h=>?_)
 ·obtain ⟨B,D,us,f0,rfl,hW,S,k⟩:=h
  refine ⟨_,(zab (ps_L 3 sc_law_by_names.nd (zak zbR (zak zdI zad (pv 1)) zad))
   (zab (ps_L 4 sc_law_by_names.nd (zcQ 4 ⟨rfl,rfl,rfl,rfl,rfl⟩ (hrm hr) (pv 0) (zaO zad (zaO zad zc2))))
   (zab (ps_L 5 sc_law_by_names.nd (zcQ 4 ⟨rfl,rfl,rfl,rfl,rfl⟩ (hrm hr) (pv 0) (zaO zad (zaO zaQ (zaO zad zc2)))))
   (zab (ps_L 6 sc_law_by_names.nd (zcQ 7 ⟨rfl,rfl,rfl,rfl,rfl⟩ (hrm hr) (pv 0) (zaO zb3 (zaO (pv 3) zc2))))
   (zab (zay (PW.pt (zbN (zas zeR (zcQ 7 ⟨rfl,rfl,rfl,rfl,rfl⟩ (hrm hr) (pv 0) (zaO (pv 3) (zaO zb3 zc2))) (pv 6) (zat _)) (zbA (zas zf5 (zcQ 7 ⟨rfl,rfl,rfl,rfl,rfl⟩ (hrm hr) (pv 0) (zaO (pv 3) zc2)) zad (zat _))))) (zaf (zam zb3)) zan)
   (zab (zay (zas (zmn (hu9_of hr) (K:=K) rfl) (zcQ 6 ⟨rfl,rfl,rfl,rfl,rfl⟩ (hrm hr) (pv 0) (zaO (pv 3) zc2)) (zaL 6 ⟨rfl,rfl,rfl,rfl,rfl⟩ (hrm hr) (pv 0) (zaa (pv 3) zae)) (zat _)) (zaf (zam zb3)) zan)
   (zab (zay (PW.pt (zbN (zb9 (zcR (zcQ 7 ⟨rfl,rfl,rfl,rfl,rfl⟩ (hrm hr) (pv 0) (zaO zad (zaO (pv 3) zc2))))) (zbN (zas zeR (zb1 1 ⟨rfl,rfl,rfl,rfl,rfl⟩ (hrm hr) (pv 0)) zad (zat _)) (zbA (zas zeR (zap zar (by rfl) T.len PySem.boot_len (zaa (zaL 2 ⟨rfl,rfl,rfl,rfl,rfl⟩ (hrm hr) (pv 0) (zaa (pv 4) zae)) zae)) zad (zat _)))))) (zaf (zam zb3)) zan)
   (zaf (zam (zbv (zmq (zc7 hr) (K:=K) rfl) (zaL 2 ⟨rfl,rfl,rfl,rfl,rfl⟩ (hrm hr) (pv 0) (zaa (pv 5) zae)) (zax (zaa (za7 (zaa zaQ (zaa (pv 3) (zaa zad zae)))) zae)) (zat _))))))))))),?rd⟩
  obtain ⟨db,eb⟩:=hW.b.e
  have m2:=hW.b.b2
  have p1:=Xbw B.bits
  have ep:(1:Int) * 2 ^ ((B.bits:Nat):Int).toNat - 1=((2 ^ B.bits - 1:Nat):Int):=by
   rw [Int.one_mul,Xap,Int.ofNat_sub p1]
   norm_cast
  refine ⟨_,rfl,_,_,rfl,rfl,⟨by omega,by omega,by decide⟩,_,_,rfl,rfl,?_⟩
  rw [ep]
  have hpl:2 ^ B.bits - 1<2 ^ B.bits:=by omega
  generalize 2 ^ B.bits - 1=pl at hpl
  have pin:∀ {Y:Hp} {u:Nat→List Nat},Chs cs D Y u→∀ i,i<D.m→Y (D.p i)≠none:=fun S i hi z=>by rw [(S.o i hi).ls] at z;cases z
  have hb16:2 ^ B.bits≤65536:=Xar (XaQ (by decide) m2) (by decide)
  have h100:(2:Nat) ^ 100=1267650600228229401496703205376:=by decide
  have hx100:(pl:Int).natAbs<2 ^ 100:=by rw [Int.natAbs_natCast,h100];omega
  try dsimp only [za6,List.set]
  refine ⟨_,rfl,B.b,C,db,_,_,_,rfl,eb,M_watch_2,rfl,B,D,f0,0,0,"both",[],rfl,hW,p1,p1,.inr (.inr rfl),(fun z hz=>by cases hz),by decide,pin S,fun x1 h1 X1 hx1 hh1 b1 fr1=>?_⟩
  have S1:=S.wt hW fr1
  obtain ⟨d1,e1⟩:=b1.b.e
  try dsimp only [za6,List.set]
  refine ⟨_,rfl,B.b,C,d1,_,_,_,rfl,e1,M_watch_3,rfl,B.next,D,f0,0,0,"write",_,rfl,b1,p1,p1,.inr (.inl rfl),(fun z hz=>by rw [Xad.mp hz];exact XaZ _),by show 1<900;decide,pin S1,fun x2 h2 X2 hx2 hh2 b2 fr2=>?_⟩
  have S2:=S1.wt b1 fr2
  have fr:∀ a o,a≠B.b→a≠B.W→(∀ i,i<D.m→a≠D.p i)→H a=some o→X2 a=some o:=fun a o h1 h2 _ e=>fr2 _ _ h1 h2 (fr1 _ _ h1 h2 e)
  have f1:H h1=none∧H x1=none:=⟨hh1,hx1⟩
  have f2:∀ a o,a≠B.b→a≠B.W→H a=some o→a≠h2∧a≠x2:=fun a o g1 g2 e=>⟨zaj (fr1 _ _ g1 g2 e) hh2,zaj (fr1 _ _ g1 g2 e) hx2⟩
  have nx:x2≠x1:=fun z=>by
   have hd:=b2.w.x
   have hd':[x1,x2].Nodup:=hd
   rw [z] at hd'
   exact absurd hd' (by simp)
  replace b2:BW C CW B.next.next D X2 f0 (w31 B.nw x1 h1 x2 h2 [] []):=b2
  obtain ⟨d2,e2⟩:=b2.b.e
  have l0:∀ {hs:List (Str×Nat×Nat)},hs.length<4→hs.length<1000000:=fun h=>Xak h (by decide)
  clear fr1 fr2 e1 d1 b1 hx2 hh2 hx1 hh1 eb S1 db
  try dsimp only [za6,List.set]
  refine ⟨_,rfl,B.b,C,d2,_,_,_,rfl,e2,M_read_qa,rfl,_,rfl,B.next.next,D,us,f0,(pl:Int),true,w31 B.nw x1 h1 x2 h2 [] [],rfl,b2,zkm (l0 (by decide)) (l0 (by decide)),S2,hx100,.inl ⟨pl,rfl,hpl,fun _ X3 s3=>?_,(fun h=>nomatch h)⟩⟩
  have b3:=b2.same s3
  have S3:=S2.same s3
  have fr3:∀ a o,a≠B.b→a≠B.W→(∀ i,i<D.m→a≠D.p i)→H a=some o→X3 a=some o:=fun a o g1 g2 g3 e=>s3 _ _ (fr a o g1 g2 g3 e)
  obtain ⟨d3,e3⟩:=b3.b.e
  clear fr S2 e2 b2
  try dsimp only [za6,List.set]
  refine ⟨_,rfl,B.b,C,d3,_,_,_,rfl,e3,M_read_aq,rfl,_,rfl,B.next.next,D,us,f0,(pl:Int),false,w31 B.nw x1 h1 x2 h2 [] [],rfl,b3,zkm (l0 (by decide)) (l0 (by decide)),S3,hx100,.inl ⟨pl,rfl,hpl,(fun h=>nomatch h),fun _ X4 b4 S4 fw4=>?_⟩⟩
  rw [w31_r] at b4
  have frW:∀ {Y Z:Hp} {hs gs:List (Str×Nat×Nat)},FrW B.next.next.b (w31 B.nw x1 h1 x2 h2 hs gs) D Y Z→(∀ a o,a≠B.b→a≠B.W→(∀ i,i<D.m→a≠D.p i)→H a=some o→Y a=some o)→∀ a o,a≠B.b→a≠B.W→(∀ i,i<D.m→a≠D.p i)→H a=some o→Z a=some o:=fun fw fr a o g1 g2 g3 e=>fw _ _ g1 (fun z hz=>by
   rcases Xao.mp hz with rfl | hz
   ·exact zaj e f1.1
   ·rw [Xad.mp hz];exact (f2 _ _ g1 g2 e).1) g3 (fr a o g1 g2 g3 e)
  have fr4:=frW fw4 fr3
  obtain ⟨d4,e4⟩:=b4.b.e
  refine ⟨_,rfl,rfl,_,rfl,?_⟩
  rw [Xah rfl]
  refine iteF ?_
  generalize rdW B.next.next D us f0 pl=g at *
  generalize rdU B.next.next D us pl=u4 at *
  clear fw4 S3 b3 e3 fr3
  refine ⟨_,rfl,B.b,C,d4,_,_,_,rfl,e4,M_read_a,rfl,_,rfl,B.next.next,D,u4,g,(pl:Int),false,w31 B.nw x1 h1 x2 h2 _ _,rfl,b4,zkm (l0 (by show 1<4;decide)) (l0 (by decide)),S4,hx100,.inl ⟨pl,rfl,hpl,(fun h=>nomatch h),fun _ X5 b5 S5 fw5=>?_⟩⟩
  rw [w31_r] at b5
  have fr5:=frW fw5 fr4
  obtain ⟨d5,e5⟩:=b5.b.e
  generalize rdW B.next.next D u4 g pl=g5 at *
  generalize rdU B.next.next D u4 pl=u5 at *
  clear fw5 S4 b4 e4 fr4
  refine ⟨_,_,rfl,rfl,_,rfl,?_⟩
  have hg5:=b5.b.f0
  rw [Xai (show ¬ (255:Int)<(g5:Int) by omega)]
  refine iteF (zaw ?_)
  try dsimp only
  refine za2 (fun σ Y=>σ=[some (.ref B.b),some (.int (B.bits:Int)),some (.int (f0:Int)),some (.int (pl:Int)),some (.int (B.nw:Int)),some (.int (B.next.nw:Int)),some (.int (g:Int))]∧Same X5 Y) (fun N hN=>?_) ?_
  ·refine ⟨_,rfl,B.b,C,d5,_,_,_,rfl,e5,M_who_a,rfl,_,rfl,B.next.next,D,u5,g5,(pl:Int),rfl,b5.b,S5,hx100,.inl ⟨pl,rfl,hpl,fun hw X6 s6=>?_,fun i z hw hz tt X6 ht et s6=>?_⟩⟩
   ·refine ⟨_,rfl,B.b,C,d5,_,_,_,rfl,s6 _ _ e5,M_who,rfl,_,rfl,B.next.next,D,u5,g5,(pl:Int),rfl,b5.b.same s6,S5.same s6,hx100,.inl ⟨pl,rfl,hpl,fun _ X7 s7=>?_,fun i z hw2=>by rw [hw] at hw2;cases hw2⟩⟩
    exact .inl ⟨rfl,rfl,_,rfl,iteF (zaw (hN _ _ ⟨rfl,s6.trans s7⟩))⟩
   ·refine ⟨_,rfl,B.b,C,d5,_,_,_,rfl,s6 _ _ e5,M_who,rfl,_,rfl,B.next.next,D,u5,g5,(pl:Int),rfl,b5.b.same s6,S5.same s6,hx100,.inl ⟨pl,rfl,hpl,(fun hw2=>by rw [hw] at hw2;cases hw2),fun i2 z2 hw2 hz2 t2 X7 _ et2 s7=>?_⟩⟩
    rw [hw] at hw2
    cases hw2
    rw [hz] at hz2
    cases hz2
    refine .inr ⟨tt,t2,_,_,rfl,rfl,SqT.of (s7 _ _ et),SqT.of et2,rfl,fun k x y h1 h2=>?_,_,rfl,iteF (zaw (hN _ _ ⟨rfl,s6.trans s7⟩))⟩
    rw [h1] at h2
    obtain rfl:=Option.some.inj h2
    rcases k with _ | _ | k
    ·obtain rfl:=Option.some.inj h1;exact .int _ _
    ·obtain rfl:=Option.some.inj h1;exact .int _ _
    ·cases h1
  rintro σ X7 ⟨rfl,s7⟩
  have b7:=b5.same s7
  have S7:=S5.same s7
  have fr7:∀ a o,a≠B.b→a≠B.W→(∀ i,i<D.m→a≠D.p i)→H a=some o→X7 a=some o:=fun a o g1 g2 g3 e=>s7 _ _ (fr5 a o g1 g2 g3 e)
  obtain ⟨d7,e7⟩:=b7.b.e
  clear fr5 b5 S5 e5 s7
  refine ⟨_,rfl,B.b,C,d7,_,_,_,rfl,e7,M_write_wa,rfl,_,rfl,B.next.next,D,u5,g5,pl,9,w31 B.nw x1 h1 x2 h2 _ _,rfl,b7,zkm (l0 (by show 2<4;decide)) (l0 (by decide)),S7,hpl,by decide,fun X8 b8 S8 fw8=>?_⟩
  rw [w31_w] at b8
  have fr8:=frW fw8 fr7
  obtain ⟨d8,e8⟩:=b8.b.e
  clear fw8 S7 b7 e7 fr7
  refine ⟨_,rfl,iteF ?_⟩
  refine ⟨_,rfl,B.b,C,d8,_,_,_,rfl,e8,M_floats,rfl,B.next.next,D,_,rfl,b8.b,rfl,_,rfl,?_⟩
  rw [Xah (show V.int ((9:Nat):Int)=V.int 9 from rfl)]
  refine iteF ?_
  have q1:=b8.w.o _ XaB
  have q2:=b8.w.o _ (Xax _ XaB)
  obtain ⟨ts,el,et,_⟩:=q1.l
  obtain ⟨us,gl,gt,gd⟩:=q2.l
  obtain ⟨dx1,ex1⟩:=q1.e
  have nl:∀ {a:Addr} {l:List V},X8 a=some (.lst l)→a≠x1:=fun {a l} e z=>by rw [z,ex1] at e;cases e
  refine ⟨_,rfl,B.b,C,d8,_,_,_,rfl,e8,M_news,rfl,_,rfl,B.next.next,D,9,B.nw,w31 B.nw x1 h1 x2 h2 _ _,(B.nw,⟨x1,h1,0,0,"both",_⟩),rfl,b8,wno1,pin S8,fun h9 X9 hh9 b9 fr9=>⟨h1,_,rfl,.inl (SqL.of (fr9 _ _ (nl el) el)),rfl,_,rfl,?_⟩⟩
  rw [Xaf,show ts.length=3 from et,Xah (show V.int ((3:Nat):Int)=V.int 3 from rfl)]
  refine iteF (zaw ?_)
  try dsimp only
  obtain ⟨d9,e9⟩:=b9.b.e
  have p9:∀ i,i<D.m→X9 (D.p i)≠none:=fun i hi z=>by rw [fr9 _ _ (nl (S8.o i hi).ls) (S8.o i hi).ls] at z;cases z
  obtain ⟨t0,rfl⟩:∃ t0,us=[t0]:=by
   cases us with
   | nil=>cases gt
   | cons a l=>cases l with
    | nil=>exact ⟨a,rfl⟩
    | cons _ _=>cases gt
  have g0:=gd 0 t0 _ rfl rfl
  have g9:=fr9 _ _ (fun z=>by rw [show t0=x1 from z,ex1] at g0;cases g0) g0
  have gl9:=fr9 _ _ (nl gl) gl
  obtain ⟨dx2,ex2⟩:=q2.e
  have ex9:=fr9 _ _ nx ex2
  refine ⟨_,rfl,B.b,C,d9,_,_,_,rfl,e9,M_news,rfl,_,rfl,B.next.next,D,9,B.nw+1,_,(B.nw+1,⟨x2,h2,0,0,"write",_⟩),rfl,b9,wno2 nx h9,p9,fun h10 X10 hh10 b10 fr10=>?_⟩
  have n2:∀ {a:Addr} {o:HO},(∀ c d y,o≠.ins c d y)→X9 a=some o→a≠x2:=fun {a o} ho e z=>by rw [z,ex9] at e;exact ho _ _ _ (Option.some.inj e).symm
  have g10:=fr10 _ _ (n2 (fun _ _ _ z=>by cases z) g9) g9
  have gl10:=fr10 _ _ (n2 (fun _ _ _ z=>by cases z) gl9) gl9
  refine ⟨_,rfl,by show 3≤sizeLine;decide,fun u hu=>⟨by show 1≤sizeLine;decide,fun v hv=>?_⟩⟩
  have sv:=zah (o:=.tup [.str "write",.int (pl:Int),.int 9]) hu
  have sw:=zah (o:=.lst [.ref u]) hv
  refine ⟨h2,v,t0,u,"write",(pl:Int),9,rfl,rfl,sw _ _ (sv _ _ gl10),zac,sw _ _ (sv _ _ g10),sw _ _ zac,zaj g10 hu,k _ fun a o g1 g2 g3 e=>sw _ _ (sv _ _ (fr10 _ _ (f2 _ _ g1 g2 e).2 (fr9 _ _ (zaj e f1.2) (fr8 a o g1 g2 g3 e))))⟩
abbrev zdp:Stmt:=top 78
theorem sc_law_held:FnScope ["cell","row","own_bits","own_rows","own_chips","models","handed_in","own_word","way","board","spoilt"] ["cell"] (zai zdp):=sck rfl rfl rfl (by decide +kernel)
inductive spHeld31 (vs:List V)(H:Hp)(Q:VK)(u3_:XK):Prop
 | mk (c:Int) (z0_:vs=[.int c]) (z1_:∀ X,Same H X→Q (.bl true) X)
structure He31 (C CW:Addr)(cs:Nat→Addr)(H:Hp)(D:Dt)(md rw:Nat→Addr)(CL ML hi:Addr)(B:Bd)(f:Nat)(l:List V)(us:Nat→List Nat)(X:Hp):Prop where
 t:Ty31 C CW cs D md rw CL ML B f X us
 e:X hi=some (.lst l)
 n:hi≠B.L∧hi≠B.la∧hi≠CL∧hi≠ML∧∀ i,i<D.m→hi≠D.p i∧hi≠rw i∧hi≠md i
 m9:D.m≤9
 z:H B.b=none∧H B.W=none∧H hi=none∧∀ i,i<D.m→H (D.p i)=none∧H (rw i)=none
 s:Same H X
section
variable {C CW CL ML hi:Addr}{cs:Nat→Addr}{H X Z:Hp}{B:Bd}{D:Dt}{md rw:Nat→Addr}{us:Nat→List Nat}{f:Nat}{l l':List V}
theorem He31.same (h:He31 C CW cs H D md rw CL ML hi B f l us X)(s:Same X Z):He31 C CW cs H D md rw CL ML hi B f l us Z:=⟨h.t.same s,s _ _ h.e,h.n,h.m9,h.z,h.s.trans s⟩
theorem He31.put (h:He31 C CW cs H D md rw CL ML hi B f l us X):He31 C CW cs H D md rw CL ML hi B f l' us (upd X hi (.lst l')):=by
 have k:∀ {a:Addr} {o:HO},a≠hi→X a=some o→upd X hi (.lst l') a=some o:=fun {a o} n e=>by rw [zag n];exact e
 have no:∀ a o,(∀ l,o≠.lst l)→X a=some o→upd X hi (.lst l') a=some o:=fun a o ho e=>k (fun q=>by rw [q,h.e] at e;exact ho _ (Option.some.inj e).symm) e
 have t:=h.t
 refine ⟨⟨⟨t.b.b.lists no (k (Ne.symm h.n.1) t.b.b.ch) (k (Ne.symm h.n.2.1) t.b.b.la),t.b.w.keep (fun a o ho e=>no a o ho.1 e) (fun z hz=>by cases hz),fun z hz=>by cases hz⟩,⟨fun i hi=>?_,t.S.k,t.S.h1,t.S.z,t.S.inj,t.S.m1⟩,⟨fun i hi=>⟨k (Ne.symm (h.n.2.2.2.2 i hi).2.2) (t.M.o i hi).at_,k (Ne.symm (h.n.2.2.2.2 i hi).2.1) (t.M.o i hi).ls⟩,t.M.k,t.M.h1,t.M.z,t.M.inj⟩,k (Ne.symm h.n.2.2.1) t.eC,k (Ne.symm h.n.2.2.2.1) t.eM,t.np,t.rk,t.pk⟩,zac,h.n,h.m9,h.z,fun a o e=>k (zaj e h.z.2.2.1) (h.s _ _ e)⟩
 obtain ⟨dx,ex⟩:=(t.S.o i hi).ex
 exact ⟨⟨dx,no _ _ (fun l q=>by cases q) ex⟩,k (Ne.symm (h.n.2.2.2.2 i hi).1) (t.S.o i hi).ls⟩
end
def s31 (c:Int)(row R CL ML hi:Addr)(m:Nat)(v:List (Option V)):St:=[some (.int c),some (.ref row),some (.int (m:Int)),some (.ref R),some (.ref CL),some (.ref ML),some (.ref hi)] ++ v
theorem zhb {f:Addr}{C CW:Addr}{cs:Nat→Addr}{fd:FuncData}(F:Fun K "_law_held" "_law_held" zdp f fd)(T:Blt mg)(G_law_draws:Cal P w K mg base 1 "_law_draws" ["cell","count"] spDraws)(G_law_board:Cal P w K mg base 7 "_law_board" ["row"] (spBoard34 cs))(GMBoard_3:Mak P w K mg base 7 "Board" C [] (dP [.int 0]) (spInitB C cs))(GMBoard_4:Mak P w K mg base 7 "Board" C [] (dP []) (spInitB C cs))(GMBoard_floating_chips_rows_bits:Mak P w K mg base 7 "Board" C ["floating","chips","rows","bits"] (kpm 1 4 [3,2,1,0] []) (spInitB C cs))(GMBoard_2_chips:Mak P w K mg base 7 "Board" C ["chips"] (kpm 3 1 [0,1] [.int 0]) (spInitB C cs))(GMLatch_0:Mak P w K mg base 3 "Latch" (cs 2) [] (dP [.int 0]) (spMk1H (cs 2) "latch"))
  (G_law_told:Cal P w K mg base 2 "_law_told" ["board","own_bits","own_rows","own_chips","own_floating"] (spTold31 C cs)) (M_chips_of:Mth P w K mg base 1 C "chips_of" [] (fun vs _=>vs) (spChipsOf C)) (G_law_very_ones:Cal P w K mg base 6 "_law_very_ones" ["board","own_chips","models"] (spVery31 C CW cs)) (G_law_by_names:Cal P w K mg base 8 "_law_by_names" ["board","own_bits","own_floating"] (spNames31 C CW cs)):FnOk P w K mg base CX0 9 f fd ["cell"] spHeld31:=by
 refine F.ok sc_law_held (by walk_at "l") (fun cdv A outer s H vs Q E hr h=>?_)
 ·obtain ⟨c,rfl,k⟩:=h
  refine ⟨_,(zab (ps_L 1 sc_law_held.nd (pe_c G_law_draws (zaa (pv 0) (zaa zad zae))))
   (zab (zbP (pe_c G_law_board (zaa (pv 1) zae)) (zbu rfl (zao (pg_L 2 sc_law_held.nd) (zao (pg_L 3 sc_law_held.nd) (zao (pg_L 4 sc_law_held.nd) (zao (pg_L 5 sc_law_held.nd) zaV))))))
   (zab (ps_L 6 sc_law_held.nd (za4 zbb (by rfl) T.list zdF (zaa (pv 4) zae)))
   (zab (ps_L 7 sc_law_held.nd (zak zaB (pe_x zal (pv 1) zad) zad))
   (zab (ps_L 8 sc_law_held.nd (zak zaB (pe_x zal (pv 1) zad) zad))
   (zab (zay (zas zby (pv 8) zad (zat _)) (zab (ps_L 9 sc_law_held.nd (zdH GMBoard_3 (hrm hr) rfl (zaa (pv 2) (zaa (pv 3) (zaa (pv 6) zae)))))
   (zaf (ps_L 7 sc_law_held.nd zad))) (zaf (zay (zas zby (pv 8) zad (zat _)) (zaf (ps_L 9 sc_law_held.nd (zdH GMBoard_4 (hrm hr) rfl (zaa (pv 2) (zaa (pv 3) (zaa (pv 6) (zaa (pv 7) zae))))))) (zaf (zay (zas zby (pv 8) zad (zat _)) (zaf (ps_L 9 sc_law_held.nd (zmh GMBoard_floating_chips_rows_bits (hrm hr) rfl (zaO (pv 7) (zaO (pv 6) (zaO (pv 3) (zaO (pv 2) zc2))))))) (zab (ps_L 9 sc_law_held.nd (zkI GMBoard_2_chips (hrm hr) rfl (zaa (pv 2) (zaa (pv 3) zae)) (zaO (pv 6) zc2)))
   (zaf (ps_L 7 sc_law_held.nd zad))))))))
   (zab (zay (zaK (zaG (pe_c G_law_told (zaa (pv 9) (zaa (pv 2) (zaa (pv 3) (zaa (pv 4) (zaa (pv 7) zae)))))))) (zaf (zam zb3)) zan)
   (zab (zau (zf2 PySem.F.plainAttrs_list PySem.F.slot_list_reverse PySem.F.type_list_reverse zik (pv 6)))
   (zab (zau (zdy PySem.F.plainAttrs_list PySem.F.slot_list_append PySem.F.type_list_append zaN (pv 6) (zaa (zmi GMLatch_0 (hrm hr) rfl) zae)))
   (zab (ps_L 10 sc_law_held.nd (zb1 1 ⟨rfl,rfl,rfl,rfl,rfl⟩ (hrm hr) (pv 9)))
   (zab (zau (zf2 PySem.F.plainAttrs_list PySem.F.slot_list_clear PySem.F.type_list_clear zfF (pv 10)))
   (zab (zay (zaK (zaG (pe_c G_law_told (zaa (pv 9) (zaa (pv 2) (zaa (pv 3) (zaa (pv 4) (zaa (pv 7) zae)))))))) (zaf (zam zb3)) zan)
   (zaf (zam (zbQ (pe_c G_law_very_ones (zaa (pv 9) (zaa (pv 4) (zaa (pv 5) zae)))) (zca (pe_c G_law_by_names (zaa (pv 9) (zaa (pv 2) (zaa (pv 7) zae)))))))))))))))))))),?rd⟩
  refine ⟨_,rfl,c,80,rfl,by decide,fun row H1 vals hrow er hlen hv s1=>?_⟩
  refine ⟨_,rfl,row,vals,rfl,er,hlen,hv,fun t R CL ML m cl ws H2 et bo=>?_⟩
  refine ⟨t,_,rfl,SqT.of et,rfl,_,_,rfl,_,_,rfl,_,_,rfl,_,_,rfl,rfl,?_⟩
  obtain ⟨dv,hdv⟩:=drw (row:=vals) 80 (by omega) hv
  have y76:atI (vN vals) 76=some (.int (dv 76:Int)):=(hdv 76 (by decide)).1
  have y77:atI (vN vals) 77=some (.int (dv 77:Int)):=(hdv 77 (by decide)).1
  have hfl:dv 76 % 256≤255:=by omega
  have e76:(dv 76:Int) % 256=((dv 76 % 256:Nat):Int):=by omega
  generalize dv 76 % 256=fl at hfl e76
  have er2:=bo.s _ _ er
  try dsimp only [za6,List.set]
  refine ⟨_,rfl,CL,_,rfl,.inl (SqL.of bo.eC),fun hi hhi=>?_⟩
  have sh:=zah (o:=.lst (cl.map fun c=>V.ref c.x)) hhi
  have eh:upd H2 hi (.lst (cl.map fun c=>V.ref c.x)) hi=some (.lst (cl.map fun c=>V.ref c.x)):=zac
  have sY:Same H (upd H2 hi (.lst (cl.map fun c=>V.ref c.x))):=s1.trans (bo.s.trans sh)
  have y76':=SqL.of (K:=K) (sh _ _ er2)
  have init:∀ (fl:Nat),fl≤255→∀ (b db:Addr),upd H2 hi (.lst (cl.map fun c=>V.ref c.x)) b=none→upd H2 hi (.lst (cl.map fun c=>V.ref c.x)) db=none→∀ (vs:List V) (Qm:VK) (E:XK),vs=[.ref b,.int (m:Int),.ref R,.ref hi,.int (fl:Int)] →
    (∀ (B:Bd) (Y:Hp),B.b=b→B.bits=m→B.R=R→He31 C CW cs H (dtC cl) (fun i=>(cl.getD i dfCm).m) (fun i=>(cl.getD i dfCm).r) CL ML hi B fl (chL (dtC cl)) (usC cl) Y→Qm .non Y)→spInitB C cs vs (upd (upd (upd H2 hi (.lst (cl.map fun c=>V.ref c.x))) db (.own b)) b (.ins C db [])) Qm E:=by
   intro fl hfl b db hb hdb vs Qm E hvs kq
   have sB:Same (upd H2 hi (.lst (cl.map fun c=>V.ref c.x))) (upd (upd (upd H2 hi (.lst (cl.map fun c=>V.ref c.x))) db (.own b)) b (.ins C db [])):=fun x o e=>zi2 hb hdb x o e
   refine ⟨b,db,R,hi,m,fl,dtC cl,usC cl,ws,hvs,zac,bo.m1,bo.m2,hfl,bo.rf.same (sh.trans sB),by rw [zj5];exact sB _ _ eh,(bo.C.chs (Xar bo.c9 (by decide))).same (sh.trans sB),fun B H3 e1 e2 e3 e4 hBL hBla hBW enw eW hBd fr=>kq B H3 e1 e2 e3 ?_⟩
   have sY3:Same (upd H2 hi (.lst (cl.map fun c=>V.ref c.x))) H3:=fun x o e=>fr x o (zaj e hb) (sB _ _ e)
   have s23:Same H2 H3:=sh.trans sY3
   have nL:∀ {a:Addr} {o:HO},upd H2 hi (.lst (cl.map fun c=>V.ref c.x)) a=some o→a≠B.L∧a≠B.la:=fun {a o} e=>⟨(fun z=>by have:=sB _ _ e;rw [z,hBL] at this;cases this),(fun z=>by have:=sB _ _ e;rw [z,hBla] at this;cases this)⟩
   have C3:=bo.C.same s23
   have fc:=fun i (hi:i<(dtC cl).m)=>bo.fr _ (zaS hi).1
   have nh:∀ {a:Addr} {o:HO},H2 a=some o→hi≠a:=fun {a o} e=>Ne.symm (zaj e hhi)
   refine ⟨⟨⟨hBd,⟨eW,fun z hz=>(by cases hz),Xbg,Xbg,Nat.zero_le _⟩,fun z hz=>(by cases hz)⟩,C3.chs (Xar bo.c9 (by decide)),C3.mod,by rw [zj5];exact s23 _ _ bo.eC,by rw [mdL_cm];exact s23 _ _ bo.eM,fun i j hi hj z=>?_,fun i hi=>⟨(fc i hi).2.2.2.2.2,(fc i hi).2.2.2.2.1,nL (sh _ _ (bo.C.o _ (zaS hi).1).md.ls)⟩,fun i hi=>⟨(fc i hi).2.2.2.1,(fc i hi).2.2.1⟩⟩,by rw [zj5];exact sY3 _ _ eh,⟨(nL eh).1,(nL eh).2,nh bo.eC,nh bo.eM,fun i hi=>⟨nh (bo.C.o _ (zaS hi).1).ch.ls,nh (bo.C.o _ (zaS hi).1).md.ls,nh (bo.C.o _ (zaS hi).1).md.at_⟩⟩,bo.c9,⟨by rw [e1];exact sY.free hb,(sY.trans sB).free hBW,(s1.trans bo.s).free hhi,fun i hi=>⟨s1.free (fc i hi).1,s1.free (fc i hi).2.1⟩⟩,sY.trans sY3⟩
   exact (XaO.mp bo.C.nd).2.2 _ (XaC.mpr ⟨_,(zaS hj).1,rfl⟩) _ (XaC.mpr ⟨_,(zaS hi).1,rfl⟩) z.symm
  generalize upd H2 hi (.lst (cl.map fun c=>V.ref c.x))=Y0 at *
  clear sh eh bo s1 er2 et er hhi hrow
  try dsimp only [za6,List.set]
  refine ⟨_,rfl,row,_,_,_,rfl,rfl,y76',y76,_,_,rfl,rfl,(show (0:Int)<256 by decide),?_⟩
  rw [e76]
  try dsimp only [za6,List.set]
  refine ⟨_,rfl,row,_,_,_,rfl,rfl,y76',y77,_,_,rfl,rfl,(show (0:Int)<4 by decide),?_⟩
  generalize (dv 77:Int) % 4=wy
  try dsimp only [za6,List.set]
  refine za2 (fun σ Y=>∃ (B:Bd) (f:Nat),σ=s31 c row B.R CL ML hi B.bits [some (.int (f:Int)),some (.int wy),some (.ref B.b),none]∧He31 C CW cs H (dtC cl) (fun i=>(cl.getD i dfCm).m) (fun i=>(cl.getD i dfCm).r) CL ML hi B f (chL (dtC cl)) (usC cl) Y) (fun N hN=>?_) ?_
  ·refine ⟨_,rfl,rfl,_,rfl,ite2 (fun _=>?_) (fun _=>?_)⟩
   ·refine ⟨_,rfl,_,rfl,_,rfl,fun b db hb hdb _=>init 0 (by decide) b db hb hdb _ _ _ rfl fun B Y e1 e2 e3 h=>⟨rfl,?_⟩⟩
    subst e1 e2 e3
    exact hN _ _ ⟨B,0,rfl,h⟩
   refine ⟨_,rfl,rfl,_,rfl,ite2 (fun _=>?_) (fun _=>?_)⟩
   ·refine ⟨_,rfl,_,rfl,_,rfl,_,rfl,fun b db hb hdb _=>init fl hfl b db hb hdb _ _ _ rfl fun B Y e1 e2 e3 h=>⟨rfl,?_⟩⟩
    subst e1 e2 e3
    exact hN _ _ ⟨B,fl,rfl,h⟩
   refine ⟨_,rfl,rfl,_,rfl,ite2 (fun _=>?_) (fun _=>?_)⟩
   ·refine ⟨_,rfl,_,rfl,_,rfl,_,rfl,fun b db hb hdb _=>init fl hfl b db hb hdb _ _ _ rfl fun B Y e1 e2 e3 h=>⟨rfl,?_⟩⟩
    subst e1 e2 e3
    exact hN _ _ ⟨B,fl,rfl,h⟩
   ·refine ⟨_,rfl,_,rfl,_,rfl,fun b db hb hdb _=>init 0 (by decide) b db hb hdb _ _ _ rfl fun B Y e1 e2 e3 h=>⟨rfl,?_⟩⟩
    subst e1 e2 e3
    exact hN _ _ ⟨B,0,rfl,h⟩
  rintro σ Y ⟨B,fv,rfl,h⟩
  refine ⟨_,rfl,_,rfl,_,rfl,_,rfl,_,rfl,B,dtC cl,usC cl,fv,CL,rfl,h.t.b.b,h.t.S,h.t.eC,fun X1 s1=>⟨true,rfl,iteF (zaw ?_)⟩⟩
  replace h:=h.same s1
  clear s1
  try dsimp only
  refine ⟨_,rfl,.inl ⟨rfl,_,SqL.of h.e⟩,hi,_,rfl,rfl,h.e,?_⟩
  replace h:=h.put (l':=(chL (dtC cl)).reverse)
  have hln:(chL (dtC cl)).reverse.length≤9:=by rw [List.length_reverse,zcW];exact h.m9
  generalize upd X1 hi (.lst (chL (dtC cl)).reverse)=X2 at *
  refine ⟨_,rfl,.inl ⟨rfl,_,SqL.of h.e⟩,fun x dx hx hdx ne=>⟨x,dx,0,rfl,by omega,by omega,zac,fun p Z1 hp ex el kp=>⟨rfl,?_⟩⟩⟩
  replace h:=h.same (zbS hx hdx ne kp)
  refine ⟨hi,_,_,rfl,rfl,h.e,XaM hln (by decide),?_⟩
  replace h:=h.put (l':=(chL (dtC cl)).reverse ++ [V.ref x])
  generalize upd Z1 hi (.lst ((chL (dtC cl)).reverse ++ [V.ref x]))=X3 at *
  clear ex el kp hp hx hdx ne
  obtain ⟨d3,e3⟩:=h.t.b.b.e
  refine ⟨_,rfl,B.b,C,d3,_,_,_,rfl,e3,M_chips_of,rfl,B,_,_,rfl,h.t.b.b,fun sp hsp=>?_⟩
  try dsimp only [za6,List.set]
  refine ⟨_,rfl,.inl ⟨rfl,_,SqL.of zac⟩,sp,_,rfl,rfl,zac,?_⟩
  have ss:Same X3 (upd (upd X3 sp (.lst (chL (dtC cl)))) sp (.lst [])):=fun a o e=>by rw [zag (zaj e hsp),zag (zaj e hsp)];exact e
  replace h:=h.same ss
  generalize upd (upd X3 sp (.lst (chL (dtC cl)))) sp (.lst [])=X4 at *
  clear ss e3 hsp
  refine ⟨_,rfl,_,rfl,_,rfl,_,rfl,_,rfl,B,dtC cl,usC cl,fv,CL,rfl,h.t.b.b,h.t.S,h.t.eC,fun X5 s5=>⟨true,rfl,iteF (zaw ?_)⟩⟩
  replace h:=h.same s5
  clear s5
  try dsimp only
  refine ⟨_,rfl,_,rfl,_,rfl,B,dtC cl,_,_,usC cl,fv,CL,ML,rfl,h.t,h.m9,fun X6 us6 b6 S6 fr6=>⟨true,rfl,iteT ?_⟩⟩
  refine ⟨_,rfl,_,rfl,_,rfl,B,dtC cl,us6,fv,rfl,b6,S6,fun X7 fr7=>k _ fun a o e=>?_⟩
  have n:=h.z
  exact fr7 _ _ (zaj e n.1) (zaj e n.2.1) (fun i hi=>zaj e (n.2.2.2 i hi).1) (fr6 _ _ (fun i hi=>⟨zaj e (n.2.2.2 i hi).1,zaj e (n.2.2.2 i hi).2⟩) (h.s _ _ e))
abbrev slaw:Stmt:=top 79
theorem sclaw:FnScope ["script","cell"] ["script"] (zai slaw):=sck rfl rfl rfl (by decide +kernel)
theorem oklaw {f:Addr}{fd:FuncData}(F:Fun K "law" "law" slaw f fd)(T:Blt mg)(G_law_held:Cal P w K mg base 9 "_law_held" ["cell"] spHeld31):FnOk P w K mg base CX0 10 f fd ["script"] (spLaw K):=by
 refine F.ok sclaw (by walk_at "l") (fun cdv A outer s H vs Q E hr h=>?_)
 ·obtain ⟨a,ns,rfl,hs,hln,_,k⟩:=h
  refine ⟨_,(zab (zbO PassesOwn.never rfl (zcP (zak zms (zax (zaa (zap zar (by rfl) T.len PySem.boot_len (zaa (pv 0) zae)) zae)) (zb0 zea (pv 0) zft (zbt zad)))) (pg_L 1 sclaw.nd)
   (zaf (zay (zaK (zaG (pe_c G_law_held (zaa (pv 1) zae)))) (zaf (zam zb3)) zan)))
   (zaf (zam zb3))),?rd⟩
  refine ⟨_,rfl,a,_,rfl,.inl hs,by show 1≤sizeLine;decide,fun q1 h1=>?_⟩
  refine ⟨_,rfl,30,rfl,a,_,rfl,(zah h1).seq hs,fun q2 h2=>?_⟩
  refine ⟨q1,q2,_,_,rfl,rfl,SqL.of (zah h2 _ _ zac),SqL.of zac,?_,fun q3 h3=>⟨q3,rfl,⟨_,SqL.of zac⟩,?_⟩⟩
  ·have:=zcV (ns.map V.int) none (some 30)
   rw [Xaf] at this
   rw [sizeLine_eq];simp;omega
  have xi:∀ x∈[V.int ((ns.map V.int).length:Int)] ++ cutV (ns.map V.int) none (some 30),∃ c,x = .int c:=fun x hx=>by
   rcases XaF.mp hx with h | h
   ·exact ⟨_,Xad.mp h⟩
   ·obtain ⟨m,_,rfl⟩:=XaC.mp (zmI h)
    exact ⟨m,rfl⟩
  have e3:=zac (H:=upd (upd H q1 (.lst [V.int ((ns.map V.int).length:Int)])) q2 (.lst (cutV (ns.map V.int) none (some 30)))) (a:=q3) (o:=.lst ([V.int ((ns.map V.int).length:Int)] ++ cutV (ns.map V.int) none (some 30)))
  generalize upd (upd (upd H q1 (.lst [V.int ((ns.map V.int).length:Int)])) q2 (.lst (cutV (ns.map V.int) none (some 30)))) q3 (.lst ([V.int ((ns.map V.int).length:Int)] ++ cutV (ns.map V.int) none (some 30)))=B at e3 ⊢
  generalize [V.int ((ns.map V.int).length:Int)] ++ cutV (ns.map V.int) none (some 30)=xs at e3 xi ⊢
  refine zfI (K:=K) (a:=q3) (xs:=xs) (fun i σ Y=>(∃ v1:Option V,σ=[some (.ref a),v1])∧Same B Y) ⟨⟨_,rfl⟩,Same.refl _⟩ (fun i σ Y hi ⟨_,sY⟩=>SqL.of (sY _ _ e3)) ?_ ?_
  ·rintro i x σ Y hx ⟨⟨v1,rfl⟩,sY⟩
   obtain ⟨c,rfl⟩:=xi x (Xay hx)
   exact ⟨_,rfl,c,rfl,fun Y2 s2=>⟨_,rfl,iteF (zaw ⟨⟨_,rfl⟩,sY.trans s2⟩)⟩⟩
  ·rintro σ Y ⟨_,sY⟩
   exact k Y
end
abbrev NsR (K:W.Frag)(x:Str)(f:Addr):Prop:=W.nsIn K mainGlobals x=some (some (.ref f))
abbrev FiR (K:W.Frag)(C:Addr)(m:Str)(f:Addr):Prop:=W.findIn K (.ref C) m=some (some (.ref f))
abbrev IsF (K:W.Frag)(f:Addr):Prop:=W.isFn K (.ref f)=true
theorem all_mk {l:W.OpenLaw}{w:World}{K:W.Frag}{h:Heap}{mg:Str→Option Value}{fa:Addr}(X:K.In h)(G:h.Ns mainGlobals mg)(hfa:mg "law" = some (.ref fa))
 {f_0 f_1 f_2 f_3 f_4 f_5 f_6 f_7 f_8 f_9 cz cA cC cD cE cF cG cH cI au bH cJ cK ac aK aD aE aL aF aT aU ad bI aa ae bJ af bK bL bM bN bb cL bc bd cM be cO bf cP cQ cR cS ag bg cT NT ah aG aM bP bh bi bQ aj bj bR bS bT bn cU bp bU bV bW bq cV bY bZ aH cW cX cY cZ c7 c8 dc de df dg dh di dj dl dm cb:Addr} {gF gG gH gI gJ gK gL gM gO gP gQ gR gS gT gU gW gX gY gZ g7 hG hJ hV hZ h8 ia ib ic ie ig ii ij ik il io ip iz iA iF iL iR iS iT iU i4 i5 i6 i7 i8 i9 ja jb jc jd ji jj jk jl jm jr js jt ju jv jw jx jy jz jA jB jC jD jE jF jG jH jI:FuncData} {iq iB iG iM iV cN1 cB cN2 je jn jJ dq du dw cg dA:Value} {ir iC iH iN iW ddT dN1 ddB dN2 jf jo jK dB:Option Addr} {iu iD iI iO iX ep1 ep2 jg jp:Nat} {iw iE iJ iP iY sl1 slB sl2 jh jq jL:Array (Option Value)} {iy bO iK iQ aV bX jM jN jO jP jQ jR jS jT jU:Tok} {nmT qT:Str} {bsT iZ:List Value} {snT:List Str} {abT:Bool} {i3:Option Bool} {k0T k1T k2T k3T k5T:Option Value} {es1 es2:Array DictEntry} {cdB:ClassData}
  (zS:W.nsIn K mainGlobals "sorted" = some none)
  (jV:NsR K "single_ones" f_0)
  (F_0:Fun K "single_ones" "single_ones" zcd f_0 gF)
  (jW:NsR K "ones_of" f_1)
  (F_1:Fun K "ones_of" "ones_of" zfh f_1 gG)
  (jX:NsR K "gathered" f_2)
  (F_2:Fun K "gathered" "gathered" zed f_2 gH)
  (jY:NsR K "is_number" f_3)
  (F_3:Fun K "is_number" "is_number" zde f_3 gI)
  (jZ:NsR K "size_of" f_4)
  (F_4:Fun K "size_of" "size_of" zfg f_4 gJ)
  (j0:NsR K "is_choice" f_5)
  (F_5:Fun K "is_choice" "is_choice" zdf f_5 gK)
  (j1:NsR K "is_latch" f_6)
  (F_6:Fun K "is_latch" "is_latch" zeb f_6 gL)
  (j3:NsR K "is_row" f_7)
  (F_7:Fun K "is_row" "is_row" zgP f_7 gM)
  (j4:NsR K "is_map" f_8)
  (F_8:Fun K "is_map" "is_map" zgQ f_8 gO)
  (j5:NsR K "meets" f_9)
  (F_9:Fun K "meets" "meets" ziU f_9 gP)
  (j6:NsR K "cell_at" cz)
  (dC:Fun K "cell_at" "cell_at" zfn cz gQ)
  (j7:NsR K "choices_agree" cA)
  (dD:Fun K "choices_agree" "choices_agree" zbE cA gR)
  (j8:NsR K "latches_agree" cC)
  (dE:Fun K "latches_agree" "latches_agree" zbD cC gS)
  (j9:NsR K "rows_clash" cD)
  (dF:Fun K "rows_clash" "rows_clash" zcB cD gT)
  (ka:NsR K "clash_of" cE)
  (dG:Fun K "clash_of" "clash_of" zef cE gU)
  (kb:NsR K "is_awake" cF)
  (dH:Fun K "is_awake" "is_awake" zec cF gW)
  (ke:NsR K "answering" cG)
  (dI:Fun K "answering" "answering" zdk cG gX)
  (kf:NsR K "is_word" cH)
  (dJ:Fun K "is_word" "is_word" zfk cH gY)
  (kg:NsR K "check_word" cI)
  (dL:Fun K "check_word" "check_word" zcC cI gZ)
  (aN:NsR K "Chip" au)
  (kh:W.specialIn K (.ref au) "__getattribute__" = some (some (.builtin "type.__getattribute__")))
  (ki:W.readsIn K au (.type "type")=true)
  (kj:W.findCls K (.ref au) (.type "type") "__init__" = some (.val (.ref bH)))
  (dM:Fun K "__init__" "Chip.__init__" zbH bH g7)
  (km:NsR K "by_figures" cJ)
  (dO:Fun K "by_figures" "by_figures" zcE cJ hG)
  (ko:NsR K "two_figures" cK)
  (dQ:Fun K "two_figures" "two_figures" zcc cK hJ)
  (kr:NsR K "Store" ac)
  (aq:ClsOk K ac)
  (ky:FiR K ac "__len__" aK)
  (aA:Fun K "__len__" "Chip.__len__" zbW aK hV)
  (br:IsF K aK)
  (kA:FiR K ac "check_cell" aD)
  (av:Fun K "check_cell" "Chip.check_cell" zbd aD hZ)
  (aW:IsF K aD)
  (kB:FiR K ac "check_write" aE)
  (aw:Fun K "check_write" "Chip.check_write" za8 aE h8)
  (aX:IsF K aE)
  (kC:FiR K ac "look" aL)
  (aB:Fun K "look" "Chip.look" zdu aL ia)
  (bu:IsF K aL)
  (kD:FiR K ac "state" aF)
  (ax:Fun K "state" "Chip.state" zcM aF ib)
  (aY:IsF K aF)
  (kE:FiR K ac "read" aT)
  (aO:Fun K "read" "Chip.read" zdt aT ic)
  (ci:IsF K aT)
  (kF:FiR K ac "write" aU)
  (aP:Fun K "write" "Chip.write" zcL aU ie)
  (cj:IsF K aU)
  (kG:NsR K "Fixed" ad)
  (ar:ClsOk K ad)
  (kH:FiR K ad "__len__" aK)
  (kI:FiR K ad "check_cell" aD)
  (kJ:FiR K ad "check_write" aE)
  (kK:FiR K ad "look" aL)
  (kL:FiR K ad "state" aF)
  (kM:FiR K ad "read" aT)
  (kN:FiR K ad "write" bI)
  (dR:Fun K "write" "Fixed.write" zcg bI ig)
  (kO:IsF K bI)
  (ck:NsR K "Latch" aa)
  (ak:ClsOk K aa)
  (kP:FiR K aa "__len__" aK)
  (kQ:FiR K aa "check_cell" aD)
  (kR:FiR K aa "check_write" aE)
  (kS:FiR K aa "look" aL)
  (kT:FiR K aa "state" aF)
  (kU:FiR K aa "read" aT)
  (kW:FiR K aa "write" aU)
  (kX:NsR K "Meter" ae)
  (al:ClsOk K ae)
  (kY:FiR K ae "__len__" aK)
  (kZ:FiR K ae "check_cell" aD)
  (k4:FiR K ae "check_write" aE)
  (k6:FiR K ae "look" aL)
  (k7:FiR K ae "state" aF)
  (k8:FiR K ae "read" bJ)
  (dS:Fun K "read" "Meter.read" zcK bJ ii)
  (k9:IsF K bJ)
  (lc:FiR K ae "write" aU)
  (ld:NsR K "Pipe" af)
  (am:ClsOk K af)
  (le:FiR K af "__len__" bK)
  (dU:Fun K "__len__" "Pipe.__len__" zbV bK ij)
  (lf:IsF K bK)
  (lg:FiR K af "check_cell" aD)
  (lh:FiR K af "check_write" aE)
  (li:FiR K af "look" bL)
  (dW:Fun K "look" "Pipe.look" zds bL ik)
  (lj:IsF K bL)
  (ll:FiR K af "state" aF)
  (lm:FiR K af "read" bM)
  (dX:Fun K "read" "Pipe.read" zdr bM il)
  (lq:IsF K bM)
  (lr:FiR K af "write" bN)
  (dY:Fun K "write" "Pipe.write" zcJ bN io)
  (lw:IsF K bN)
  (lx:W.makesIn K ac=true)
  (ly:W.keepIn K (.ref ac)=true)
  (lz:FiR K ac "__init__" bb)
  (dZ:FunD K "__init__" "Store.__init__" zbn (.ref cL) bb ip)
  (lA:K.lookup cL=some ⟨iq,ir,.seq #[.int 0 iy] iu,iw⟩)
  (lB:IsF K bb)
  (lC:W.makesIn K ad=true)
  (lD:W.keepIn K (.ref ad)=true)
  (lE:FiR K ad "__init__" bc)
  (d6:Fun K "__init__" "Fixed.__init__" zbq bc iz)
  (lF:IsF K bc)
  (eg:W.makesIn K aa=true)
  (eB:W.keepIn K (.ref aa)=true)
  (eE:FiR K aa "__init__" bd)
  (cp:FunD K "__init__" "Latch.__init__" zbp (.ref cM) bd iA)
  (eF:K.lookup cM=some ⟨iB,iC,.seq #[.int 0 bO] iD,iE⟩)
  (eG:IsF K bd)
  (lG:W.makesIn K ae=true)
  (lH:W.keepIn K (.ref ae)=true)
  (lI:FiR K ae "__init__" be)
  (eJ:FunD K "__init__" "Meter.__init__" zbo (.ref cO) be iF)
  (lJ:K.lookup cO=some ⟨iG,iH,.seq #[.int 0 iK] iI,iJ⟩)
  (lK:IsF K be)
  (lL:W.makesIn K af=true)
  (lM:W.keepIn K (.ref af)=true)
  (lN:FiR K af "__init__" bf)
  (eK:FunD K "__init__" "Pipe.__init__" zbG (.ref cP) bf iL)
  (lO:K.lookup cP=some ⟨iM,iN,.seq #[.int 4 iQ] iO,iP⟩)
  (lP:IsF K bf)
  (lQ:W.findIn K (.ref aa) "__class__" = some (some (.builtin "object.__class__")))
  (aQ:W.specialIn K (.builtin "object.__class__") "__get__" = some (some (.builtin "getset_descriptor.__get__")))
  (aR:W.takesIn K (.builtin "object.__class__")=some true)
  (lR:W.mroIn K aa (.type "object")=some true)
  (lS:W.isIn K (.ref aa) aa=true)
  (lT:NsR K "row_fits" cQ)
  (eN:Fun K "row_fits" "row_fits" zd7 cQ iR)
  (lU:NsR K "check_map" cR)
  (eO:Fun K "check_map" "check_map" zdh cR iS)
  (lV:NsR K "check_clash" cS)
  (eP:Fun K "check_clash" "check_clash" zce cS iT)
  (bv:NsR K "Board" ag)
  (ai:ClsBd K ag)
  (bx:W.makesIn K ag=true)
  (bA:W.keepIn K (.ref ag)=true)
  (bB:FiR K ag "__init__" bg)
  (aZ:FunD K "__init__" "Board.__init__" zbs (.ref cT) bg iU)
  (bC:K.lookup cT=some ⟨iV,iW,.seq #[.int 0 aV] iX,iY⟩)
  (bD:IsF K bg)
  (lW:NsR K "NoAddress" ah)
  (lX:NsR K "BusError" aG)
  (xl:K.lookup ah=some (excClassObj nmT qT ah NT bsT [.ref aG,.type "ValueError",.type "Exception",.type "BaseException",.type "object"] true snT iZ abT i3 ddT k0T k1T k2T k3T k5T "ValueError.__new__"))
  (xn:K.lookup NT=some ⟨cN1,dN1,.dict es1 ep1,sl1⟩)
  (xs:es1.toList.all (fun e=>match e.key with | .str _ _=>true | _=>false)=true)
  (yl:K.lookup aG=some ⟨cB,ddB,.cls cdB,slB⟩)
  (yn:K.lookup cdB.ns=some ⟨cN2,dN2,.dict es2 ep2,sl2⟩)
  (ys:es2.toList.all (fun e=>match e.key with | .str _ _=>true | _=>false)=true)
  (yi:nsFind es2 "__init__" = none)
  (xa:W.findIn K (.ref ah) "__setattr__" = some (some (.builtin "object.__setattr__")))
  (lY:W.takerIn K ah "address" = some none)
  (c1_:W.findIn K (.ref ah) "__getattribute__" = some (some (.builtin "BaseException.__getattribute__")))
  (c2_:W.findIn K (.ref ah) "__getattr__" = some none)
  (c4_:W.subIn K (.ref ah) (.type "BaseException")=some true)
  (c5_:W.mroIn K ah (.type "object")=some true)
  (c3_:∀ oD:Option Obj,W.findObj K ah oD "__class__" = some (.bind (.builtin "getset_descriptor.__get__") (.builtin "object.__class__")))
  (m1_:W.exmOne K (.ref ah) (.ref ah)=some true)
  (xh:W.hasDictIn K ah=true)
  (qG:W.findIn K (.ref ah) "address" = some none)
  (s1_:W.specialIn K (.ref aG) "__getattribute__" = some (some (.builtin "type.__getattribute__")))
  (s2_:W.readsIn K aG (.type "type")=true)
  (s3_:W.findCls K (.ref aG) (.type "type") "__init__" = some (.val (.builtin "ValueError.__init__")))
  (qH:FiR K ah "__init__" aM)
  (lZ:nsFind es1 "__init__" = some (.ref aM))
  (l4:Fun K "__init__" "NoAddress.__init__" zaZ aM i4)
  (l5:IsF K aM)
  (l7:FiR K ag "in_bits" bP)
  (eQ:Fun K "in_bits" "Board.in_bits" zbJ bP i5)
  (l8:IsF K bP)
  (l9:FiR K ag "check_address" bh)
  (eR:Fun K "check_address" "Board.check_address" zaU bh i6)
  (ma:IsF K bh)
  (eS:FiR K ag "who" bi)
  (bE:Fun K "who" "Board.who" zdv bi i7)
  (eU:IsF K bi)
  (me:FiR K ag "floats" bQ)
  (eZ:Fun K "floats" "Board.floats" zbX bQ i8)
  (mf:IsF K bQ)
  (mh:NsR K "Watch" aj)
  (bF:ClsWt K aj)
  (mi:W.makesIn K aj=true)
  (mj:W.keepIn K (.ref aj)=true)
  (ml:FiR K aj "__init__" bj)
  (fb:Fun K "__init__" "Watch.__init__" zbm bj i9)
  (mq:IsF K bj)
  (mr:FiR K aj "hear" bR)
  (fe:Fun K "hear" "Watch.hear" zcI bR ja)
  (mv:IsF K bR)
  (mw:FiR K ag "chip_of" bS)
  (ff:Fun K "chip_of" "Board.chip_of" zbK bS jb)
  (mx:IsF K bS)
  (my:FiR K ag "finish" bT)
  (fg:Fun K "finish" "Board.finish" zbY bT jc)
  (mz:IsF K bT)
  (cq:FiR K ag "read" bn)
  (aI:FunD K "read" "Board.read" zcN (.ref cU) bn jd)
  (cr:K.lookup cU=some ⟨je,jf,.seq #[.bool false] jg,jh⟩)
  (cu:IsF K bn)
  (mC:FiR K ag "write" bp)
  (cv:Fun K "write" "Board.write" zci bp ji)
  (mD:IsF K bp)
  (mE:FiR K ag "bits_of" bU)
  (fh:Fun K "bits_of" "Board.bits_of" zbL bU jj)
  (mF:IsF K bU)
  (mG:FiR K ag "rows_of" bV)
  (fi:Fun K "rows_of" "Board.rows_of" zbI bV jk)
  (mH:IsF K bV)
  (mI:FiR K ag "chips_of" bW)
  (fj:Fun K "chips_of" "Board.chips_of" zbr bW jl)
  (mJ:IsF K bW)
  (fk:FiR K ag "watch" bq)
  (a6:FunD K "watch" "Board.watch" zcj (.ref cV) bq jm)
  (fm:K.lookup cV=some ⟨jn,jo,.seq #[.str "both" bX] jp,jq⟩)
  (fo:IsF K bq)
  (mK:FiR K ag "check_watch" bY)
  (fq:Fun K "check_watch" "Board.check_watch" za3 bY jr)
  (mL:IsF K bY)
  (mM:FiR K ag "news" bZ)
  (fu:Fun K "news" "Board.news" zcO bZ js)
  (mO:IsF K bZ)
  (mP:W.findIn K (.ref ac) "__class__" = some (some (.builtin "object.__class__")))
  (mQ:W.mroIn K ac (.type "object")=some true)
  (mR:W.isIn K (.ref ac) au=true)
  (mS:W.findIn K (.ref ad) "__class__" = some (some (.builtin "object.__class__")))
  (mT:W.mroIn K ad (.type "object")=some true)
  (mU:W.isIn K (.ref ad) au=true)
  (mV:W.findIn K (.ref aa) "__class__" = some (some (.builtin "object.__class__")))
  (mW:W.mroIn K aa (.type "object")=some true)
  (mX:W.isIn K (.ref aa) au=true)
  (mY:W.findIn K (.ref ae) "__class__" = some (some (.builtin "object.__class__")))
  (mZ:W.mroIn K ae (.type "object")=some true)
  (m3:W.isIn K (.ref ae) au=true)
  (m5:W.findIn K (.ref af) "__class__" = some (some (.builtin "object.__class__")))
  (m6:W.mroIn K af (.type "object")=some true)
  (m7:W.isIn K (.ref af) au=true)
  (m8:FiR K ac "__eq__" aH)
  (ay:Fun K "__eq__" "Chip.__eq__" zch aH jt)
  (a7:IsF K aH)
  (ng:FiR K ad "__eq__" aH)
  (nj:FiR K aa "__eq__" aH)
  (nk:FiR K ae "__eq__" aH)
  (nq:FiR K af "__eq__" aH)
  (zY:W.nsIn K mainGlobals "any" = some none)
  (nr:NsR K "_law_draws" cW)
  (fz:Fun K "_law_draws" "_law_draws" zcF cW ju)
  (nv:NsR K "_law_ones" cX)
  (fA:Fun K "_law_ones" "_law_ones" zdo cX jv)
  (ny:NsR K "_law_few" cY)
  (fB:Fun K "_law_few" "_law_few" zep cY jw)
  (nA:NsR K "_law_size" cZ)
  (fD:Fun K "_law_size" "_law_size" zdm cZ jx)
  (nB:NsR K "_law_chip" c7)
  (fE:Fun K "_law_chip" "_law_chip" zdq c7 jy)
  (nC:NsR K "_law_chips" c8)
  (fF:Fun K "_law_chips" "_law_chips" zcG c8 jz)
  (nD:NsR K "_law_row" dc)
  (fG:Fun K "_law_row" "_law_row" zen dc jA)
  (nE:NsR K "_law_pair" de)
  (fH:Fun K "_law_pair" "_law_pair" zdn de jB)
  (nF:NsR K "_law_map" df)
  (fJ:Fun K "_law_map" "_law_map" zeo df jC)
  (nG:NsR K "_law_board" dg)
  (fK:Fun K "_law_board" "_law_board" zcH dg jD)
  (nH:NsR K "_law_chip_write" dh)
  (fL:Fun K "_law_chip_write" "_law_chip_write" zbc dh jE)
  (nI:NsR K "_law_told" di)
  (fM:Fun K "_law_told" "_law_told" zdl di jF)
  (nJ:NsR K "_law_very_ones" dj)
  (fN:Fun K "_law_very_ones" "_law_very_ones" zbl dj jG)
  (nK:NsR K "_law_by_names" dl)
  (fO:Fun K "_law_by_names" "_law_by_names" zbF dl jH)
  (nM:NsR K "_law_held" dm)
  (fP:Fun K "_law_held" "_law_held" zdp dm jI)
  (nN:NsR K "law" cb)
  (nP:K.lookup cb=some ⟨jJ,jK,.func (W.fnOf "law" "law" (zbx slaw) (za0 slaw) (zai slaw) .none dq du dw dB cg dA),jL⟩)
  (nQ:W.codeIn K cg "law" = true)
  (nR:W.keepIn K (.ref cb)=true)
  (nS:W.nsIn K mainGlobals "MOST_BITS" = some (some (.int 16 jM)))
  (nU:W.nsIn K mainGlobals "LAST_CHIP" = some (some (.int 99 jN)))
  (nV:W.nsIn K mainGlobals "LAST_WORD" = some (some (.int 255 jO)))
  (nW:W.nsIn K mainGlobals "MOST_CELLS" = some (some (.int 4096 jP)))
  (nX:W.nsIn K mainGlobals "MOST_ROOM" = some (some (.int 255 jQ)))
  (nY:W.nsIn K mainGlobals "SIXTEEN" = some (some (.str "0123456789abcdef" jR)))
  (nZ:W.nsIn K mainGlobals "READ" = some (some (.str "read" jS)))
  (n0:W.nsIn K mainGlobals "WRITE" = some (some (.str "write" jT)))
  (n5:W.nsIn K mainGlobals "BOTH" = some (some (.str "both" jU)))
  (n6:W.nsIn K mainGlobals "len" = some none)
  (n8:W.nsIn K mainGlobals "sum" = some none)
  (n9:W.nsIn K mainGlobals "all" = some none)
  (og:W.nsIn K mainGlobals "max" = some none)
  (oh:W.nsIn K mainGlobals "min" = some none)
  (oi:W.nsIn K mainGlobals "int" = some none)
  (oj:W.nsIn K mainGlobals "bool" = some none)
  (om:W.nsIn K mainGlobals "isinstance" = some none)
  (or:W.nsIn K mainGlobals "range" = some none)
  (ot:W.nsIn K mainGlobals "enumerate" = some none)
  (ou:W.nsIn K mainGlobals "zip" = some none)
  (ow:W.nsIn K mainGlobals "str" = some none)
  (oA:W.nsIn K mainGlobals "tuple" = some none)
  (oB:W.nsIn K mainGlobals "list" = some none) :
  ∃ fd:FuncData,(∀ (s:Shared) (v:Value),BindsTo s fd ⟨[v],[]⟩ [("script",v)])∧∀ base:Heap,K.In base→base.Ns mainGlobals mg→FnOk l.prog w K mg base CX0 10 fa fd ["script"] (spLaw K):=by
 have mo:∀ {x:Str} {v:Value},W.nsIn K mainGlobals x=some (some v)→mg x=some v:=fun a=>W.mg_of X G a
 have mn:∀ {x:Str},W.nsIn K mainGlobals x=some none→mg x=none:=fun a=>W.mg_none_of X G a
 have T:Blt mg:=⟨mn n6,mn n8,mn n9,mn og,mn oh,mn oi,mn oj,mn om,mn or,mn ot,mn ou,mn ow,mn oA,mn oB⟩
 have N:Nums mg:=⟨⟨_,mo nS⟩,⟨_,mo nU⟩,⟨_,mo nV⟩,⟨_,mo nW⟩,⟨_,mo nX⟩,⟨_,mo nY⟩,⟨_,mo nZ⟩,⟨_,mo n0⟩,⟨_,mo n5⟩⟩
 have oC:=zlz (st:=slaw) nP nQ nR
 have e:=hfa.symm.trans (mo nN)
 cases e
 refine ⟨W.fnOf "law" "law" (zbx slaw) (za0 slaw) (zai slaw) .none dq du dw dB cg dA,fun s v=>.of_eq rfl,fun base _ _=>?_⟩
 have cm:=@cal_mk l.prog w K mg base
 have mm:=@mth_mk l.prog w K mg base
 have fQ:=cm (zfy F_0 T) (mo jV) F_0.kp (by walk_at "bd")
 have oE:=cm (zjp F_1 T fQ) (mo jW) F_1.kp (by walk_at "bd")
 have oF:=cm (zif F_2 T fQ) (mo jX) F_2.kp (by walk_at "bd")
 have aS:=cm (zg3 F_3 T) (mo jY) F_3.kp (by walk_at "bd")
 have fR:=cm (zjo F_4 T) (mo jZ) F_4.kp (by walk_at "bd")
 have fS:=cm (zg4 F_5 T aS) (mo j0) F_5.kp (by walk_at "bd")
 have oG:=cm (zid F_6 T N aS fS) (mo j1) F_6.kp (by walk_at "bd")
 have oH:=cm (zkM F_7 T N aS fR fS oG) (mo j3) F_7.kp (by walk_at "bd")
 have oJ:=cm (zkN F_8 T oH) (mo j4) F_8.kp (by walk_at "bd")
 have oK:=cm (zmt F_9 T) (mo j5) F_9.kp (by walk_at "bd")
 have oM:=cm (zjr dC T oF) (mo j6) dC.kp (by walk_at "bd")
 have fU:=cm (zet dD T) (mo j7) dD.kp (by walk_at "bd")
 have oN:=cm (zes dE T fU) (mo j8) dE.kp (by walk_at "bd")
 have oO:=cm (zf6 dF T fU oN) (mo j9) dF.kp (by walk_at "bd")
 have oP:=cm (zig dG T oO) (mo ka) dG.kp (by walk_at "bd")
 have oQ:=cm (zie dH T) (mo kb) dH.kp (by walk_at "bd")
 have oR:=cm (zg6 dI T oK oQ) (mo ke) dI.kp (by walk_at "bd")
 have aC:=aS
 have a8:=cm (zjq dJ T N aC) (mo kf) dJ.kp (by walk_at "bd")
 have aJ:=cm (zf7 dL T a8) (mo kg) dL.kp (by walk_at "bd")
 have ba:Clm l.prog w K mg base 1 "Chip" "__init__" (spInit K):=⟨⟨au,bH,_,_,_,mo aN,kh,ki,kj,dM.kp,zew dM T,(by walk_at "bd")⟩⟩
 have oS:=cm (zf8 dO T N) (mo km) dO.kp (by walk_at "bd")
 have oU:=cm (zfx dQ T oS) (mo ko) dQ.kp (by walk_at "bd")
 have fV:=mm aq.cl ky br aA.kp (za9 (C:=ac) aA T aq) (by walk_at "bd")
 have fW:=mm aq.cl kA aW av.kp (zaM (C:=ac) av T aC fV) (by walk_at "bd")
 have oV:=mm aq.cl kB aX aw.kp (zaH (C:=ac) aw T aJ fW) (by walk_at "bd")
 have fX:=mm aq.cl kC bu aB.kp (zb4 (C:=ac) aB T aq fW) (by walk_at "bd")
 have oW:=mm aq.cl kD aY ax.kp (zba (C:=ac) ax T aq) (by walk_at "bd")
 have oX:=mm aq.cl kE ci aO.kp (zcS (C:=ac) aO T fX) (by walk_at "bd")
 have oY:=mm aq.cl kF cj aP.kp (zcm (C:=ac) aP T aq oV) (by walk_at "bd")
 have fY:=mm ar.cl kH br aA.kp (za9 (C:=ad) aA T ar) (by walk_at "bd")
 have fZ:=mm ar.cl kI aW av.kp (zaM (C:=ad) av T aC fY) (by walk_at "bd")
 have oZ:=mm ar.cl kJ aX aw.kp (zaH (C:=ad) aw T aJ fZ) (by walk_at "bd")
 have f9:=mm ar.cl kK bu aB.kp (zb4 (C:=ad) aB T ar fZ) (by walk_at "bd")
 have o3:=mm ar.cl kL aY ax.kp (zba (C:=ad) ax T ar) (by walk_at "bd")
 have o4:=mm ar.cl kM ci aO.kp (zcS (C:=ad) aO T f9) (by walk_at "bd")
 have o5:=mm ar.cl kN kO dR.kp (zfA (C:=ad) dR T oZ) (by walk_at "bd")
 have gb:=mm ak.cl kP br aA.kp (za9 (C:=aa) aA T ak) (by walk_at "bd")
 have gc:=mm ak.cl kQ aW av.kp (zaM (C:=aa) av T aC gb) (by walk_at "bd")
 have o6:=mm ak.cl kR aX aw.kp (zaH (C:=aa) aw T aJ gc) (by walk_at "bd")
 have gf:=mm ak.cl kS bu aB.kp (zb4 (C:=aa) aB T ak gc) (by walk_at "bd")
 have o7:=mm ak.cl kT aY ax.kp (zba (C:=aa) ax T ak) (by walk_at "bd")
 have o8:=mm ak.cl kU ci aO.kp (zcS (C:=aa) aO T gf) (by walk_at "bd")
 have pb:=mm ak.cl kW cj aP.kp (zcm (C:=aa) aP T ak o6) (by walk_at "bd")
 have gh:=mm al.cl kY br aA.kp (za9 (C:=ae) aA T al) (by walk_at "bd")
 have gj:=mm al.cl kZ aW av.kp (zaM (C:=ae) av T aC gh) (by walk_at "bd")
 have pc:=mm al.cl k4 aX aw.kp (zaH (C:=ae) aw T aJ gj) (by walk_at "bd")
 have gk:=mm al.cl k6 bu aB.kp (zb4 (C:=ae) aB T al gj) (by walk_at "bd")
 have pd:=mm al.cl k7 aY ax.kp (zba (C:=ae) ax T al) (by walk_at "bd")
 have pe:=mm al.cl k8 k9 dS.kp (zge (C:=ae) dS T N al gk) (by walk_at "bd")
 have pf:=mm al.cl lc cj aP.kp (zcm (C:=ae) aP T al pc) (by walk_at "bd")
 have gm:=mm am.cl le lf dU.kp (zeS (C:=af) dU T am) (by walk_at "bd")
 have gn:=mm am.cl lg aW av.kp (zaM (C:=af) av T aC gm) (by walk_at "bd")
 have ph:=mm am.cl lh aX aw.kp (zaH (C:=af) aw T aJ gn) (by walk_at "bd")
 have gp:=mm am.cl li lj dW.kp (zhe (C:=af) dW T am gn) (by walk_at "bd")
 have pq:=mm am.cl ll aY ax.kp (zba (C:=af) ax T am) (by walk_at "bd")
 have pr:=mm am.cl lm lq dX.kp (zhd (C:=af) dX T am gp) (by walk_at "bd")
 have pw:=mm am.cl lr lw dY.kp (zgd (C:=af) dY T am ph) (by walk_at "bd")
 have py:FnOk l.prog w K mg base CX0 3 bb _ ["self","cells","word"] (spMkSH ac):=zdU (C:=ac) dZ T N aq aC a8 ba
 have pz:Mak l.prog w K mg base 3 "Store" ac [] (dP []) (spMkSH ac):=zco (mo kr) lx lz lB ly py (dZ.kbinds (ps:=["self","cells","word"]) (ks:=[]) (g:=dP []) lA rfl (fun _ _ _ _ _ _ us ws hl=>(by have hl':us.length=3:=(by have h:=hl;unfold dP at h;rw [Xaq] at h;have h2:(["self","cells","word"]:List Str).length=3:=rfl;simp only [Xau,XaY] at h;omega);exact (by apply ln3 us hl';intro _ _ _;exact ⟨_,rfl,rfl⟩))) (Vals.dP (show Vals ([]:List V) ([]:List Value) from .nil)))
 have pA:FnOk l.prog w K mg base CX0 3 bc _ ["self","words"] (spMkFH ad):=zdX (C:=ad) d6 T N ar a8 ba
 have pB:Mak l.prog w K mg base 3 "Fixed" ad [] (dP []) (spMkFH ad):=zco (mo kG) lC lE lF lD pA (d6.kbinds (ps:=["self","words"]) (ks:=[]) (g:=dP []) (fun _ _ _ _ _ _ us ws hl=>(by have hl':us.length=2:=(by have h:=hl;unfold dP at h;rw [Xaq] at h;have h2:(["self","words"]:List Str).length=2:=rfl;simp only [Xau,XaY] at h;omega);exact (by apply ln2 us hl';intro _ _;exact rfl))) (Vals.dP (show Vals ([]:List V) ([]:List Value) from .nil)))
 have gq:FnOk l.prog w K mg base CX0 3 bd _ ["self","word"] (spMk1H aa "latch"):=zdW (C:=aa) cp T ak a8 ba
 have pC:Mak l.prog w K mg base 3 "Latch" aa [] (dP []) (spMk1H aa "latch"):=zco (mo ck) eg eE eG eB gq (cp.kbinds (ps:=["self","word"]) (ks:=[]) (g:=dP []) eF rfl (fun _ _ _ _ _ _ us ws hl=>(by have hl':us.length=2:=(by have h:=hl;unfold dP at h;rw [Xaq] at h;have h2:(["self","word"]:List Str).length=2:=rfl;simp only [Xau,XaY] at h;omega);exact (by apply ln2 us hl';intro _ _;exact ⟨_,rfl,rfl⟩))) (Vals.dP (show Vals ([]:List V) ([]:List Value) from .nil)))
 have pD:Mak l.prog w K mg base 3 "Latch" aa [] (dP [.int 0]) (spMk1H aa "latch"):=zco (mo ck) eg eE eG eB gq (cp.kbinds (ps:=["self","word"]) (ks:=[]) (g:=dP [.int 0 bO]) eF rfl (fun _ _ _ _ _ _ us ws hl=>(by have hl':us.length=1:=(by have h:=hl;unfold dP at h;rw [Xaq] at h;have h2:(["self","word"]:List Str).length=2:=rfl;simp only [Xau,XaY] at h;omega);exact (by apply ln1 us hl';intro _;exact ⟨_,rfl,rfl⟩))) (Vals.dP (show Vals [V.int 0] [Value.int 0 bO] from .cons ⟨_,rfl⟩ .nil)))
 have pE:FnOk l.prog w K mg base CX0 3 be _ ["self","word"] (spMk1H ae "meter"):=zdV (C:=ae) eJ T al a8 ba
 have pF:Mak l.prog w K mg base 3 "Meter" ae [] (dP []) (spMk1H ae "meter"):=zco (mo kX) lG lI lK lH pE (eJ.kbinds (ps:=["self","word"]) (ks:=[]) (g:=dP []) lJ rfl (fun _ _ _ _ _ _ us ws hl=>(by have hl':us.length=2:=(by have h:=hl;unfold dP at h;rw [Xaq] at h;have h2:(["self","word"]:List Str).length=2:=rfl;simp only [Xau,XaY] at h;omega);exact (by apply ln2 us hl';intro _ _;exact ⟨_,rfl,rfl⟩))) (Vals.dP (show Vals ([]:List V) ([]:List Value) from .nil)))
 have pG:FnOk l.prog w K mg base CX0 3 bf _ ["self","room"] (spMkP af):=zev (C:=af) eK T N am aC oU ba
 have pH:Mak l.prog w K mg base 3 "Pipe" af [] (dP []) (spMkP af):=zco (mo ld) lL lN lP lM pG (eK.kbinds (ps:=["self","room"]) (ks:=[]) (g:=dP []) lO rfl (fun _ _ _ _ _ _ us ws hl=>(by have hl':us.length=2:=(by have h:=hl;unfold dP at h;rw [Xaq] at h;have h2:(["self","room"]:List Str).length=2:=rfl;simp only [Xau,XaY] at h;omega);exact (by apply ln2 us hl';intro _ _;exact ⟨_,rfl,rfl⟩))) (Vals.dP (show Vals ([]:List V) ([]:List Value) from .nil)))
 have MS:∀ kd,kd<5→Mth l.prog w K mg base 1 ((csOf ac ad aa ae af) kd) "state" [] (fun vs _=>vs) (spState ((csOf ac ad aa ae af) kd)):=fun kd h=>by
  rcases (show kd=0∨kd=1∨kd=2∨kd=3∨kd=4 by omega) with rfl | rfl | rfl | rfl | rfl
  ·exact oW
  ·exact o3
  ·exact o7
  ·exact pd
  ·exact pq
 have ML:∀ kd,kd<5→Mth l.prog w K mg base 1 ((csOf ac ad aa ae af) kd) "__len__" [] (fun vs _=>vs) (spLen ((csOf ac ad aa ae af) kd) (lenK kd)):=fun kd h=>by
  rcases (show kd=0∨kd=1∨kd=2∨kd=3∨kd=4 by omega) with rfl | rfl | rfl | rfl | rfl
  ·exact fV
  ·exact fY
  ·exact gb
  ·exact gh
  ·exact gm
 have MW:∀ kd,kd<5→Mth l.prog w K mg base 5 ((csOf ac ad aa ae af) kd) "write" [] (fun vs _=>vs) (spW25 (csOf ac ad aa ae af) kd):=fun kd h=>by
  rcases (show kd=0∨kd=1∨kd=2∨kd=3∨kd=4 by omega) with rfl | rfl | rfl | rfl | rfl
  ·exact za1 oY (zgL (cs:=(csOf ac ad aa ae af)) (.inl rfl))
  ·exact za1 o5 (zlN (cs:=(csOf ac ad aa ae af)))
  ·exact za1 pb (zgL (cs:=(csOf ac ad aa ae af)) (.inr (.inl rfl)))
  ·exact za1 pf (zgL (cs:=(csOf ac ad aa ae af)) (.inr (.inr rfl)))
  ·exact za1 pw (w_pipe (cs:=(csOf ac ad aa ae af)))
 have MR:∀ kd,kd<5→Mth l.prog w K mg base 5 ((csOf ac ad aa ae af) kd) "read" [] (fun vs _=>vs) (spR26 (csOf ac ad aa ae af) kd):=fun kd h=>by
  rcases (show kd=0∨kd=1∨kd=2∨kd=3∨kd=4 by omega) with rfl | rfl | rfl | rfl | rfl
  ·exact za1 oX (zeq (cs:=(csOf ac ad aa ae af)) (.inl rfl))
  ·exact za1 o4 (zeq (cs:=(csOf ac ad aa ae af)) (.inr (.inl rfl)))
  ·exact za1 o8 (zeq (cs:=(csOf ac ad aa ae af)) (.inr (.inr rfl)))
  ·exact za1 pe (zi8 (cs:=(csOf ac ad aa ae af)))
  ·exact za1 pr (zkA (cs:=(csOf ac ad aa ae af)))
 have MK:∀ kd,kd<5→Mth l.prog w K mg base 5 ((csOf ac ad aa ae af) kd) "look" [] (fun vs _=>vs) (spL26 (csOf ac ad aa ae af) kd):=fun kd h=>by
  rcases (show kd=0∨kd=1∨kd=2∨kd=3∨kd=4 by omega) with rfl | rfl | rfl | rfl | rfl
  ·exact za1 (fX.mono (by decide)) (zcp (cs:=(csOf ac ad aa ae af)) (by decide))
  ·exact za1 (f9.mono (by decide)) (zcp (cs:=(csOf ac ad aa ae af)) (by decide))
  ·exact za1 (gf.mono (by decide)) (zcp (cs:=(csOf ac ad aa ae af)) (by decide))
  ·exact za1 (gk.mono (by decide)) (zcp (cs:=(csOf ac ad aa ae af)) (by decide))
  ·exact za1 (gp.mono (by decide)) (zkW (cs:=(csOf ac ad aa ae af)))
 have pI:=cm (zic (cs:=(csOf ac ad aa ae af)) eN T oE (mo ck) (zct lS) (fun e=>.ins e ak.cl lQ aQ aR lR) ML) (mo lT) eN.kp (by walk_at "bd")
 have pJ:=cm (zg5 (cs:=(csOf ac ad aa ae af)) eO T N aS oJ pI) (mo lU) eO.kp (by walk_at "bd")
 have pK:=cm (zfz eP T oP) (mo lV) eP.kp (by walk_at "bd")
 have bG:FnOk l.prog w K mg base CX0 7 bg _ ["self","bits","rows","chips","floating"] (spInitB ag (csOf ac ad aa ae af)):=zdZ (C:=ag) aZ T (mn zS) ai pJ pK aJ
 have pL:Mak l.prog w K mg base 7 "Board" ag [] (dP [.int 0]) (spInitB ag (csOf ac ad aa ae af)):=zco (mo bv) bx bB bD bA bG (aZ.kbinds (ps:=["self","bits","rows","chips","floating"]) (ks:=[]) (g:=dP [.int 0 aV]) bC rfl (fun _ _ _ _ _ _ us ws hl=>(by have hl':us.length=4:=(by have h:=hl;unfold dP at h;rw [Xaq] at h;have h2:(["self","bits","rows","chips","floating"]:List Str).length=5:=rfl;simp only [Xau,XaY] at h;omega);exact (by apply ln4 us hl';intro _ _ _ _;exact ⟨_,rfl,rfl⟩))) (Vals.dP (show Vals [V.int 0] [Value.int 0 aV] from .cons ⟨_,rfl⟩ .nil)))
 have pM:Mak l.prog w K mg base 7 "Board" ag [] (dP []) (spInitB ag (csOf ac ad aa ae af)):=zco (mo bv) bx bB bD bA bG (aZ.kbinds (ps:=["self","bits","rows","chips","floating"]) (ks:=[]) (g:=dP []) bC rfl (fun _ _ _ _ _ _ us ws hl=>(by have hl':us.length=5:=(by have h:=hl;unfold dP at h;rw [Xaq] at h;have h2:(["self","bits","rows","chips","floating"]:List Str).length=5:=rfl;simp only [Xau,XaY] at h;omega);exact (by apply ln5 us hl';intro _ _ _ _ _;exact ⟨_,rfl,rfl⟩))) (Vals.dP (show Vals ([]:List V) ([]:List Value) from .nil)))
 have pN:Mak l.prog w K mg base 7 "Board" ag ["floating","chips","rows","bits"] (kpm 1 4 [3,2,1,0] []) (spInitB ag (csOf ac ad aa ae af)):=zco (mo bv) bx bB bD bA bG (aZ.kbinds (ps:=["self","bits","rows","chips","floating"]) (ks:=["floating","chips","rows","bits"]) (g:=kpm 1 4 [3,2,1,0] []) bC rfl (fun _ _ _ _ _ _ us ws hl=>(by obtain ⟨h1,h2⟩:=zc6 (c:=4) hl;clear hl;exact (by apply ln1 us h1;intro _;apply ln4 ws h2;intro _ _ _ _;exact ⟨_,rfl,rfl⟩))) (zbf (show Vals ([]:List V) ([]:List Value) from .nil)))
 have pO:Mak l.prog w K mg base 7 "Board" ag ["chips"] (kpm 3 1 [0,1] [.int 0]) (spInitB ag (csOf ac ad aa ae af)):=zco (mo bv) bx bB bD bA bG (aZ.kbinds (ps:=["self","bits","rows","chips","floating"]) (ks:=["chips"]) (g:=kpm 3 1 [0,1] [.int 0 aV]) bC rfl (fun _ _ _ _ _ _ us ws hl=>(by obtain ⟨h1,h2⟩:=zc6 (c:=4) hl;clear hl;exact (by apply ln3 us h1;intro _ _ _;apply ln1 ws h2;intro _;exact ⟨_,rfl,rfl⟩))) (zbf (show Vals [V.int 0] [Value.int 0 aV] from .cons ⟨_,rfl⟩ .nil)))
 have sk:∀ es:Array DictEntry,es.toList.all (fun e=>match e.key with | .str _ _=>true | _=>false)=true→StrKeys es:=fun es h e he=>strKey (Xbd.mp h e (Array.mem_toList_iff.mpr he))
 have xc:XCls K ah:=⟨⟨_,_,_,_,xl⟩,c1_,c2_,c3_,c4_,c5_⟩
 have GS:SupI K mg "BusError" := ⟨⟨aG,mo lX,s1_,s2_,s3_⟩⟩
 have gu:ExcI K ah aM:=⟨⟨_,_,_,_,_,_,_,_,_,_,_,_,_,_,_,xl,⟨_,_,_,_,_,xn,sk _ xs,lZ⟩,.own yl ⟨_,_,_,_,_,yn,sk _ ys,yi⟩ .base⟩,xa⟩
 have pP:XIni l.prog w K mg base 1 "NoAddress" ah (spNaI ah):=by
  obtain ⟨oI,h1,h2⟩:=zjP l5
  exact ⟨mo lW,aM,_,_,oI,gu,⟨h1,h2⟩,zcw l4 T GS gu lY,(by walk_at "bd")⟩
 have gw:=mm ai.cls l7 l8 eQ.kp (zey (C:=ag) eQ T ai aS fR) (by walk_at "bd")
 have pQ:FnOk l.prog w K mg base (CX1 l.prog w) 3 bh _ ["self","address"] (spChkAdX ag ah):=zcn (C:=ag) (CT:=ah) eR T gw pP
 have gx:=zju ai.cls l9 ma eR.kp pQ (by walk_at "bd")
 have qI:=gx.calm
 have MK2:=MK 2 (by decide)
 have gy:FnOk l.prog w K mg base (CX1 l.prog w) 6 bi _ ["self","address"] (spWhoX ag ah (csOf ac ad aa ae af)):=zhf (C:=ag) (CT:=ah) (cs:=(csOf ac ad aa ae af)) bE T ai oR oM gx MK2
 have gz:=zju ai.cls eS eU bE.kp gy (by walk_at "bd")
 have gA:=gz.calm
 have pR:MthX l.prog w K mg base 6 ag "who" ["address"] (kpm 1 1 [0] []) (spWhoX ag ah (csOf ac ad aa ae af)):=zd3 ai.cls eS eU bE.kp gy (bE.kbinds (ps:=["self","address"]) (ks:=["address"]) (g:=kpm 1 1 [0] []) (fun _ _ _ _ _ _ us ws hl=>(by obtain ⟨h1,h2⟩:=zc6 (c:=1) hl;clear hl;exact (by apply ln1 us h1;intro _;apply ln1 ws h2;intro _;exact rfl))) (zbf (show Vals ([]:List V) ([]:List Value) from .nil)))
 have pS:=pR.calm
 have gB:=mm ai.cls me mf eZ.kp (zeT (C:=ag) eZ T ai) (by walk_at "bd")
 have pT:FnOk l.prog w K mg base CX0 1 bj _ ["self","mask","want","kind"] (spWtI K aj):=zdT (C:=aj) fb T bF
 have pU:Mak l.prog w K mg base 1 "Watch" aj [] (dP []) (spWtI K aj):=zco (mo mh) mi ml mq mj pT (fb.kbinds (ps:=["self","mask","want","kind"]) (ks:=[]) (g:=dP []) (fun _ _ _ _ _ _ us ws hl=>(by have hl':us.length=4:=(by have h:=hl;unfold dP at h;rw [Xaq] at h;have h2:(["self","mask","want","kind"]:List Str).length=4:=rfl;simp only [Xau,XaY] at h;omega);exact (by apply ln4 us hl';intro _ _ _ _;exact rfl))) (Vals.dP (show Vals ([]:List V) ([]:List Value) from .nil)))
 have pV:=mm bF.cls mr mv fe.kp (zgc (C:=aj) fe T N bF) (by walk_at "bd")
 have gC:=mm ai.cls mw mx ff.kp (zez (C:=ag) ff T ai) (by walk_at "bd")
 have gD:=mm ai.cls my mz fg.kp (zeU (C:=ag) (CW:=aj) fg T ai pV) (by walk_at "bd")
 have cx:FnOk l.prog w K mg base (CX1 l.prog w) 7 bn _ ["self","address","quiet"] (spRdX ag ah aj (csOf ac ad aa ae af)):=zgf (C:=ag) (CT:=ah) (CW:=aj) (cs:=(csOf ac ad aa ae af)) aI T N ai gz gC gD MK MR
 have pW:MthX l.prog w K mg base 7 ag "read" ["quiet","address"] (kpm 1 2 [1,0] []) (spRdX ag ah aj (csOf ac ad aa ae af)):=zd3 ai.cls cq cu aI.kp cx (aI.kbinds (ps:=["self","address","quiet"]) (ks:=["quiet","address"]) (g:=kpm 1 2 [1,0] []) cr rfl (fun _ _ _ _ _ _ us ws hl=>(by obtain ⟨h1,h2⟩:=zc6 (c:=2) hl;clear hl;exact (by apply ln1 us h1;intro _;apply ln2 ws h2;intro _ _;exact ⟨_,rfl,rfl⟩))) (zbf (show Vals ([]:List V) ([]:List Value) from .nil)))
 have pX:=pW.calm
 have pY:MthX l.prog w K mg base 7 ag "read" ["address","quiet"] (kpm 1 2 [0,1] []) (spRdX ag ah aj (csOf ac ad aa ae af)):=zd3 ai.cls cq cu aI.kp cx (aI.kbinds (ps:=["self","address","quiet"]) (ks:=["address","quiet"]) (g:=kpm 1 2 [0,1] []) cr rfl (fun _ _ _ _ _ _ us ws hl=>(by obtain ⟨h1,h2⟩:=zc6 (c:=2) hl;clear hl;exact (by apply ln1 us h1;intro _;apply ln2 ws h2;intro _ _;exact ⟨_,rfl,rfl⟩))) (zbf (show Vals ([]:List V) ([]:List Value) from .nil)))
 have pZ:=pY.calm
 have p0:MthX l.prog w K mg base 7 ag "read" ["address"] (kpm 1 1 [0,1] [.bl false]) (spRdX ag ah aj (csOf ac ad aa ae af)):=zd3 ai.cls cq cu aI.kp cx (aI.kbinds (ps:=["self","address","quiet"]) (ks:=["address"]) (g:=kpm 1 1 [0,1] [.bool false]) cr rfl (fun _ _ _ _ _ _ us ws hl=>(by obtain ⟨h1,h2⟩:=zc6 (c:=2) hl;clear hl;exact (by apply ln1 us h1;intro _;apply ln1 ws h2;intro _;exact ⟨_,rfl,rfl⟩))) (zbf (show Vals [V.bl false] [Value.bool false] from .cons rfl .nil)))
 have qa:=p0.calm
 have qc:FnOk l.prog w K mg base CX0 7 bp _ ["self","address","word"] (spWrB ag aj (csOf ac ad aa ae af)):=zfB (C:=ag) (CT:=ah) (CW:=aj) (cs:=(csOf ac ad aa ae af)) cv T N aJ gA gC gD MW
 have qd:Mth l.prog w K mg base 7 ag "write" ["word","address"] (kpm 1 2 [1,0] []) (spWrB ag aj (csOf ac ad aa ae af)):=zfD ai.cls mC mD cv.kp qc (cv.kbinds (ps:=["self","address","word"]) (ks:=["word","address"]) (g:=kpm 1 2 [1,0] []) (fun _ _ _ _ _ _ us ws hl=>(by obtain ⟨h1,h2⟩:=zc6 (c:=2) hl;clear hl;exact (by apply ln1 us h1;intro _;apply ln2 ws h2;intro _ _;exact rfl))) (zbf (show Vals ([]:List V) ([]:List Value) from .nil)))
 have qe:=mm ai.cls mE mF fh.kp (zeA (C:=ag) fh T ai) (by walk_at "bd")
 have qf:=mm ai.cls mG mH fi.kp (zex (C:=ag) fi T ai) (by walk_at "bd")
 have cy:=mm ai.cls mI mJ fj.kp (zdY (C:=ag) fj T ai) (by walk_at "bd")
 have gE:FnOk l.prog w K mg base CX0 4 bq _ ["self","mask","want","kind"] (spWatchC ag aj):=zfC (C:=ag) (CW:=aj) a6 T N ai gw pU
 have qg:Mth l.prog w K mg base 4 ag "watch" ["want","mask"] (kpm 1 2 [1,0,2] [.str "both"]) (spWatchC ag aj):=zfD ai.cls fk fo a6.kp gE (a6.kbinds (ps:=["self","mask","want","kind"]) (ks:=["want","mask"]) (g:=kpm 1 2 [1,0,2] [.str "both" bX]) fm rfl (fun _ _ _ _ _ _ us ws hl=>(by obtain ⟨h1,h2⟩:=zc6 (c:=3) hl;clear hl;exact (by apply ln1 us h1;intro _;apply ln2 ws h2;intro _ _;exact ⟨_,rfl,rfl⟩))) (zbf (show Vals [V.str "both"] [Value.str "both" bX] from .cons ⟨_,rfl⟩ .nil)))
 have qh:Mth l.prog w K mg base 4 ag "watch" ["want","kind","mask"] (kpm 1 3 [2,0,1] []) (spWatchC ag aj):=zfD ai.cls fk fo a6.kp gE (a6.kbinds (ps:=["self","mask","want","kind"]) (ks:=["want","kind","mask"]) (g:=kpm 1 3 [2,0,1] []) fm rfl (fun _ _ _ _ _ _ us ws hl=>(by obtain ⟨h1,h2⟩:=zc6 (c:=3) hl;clear hl;exact (by apply ln1 us h1;intro _;apply ln3 ws h2;intro _ _ _;exact ⟨_,rfl,rfl⟩))) (zbf (show Vals ([]:List V) ([]:List Value) from .nil)))
 have qi:=mm ai.cls mK mL fq.kp (zcT (C:=ag) (CW:=aj) fq T ai) (by walk_at "bd")
 have qj:=mm ai.cls mM mO fu.kp (zgg (C:=ag) (CW:=aj) fu T ai bF qi) (by walk_at "bd")
 have CK5:∀ kd,kd<5→ClsOk K ((csOf ac ad aa ae af) kd):=fun kd h=>by
  rcases (show kd=0∨kd=1∨kd=2∨kd=3∨kd=4 by omega) with rfl | rfl | rfl | rfl | rfl
  ·exact aq
  ·exact ar
  ·exact ak
  ·exact al
  ·exact am
 have TY5:∀ kd,kd<5→TyC K ((csOf ac ad aa ae af) kd) au:=fun kd h=>by
  rcases (show kd=0∨kd=1∨kd=2∨kd=3∨kd=4 by omega) with rfl | rfl | rfl | rfl | rfl
  ·exact ⟨mP,aQ,aR,mQ,zct mR⟩
  ·exact ⟨mS,aQ,aR,mT,zct mU⟩
  ·exact ⟨mV,aQ,aR,mW,zct mX⟩
  ·exact ⟨mY,aQ,aR,mZ,zct m3⟩
  ·exact ⟨m5,aQ,aR,m6,zct m7⟩
 have qk:=mm aq.cl m8 a7 ay.kp (za5 (cs:=(csOf ac ad aa ae af)) (kd:=0) ay T (by decide) CK5 TY5 (mo aN)) (by walk_at "bd")
 have ql:=mm ar.cl ng a7 ay.kp (za5 (cs:=(csOf ac ad aa ae af)) (kd:=1) ay T (by decide) CK5 TY5 (mo aN)) (by walk_at "bd")
 have qm:=mm ak.cl nj a7 ay.kp (za5 (cs:=(csOf ac ad aa ae af)) (kd:=2) ay T (by decide) CK5 TY5 (mo aN)) (by walk_at "bd")
 have qo:=mm al.cl nk a7 ay.kp (za5 (cs:=(csOf ac ad aa ae af)) (kd:=3) ay T (by decide) CK5 TY5 (mo aN)) (by walk_at "bd")
 have qp:=mm am.cl nq a7 ay.kp (za5 (cs:=(csOf ac ad aa ae af)) (kd:=4) ay T (by decide) CK5 TY5 (mo aN)) (by walk_at "bd")
 have ME:∀ kd,kd<5→Mth l.prog w K mg base 1 ((csOf ac ad aa ae af) kd) "__eq__" [] (fun vs _=>vs) (spCEq (csOf ac ad aa ae af) kd):=fun kd h=>by
  rcases (show kd=0∨kd=1∨kd=2∨kd=3∨kd=4 by omega) with rfl | rfl | rfl | rfl | rfl
  ·exact qk
  ·exact ql
  ·exact qm
  ·exact qo
  ·exact qp
 have qq:=cm (zf9 fz T) (mo nr) fz.kp (by walk_at "bd")
 have qr:=cm (zha fA T) (mo nv) fA.kp (by walk_at "bd")
 have qt:=cm (zij fB T qr) (mo ny) fB.kp (by walk_at "bd")
 have qu:=cm (zg8 fD T) (mo nA) fD.kp (by walk_at "bd")
 have qv:=cm (zhc (cs:=(csOf ac ad aa ae af)) fE T pB pH pC pF pz) (mo nB) fE.kp (by walk_at "bd")
 have qw:=cm (zga (cs:=(csOf ac ad aa ae af)) fF T qv) (mo nC) fF.kp (by walk_at "bd")
 have qx:=cm (zih (cs:=(csOf ac ad aa ae af)) fG T qt qu) (mo nD) fG.kp (by walk_at "bd")
 have qy:=cm (zg9 fH T (mn zS)) (mo nE) fH.kp (by walk_at "bd")
 have qz:=cm (zii (cs:=(csOf ac ad aa ae af)) fJ T qx qy) (mo nF) fJ.kp (by walk_at "bd")
 have qA:=cm (zgb (cs:=(csOf ac ad aa ae af)) fK T qw qz) (mo nG) fK.kp (by walk_at "bd")
 have qB:=cm (zdA fL T) (mo nH) fL.kp (by walk_at "bd")
 have qC:=cm (zg7 (C:=ag) (cs:=(csOf ac ad aa ae af)) fM T (mn zY) cy qf qe gB ME) (mo nI) fM.kp (by walk_at "bd")
 have qD:=cm (zdS (C:=ag) (CW:=aj) (cs:=(csOf ac ad aa ae af)) fN T cy MW qB MS) (mo nJ) fN.kp (by walk_at "bd")
 have qE:=cm (zeu (C:=ag) (CA:=ah) (CT:=ah) (CW:=aj) (cs:=(csOf ac ad aa ae af)) fO T qg qh pX pZ qa pS gA qd gB qj) (mo nK) fO.kp (by walk_at "bd")
 have qF:=cm (zhb (C:=ag) (CW:=aj) (cs:=(csOf ac ad aa ae af)) fP T qq qA pL pM pN pO pD qC cy qD qE) (mo nM) fP.kp (by walk_at "bd")
 exact oklaw oC T qF
theorem walk {l:W.OpenLaw}{q:Program}{loose:List Str}{XP:(Str→Option Value)→Heap→Prop}{YP:World→Heap→Prop}{d:DefRec}{K:Params→W.Frag}(hn:l.most=some 63)(hdf:d.params.defaults=[])
  (hY:∀ (w:World) (h:Heap),YP w h→(K w.params).In h)
  (F:∀ (w:World) (mg:Str→Option Value) (fa:Addr) (h:Heap),(K w.params).In h→h.Ns mainGlobals mg→mg d.name=some (.ref fa) →
   ∃ fd:FuncData,(∀ (s:Shared) (u:Value),BindsTo s fd ⟨[u],[]⟩ [("script",u)])∧∀ base:Heap,(K w.params).In base→base.Ns mainGlobals mg→FnOk l.prog w (K w.params) mg base CX0 10 fa fd ["script"] (spLaw (K w.params))) :
  W.WalkO q loose XP YP l.row.toRowW d [] (fun f vs=>PySem.call f vs):=
 L2.walk_ofB (n:=63) (k:=10) (x := "script") (CX:=fun _=>CX0) (sp:=fun w=>spLaw (K w.params)) hn (by decide) hdf ⟨rfl,by decide,by decide,rfl⟩ hY F (fun _ _ a ns hl hb _ hS=>⟨a,ns,rfl,hS,hl,hb,fun _=>rfl⟩) fun _ _ _ _ _ z=>z
end Cb
open PySem PySem.W PyProof.Rows Cb L2
local macro_rules | `(tactic| walk_at "fm")=>`(tactic| (refine' zlz ?l ?c ?k;(case l=>k_is);(case c=>k_is);(case k=>k_is)))
local macro_rules | `(tactic| walk_at "fd")=>`(tactic| (refine' zmD ?l ?c ?k;(case l=>k_is);(case c=>k_is);(case k=>k_is)))
local macro_rules | `(tactic| walk_at "na")=>`(tactic| (show W.findIn _ _ _=_;k_is))
local macro_rules | `(tactic| walk_at "nr")=>`(tactic| (show W.nsIn _ _ _=some (some _);k_is))
local macro_rules | `(tactic| walk_at "nf")=>`(tactic| (show W.findIn _ _ _=some (some _);k_is))
local macro_rules | `(tactic| walk_at "ni")=>`(tactic| (show W.isFn _ _=true;k_is))
local macro_rules | `(tactic| walk_at "cs")=>`(tactic| exact ⟨by k_is,by k_is,by k_is,by k_is⟩)
local macro_rules | `(tactic| walk_at "cl")=>`(tactic| exact ⟨by walk_at "cs",by walk_at "na",by walk_at "na",by walk_at "na"⟩)
local macro_rules | `(tactic| walk_at "cb")=>`(tactic| exact ⟨by walk_at "cs",by walk_at "na",by walk_at "na",by walk_at "na",by walk_at "na",by walk_at "na",by walk_at "na",by walk_at "na"⟩)
local macro_rules | `(tactic| walk_at "cw")=>`(tactic| exact ⟨by walk_at "cs",by walk_at "na",by walk_at "na",by walk_at "na",by walk_at "na"⟩)
local macro_rules | `(tactic| walk_at "cv")=>`(tactic| exact ⟨by walk_at "cs",by walk_at "na",by walk_at "na",by walk_at "na",by walk_at "na",by walk_at "na",by walk_at "na"⟩)
set_option maxRecDepth 1000000 in
set_option maxHeartbeats 0 in
theorem PySem.Challenge.cw_chipbus_k31_boards_made_holds : PySem.Challenge.rw_chipbus_k31_boards_made.Holds := by
 refine Hd.top ?_
 k_fill
 refine Cb.walk (l:=PySem.Challenge.rw_chipbus_k31_boards_made) rfl rfl (fun w h Y=>PySem.W.kIn_of Y) ?F
 case F =>
  intro w mg fa h KX G hmg
  refine' Cb.all_mk KX G hmg ?_ ?_ ?_ ?_ ?_ ?_ ?_ ?_ ?_ ?_ ?_ ?_ ?_ ?_ ?_ ?_ ?_ ?_ ?_ ?_ ?_ ?_ ?_ ?_ ?_ ?_ ?_ ?_ ?_ ?_ ?_ ?_ ?_ ?_ ?_ ?_ ?_ ?_ ?_ ?_ ?_ ?_ ?_ ?_ ?_ ?_ ?_ ?_ ?_ ?_ ?_ ?_ ?_ ?_ ?_ ?_ ?_ ?_ ?_ ?_ ?_ ?_ ?_ ?_ ?_ ?_ ?_ ?_ ?_ ?_ ?_ ?_ ?_ ?_ ?_ ?_ ?_ ?_ ?_ ?_ ?_ ?_ ?_ ?_ ?_ ?_ ?_ ?_ ?_ ?_ ?_ ?_ ?_ ?_ ?_ ?_ ?_ ?_ ?_ ?_ ?_ ?_ ?_ ?_ ?_ ?_ ?_ ?_ ?_ ?_ ?_ ?_ ?_ ?_ ?_ ?_ ?_ ?_ ?_ ?_ ?_ ?_ ?_ ?_ ?_ ?_ ?_ ?_ ?_ ?_ ?_ ?_ ?_ ?_ ?_ ?_ ?_ ?_ ?_ ?_ ?_ ?_ ?_ ?_ ?_ ?_ ?_ ?_ ?_ ?_ ?_ ?_ ?_ ?_ ?_ ?_ ?_ ?_ ?_ ?_ ?_ ?_ ?_ ?_ ?_ ?_ ?_ ?_ ?_ ?_ ?_ ?_ ?_ ?_ ?_ ?_ ?_ ?_ ?_ ?_ ?_ ?_ ?_ ?_ ?_ ?_ ?_ ?_ ?_ ?_ ?_ ?_ ?_ ?_ ?_ ?_ ?_ ?_ ?_ ?_ ?_ ?_ ?_ ?_ ?_ ?_ ?_ ?_ ?_ ?_ ?_ ?_ ?_ ?_ ?_ ?_ ?_ ?_ ?_ ?_ ?_ ?_ ?_ ?_ ?_ ?_ ?_ ?_ ?_ ?_ ?_ ?_ ?_ ?_ ?_ ?_ ?_ ?_ ?_ ?_ ?_ ?_ ?_ ?_ ?_ ?_ ?_ ?_ ?_ ?_ ?_ ?_ ?_ ?_ ?_ ?_ ?_ ?_ ?_ ?_ ?_ ?_ ?_ ?_ ?_ ?_ ?_ ?_ ?_ ?_ ?_ ?_ ?_ ?_ ?_ ?_ ?_ ?_ ?_ ?_ ?_ ?_ ?_ ?_ ?_ ?_ ?_ ?_ ?_ ?_ ?_ ?_ ?_ ?_ ?_ ?_ ?_ ?_ ?_ ?_ ?_ ?_ ?_ ?_ ?_ ?_ ?_ ?_ ?_ ?_ ?_ ?_ ?_ ?_ ?_ ?_ ?_ ?_ ?_ ?_ ?_ ?_ ?_ ?_ ?_ ?_ ?_
  all_goals first | walk_at "nr" | walk_at "fm" | walk_at "cl" | walk_at "nf" | walk_at "ni" | walk_at "fd" | walk_at "cb" | walk_at "cw" | k_is | rfl | (intro _;rfl) | skip
#print axioms PySem.Challenge.cw_chipbus_k31_boards_made_holds
