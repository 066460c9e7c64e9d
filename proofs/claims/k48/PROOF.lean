import PyProof.Rows.All
import Wide.All
import OpenK.AllK
import Wide.FinOn
import Lean
import PyProof.EqAt
import PyProof.EqKinds
import PyProof.TupleCall
import PyProof.NeKinds
import PyProof.DelItemList
import PyProof.StationsW
import PyProof.Rows.Own
import PyProof.RulesDel
import PyProof.RulesAs
import PyProof.ExcBaseAll.ValueError
import KE.KTryMore
import PyProof.ExcArgs
import KE.KIsAll
import PyProof.ListRange
import PyProof.Rows.RuleM_int
import PyProof.Draws
import PyProof.EnumMake
import KE.KDictSum
import KE.KItemsList
import KE.KSortTup
import PyProof.MinMaxWalk
import PyProof.WalkInts
import PyProof.CallTypeRange
import KE.KEqDict
import PyProof.FitsInt
import PyProof.Rows.StrNews
import KE.KIntText
import PyProof.StrWalks
import PyProof.Rows.StrRules
import KE.KUnpackStar
import PyProof.StrLawsTight
import PyProof.StrLawsChain
import PyProof.Rows.StrClose
import PyProof.SetRoads
import PyProof.DictCompW
import PyProof.ReprRoads
import PyProof.ReprLen
import PyProof.AttrMissHeap
import KE.KDictOf
import PyProof.DictWalks
import PyProof.SeqI3
import PySem.Challenge.RW_chipbus_k48_movers_refused
set_option genSizeOf false
set_option bootstrap.genMatcherCode false
set_option tactic.hygienic false
section
open PySem PySem.W PySem.Spec PyProof.Rows
def Xaa:=@wpAny_bind
def Xab:=@Heap.get?_push_of_some
def Xac:=@wpAny_pure
def Xad:=@List.mem_singleton
def Xae:=@Nat.le_refl
def Xaf:=@Nat.lt_of_lt_of_le
def Xag:=@Heap.get?_push_size
def Xah:=@Heap.lt_size
def Xai:=@Int.toNat_natCast
def Xaj:=@List.size_toArray
def Xak:=@Bool.false_ne_true
def Xal:=@List.length_map
def Xam:=@Nat.le_trans
def Xan:=@List.length_append
def Xao:=@decide_eq_false
def Xap:=@List.mem_append_right
def Xaq:=@List.mem_cons
def Xar:=@List.getElem?_eq_some_iff
def Xas:=@decide_eq_true
def Xat:=@Nat.ne_of_lt
def Xau:=@List.length_cons
def Xav:=@List.getElem?_map
def Xaw:=@wpAny_mono
def Xax:=@List.getElem?_eq_getElem
def Xay:=@List.mem_cons_of_mem
def Xaz:=@wpAny_holding
def XaA:=@List.mem_append_left
def XaB:=@List.getElem?_eq_none
def XaC:=@Heap.size_push
def XaD:=@Heap.get?_update_self
def XaE:=@Array.getElem?_eq_getElem
def XaF:=@Heap.get?_update_other
def XaG:=@Nat.testBit_and
def XaH:=@Nat.pow_le_pow_right
def XaI:=@wpAny_field
def XaJ:=@wpAny_newObj_type
def XaK:=@List.mem_of_getElem?
def XaL:=@Nat.lt_irrefl
def XaM:=@wpAny_call_entry
def XaN:=@of_decide_eq_true
def XaO:=@Option.map_eq_some_iff
def XaP:=@List.mem_append
def XaQ:=@wpAny_truthy_bool
def XaR:=@List.nodup_append
def XaS:=@wpAny_setField
def XaT:=@List.mem_cons_self
def XaU:=@List.length_nil
def XaV:=@wpAny_askSetting
def XaW:=@List.replicate_succ
def XaX:=@List.length_range
def XaY:=@Bool.and_eq_true
def XaZ:=@Nat.testBit_succ
def Xa0:=@wpAny_seqItems
def Xa1:=@wpAny_setState_of
def Xa2:=@List.map_append
def Xa3:=@Nat.lt_succ_self
def Xa4:=@wpAny_standAt
def Xa5:=@Nat.testBit_two_pow
def Xa6:=@List.length_take
def Xa7:=@wpAny_Call_Name_kw
def Xa8:=@Array.getElem?_toList
def Xa9:=@Nat.lt_of_le_of_lt
def Xba:=@wpAny_call
def Xbb:=@codeAny_mono
def Xbc:=@List.map_cons
def Xbd:=@List.mem_nil_iff
def Xbe:=@List.getElem_mem
def Xbf:=@Nat.ne_of_gt
def Xbg:=@List.mem_map
def Xbh:=@wpAny_passesOwn
def Xbi:=@List.nodup_cons
def Xbj:=@List.length_replicate
def Xbk:=@Array.getElem?_eq_some_iff
def Xbl:=@Heap.get?_none_of_le
def Xbm:=@wpAny_rule
def Xbn:=@Nat.le_succ
def Xbo:=@wpAny_typeOf
def Xbp:=@List.all_eq_true
def Xbq:=@wpAny_attempt
def Xbr:=@wpAny_pyIter_tuple
def Xbs:=@List.append_nil
def Xbt:=@Bool.or_eq_true
def Xbu:=@wpAny_setField_rec
def Xbv:=@List.getElem?_set_self
def Xbw:=@List.take_of_length_le
end
set_option Elab.async false
set_option linter.all false
set_option maxRecDepth 100000
set_option maxHeartbeats 4000000
local macro_rules | `(tactic| omega)=>`(tactic| lia)
section
set_option maxRecDepth 1000000
set_option maxHeartbeats 0
namespace Hd
open PySem PySem.W
noncomputable def runQ (p:Program)(w:World)(n₀:Nat)(ann:Option Value)(N:Nat):SharedT→Thread→Option SharedT:=
 @Nat.rec (fun _=>SharedT→Thread→Option SharedT) (fun _ _=>none) (fun _ ih s t=>match through t with
  | true=>some s
  | false=>match Fast.tw6613529449190102663 n₀ ann t with
   | false=>none
   | true=>match Fast.tw10156331382660048174 (Fast.tw11892475500146522536 Fast.tw14364793385576792824) p w s t with
    | some (s',t')=>ih s' t'
    | none=>none) N
theorem ziR {p:Program}{w:World}{n₀:Nat}{ann:Option Value}:∀ {N:Nat} {s s':SharedT} {t:Thread},runQ p w n₀ ann N s t=some s'→topRun treeTable p w n₀ ann N s.abs t=some s'.abs
 | 0,s,s',t,h=>by cases h
 | N+1,s,s',t,h=>by
  have h:(match through t with
  | true=>some s
  | false=>match Fast.tw6613529449190102663 n₀ ann t with
   | false=>none
   | true=>match Fast.tw10156331382660048174 (Fast.tw11892475500146522536 Fast.tw14364793385576792824) p w s t with
    | some (s',t')=>runQ p w n₀ ann N s' t'
    | none=>none)=some s':=h
  rw [← Fast.te6613529449190102663,← Fast.te10156331382660048174,← Fast.te11892475500146522536,← Fast.te14364793385576792824] at h
  unfold topRun
  cases ht:through t with
  | true=>rw [ht] at h;cases h;rfl
  | false =>
   rw [ht] at h
   cases hk:stepOk n₀ ann t with
   | false=>rw [hk] at h;cases h
   | true =>
    rw [hk] at h
    cases hs:stepT (denote treeTable) p w s t with
    | none=>rw [hs] at h;cases h
    | some r=>obtain ⟨s₂,t₂⟩:=r;rw [hs] at h;dsimp only;rw [stepT_spec hs];exact ziR h
noncomputable def treeL:List Obj→Nat→BT→BT:=@List.rec Obj (fun _=>Nat→BT→BT) (fun _ t=>t) (fun o _ ih n t=>ih (n+1) (t.ins n o))
noncomputable def zjV (P:Params):BT:=treeL (boot_heap P).objs.toList 0 .nil
theorem ziM (P:Params):absHeap (zjV P) 11 (boot_heap P).life=boot_heap P:=by kernel_rfl
theorem zhS (P:Params):((boot_heap P).isNs mainGlobals && (Array.mk []:Array GenState).size == 0,(boot_heap P).objs.size,(boot_heap P).nsMap mainGlobals "__annotations__")=(true,11,some (.ref 6)):=by kernel_rfl
noncomputable def zep (P:Params)(os:OsState):SharedT:=⟨zjV P,11,(boot_heap P).life,Array.mk [],boot_drawn,boot_toks,os⟩
noncomputable def getT (s:SharedT)(a:Addr):Option Obj:=match Nat.blt a s.n with
 | true=>match s.tree.get a with
  | some o=>alive o
  | none=>none
 | false=>none
theorem zjQ {s:SharedT}{a:Addr}{o:Obj}(h:getT s a=some o):s.abs.heap.get? a=some o:=by
 unfold getT at h
 cases e:Nat.blt a s.n with
 | false=>rw [e] at h;cases h
 | true =>
  rw [e] at h
  cases g:s.tree.get a with
  | none=>rw [g] at h;cases h
  | some x=>rw [g] at h;exact (abs_get (Nat.le_of_ble_eq_true e) g).trans h
theorem zfV {s:SharedT}:∀ {as:List Addr} {L:List (Nat×Obj)},as.map (getT s)=L.map (fun p=>some p.2)→as.map s.abs.heap.get? = L.map (fun p=>some p.2)
 | [],[],_=>rfl
 | [],_ :: _,h=>by cases h
 | _ :: _,[],h=>by cases h
 | a :: as,p :: L,h=>by
  obtain ⟨h1,h2⟩:=List.cons.inj h
  exact List.cons_eq_cons.mpr ⟨zjQ h1,zfV h2⟩
abbrev zf0 (p q:Program)(loose:List Str)(Xt:Shared→Bool)(N:Nat)(g0:Bool)(w:World)(os:OsState):Prop:=(runQ p w 11 (some (.ref 6)) N (zep w.params os) (topStub p)).map (fun s =>
   ((staticsOk (importedModules p.main.body) (boot_heap w.params) s.abs.heap && namesBound p s.abs.heap && gensDone s.abs && laidKept (boot_heap w.params) s.abs.heap),openSeen q loose (importedModules p.main.body) Xt g0 s.abs))=some (true,openGood q loose)
def zjc (p q:Program)(loose:List Str)(Xt:Shared→Bool)(N:Nat)(g0:Bool):Prop:=∀ (w:World) (os:OsState),zf0 p q loose Xt N g0 w os
def SeenF (row:String)(b:Bool)(p q:Program)(loose:List Str)(Xt:Shared→Bool)(N:Nat)(g0:Bool):Prop:=∀ (w:World) (os:OsState),zf0 p q loose Xt N g0 (w.withFollow row b) os
theorem zfA {p q:Program}{loose:List Str}{Xt:Shared→Bool}{K:Params→Frag}{as:List Addr}{ex:∀ P,as=(K P).map (·.1)}{N:Nat}{g0:Bool}{w:World}(h:∀ os,zf0 p q loose Xt N g0 w os)(e:opening p=plainProg p.main.scope.names)(f:∀ s,fenceModules? p s=some s)(hN:Nat.ble 600 N=true)
  (hK:∀ os:OsState,(runQ p w 11 (some (.ref 6)) N (zep w.params os) (topStub p)).map (fun s=>as.map (getT s))=some ((K w.params).map fun p=>some p.2)) :
  (openEnds treeTable p w N).map (fun s=>(openSeen q loose (importedModules p.main.body) Xt g0 s,(kHook K as ex).obs s))=some (openGood q loose,(kHook K as ex).val w):=by
 have ho:=boot_open e hN f w
 obtain ⟨⟨hh,gs,d,k,os⟩,e1,e2⟩:=XaO.mp ho
 obtain ⟨rfl,rfl,rfl,rfl⟩:hh=boot_heap w.params∧gs=Array.mk []∧d=boot_drawn∧k=boot_toks:=by simpa using e2
 obtain ⟨z1,z2,z3⟩:_∧_∧_:=by simpa only [Prod.mk.injEq] using zhS w.params
 obtain ⟨s,r,l⟩:=XaO.mp (h os)
 obtain ⟨s',r',l'⟩:=XaO.mp (hK os)
 rw [r] at r'
 cases r'
 have l3:=zfV l'
 obtain ⟨l1,l2⟩:_∧_:=by simpa only [Prod.mk.injEq] using l
 have r:=ziR r
 have ea:(zep w.params os).abs=⟨boot_heap w.params,Array.mk [],boot_drawn,boot_toks,os⟩:=by
  show (⟨absHeap (zjV w.params) 11 (boot_heap w.params).life,Array.mk [],boot_drawn,boot_toks,os⟩:Shared)=_
  rw [ziM]
 rw [ea] at r
 have t:topFrom treeTable p w N ⟨boot_heap w.params,Array.mk [],boot_drawn,boot_toks,os⟩=some s.abs:=by
  unfold topFrom
  dsimp only
  rw [z1,z2,z3,r]
  show (match staticsOk (importedModules p.main.body) (boot_heap w.params) s.abs.heap && namesBound p s.abs.heap && gensDone s.abs && laidKept (boot_heap w.params) s.abs.heap with | true=>_ | false=>_)=_
  rw [l1]
 unfold openEnds
 rw [e1]
 show (topFrom treeTable p w N _).map _=_
 rw [t]
 exact congrArg some (Prod.ext l2 l3)
open PySem.Calls PyProof.Rows in
abbrev G1 (p q:Program)(N:Nat)(w:World)(os:OsState):Prop:=(runQ p w 11 (some (.ref 6)) N (zep w.params os) (topStub p)).map (fun s =>
   ((staticsOk (importedModules p.main.body) (boot_heap w.params) s.abs.heap && namesBound p s.abs.heap && gensDone s.abs && laidKept (boot_heap w.params) s.abs.heap),seen ((recsOf q).map (·.name)) (ownsOf q) [] { s.abs with gens:=#[] }))=some (true,expectedOf q)
open PySem.Calls PyProof.Rows in
abbrev G2 (p q:Program)(loose:List Str)(Xt:Shared→Bool)(N:Nat)(g0:Bool)(w:World)(os:OsState):Prop:=(runQ p w 11 (some (.ref 6)) N (zep w.params os) (topStub p)).map (fun s =>
   (s.abs.heap.bltView,s.abs.heap.keysOk (looseW q loose) ((recsOf q).map (·.name)) ((litsOf q).map (·.1)) ((clssOf q (looseW q loose)).map (·.name)) && s.abs.heap.accountedOkI (importedModules p.main.body) && s.abs.heap.isNs mainGlobals && s.abs.heap.isNs builtinsNs && tablesOk q s.abs.heap && Xt s.abs && (if g0 then s.abs.gens.size == 0 else !leftWithCleanup s.abs.gens),tabsOk q s.abs,pinSeenD q (drecsOf q) s.abs))=some (bltViewBooted,true,true,pinGoodD (drecsOf q))
open PySem.Calls PyProof.Rows in
abbrev G3 (p q:Program)(loose:List Str)(N:Nat)(w:World)(os:OsState):Prop:=(runQ p w 11 (some (.ref 6)) N (zep w.params os) (topStub p)).map (fun s =>
   (plainSeenE q (looseW q loose) s.abs,plainSeenD q loose s.abs,wideSeen q s.abs,clsSeenW q loose s.abs))=some (plainGoodE q (looseW q loose),plainGoodD q loose,wideGood q,clsGoodW q loose)
theorem nine {α A B C D E F G H I J:Type}{o:Option α}{f:α→A}{g:α→B}{f1:α→C}{f2:α→D}{f3:α→E}{f4:α→F}{f5:α→G}{f6:α→H}{f7:α→I}{f8:α→J}{a:A}{b:B}{c:C}{d:D}{e:E}{i:F}{j:G}{k:H}{l:I}{m:J}(h:o.map (fun s=>(f s,g s))=some (a,b))(h':o.map (fun s=>(f1 s,f2 s,f3 s,f4 s))=some (c,d,e,i))(h'':o.map (fun s=>(f5 s,f6 s,f7 s,f8 s))=some (j,k,l,m)) :
  o.map (fun s=>(f s,g s,f1 s,f2 s,f3 s,f4 s,f5 s,f6 s,f7 s,f8 s))=some (a,b,c,d,e,i,j,k,l,m):=by
 cases o with
 | none=>cases h
 | some s=>cases h;cases h';cases h'';rfl
theorem zjo {p q:Program}{loose:List Str}{Xt:Shared→Bool}{N:Nat}{g0:Bool}{w:World}{os:OsState}(h:G1 p q N w os)(h':G2 p q loose Xt N g0 w os)(h'':G3 p q loose N w os):zf0 p q loose Xt N g0 w os:=nine h h' h''
theorem left_of {p q:Program}{loose:List Str}{Xt:Shared→Bool}{K:Params→Frag}{as:List Addr}{ex:∀ P,as=(K P).map (·.1)}{N:Nat}{g0:Bool}(h:zjc p q loose Xt N g0)(e:opening p=plainProg p.main.scope.names)(f:∀ s,fenceModules? p s=some s)(hN:Nat.ble 600 N=true)
  (hK:∀ (w:World) (os:OsState),(runQ p w 11 (some (.ref 6)) N (zep w.params os) (topStub p)).map (fun s=>as.map (getT s))=some ((K w.params).map fun p=>some p.2)) :
  LeftO p q loose Xt (kHook K as ex).obs (kHook K as ex).val N g0:=fun w=>zfA (h w) e f hN (hK w)
theorem left_split {p q:Program}{loose:List Str}{Xt:Shared→Bool}{K:Params→Frag}{as:List Addr}{ex:∀ P,as=(K P).map (·.1)}{N:Nat}{g0:Bool}(row:String)(h:SeenF row false p q loose Xt N g0)(h':SeenF row true p q loose Xt N g0)(e:opening p=plainProg p.main.scope.names)(f:∀ s,fenceModules? p s=some s)(hN:Nat.ble 600 N=true)
  (hK:∀ (w:World) (os:OsState),(runQ p (w.withFollow row false) 11 (some (.ref 6)) N (zep (w.withFollow row false).params os) (topStub p)).map (fun s=>as.map (getT s))=some ((K (w.withFollow row false).params).map fun p=>some p.2))
  (hK':∀ (w:World) (os:OsState),(runQ p (w.withFollow row true) 11 (some (.ref 6)) N (zep (w.withFollow row true).params os) (topStub p)).map (fun s=>as.map (getT s))=some ((K (w.withFollow row true).params).map fun p=>some p.2)) :
  LeftO p q loose Xt (kHook K as ex).obs (kHook K as ex).val N g0:=fun w=>by
 have z:=World.withFollow_self w row
 cases hb:w.params.followText row <;> rw [hb] at z
 ·have:=zfA (ex:=ex) (h w) e f hN (hK w)
  rw [z] at this;exact this
 ·have:=zfA (ex:=ex) (h' w) e f hN (hK' w)
  rw [z] at this;exact this
end Hd
end
section
set_option maxRecDepth 1000000
set_option maxHeartbeats 0
namespace Hd
open PySem PySem.W
def vw:Program:=PySem.W.view PySem.Challenge.pw_chipbus_k48_movers_refused [0,2,3,4,5,6,7,8,9,10,11,12,13,15,16,17,19,20,21,22,24,25,26,27,28,29,30,31,33,35,36,37,39,40,41,42,43,44,45,46,48,49,50,51,52,53,54,56,57,58,59,60,61,62,63,64,66,67,68,69,70,71,72,73,74,75,76,77,78,79,80,81,82,83,84,85,86,87]
def ls:List Str:=["Store","Latch","Meter","Pipe","Board"]
theorem g1:∀ (w:World) (os:OsState),G1 PySem.Challenge.rw_chipbus_k48_movers_refused.row.prog vw 15318 w os:=by
 intro w os
 kernel_rfl
theorem g2:∀ (w:World) (os:OsState),G2 PySem.Challenge.rw_chipbus_k48_movers_refused.row.prog vw ls (fun s=>xlAt vw [] s && recOk (RowW.records (OpenRow.toRowW (OpenLaw.row PySem.Challenge.rw_chipbus_k48_movers_refused))) s) 15318 true w os:=by
 intro w os
 kernel_rfl
theorem g3:∀ (w:World) (os:OsState),G3 PySem.Challenge.rw_chipbus_k48_movers_refused.row.prog vw ls 15318 w os:=by
 intro w os
 kernel_rfl
theorem h1:zjc PySem.Challenge.rw_chipbus_k48_movers_refused.row.prog vw ls (fun s=>xlAt vw [] s && recOk (RowW.records (OpenRow.toRowW (OpenLaw.row PySem.Challenge.rw_chipbus_k48_movers_refused))) s) 15318 true:=fun w os=>zjo (g1 w os) (g2 w os) (g3 w os)
end Hd
open PySem PySem.W in
local macro_rules | `(tactic| o_head $H)=>`(tactic| (
 refine holds_open (q:=Hd.vw) (loose:=Hd.ls) (Xt:=fun s=>xlAt Hd.vw [] s && recOk (RowW.records (OpenRow.toRowW (OpenLaw.row PySem.Challenge.rw_chipbus_k48_movers_refused))) s) (XP:=XL Hd.vw []) (Yf:=Hook.obs $H) (Ya:=Hook.val $H) (YP:=Hook.says $H) (N:=15318) ?hl (Hook.of $H) (Hook.keeps $H) (fun s e=>xl_of s (Bool.and_eq_true_iff.mp e).1) XL.keeps (by rfl) (by rfl) (by rfl) (fun s e=>recFacts_of (Bool.and_eq_true_iff.mp e).2) (by rfl) (by first | assumption | decide +kernel) (by decide +kernel) ⟨rfl,rfl,rfl,rfl,rfl,by decide +kernel⟩ ?hw ?hc
 (case hl=>refine Hd.left_of Hd.h1 (by kernel_rfl) (fun s=>by kernel_rfl) rfl ?h2;(case h2=>(intro w os;kernel_rfl)))))
open_top Hd.top for PySem.Challenge.rw_chipbus_k48_movers_refused
end
section
namespace L2
open PySem PySem.Spec PyProof.Rows
abbrev Key:=Sum Int Str
def keyIs:Key→Value→Bool
 | .inl k,v=>Value.isInt k v
 | .inr x,v=>Value.isStrOf x v
def keyH (w:World):Key→Int
 | .inl k=>hashInt k
 | .inr x=>hashStr w x
theorem zaE:∀ {k:Key} {v:Value},keyIs k v=true→(∃ i t,k=Sum.inl i∧v=Value.int i t)∨(∃ x t,k=Sum.inr x∧v=Value.str x t)
 | .inl i,v,h=>by
  obtain ⟨t,e⟩:=Value.isInt_shape (k:=i) (v:=v) h
  exact .inl ⟨i,t,rfl,e⟩
 | .inr x,v,h=>by
  obtain ⟨t,e⟩:=Value.isStrOf_shape (x:=x) (v:=v) h
  exact .inr ⟨x,t,rfl,e⟩
theorem key_ll (a b:Int):decide ((Sum.inl a:Key)=Sum.inl b)=(a == b):=by
 by_cases e:a=b
 ·subst e;simp
 ·have h:¬ (Sum.inl a:Key)=Sum.inl b:=fun q=>e (Sum.inl.inj q)
  rw [Xao h]
  exact (beq_eq_false_iff_ne.mpr e).symm
theorem key_rr (a b:Str):decide ((Sum.inr a:Key)=Sum.inr b)=decide (a=b):=by
 by_cases e:a=b
 ·subst e;simp
 ·have h:¬ (Sum.inr a:Key)=Sum.inr b:=fun q=>e (Sum.inr.inj q)
  rw [Xao h,Xao e]
theorem key_lr (a:Int)(b:Str):decide ((Sum.inl a:Key)=Sum.inr b)=false:=Xao (fun q=>nomatch q)
theorem key_rl (a:Str)(b:Int):decide ((Sum.inr a:Key)=Sum.inl b)=false:=Xao (fun q=>nomatch q)
def zfy (prog:Program)(w:World):PySem.KeyKind prog w Key where
 is:=keyIs
 hash:=keyH w
 inj:=fun v a b ha hb=>by
  rcases zaE ha with ⟨i,t,rfl,rfl⟩ | ⟨x,t,rfl,rfl⟩
  ·rcases zaE hb with ⟨j,u,rfl,e⟩ | ⟨y,u,rfl,e⟩
   ·injection e with e1 _;rw [e1]
   ·exact nomatch e
  ·rcases zaE hb with ⟨j,u,rfl,e⟩ | ⟨y,u,rfl,e⟩
   ·exact nomatch e
   ·injection e with e1 _;rw [e1]
 byValue:=fun k v h=>by
  rcases zaE h with ⟨i,t,rfl,rfl⟩ | ⟨x,t,rfl,rfl⟩ <;> rfl
 pyHash:=fun hv h=>by
  rcases zaE hv with ⟨i,t,rfl,rfl⟩ | ⟨x,t,rfl,rfl⟩
  ·exact wpAny_pyHash_int h
  ·exact wpAny_pyHash_str h
 eqBool:=fun hu hv h=>by
  rcases zaE hu with ⟨i,t,rfl,rfl⟩ | ⟨x,t,rfl,rfl⟩
  ·rcases zaE hv with ⟨j,u,rfl,rfl⟩ | ⟨y,u,rfl,rfl⟩
   ·rw [key_ll] at h;exact wpAny_eqBool_int h
   ·rw [key_lr] at h;exact SeqAt.EqAt.int_str i t y u _ _ _ _ h
  ·rcases zaE hv with ⟨j,u,rfl,rfl⟩ | ⟨y,u,rfl,rfl⟩
   ·rw [key_rl] at h;exact SeqAt.EqAt.str_int x t j u _ _ _ _ h
   ·rw [key_rr] at h;exact wpAny_eqBool_str h
 «strs»:=fun k x t v h=>by
  rcases zaE h with ⟨i,u,rfl,e⟩ | ⟨y,u,rfl,e⟩
  ·exact nomatch e
  ·injection e with e1 _
   subst e1
   cases v <;> rfl
inductive V where
 | non | bl (b:Bool) | int (i:Int) | str (x:Str) | byt (b:Array UInt8) | flt (b:UInt64) | ref (a:Addr) | ty (n:String)
 deriving DecidableEq
def RelV:V→Value→Prop
 | .non,u=>u=Value.none
 | .bl b,u=>u=Value.bool b
 | .int i,u=>∃ t,u=Value.int i t
 | .str x,u=>∃ t,u=Value.str x t
 | .byt b,u=>∃ t,u=Value.bytes b t
 | .flt b,u=>∃ t,u=Value.float b t
 | .ref a,u=>u=Value.ref a
 | .ty n,u=>u=Value.type n
abbrev Vals:List V→List Value→Prop:=Paired RelV
theorem Vals.length {xs:List V}{us:List Value}(r:Vals xs us):xs.length=us.length:=Paired.length r
theorem Vals.get:∀ {xs:List V} {us:List Value} {i:Nat} {x:V},Vals xs us→xs[i]? = some x→∃ u,us[i]? = some u∧RelV x u
 | _,_,_,_,.nil,e=>by simp at e
 | _,_,0,_,.cons r _,e=>by simp at e;subst e;exact ⟨_,rfl,r⟩
 | _,_,i+1,x,.cons _ t,e=>by
  obtain ⟨u,h1,h2⟩:=Vals.get (i:=i) (x:=x) t (by simpa using e)
  exact ⟨u,by simpa using h1,h2⟩
theorem Vals.set {x:V}{u:Value}(r:RelV x u):∀ {xs:List V} {us:List Value} (i:Nat),Vals xs us→Vals (xs.set i x) (us.set i u)
 | _,_,_,.nil=>.nil
 | _,_,0,.cons _ t=>.cons r t
 | _,_,i+1,.cons q t=>.cons q (Vals.set r i t)
theorem Vals.append:∀ {xs ys:List V} {us ws:List Value},Vals xs us→Vals ys ws→Vals (xs ++ ys) (us ++ ws)
 | _,_,_,_,.nil,s=>s
 | _,_,_,_,.cons r t,s=>.cons r (Vals.append t s)
theorem Vals.take:∀ {xs:List V} {us:List Value} (n:Nat),Vals xs us→Vals (xs.take n) (us.take n)
 | _,_,0,_=>.nil
 | _,_,_+1,.nil=>.nil
 | _,_,n+1,.cons r t=>.cons r (Vals.take n t)
theorem Vals.drop:∀ {xs:List V} {us:List Value} (n:Nat),Vals xs us→Vals (xs.drop n) (us.drop n)
 | _,_,0,r=>r
 | _,_,_+1,.nil=>.nil
 | _,_,n+1,.cons _ t=>Vals.drop n t
def RelO:Option V→Option Value→Prop
 | some v,some u=>RelV v u
 | none,none=>True
 | _,_=>False
def KV {κ:Type}:List (κ×V)→List (κ×Value)→Prop:=Paired fun (p:κ×V) (q:κ×Value)=>p.1=q.1∧RelV p.2 q.2
def kV:Key→V
 | .inl i=>.int i
 | .inr x=>.str x
inductive HO where
 
 | lst (xs:List V)
 
 | tup (xs:List V)
 
 | dK (kvs:List (Key×V)) | dT (kvs:List (List Key×V))
 
 | set (S:Int→Bool) (n:Nat)
 
 | ins (C dx:Addr) (fs:List (Str×V))
 
 | own (x:Addr)
 
 | xd (fs:List (Str×V))
 
 | met (f x:Addr)
 
 | rng (lo hi:Int)
 
 | frz (o:Obj) (u:HO)
 
 | tbl (ps:Array Value)
 
 | ext (φ:Heap→Prop)
abbrev Hp:=Addr→Option HO
def upd (H:Hp)(a:Addr)(o:HO):Hp:=fun b=>if b=a then some o else H b
theorem zab {H:Hp}{a:Addr}{o:HO}:upd H a o a=some o:=by unfold upd;rw [if_pos rfl]
theorem zah {H:Hp}{a b:Addr}{o:HO}(h:b≠a):upd H a o b=H b:=by unfold upd;rw [if_neg h]
theorem zaj {H:Hp}{a b:Addr}{o:HO}(h:H a=some o)(h':H b=none):a≠b:=by
 intro e;subst e;rw [h] at h';cases h'
section
variable (P:Program)(w:World)
def ObjOk (H:Hp)(h:Heap)(a:Addr):HO→Prop
 | .lst xs=>xs.length≤sizeLine∧∃ (its:List Value) (n:Nat),Vals xs its∧h.get? a=some { cls:=.type "list",data:=.seq its.toArray n }
 | .tup xs=>(xs.length≤sizeLine∧∃ o,h.get? a=some o∧o.dict=none)∧∃ its:List Value,Vals xs its∧IsTup h a its.toArray
 | .dK kvs=>kvs.length≤sizeLine∧(a == sysModules)=false∧∃ vs,KV kvs vs∧h.DictOf (zfy P w) a vs
 | .dT kvs=>kvs.length≤sizeLine∧(a == sysModules)=false∧∃ xs:List (List Key×Addr×Value),
   Paired (fun (p:List Key×V) (q:List Key×Addr×Value)=>p.1=q.1∧H q.2.1=some (.tup (p.1.map kV))∧RelV p.2 q.2.2) kvs xs ∧
   ∃ o es ep,h.get? a=some o∧o.ExactDict∧o.data = .dict es ep∧es.toList=xs.map (entryOfKey (tupleKind (zfy P w)))∧(xs.map (·.1)).Nodup
 | .set S n=>h.SetOf (intKind P w) a S n
 | .ins C dx fs=>H dx=some (.own a)∧fs.length≤1000∧dx≠a∧h.get? a=some (W.instObj C dx) ∧
   ∃ mA,h.Ns1 dx mA∧(∀ f,RelO (fs.lookup f) (mA f))∧PySem.Within mA (fs.map (·.1))
 | .own _=>∃ o,h.get? a=some o
 | .xd fs=>∃ mA,h.Ns1 a mA∧∀ f,RelO (fs.lookup f) (mA f)
 | .rng lo hi=>∃ t u v,h.get? a=some { cls:=.type "range",data:=.fields #[.int lo t,.int hi u,.int 1 v] }
 | .frz o u=>h.get? a=some o∧ObjOk H h a u
 | .tbl ps=>h.get? a=some { cls:=.none,data:=.fields ps }
 | .met f x=>h.get? a=some (W.methodObj (.ref f) (.ref x))
 | .ext φ=>φ h∧(∃ o,h.get? a=some o)∧∀ h1 h2:Heap,φ h1→(∀ o,h1.get? a=some o→h2.get? a=some o)→φ h2
def HOk (H:Hp)(h:Heap):Prop:=∀ a o,H a=some o→ObjOk P w H h a o
end
section
variable {P:Program}{w:World}{H H':Hp}{h h':Heap}{a:Addr}{o:HO}
theorem ObjOk.lt (x:ObjOk P w H h a o):a<h.objs.size:=by
 cases o with
 | lst xs=>obtain ⟨_,_,_,_,e⟩:=x;exact Xah e
 | tup xs=>obtain ⟨_,_,_,p⟩:=x;exact p.lt
 | dK kvs=>obtain ⟨_,_,_,_,o,_,_,e,_⟩:=x;exact Xah e
 | dT kvs=>obtain ⟨_,_,_,_,o,_,_,e,_⟩:=x;exact Xah e
 | set S n=>obtain ⟨o,_,_,_,e,_⟩:=x;exact Xah e
 | ins C dx fs=>obtain ⟨_,_,_,e,_⟩:=x;exact Xah e
 | own y=>obtain ⟨_,e⟩:=x;exact Xah e
 | xd fs=>obtain ⟨_,⟨_,_,_,e,_⟩,_⟩:=x;exact Xah e
 | rng lo hi=>obtain ⟨_,_,_,e⟩:=x;exact Xah e
 | frz ob u=>obtain ⟨e,_⟩:=x;exact Xah e
 | tbl ps=>exact Xah (show h.get? a=some _ from x)
 | met f y=>exact Xah (show h.get? a=some _ from x)
 | ext φ=>obtain ⟨_,⟨_,e⟩,_⟩:=x;exact Xah e
theorem Paired.mapP {α β:Type}{F G:α→β→Prop}:∀ {l₁:List α} {l₂:List β},Paired F l₁ l₂→(∀ a b,F a b→G a b)→Paired G l₁ l₂
 | _,_,.nil,_=>.nil
 | _,_,.cons r t,f=>.cons (f _ _ r) (Paired.mapP t f)
theorem ObjOk.stay (x:ObjOk P w H h a o)(k:∀ b u,(b=a∨H b=some (.own a))→h.get? b=some u→h'.get? b=some u)
  (ho:∀ b,H b=some (.own a)→H' b=some (.own a)) (ht:∀ b xs,H b=some (.tup xs)→H' b=some (.tup xs)):ObjOk P w H' h' a o:=by
 induction o with
 | lst xs=>obtain ⟨z,its,n,r,e⟩:=x;exact ⟨z,its,n,r,k _ _ (.inl rfl) e⟩
 | tup xs=>obtain ⟨⟨z,o,eo,dn⟩,its,r,ob,e,c⟩:=x;exact ⟨⟨z,o,k _ _ (.inl rfl) eo,dn⟩,its,r,ob,k _ _ (.inl rfl) e,c⟩
 | dK kvs=>obtain ⟨z,y,vs,r,ob,es,ep,e,c⟩:=x;exact ⟨z,y,vs,r,ob,es,ep,k _ _ (.inl rfl) e,c⟩
 | dT kvs =>
  obtain ⟨z,y,xs,r,ob,es,ep,e,c⟩:=x
  exact ⟨z,y,xs,Paired.mapP r fun p q z=>⟨z.1,ht _ _ z.2.1,z.2.2⟩,ob,es,ep,k _ _ (.inl rfl) e,c⟩
 | set S n=>obtain ⟨ob,es,ep,t,e,c⟩:=x;exact ⟨ob,es,ep,t,k _ _ (.inl rfl) e,c⟩
 | ins C dx fs =>
  obtain ⟨d,z,ne,e,mA,⟨od,es,ep,e2,c⟩,r⟩:=x
  exact ⟨ho _ d,z,ne,k _ _ (.inl rfl) e,mA,⟨od,es,ep,k _ _ (.inr d) e2,c⟩,r⟩
 | own y=>obtain ⟨ob,e⟩:=x;exact ⟨ob,k _ _ (.inl rfl) e⟩
 | xd fs=>obtain ⟨mA,⟨od,es,ep,e,c⟩,r⟩:=x;exact ⟨mA,⟨od,es,ep,k _ _ (.inl rfl) e,c⟩,r⟩
 | rng lo hi=>obtain ⟨t,u,v,e⟩:=x;exact ⟨t,u,v,k _ _ (.inl rfl) e⟩
 | frz ob u ih=>obtain ⟨e,q⟩:=x;exact ⟨k _ _ (.inl rfl) e,ih q⟩
 | tbl ps =>
  have e:h.get? a=some { cls:=.none,data:=.fields ps }:=x
  show h'.get? a=some { cls:=.none,data:=.fields ps }
  exact k a _ (.inl rfl) e
 | met f y =>
  have e:h.get? a=some (W.methodObj (.ref f) (.ref y)):=x
  show h'.get? a=some (W.methodObj (.ref f) (.ref y))
  exact k a _ (.inl rfl) e
 | ext φ=>obtain ⟨p,⟨o,e⟩,st⟩:=x;exact ⟨st _ _ p fun o q=>k _ _ (.inl rfl) q,⟨o,k _ _ (.inl rfl) e⟩,st⟩
theorem HOk.lt (x:HOk P w H h)(e:H a=some o):a<h.objs.size:=(x a o e).lt
theorem HOk.fresh (x:HOk P w H h)(e:h.objs.size≤a):H a=none:=by
 cases q:H a with
 | none=>rfl
 | some u=>exact absurd (Xaf (x.lt q) e) (XaL _)
theorem HOk.kept (x:HOk P w H h)(k:∀ b u,h.get? b=some u→h'.get? b=some u):HOk P w H h':=fun a o e =>
 (x a o e).stay (fun b u _ q=>k b u q) (fun _ q=>q) fun _ _ q=>q
theorem HOk.laid (x:HOk P w H h)(k:∀ b u,h.get? b=some u→h'.get? b=some u)(hp:h.objs.size≤a)(new:ObjOk P w (upd H a o) h' a o):HOk P w (upd H a o) h':=fun b u e=>by
 have hn:=x.fresh hp
 by_cases hb:b=a
 ·subst hb;rw [zab] at e;cases e;exact new
 ·rw [zah hb] at e
  exact (x b u e).stay (fun c v _ q=>k c v q) (fun c q=>by rw [zah (zaj q hn)];exact q) fun c xs q=>by rw [zah (zaj q hn)];exact q
end
def Rd (H:Hp)(a:Addr)(u:HO):Prop:=H a=some u∨∃ o,H a=some (.frz o u)
theorem Rd.ok {P:Program}{w:World}{H:Hp}{h:Heap}{a:Addr}{u:HO}(r:Rd H a u)(x:HOk P w H h):ObjOk P w H h a u:=by
 rcases r with r | ⟨o,r⟩
 ·exact x a u r
 ·obtain ⟨_,q⟩:=x a _ r
  exact q
def Mut:Option HO→Prop
 | some (.lst _)=>True
 | some (.dK _)=>True
 | some (.dT _)=>True
 | some (.set _ _)=>True
 | some (.ins _ _ _)=>True
 | some (.ext _)=>True
 | _=>False
section
variable {P:Program}{w:World}{H:Hp}{h h':Heap}{x e:Addr}{o':HO}
theorem HOk.write (ok:HOk P w H h)(mu:Mut (H x))(he:e=x∨H e=some (.own x))(k:∀ b u,b≠e→h.get? b=some u→h'.get? b=some u)(heo:∃ u,h'.get? e=some u)
  (new:ObjOk P w (upd H x o') h' x o'):HOk P w (upd H x o') h':=fun b u q=>by
 have nown:∀ c y,H c=some (.own y)→c≠x:=fun c y r z=>by subst z;rw [r] at mu;exact mu
 have ntup:∀ c xs,H c=some (.tup xs)→c≠x:=fun c xs r z=>by subst z;rw [r] at mu;exact mu
 by_cases hb:b=x
 ·subst hb;rw [zab] at q;cases q;exact new
 ·rw [zah hb] at q
  by_cases hbe:b=e
  ·have q':H b=some (.own x):=by
    rcases he with z | z
    ·exact absurd (hbe.trans z) hb
    ·rw [hbe];exact z
   rw [q] at q';cases q'
   obtain ⟨v,hv⟩:=heo
   exact ⟨v,by rw [hbe];exact hv⟩
  ·refine (ok b u q).stay (fun c v hc r=>k c v ?_ r) (fun c r=>by rw [zah (nown c b r)];exact r) fun c xs r=>by rw [zah (ntup c xs r)];exact r
   rcases hc with rfl | hc
   ·exact hbe
   ·rintro rfl
    rcases he with z | z
    ·exact nown c b hc z
    ·rw [hc] at z;cases z;exact hb rfl
end
structure Un (fs ex:List Addr)(H H':Hp)(h h':Heap):Prop where
 keep:∀ b o,h.get? b=some o→H b=none→b ∉ fs→b ∉ ex→h'.get? b=some o
 slot:∀ b o,h.get? b=some o→H b=none→b∈fs→b ∉ ex→∃ sl,h'.get? b=some { o with slots:=sl }
 free:∀ b o,h.get? b=some o→H b=none→b ∉ ex→H' b=none
 there:∀ b o,h.get? b=some o→b ∉ ex→∃ o',h'.get? b=some o'
 tups:∀ b xs,H b=some (.tup xs)→H' b=some (.tup xs)
 frzs:∀ b o u,H b=some (.frz o u)→H' b=some (.frz o u)
 tbls:∀ b ps,H b=some (.tbl ps)→∃ more,H' b=some (.tbl (ps ++ more))
section
variable {fs fs' ex ex':List Addr}{H H1 H2:Hp}{h h1 h2 h':Heap}{a x e:Addr}{o:HO}
theorem Un.any (u:Un fs ex H H1 h h1){b:Addr}{ob:Obj}(q:h.get? b=some ob)(n:H b=none)(hx:b ∉ ex):∃ sl,h1.get? b=some { ob with slots:=sl }:=by
 by_cases hb:b∈fs
 ·exact u.slot b ob q n hb hx
 ·exact ⟨ob.slots,u.keep b ob q n hb hx⟩
theorem Un.kept (k:∀ b u,h.get? b=some u→h'.get? b=some u):Un fs ex H H h h':=
 ⟨fun b ob q _ _ _=>k b ob q,fun b ob q _ _ _=>⟨ob.slots,k b ob q⟩,fun _ _ _ n _=>n,fun b ob q _=>⟨ob,k b ob q⟩,fun _ _ q=>q,fun _ _ _ q=>q,fun _ ps q=>⟨#[],by rw [q];simp⟩⟩
theorem Un.refl:Un fs ex H H h h:=Un.kept fun _ _ q=>q
theorem Un.laid (k:∀ b u,h.get? b=some u→h'.get? b=some u)(hp:h.objs.size≤a)(hn:H a=none):Un fs ex H (upd H a o) h h' where
 keep:=fun b u q _ _ _=>k b u q
 slot:=fun b u q _ _ _=>⟨u.slots,k b u q⟩
 free:=fun b u q n _=>by rw [zah (Xat (Xaf (Xah q) hp))];exact n
 there:=fun b u q _=>⟨u,k b u q⟩
 tups:=fun b xs q=>by rw [zah (zaj q hn)];exact q
 frzs:=fun b u xs q=>by rw [zah (zaj q hn)];exact q
 tbls:=fun b ps q=>⟨#[],by rw [zah (zaj q hn),q];simp⟩
theorem Un.write (mu:Mut (H x))(he:e=x∨H e=some (.own x))(k:∀ b u,b≠e→h.get? b=some u→h'.get? b=some u)(heo:∃ u,h'.get? e=some u):Un fs ex H (upd H x o) h h':=by
 have hx:∀ b,H b=none→b≠x:=fun b n z=>by subst z;rw [n] at mu;exact mu
 have hb:∀ b,H b=none→b≠e:=fun b n z=>by
  subst z
  rcases he with r | r
  ·exact hx b n r
  ·rw [n] at r;cases r
 have hm:∀ b u,H b=some u→¬ Mut (some u)→b≠x:=fun b u q nm z=>by subst z;rw [q] at mu;exact nm mu
 refine ⟨fun b u q n _ _=>k b u (hb b n) q,fun b u q n _ _=>⟨u.slots,k b u (hb b n) q⟩,fun b u q n _=>by rw [zah (hx b n)];exact n,fun b u q _=>?_,
  fun b xs q=>by rw [zah (hm b _ q fun z=>z)];exact q,fun b u xs q=>by rw [zah (hm b _ q fun z=>z)];exact q,fun b ps q=>⟨#[],by rw [zah (hm b _ q fun z=>z),q];simp⟩⟩
 by_cases hbe:b=e
 ·subst hbe;exact heo
 ·exact ⟨u,k b u hbe q⟩
end
def trk (h:Heap)(H:Hp):List Addr:=(List.range h.objs.size).filter fun a=>(H a).isSome
def hidT (h:Heap)(H:Hp):Heap:=W.hideAll h (trk h H)
theorem zhA (h:Heap)(H:Hp):(hidT h H).objs.size=h.objs.size:=W.hideAll_size _ _
theorem ziz {h:Heap}{H:Hp}{b:Addr}{o:Obj}(e:h.get? b=some o)(n:H b=none):(hidT h H).get? b=some o:=
 W.hideAll_get _ e fun hm=>by
  have q:(H b).isSome=true:=(List.mem_filter.mp hm).2
  rw [n] at q;simp at q
theorem zjG {h:Heap}{H:Hp}{b:Addr}{o:Obj}(e:(hidT h H).get? b=some o):h.get? b=some o∧H b=none:=by
 have e':h.get? b=some o:=W.of_hideAll (trk h H) e
 refine ⟨e',?_⟩
 cases q:H b with
 | none=>rfl
 | some x =>
  have hm:b∈trk h H:=List.mem_filter.mpr ⟨List.mem_range.mpr (Xah e'),by simp [q]⟩
  have z:(hidT h H).get? b=none:=W.hideAll_none (trk h H) hm
  rw [z] at e;cases e
structure Mod (K:W.Frag)(mg:Str→Option Value)(base:Heap):Prop where
 kin:K.In base
 glob:base.Ns mainGlobals mg
 blt:∃ mb,base.Ns builtinsNs mb∧∀ x:Str,x ≠ "__name__" → mb x=bootBuiltins x
 nolimit:base.NoLimit
structure Cx where
 prog:Program
 w:World
 K:W.Frag
 mg:Str→Option Value
 base:Heap
 A:Around
 N:List Str
 s₀:Shared
 H₀:Hp
 env:Env
 outer:List Env
 stack:List Env
 ex:List Addr
 fn:Str→Bool
 calm:Bool
 pn:List (Addr×Obj)
 xe:Value→Shared→Prop
def frs (l:List Env):List Addr:=l.filterMap (·.frame)
abbrev Cx.fs (X:Cx):List Addr:=frs X.outer
def Vis (sc:Scope)(x:Str):Prop:=sc.names.lookup x=some .local∨sc.names.lookup x=some .cell∨sc.names.lookup x=some .free
def Loc (sc:Scope)(x:Str):Prop:=sc.names.lookup x=some .local∨sc.names.lookup x=some .cell
def Look (env:Env)(h:Heap)(m:Str→Option Value)(x:Str)(u:Value):Prop:=
 (env.kindOf x=some .local∧m x=some u)∨((env.kindOf x=some .cell∨env.kindOf x=some .free)∧∃ c,env.cells.lookup x=some c∧h.IsCell c (some u))
structure Cx.Ok (X:Cx):Prop where
 mod:Mod X.K X.mg X.base
 kind:X.env.scope.kind = .function
 glob:X.env.globals=mainGlobals
 blt:X.env.builtins=builtinsNs
 above:X.s₀.heap.objs.size≤X.env.locals
 inj:∀ x y c,X.env.cells.lookup x=some c→X.env.cells.lookup y=some c→x=y
 has:∀ x,(X.env.kindOf x=some .cell∨X.env.kindOf x=some .free)→∃ c,X.env.cells.lookup x=some c
 cab:∀ x c,X.fn x=true→X.env.cells.lookup x=some c→X.s₀.heap.objs.size≤c
 hd:X.calm=true→X.A.handled=none
 frames:X.A.frames=some X.stack
 stk:X.stack=X.outer∨(X.stack=X.env :: X.outer∧X.env.frame=some X.env.locals)
 exf:∀ b∈X.ex,b≠X.env.locals∧∀ x c,X.env.cells.lookup x=some c→c≠b
 bs:∀ b o,X.base.get? b=some o→X.s₀.heap.get? b=some o∧X.H₀ b=none
 bsz:X.base.objs.size≤X.s₀.heap.objs.size
 noex:∀ b o,X.base.get? b=some o→b ∉ X.ex
 exfs:∀ b∈X.ex,b ∉ X.fs
 funs:X.s₀.heap.FunFrames X.base X.outer
 frf:∀ b∈X.fs,X.H₀ b=none
structure Inv (X:Cx)(pins:List (Addr×Obj))(σ:List (Option V))(H:Hp)(s:Shared):Prop where
 ok:X.Ok
 os:s.os=X.s₀.os
 bare:AllBare s.gens
 base:Un X.fs X.ex X.H₀ H X.s₀.heap s.heap
 loc:∃ m,s.heap.Ns X.env.locals m∧∀ (i:Nat) (x:Str) (v:V),X.N[i]? = some x→σ[i]? = some (some v)→Vis X.env.scope x→∃ u,RelV v u∧Look X.env s.heap m x u
 cell:∀ x c,X.env.cells.lookup x=some c→∃ v,s.heap.IsCell c v
 free:H X.env.locals=none
 freeC:∀ x c,X.env.cells.lookup x=some c→H c=none
 pin:∀ p∈X.pn ++ pins,s.heap.get? p.1=some p.2∧H p.1=none∧p.1≠X.env.locals∧p.1 ∉ X.fs∧∀ v,p.2.data≠.cell v
 hok:HOk X.prog X.w H s.heap
 len:σ.length=X.N.length
section
variable {X:Cx}{pins:List (Addr×Obj)}{σ:List (Option V)}{H H':Hp}{s:Shared}{h':Heap}
theorem Cx.Ok.nofr (ok:X.Ok){b:Addr}{o:Obj}(e:X.base.get? b=some o):b ∉ X.fs:=fun hb=>by
 have:=(ok.funs.mem hb).1
 rw [e] at this;cases this
theorem Inv.bs (I:Inv X pins σ H s):∀ b o,X.base.get? b=some o→s.heap.get? b=some o∧H b=none:=fun b o e =>
 ⟨I.base.keep b o (I.ok.bs b o e).1 (I.ok.bs b o e).2 (I.ok.nofr e) (I.ok.noex b o e),I.base.free b o (I.ok.bs b o e).1 (I.ok.bs b o e).2 (I.ok.noex b o e)⟩
theorem Inv.bk (I:Inv X pins σ H s):∀ b o,X.base.get? b=some o→s.heap.get? b=some o:=fun b o e=>(I.bs b o e).1
theorem Inv.mod (I:Inv X pins σ H s):Mod X.K X.mg X.base:=I.ok.mod
theorem Inv.kIn (I:Inv X pins σ H s):X.K.In s.heap:=I.ok.mod.kin.keeps I.bk
theorem Inv.lt (I:Inv X pins σ H s):X.env.locals<s.heap.objs.size:=let ⟨_,hn,_⟩:=I.loc;hn.lt
theorem Inv.sz (I:Inv X pins σ H s):X.s₀.heap.objs.size≤s.heap.objs.size:=Xam I.ok.above (Nat.le_of_lt I.lt)
theorem Inv.nofs (I:Inv X pins σ H s){a:Addr}(h:s.heap.objs.size≤a):a ∉ X.fs:=fun hb=>by
 obtain ⟨_,o,ho,_⟩:=I.ok.funs.mem hb
 exact absurd (Xaf (Xah ho) (Xam I.sz h)) (XaL _)
theorem Inv.cne (I:Inv X pins σ H s):∀ x c,X.env.cells.lookup x=some c→c≠X.env.locals:=fun x c e z=>by
 obtain ⟨v,o,ho,hd⟩:=I.cell x c e
 obtain ⟨m,⟨o',es,ep,ho',hd',_⟩,_⟩:=I.loc
 rw [z,ho'] at ho;cases ho;rw [hd'] at hd;cases hd
theorem Inv.funs (I:Inv X pins σ H s):s.heap.FunFrames X.base X.outer:=by
 have all:∀ (l:List Env),(∀ b∈frs l,b∈X.fs)→X.s₀.heap.FunFrames X.base l→s.heap.FunFrames X.base l:=by
  intro l
  induction l with
  | nil=>intro _ _;trivial
  | cons env r ih =>
   intro hs hl
   obtain ⟨hk,⟨L,o,hf,hn,ho,hd⟩,hr⟩:=hl
   have hL:L∈X.fs:=hs L (by unfold frs;rw [List.filterMap_cons,hf];exact XaT)
   obtain ⟨sl,e⟩:=I.base.slot L o ho (I.ok.frf L hL) hL fun z=>I.ok.exfs L z hL
   exact ⟨hk,⟨L,_,hf,hn,e,hd⟩,ih (fun b hb=>hs b (by unfold frs;rw [List.filterMap_cons,hf];exact Xay _ hb)) hr⟩
 exact all X.outer (fun _ hb=>hb) I.ok.funs
theorem Inv.stack (I:Inv X pins σ H s):s.heap.FunFrames X.base X.stack:=by
 rcases I.ok.stk with e | ⟨e,hf⟩
 ·rw [e];exact I.funs
 ·rw [e]
  obtain ⟨m,hn,_⟩:=I.loc
  refine .cons (by rw [I.ok.kind];decide) hf hn ?_ I.funs
  exact Xbl (Xam I.ok.bsz I.ok.above)
theorem Inv.stkSub (I:Inv X pins σ H s):∀ b∈frs X.stack,b∈X.env.locals :: X.fs:=fun b hb=>by
 rcases I.ok.stk with e | ⟨e,hf⟩
 ·rw [e] at hb;exact Xay _ hb
 ·rw [e] at hb
  unfold frs at hb
  rw [List.filterMap_cons,hf] at hb
  exact hb
theorem Inv.stkFree (I:Inv X pins σ H s):∀ b∈frs X.stack,H b=none:=fun b hb=>by
 rcases Xaq.mp (I.stkSub b hb) with e | hb
 ·rw [e];exact I.free
 ·obtain ⟨_,o,ho,_⟩:=I.ok.funs.mem hb
  exact I.base.free b o ho (I.ok.frf b hb) fun z=>I.ok.exfs b z hb
theorem Inv.step {g':Array GenState}{t':Nat}{d':Drawn}{ch:List Addr}(I:Inv X pins σ H s)
  (hch:∀ b∈ch,(b∈X.ex∨X.s₀.heap.objs.size≤b)∧b≠X.env.locals∧(∀ x c,X.env.cells.lookup x=some c→c≠b)∧∀ p∈X.pn ++ pins,p.1≠b)
  (keep:∀ b o,b≠X.env.locals→b ∉ X.fs→b ∉ ch→s.heap.get? b=some o→H b=none→h'.get? b=some o)
  (slot:∀ b o,b≠X.env.locals→b∈X.fs→b ∉ ch→s.heap.get? b=some o→H b=none→∃ sl,h'.get? b=some { o with slots:=sl }) (free:∀ b o,b ∉ ch→s.heap.get? b=some o→H b=none→H' b=none)
  (there:∀ b o,b ∉ ch→s.heap.get? b=some o→∃ o',h'.get? b=some o')
  (tups:∀ b xs,H b=some (.tup xs)→H' b=some (.tup xs)) (frzs:∀ b o u,H b=some (.frz o u)→H' b=some (.frz o u)) (tbls:∀ b ps,H b=some (.tbl ps)→∃ more,H' b=some (.tbl (ps ++ more)))
  (ns:∀ m,s.heap.Ns X.env.locals m→h'.Ns X.env.locals m) (hok:HOk X.prog X.w H' h') (hg:AllBare g') :
  Inv X pins σ H' { s with heap:=h',gens:=g',drawn:=d',toks:=t' }:=by
 have neL:∀ b o,X.s₀.heap.get? b=some o→b≠X.env.locals:=fun b o e=>Xat (Xaf (Xah e) I.ok.above)
 have neC:∀ b o,X.s₀.heap.get? b=some o→b ∉ X.ex→b ∉ ch:=fun b o e hx hb=>by
  rcases (hch b hb).1 with z | z
  ·exact hx z
  ·exact absurd (Xaf (Xah e) z) (XaL _)
 have cellK:∀ x c,X.env.cells.lookup x=some c→∀ v,s.heap.IsCell c v→h'.IsCell c v:=fun x c e v ⟨o,ho,hd⟩=>by
  have nch:c ∉ ch:=fun z=>(hch c z).2.2.1 x c e rfl
  by_cases hc:c∈X.fs
  ·obtain ⟨sl,q⟩:=slot c o (I.cne x c e) hc nch ho (I.freeC x c e)
   exact ⟨_,q,hd⟩
  ·exact ⟨o,keep c o (I.cne x c e) hc nch ho (I.freeC x c e),hd⟩
 refine ⟨I.ok,I.os,hg,⟨fun b o e n hb hx=>?_,fun b o e n hb hx=>?_,fun b o e n hx=>?_,fun b o e hx=>?_,fun b xs e=>tups b xs (I.base.tups b xs e),fun b o xs e=>frzs b o xs (I.base.frzs b o xs e),fun b ps e=>?_⟩,?_,fun x c e=>?_,?_,fun x c e=>?_,fun p hp=>?_,hok,I.len⟩
 ·exact keep b o (neL b o e) hb (neC b o e hx) (I.base.keep b o e n hb hx) (I.base.free b o e n hx)
 ·obtain ⟨sl,e1⟩:=I.base.slot b o e n hb hx
  obtain ⟨sl',e2⟩:=slot b _ (neL b o e) hb (neC b o e hx) e1 (I.base.free b o e n hx)
  exact ⟨sl',e2⟩
 ·obtain ⟨o',e1⟩:=I.base.there b o e hx
  exact free b o' (neC b o e hx) e1 (I.base.free b o e n hx)
 ·obtain ⟨o',e1⟩:=I.base.there b o e hx
  exact there b o' (neC b o e hx) e1
 ·obtain ⟨m1,e1⟩:=I.base.tbls b ps e
  obtain ⟨m2,e2⟩:=tbls b _ e1
  exact ⟨m1 ++ m2,by rw [e2,Array.append_assoc]⟩
 ·obtain ⟨m,hn,hl⟩:=I.loc
  refine ⟨m,ns m hn,fun i x v e1 e2 e3=>?_⟩
  obtain ⟨u,r,l⟩:=hl i x v e1 e2 e3
  refine ⟨u,r,?_⟩
  rcases l with l | ⟨k,c,e,z⟩
  ·exact .inl l
  ·exact .inr ⟨k,c,e,cellK x c e _ z⟩
 ·obtain ⟨v,z⟩:=I.cell x c e
  exact ⟨v,cellK x c e v z⟩
 ·obtain ⟨m,⟨o,_,_,ho,_⟩,_⟩:=I.loc
  exact free _ o (fun z=>(hch _ z).2.1 rfl) ho I.free
 ·obtain ⟨v,o,ho,hd⟩:=I.cell x c e
  exact free c o (fun z=>(hch c z).2.2.1 x c e rfl) ho (I.freeC x c e)
 ·obtain ⟨e,n,ne,nf,d⟩:=I.pin p hp
  have nch:p.1 ∉ ch:=fun z=>(hch p.1 z).2.2.2 p hp rfl
  exact ⟨keep p.1 p.2 ne nf nch e n,free p.1 p.2 nch e n,ne,nf,d⟩
theorem Inv.un {t':Nat}(I:Inv X pins σ H s)(u:Un X.fs [] H H' s.heap h')(hok:HOk X.prog X.w H' h'):Inv X pins σ H' { s with heap:=h',toks:=t' }:=by
 obtain ⟨m,⟨o,es,ep,ho,r⟩,_⟩:=id I.loc
 obtain ⟨sl,hL⟩:=u.any ho I.free (by simp)
 exact I.step (g':=s.gens) (d':=s.drawn) (ch:=[]) (fun _ z=>nomatch z) (fun b o _ hb _ e n=>u.keep b o e n hb (by simp)) (fun b o _ hb _ e n=>u.slot b o e n hb (by simp)) (fun b o _ e n=>u.free b o e n (by simp)) (fun b o _ e=>u.there b o e (by simp)) u.tups u.frzs u.tbls (fun m' hm=>by
  obtain ⟨o',es',ep',ho',r'⟩:=hm
  rw [ho] at ho';cases ho'
  exact ⟨_,es',ep',hL,r'⟩) hok I.bare
theorem Inv.call {g':Array GenState}{t':Nat}{d':Drawn}{ch:List Addr}(I:Inv X pins σ H s)(u:Un (frs X.stack) ch H H' s.heap h')(hok:HOk X.prog X.w H' h')(hg:AllBare g')
  (hch:∀ b∈ch,(b∈X.ex∨X.s₀.heap.objs.size≤b)∧b≠X.env.locals∧(∀ x c,X.env.cells.lookup x=some c→c≠b)∧∀ p∈X.pn ++ pins,p.1≠b) :
  Inv X pins σ H' { s with heap:=h',gens:=g',drawn:=d',toks:=t' }:=by
 obtain ⟨m,⟨o,es,ep,ho,r⟩,_⟩:=id I.loc
 obtain ⟨sl,hL⟩:=u.any ho I.free fun z=>(hch _ z).2.1 rfl
 exact I.step (ch:=ch) hch (fun b o hL hb hc e n=>u.keep b o e n (fun z=>(Xaq.mp (I.stkSub b z)).elim hL hb) hc) (fun b o _ _ hc e n=>u.any e n hc) (fun b o hc e n=>u.free b o e n hc) (fun b o hc e=>u.there b o e hc) u.tups u.frzs u.tbls (fun m' hm=>by
  obtain ⟨o',es',ep',ho',r'⟩:=hm
  rw [ho] at ho';cases ho'
  exact ⟨_,es',ep',hL,r'⟩) hok hg
theorem Inv.turned {t':Nat}{it:Addr}(I:Inv X pins σ H s)(k:∀ b o,b≠it→s.heap.get? b=some o→h'.get? b=some o)(hn:H it=none)(hL:it≠X.env.locals)
  (h1:it∈X.ex∨X.s₀.heap.objs.size≤it) (h2:∀ x c,X.env.cells.lookup x=some c→c≠it) (h3:∀ p∈X.pn ++ pins,p.1≠it):Inv X pins σ H { s with heap:=h',toks:=t' }:=by
 have nit:∀ b u,H b=some u→b≠it:=fun b u e z=>by rw [z,hn] at e;cases e
 refine I.step (g':=s.gens) (d':=s.drawn) (ch:=[it]) (fun b hb=>?_) (fun b o _ _ hc e _=>k b o (fun z=>hc (by simp [z])) e) (fun b o _ _ hc e _=>⟨o.slots,k b o (fun z=>hc (by simp [z])) e⟩) (fun _ _ _ _ n=>n)
  (fun b o hc e=>⟨o,k b o (fun z=>hc (by simp [z])) e⟩) (fun _ _ e=>e) (fun _ _ _ e=>e) (fun b ps e=>⟨#[],by rw [e];simp⟩) (fun m hm=>?_) (fun b u e=>?_) I.bare
 ·have e:b=it:=by simpa using hb
  subst e
  exact ⟨h1,hL,h2,h3⟩
 ·obtain ⟨o,es,ep,ho,r⟩:=hm
  exact ⟨o,es,ep,k _ o (Ne.symm hL) ho,r⟩
 ·refine (I.hok b u e).stay (fun c v hc q=>k c v ?_ q) (fun _ q=>q) fun _ _ q=>q
  rcases hc with z | z
  ·rw [z];exact nit b u e
  ·exact nit c _ z
theorem Inv.tok (I:Inv X pins σ H s)(t:Nat):Inv X pins σ H { s with toks:=t }:=I.un (h':=s.heap) (t':=t) Un.refl I.hok
theorem Inv.kept {t':Nat}(I:Inv X pins σ H s)(k:∀ b u,s.heap.get? b=some u→h'.get? b=some u):Inv X pins σ H { s with heap:=h',toks:=t' }:=I.un (Un.kept k) (I.hok.kept k)
theorem Inv.laid {a:Addr}{o:HO}{t':Nat}(I:Inv X pins σ H s)(k:∀ b u,s.heap.get? b=some u→h'.get? b=some u)(hp:s.heap.objs.size≤a)(new:ObjOk X.prog X.w (upd H a o) h' a o) :
  Inv X pins σ (upd H a o) { s with heap:=h',toks:=t' }:=I.un (Un.laid k hp (I.hok.fresh hp)) (I.hok.laid k hp new)
theorem Inv.write {x e:Addr}{o:HO}{t':Nat}(I:Inv X pins σ H s)(mu:Mut (H x))(he:e=x∨H e=some (.own x))(k:∀ b u,b≠e→s.heap.get? b=some u→h'.get? b=some u)(heo:∃ u,h'.get? e=some u)
  (new:ObjOk X.prog X.w (upd H x o) h' x o):Inv X pins σ (upd H x o) { s with heap:=h',toks:=t' }:=I.un (Un.write mu he k heo) (I.hok.write mu he k heo new)
theorem Inv.pins_of {pins':List (Addr×Obj)}(I:Inv X pins σ H s)(h:∀ p∈pins',s.heap.get? p.1=some p.2∧H p.1=none∧p.1≠X.env.locals∧p.1 ∉ X.fs∧∀ v,p.2.data≠.cell v):Inv X pins' σ H s:=
 ⟨I.ok,I.os,I.bare,I.base,I.loc,I.cell,I.free,I.freeC,fun p hp=>(XaP.mp hp).elim (fun z=>I.pin p (XaA _ z)) (h p),I.hok,I.len⟩
theorem zek {N:List Str}(hN:N.Nodup){i j:Nat}{x:Str}(a:N[i]? = some x)(b:N[j]? = some x):i=j:=by
 obtain ⟨h1,e1⟩:=Xar.mp a
 obtain ⟨h2,e2⟩:=Xar.mp b
 exact (List.getElem_inj hN).mp (e1.trans e2.symm)
theorem zeu {M:Model}{A:Around}{E:Value→Shared→Prop}{i:Nat}{x:Str}{v:V}{u:Value}{Q:Unit→Shared→Prop}(I:Inv X pins σ H s)(hN:X.N.Nodup)(hi:X.N[i]? = some x)(hx:Loc X.env.scope x)(r:RelV v u)
  (h:∀ s',Inv X pins (σ.set i (some v)) H s'→(∃ a,Heap.SameBut a s.heap s'.heap∧(a=X.env.locals∨X.env.cells.lookup x=some a))→Q () s') (hf:X.fn x=true∨X.env.scope.names.lookup x=some .local:=by first | exact .inl rfl | exact .inr rfl | assumption):wpAny M A (storeName X.env x u) Q E s:=by
 obtain ⟨m,hn,hl⟩:=id I.loc
 have hcls:(X.env.scope.kind == .class || (X.env.scope.kind == .module && X.env.locals != X.env.globals))=false:=by rw [I.ok.kind];rfl
 have hiσ:i<σ.length:=by rw [I.len];exact (Xar.mp hi).1
 have cne:=I.cne
 have tracked:∀ {a:Addr} {h':Heap},(∃ o,s.heap.get? a=some o∧H a=none)→Heap.SameBut a s.heap h'→HOk X.prog X.w H h':=fun {a h'} ha hs b ob e=>by
  obtain ⟨_,_,hfree⟩:=ha
  refine (I.hok b ob e).stay (fun c w' hc q=>(hs.2 c ?_).trans q) (fun _ q=>q) fun _ _ q=>q
  rintro rfl
  rcases hc with rfl | hc
  ·rw [hfree] at e;cases e
  ·rw [hfree] at hc;cases hc
 rcases hx with hk | hk
 ·refine wpAny_storeName_local hk hn (fun h' hn' hs=>?_) hcls
  obtain ⟨oL,_,_,hoL,_⟩:=id hn
  refine h _ ⟨I.ok,I.os,I.bare,⟨fun b o e n hb hx=>?_,fun b o e n hb hx=>?_,I.base.free,fun b o e hx=>?_,I.base.tups,I.base.frzs,I.base.tbls⟩,⟨_,hn',fun j y v' e1 e2 e3=>?_⟩,fun y c e=>?_,I.free,I.freeC,fun p hp=>?_,tracked ⟨oL,hoL,I.free⟩ hs,by simpa using I.len⟩ ⟨_,hs,.inl rfl⟩
  ·exact (hs.2 b (Xat (Xaf (Xah e) I.ok.above))).trans (I.base.keep b o e n hb hx)
  ·obtain ⟨sl,e1⟩:=I.base.slot b o e n hb hx
   exact ⟨sl,(hs.2 b (Xat (Xaf (Xah e) I.ok.above))).trans e1⟩
  ·obtain ⟨o',e1⟩:=I.base.there b o e hx
   exact ⟨o',(hs.2 b (Xat (Xaf (Xah e) I.ok.above))).trans e1⟩
  ·by_cases hj:j=i
   ·subst hj
    rw [hi] at e1;cases e1
    rw [Xbv hiσ] at e2
    cases e2
    exact ⟨u,r,.inl ⟨hk,by simp⟩⟩
   ·rw [List.getElem?_set_ne (Ne.symm hj)] at e2
    obtain ⟨u',r',q⟩:=hl j y v' e1 e2 e3
    refine ⟨u',r',?_⟩
    rcases q with ⟨k,e⟩ | ⟨k,c,e,z⟩
    ·refine .inl ⟨k,?_⟩
     have:y≠x:=fun e=>hj (zek hN e1 (e ▸ hi))
     simp [this,e]
    ·exact .inr ⟨k,c,e,z.sameBut hs (cne y c e)⟩
  ·obtain ⟨w',z⟩:=I.cell y c e
   exact ⟨w',z.sameBut hs (cne y c e)⟩
  ·obtain ⟨e,n,ne,nf,d⟩:=I.pin p hp
   exact ⟨(hs.2 p.1 ne).trans e,n,ne,nf,d⟩
 ·have hfn:X.fn x=true:=by
   rcases hf with z | z
   ·exact z
   ·rw [z] at hk;cases hk
  obtain ⟨c,hc⟩:=I.ok.has x (.inl hk)
  obtain ⟨w',z⟩:=I.cell x c hc
  refine wpAny_storeName_cell I.ok.kind hk hc z (fun h' hc' hs=>?_)
  obtain ⟨oc,hoc,hocd⟩:=id z
  refine h { s with heap:=h' } ⟨I.ok,I.os,I.bare,⟨fun b o e n hb hx=>?_,fun b o e n hb hx=>?_,I.base.free,fun b o e hx=>?_,I.base.tups,I.base.frzs,I.base.tbls⟩,⟨m,hn.sameBut hs (Ne.symm (cne x c hc)),fun j y v' e1 e2 e3=>?_⟩,fun y c' e=>?_,I.free,I.freeC,fun p hp=>?_,tracked ⟨oc,hoc,I.freeC x c hc⟩ hs,by simpa using I.len⟩ ⟨c,hs,.inr hc⟩
  ·exact (hs.2 b (Xat (Xaf (Xah e) (I.ok.cab x c hfn hc)))).trans (I.base.keep b o e n hb hx)
  ·obtain ⟨sl,e1⟩:=I.base.slot b o e n hb hx
   exact ⟨sl,(hs.2 b (Xat (Xaf (Xah e) (I.ok.cab x c hfn hc)))).trans e1⟩
  ·obtain ⟨o',e1⟩:=I.base.there b o e hx
   exact ⟨o',(hs.2 b (Xat (Xaf (Xah e) (I.ok.cab x c hfn hc)))).trans e1⟩
  ·by_cases hj:j=i
   ·subst hj
    rw [hi] at e1;cases e1
    rw [Xbv hiσ] at e2
    cases e2
    exact ⟨u,r,.inr ⟨.inl hk,c,hc,hc'⟩⟩
   ·rw [List.getElem?_set_ne (Ne.symm hj)] at e2
    obtain ⟨u',r',q⟩:=hl j y v' e1 e2 e3
    refine ⟨u',r',?_⟩
    rcases q with q | ⟨k,c',e,z'⟩
    ·exact .inl q
    ·refine .inr ⟨k,c',e,z'.sameBut hs ?_⟩
     rintro rfl
     exact hj (zek hN e1 (I.ok.inj _ _ _ e hc ▸ hi))
  ·by_cases hcc:c'=c
   ·subst hcc;exact ⟨_,hc'⟩
   ·obtain ⟨w2,z2⟩:=I.cell y c' e
    exact ⟨w2,z2.sameBut hs hcc⟩
  ·obtain ⟨e,n,ne,nf,d⟩:=I.pin p hp
   refine ⟨(hs.2 p.1 ?_).trans e,n,ne,nf,d⟩
   intro q
   rw [q,hoc] at e
   have q':oc=p.2:=Option.some.inj e
   exact d w' (by rw [← q'];exact hocd)
theorem zcd {M:Model}{A:Around}{E:Value→Shared→Prop}{i:Nat}{x:Str}{v:V}{u:Value}{Q:Unit→Shared→Prop}(I:Inv X pins σ H s)(hN:X.N.Nodup)(hi:X.N[i]? = some x)(hx:Loc X.env.scope x)(r:RelV v u)
  (h:∀ s',Inv X pins (σ.set i (some v)) H s'→Q () s') (hf:X.fn x=true∨X.env.scope.names.lookup x=some .local:=by first | exact .inl rfl | exact .inr rfl | assumption):wpAny M A (storeName X.env x u) Q E s:=
 zeu I hN hi hx r (fun s' I' _=>h s' I') hf
theorem Inv.call' {s':Shared}{ch:List Addr}(I:Inv X pins σ H s)(ho:s'.os=s.os)(u:Un (frs X.stack) ch H H' s.heap s'.heap)(hok:HOk X.prog X.w H' s'.heap)(hg:AllBare s'.gens)
  (hch:∀ b∈ch,(b∈X.ex∨X.s₀.heap.objs.size≤b)∧b≠X.env.locals∧(∀ x c,X.env.cells.lookup x=some c→c≠b)∧∀ p∈X.pn ++ pins,p.1≠b):Inv X pins σ H' s':=by
 obtain ⟨h',g',d',t',o'⟩:=s'
 have e:o'=s.os:=ho
 subst e
 exact I.call (g':=g') (t':=t') (d':=d') u hok hg hch
end
abbrev XK:=Value→Option Addr→Hp→Prop
abbrev St:=List (Option V)
abbrev VK:=V→Hp→Prop
abbrev TE:=St→Hp→VK→Prop
abbrev TT:=St→Hp→(Bool→Hp→Prop)→Prop
abbrev TA:=St→Hp→(List V→Hp→Prop)→Prop
structure Ends where
 nx:St→Hp→Prop
 rt:VK
 bk:St→Hp→Prop:=fun _ _=>False
 ct:St→Hp→Prop:=fun _ _=>False
abbrev TS:=Ends→St→Hp→Prop
inductive EP (X:Cx)(pins:List (Addr×Obj))(σ:St)(Q:VK)(u:Value)(s':Shared):Prop
 | mk (v:_) (H':_) (z0_:Inv X pins σ H' s') (z1_:RelV v u) (z2_:Q v H')
inductive TP (X:Cx)(pins:List (Addr×Obj))(σ:St)(Q:Bool→Hp→Prop)(b:Bool)(s':Shared):Prop
 | mk (H':_) (z0_:Inv X pins σ H' s') (z1_:Q b H')
inductive AP (X:Cx)(pins:List (Addr×Obj))(σ:St)(Q:List V→Hp→Prop)(us:List Value)(s':Shared):Prop
 | mk (vs:_) (H':_) (z0_:Inv X pins σ H' s') (z1_:Vals vs us) (z2_:Q vs H')
def SP (X:Cx)(pins:List (Addr×Obj))(D:Ends)(f:Flow)(s':Shared):Prop:=
 match f with
 | .next=>∃ σ' H',Inv X pins σ' H' s'∧D.nx σ' H'
 | .brk=>∃ σ' H',Inv X pins σ' H' s'∧D.bk σ' H'
 | .cont=>∃ σ' H',Inv X pins σ' H' s'∧D.ct σ' H'
 | .ret u=>∃ v σ' H',Inv X pins σ' H' s'∧RelV v u∧D.rt v H'
def PE (X:Cx)(e:Expr)(t:TE):Prop:=
 ∀ (pins:List (Addr×Obj)) (s:Shared) (σ:St) (H:Hp) (Q:VK),Inv X pins σ H s→t σ H Q→wpAny (model X.prog X.w) X.A (eval e X.env) (EP X pins σ Q) X.xe s
def PT (X:Cx)(e:Expr)(t:TT):Prop:=
 ∀ (pins:List (Addr×Obj)) (s:Shared) (σ:St) (H:Hp) (Q:Bool→Hp→Prop),Inv X pins σ H s→t σ H Q→wpAny (model X.prog X.w) X.A (isTrue e X.env (eval e X.env)) (TP X pins σ Q) X.xe s
def PW (X:Cx)(e:Expr)(t:TT):Prop:=
 ∀ (whole:Sem Value) (pins:List (Addr×Obj)) (s:Shared) (σ:St) (H:Hp) (Q:Bool→Hp→Prop),Inv X pins σ H s→t σ H Q→wpAny (model X.prog X.w) X.A (isTrue e X.env whole) (TP X pins σ Q) X.xe s
theorem PW.pt {X:Cx}{e:Expr}{t:TT}(h:PW X e t):PT X e t:=h _
def PA (X:Cx)(es:List Expr)(t:TA):Prop:=
 ∀ (pos:Pos) (pins:List (Addr×Obj)) (s:Shared) (σ:St) (H:Hp) (Q:List V→Hp→Prop),Inv X pins σ H s→t σ H Q→wpAny (model X.prog X.w) X.A (spliced (backTo pos (starEach es X.env))) (AP X pins σ Q) X.xe s
def PS (X:Cx)(st:Stmt)(t:TS):Prop:=
 ∀ (pins:List (Addr×Obj)) (s:Shared) (σ:St) (H:Hp) (D:Ends),Inv X pins σ H s→t D σ H→wpAny (model X.prog X.w) X.A (exec st X.env) (SP X pins D) X.xe s
def PSs (X:Cx)(st:List Stmt)(t:TS):Prop:=
 ∀ (pins:List (Addr×Obj)) (s:Shared) (σ:St) (H:Hp) (D:Ends),Inv X pins σ H s→t D σ H→wpAny (model X.prog X.w) X.A (execs st X.env) (SP X pins D) X.xe s
theorem thn {α:Type}{t:Sem α}{Q Q':α→Shared→Prop}{M:Model}{A:Around}{E:Value→Shared→Prop}{s:Shared}(h:wpAny M A t Q E s)(hQ:∀ a s,Q a s→Q' a s):wpAny M A t Q' E s:=Xaw h hQ fun _ _ x=>x
section
variable {X:Cx}
inductive tVar (i:Nat)(σ:St)(H:Hp)(Q:VK):Prop
 | mk (v:_) (z0_:σ[i]? = some (some v)) (z1_:Q v H)
def tC (v:V):TE:=fun _ H Q=>Q v H
theorem pe_var {i:Nat}{x:Str}{pos:Pos}(hN:X.N[i]? = some x)(hv:Vis X.env.scope x)(hd:(x == ("__debug__" : Str))=false:=by decide)(hcd:(x == ("__classdict__" : Str))=false:=by decide):PE X (.Name x pos) (tVar i):=by
 intro pins s σ H Q I h
 obtain ⟨v,e,h⟩:=h
 obtain ⟨m,hn,hl⟩:=I.loc
 obtain ⟨u,r,l⟩:=hl i x v hN e hv
 have fin:EP X pins σ Q u s:=⟨v,H,I,r,h⟩
 rcases l with ⟨hk,hm⟩ | ⟨hk,c,hc,hcell⟩
 ·exact wpAny_Name (wpAny_loadName_local I.ok.kind hk hn hm fin) hd
 ·rcases hk with hk | hk
  ·exact wpAny_Name (wpAny_loadName_cell I.ok.kind hk hc hcell fin) hd
  ·exact wpAny_Name (wpAny_loadName_free I.ok.kind hk hc hcell fin hcd) hd
theorem zaf {i j pos}:PE X (.Constant (.int i) j pos) (tC (.int i)):=fun _ _ _ H _ I h=>wpAny_Constant_int ⟨.int i,H,I.tok _,⟨_,rfl⟩,h⟩
theorem zcz {b j pos}:PE X (.Constant (.bool b) j pos) (tC (.bl b)):=fun _ _ _ H _ I h=>Constant_bool ⟨.bl b,H,I,rfl,h⟩
theorem zfP {j pos}:PE X (.Constant .none j pos) (tC .non):=fun _ _ _ H _ I h=>Constant_none ⟨.non,H,I,rfl,h⟩
theorem zbc {x j pos}:PE X (.Constant (.str x) j pos) (tC (.str x)):=fun _ _ _ H _ I h=>Calls.Constant_str ⟨.str x,H,I.tok _,⟨_,rfl⟩,h⟩
def Gl (X:Cx)(x:Str):Prop:=X.env.kindOf x=some .globalImplicit
theorem zbC {E:Value→Shared→Prop}{pins:List (Addr×Obj)}{s:Shared}{σ:St}{H:Hp}{x:Str}{u:Value}{pos:Pos}{Q:Value→Shared→Prop}(I:Inv X pins σ H s)(hg:Gl X x)(hm:X.mg x=some u)(h:Q u s)
  (hd:(x == ("__debug__" : Str))=false:=by decide):wpAny (model X.prog X.w) X.A (eval (.Name x pos) X.env) Q E s:=
 Calls.Name_function_global I.ok.kind hg (Calls.loadGlobal_global (by rw [I.ok.glob];exact I.mod.glob.keeps I.bk) hm h) hd
theorem zdz {E:Value→Shared→Prop}{pins:List (Addr×Obj)}{s:Shared}{σ:St}{H:Hp}{x:Str}{u:Value}{pos:Pos}{Q:Value→Shared→Prop}(I:Inv X pins σ H s)(hg:Gl X x)(hm:X.mg x=none)(hv:bootBuiltins x=some u)(h:Q u s)
  (hn:x ≠ "__name__" := by decide) (hd:(x == ("__debug__" : Str))=false:=by decide):wpAny (model X.prog X.w) X.A (eval (.Name x pos) X.env) Q E s:=by
 obtain ⟨mb,h1,h2⟩:=I.mod.blt
 exact Calls.Name_function_global I.ok.kind hg (Calls.loadGlobal_builtin (by rw [I.ok.glob];exact I.mod.glob.keeps I.bk) hm (by rw [I.ok.blt];exact h1.keeps I.bk) ((h2 x hn).trans hv) h) hd
theorem zee {x:Str}{v:V}{u:Value}{pos:Pos}(hg:Gl X x)(hm:X.mg x=some u)(r:RelV v u)(hd:(x == ("__debug__" : Str))=false:=by decide):PE X (.Name x pos) (tC v):=
 fun _ _ _ H _ I h=>zbC I hg hm ⟨v,H,I,r,h⟩ hd
theorem zaN {x:Str}{v:V}{u:Value}{pos:Pos}(hg:Gl X x)(hm:X.mg x=none)(hv:bootBuiltins x=some u)(r:RelV v u)(hn:x ≠ "__name__" := by decide)(hd:(x == ("__debug__" : Str))=false:=by decide):PE X (.Name x pos) (tC v):=
 fun _ _ _ H _ I h=>zdz I hg hm hv ⟨v,H,I,r,h⟩ hn hd
variable {a b:Expr}{ta tb:TE}{pos:Pos}
def PC (X:Cx)(op:CmpOp)(a b:Expr)(t:TE):Prop:=
 ∀ (pins:List (Addr×Obj)) (s:Shared) (σ:St) (H:Hp) (Q:VK),Inv X pins σ H s→t σ H Q →
  wpAny (model X.prog X.w) X.A (eval a X.env) (fun v s₁=>wpAny (model X.prog X.w) X.A (eval b X.env) (fun u s₂=>wpAny (model X.prog X.w) X.A (compareOp op v u) (EP X pins σ Q) X.xe s₂) X.xe s₁) X.xe s
theorem zc3 (b:Expr){op:CmpOp}(h:op≠.In)(h2:op≠.NotIn):behindInMarks op b=false:=by
 have e1:(op == CmpOp.In)=false:=by cases op <;> first | rfl | exact absurd rfl h
 have e2:(op == CmpOp.NotIn)=false:=by cases op <;> first | rfl | exact absurd rfl h2
 cases b <;> simp [behindInMarks,e1,e2]
def tIsN (ta:TE):TE:=fun σ H Q=>ta σ H fun x H1=>Q (.bl (decide (x = .non))) H1
def tNotN (ta:TE):TE:=fun σ H Q=>ta σ H fun x H1=>Q (.bl (!decide (x = .non))) H1
theorem RelV.none_iff {x:V}{v:Value}(r:RelV x v):(v == Value.none)=decide (x = .non):=by
 cases x with
 | non=>cases r;rfl
 | bl _=>cases r;rfl
 | int _=>obtain ⟨t,rfl⟩:=r;rfl
 | str _=>obtain ⟨t,rfl⟩:=r;rfl
 | byt _=>obtain ⟨t,rfl⟩:=r;rfl
 | flt _=>obtain ⟨t,rfl⟩:=r;rfl
 | ref _=>cases r;rfl
 | ty _=>cases r;rfl
theorem zcI {j pos'}(ha:PE X a ta):PC X .Is a (.Constant .none j pos') (tIsN ta):=by
 intro pins s σ H Q I h
 refine thn (ha pins s σ H _ I h) fun v s1 hh_=>?_
 obtain ⟨x,H1,I1,r1,q1⟩:=hh_
 exact Constant_none (is_none_gen ⟨.bl _,H1,I1,by rw [r1.none_iff];rfl,q1⟩)
theorem zhh {j pos'}(ha:PE X a ta):PC X .IsNot a (.Constant .none j pos') (tNotN ta):=by
 intro pins s σ H Q I h
 refine thn (ha pins s σ H _ I h) fun v s1 hh_=>?_
 obtain ⟨x,H1,I1,r1,q1⟩:=hh_
 exact Constant_none (isnot_none_gen ⟨.bl _,H1,I1,by rw [r1.none_iff];rfl,q1⟩)
inductive tB_1 (Q:Bool→Hp→Prop)(x:V)(H1:Hp):Prop
 | mk (c:_) (z0_:x = .bl c) (z1_:Q c H1)
def tB (t:TE):TT:=fun σ H Q=>t σ H (tB_1 Q)
theorem zeE {op:CmpOp}{t:TE}(h:PC X op a b t)(h1:behindInMarks op b=false:=by first | exact zc3 _ (by decide) (by decide) | rfl):PE X (.Compare a [op] [b] pos) t:=fun pins s σ H Q I hw=>wpAny_Compare1 (h pins s σ H Q I hw) h1
theorem zeC {op:CmpOp}{t:TE}(h:PC X op a b t)(h1:behindInMarks op b=false:=by first | exact zc3 _ (by decide) (by decide) | rfl):PT X (.Compare a [op] [b] pos) (tB t):=by
 intro pins s σ H Q I hw
 refine wpAny_isTrue_Compare1 (thn (h pins s σ H _ I hw) fun v s1 h1=>thn h1 fun u s2 h2=>thn h2 fun c s3 hh_=>?_) h1
 obtain ⟨x,H1,I1,r1,q1⟩:=hh_
 obtain ⟨d,rfl,q⟩:=q1
 cases r1
 exact XaQ ⟨H1,I1,q⟩
theorem zaG {e:Expr}{t:TE}(h:PE X e t)(he:∀ whole,isTrue e X.env whole=(do let v ← whole;standAt e.pos;holding [v] (truthy v)):=by intro _;rfl):PT X e (tB t):=by
 intro pins s σ H Q I hw
 refine isTrue_plain (thn (h pins s σ H _ I hw) fun v s1 hh_=>?_) (he _)
 obtain ⟨x,H1,I1,r1,q1⟩:=hh_
 obtain ⟨d,rfl,q⟩:=q1
 cases r1
 exact XaQ ⟨H1,I1,q⟩
variable {tA tB':TT}{rest:List Expr}
def tAnd (t u:TT):TT:=fun σ H Q=>t σ H fun c H1=>if c=true then u σ H1 Q else Q false H1
def tOr (t u:TT):TT:=fun σ H Q=>t σ H fun c H1=>if c=true then Q true H1 else u σ H1 Q
def tNot (t:TT):TT:=fun σ H Q=>t σ H fun c H1=>Q (!c) H1
theorem zjq (ha:PT X a tA):PW X (.BoolOp .And [a] pos) tA:=by
 intro wh pins s σ H Q I h
 refine isTrue_and (thn (ha pins s σ H Q I h) fun c s1 e=>?_)
 cases c with
 | true=>exact isTrue_and_nil e
 | false=>exact e
theorem zbG (ha:PT X a tA):PW X (.BoolOp .Or [a] pos) tA:=by
 intro wh pins s σ H Q I h
 refine isTrue_or (thn (ha pins s σ H Q I h) fun c s1 e=>?_)
 cases c with
 | false=>exact isTrue_or_nil e
 | true=>exact e
theorem pw_and (ha:PT X a tA)(hb:PW X (.BoolOp .And (b :: rest) pos) tB'):PW X (.BoolOp .And (a :: b :: rest) pos) (tAnd tA tB'):=by
 intro wh pins s σ H Q I h
 refine isTrue_and (thn (ha pins s σ H _ I h) fun c s1 ⟨H1,I1,q1⟩=>?_)
 cases c with
 | true=>exact hb wh pins s1 σ H1 Q I1 q1
 | false=>exact ⟨H1,I1,q1⟩
theorem zca (ha:PT X a tA)(hb:PW X (.BoolOp .Or (b :: rest) pos) tB'):PW X (.BoolOp .Or (a :: b :: rest) pos) (tOr tA tB'):=by
 intro wh pins s σ H Q I h
 refine isTrue_or (thn (ha pins s σ H _ I h) fun c s1 ⟨H1,I1,q1⟩=>?_)
 cases c with
 | true=>exact ⟨H1,I1,q1⟩
 | false=>exact hb wh pins s1 σ H1 Q I1 q1
theorem zaK (ha:PT X a tA):PT X (.UnaryOp .Not a pos) (tNot tA):=by
 intro pins s σ H Q I h
 exact isTrue_not (thn (ha pins s σ H (fun c H1=>Q (!c) H1) I h) fun c s1 ⟨H1,I1,q1⟩=>⟨H1,I1,q1⟩)
inductive tAndV_1 (tb:TE)(σ:St)(Q:VK)(x:V)(H1:Hp):Prop
 | mk (c:_) (z0_:x = .bl c) (z1_:if c=true then tb σ H1 Q else Q (.bl false) H1)
def tAndV (ta tb:TE):TE:=fun σ H Q=>ta σ H (tAndV_1 tb σ Q)
inductive tOrV_1 (tb:TE)(σ:St)(Q:VK)(x:V)(H1:Hp):Prop
 | mk (c:_) (z0_:x = .bl c) (z1_:if c=true then Q (.bl true) H1 else tb σ H1 Q)
def tOrV (ta tb:TE):TE:=fun σ H Q=>ta σ H (tOrV_1 tb σ Q)
inductive tNotV_1 (Q:VK)(x:V)(H1:Hp):Prop
 | mk (c:_) (z0_:x = .bl c) (z1_:Q (.bl (!c)) H1)
def tNotV (ta:TE):TE:=fun σ H Q=>ta σ H (tNotV_1 Q)
theorem zbt {op}{t:TE}(h:PE X a t):PE X (.BoolOp op [a] pos) t:=fun pins s σ H Q I hw=>BoolOp_one (h pins s σ H Q I hw)
theorem za1 (ha:PE X a ta)(hb:PE X (.BoolOp .And (b :: rest) pos) tb):PE X (.BoolOp .And (a :: b :: rest) pos) (tAndV ta tb):=by
 intro pins s σ H Q I h
 refine BoolOp_and (thn (ha pins s σ H _ I h) fun v s1 hh_=>?_)
 obtain ⟨x,H1,I1,r1,q1⟩:=hh_
 obtain ⟨c,rfl,q1⟩:=q1
 cases r1
 refine XaQ ?_
 cases c with
 | true=>exact hb pins s1 σ H1 Q I1 q1
 | false=>exact ⟨.bl false,H1,I1,rfl,q1⟩
theorem pe_or (ha:PE X a ta)(hb:PE X (.BoolOp .Or (b :: rest) pos) tb):PE X (.BoolOp .Or (a :: b :: rest) pos) (tOrV ta tb):=by
 intro pins s σ H Q I h
 refine BoolOp_or (thn (ha pins s σ H _ I h) fun v s1 hh_=>?_)
 obtain ⟨x,H1,I1,r1,q1⟩:=hh_
 obtain ⟨c,rfl,q1⟩:=q1
 cases r1
 refine XaQ ?_
 cases c with
 | false=>exact hb pins s1 σ H1 Q I1 q1
 | true=>exact ⟨.bl true,H1,I1,rfl,q1⟩
theorem ziX (ha:PE X a ta):PE X (.UnaryOp .Not a pos) (tNotV ta):=by
 intro pins s σ H Q I h
 refine UnaryOp_ (thn (ha pins s σ H _ I h) fun v s1 hh_=>?_)
 obtain ⟨x,H1,I1,r1,q1⟩:=hh_
 obtain ⟨c,rfl,q1⟩:=q1
 cases r1
 exact not_of (XaQ ⟨.bl (!c),H1,I1,rfl,q1⟩)
end
def SqL (K:W.Frag)(H:Hp)(a:Addr)(xs:List V):Prop:=
 Rd H a (.lst xs) ∨
  ∃ (o:Obj) (its:Array Value) (n:Nat),K.lookup a=some o∧o.cls = .type "list" ∧ o.dict=none∧o.data = .seq its n∧its.size≤sizeLine∧Vals xs its.toList
def SqT (K:W.Frag)(H:Hp)(a:Addr)(xs:List V):Prop:=
 Rd H a (.tup xs) ∨
  ∃ (o:Obj) (its:Array Value) (n:Nat),K.lookup a=some o∧o.cls = .type "tuple" ∧ o.data = .seq its n∧its.size≤sizeLine∧Vals xs its.toList
def absV:Value→Option V
 | .none=>some .non
 | .bool b=>some (.bl b)
 | .int i _=>some (.int i)
 | .str x _=>some (.str x)
 | .bytes b _=>some (.byt b)
 | .float b _=>some (.flt b)
 | .ref a=>some (.ref a)
 | .type n=>some (.ty n)
 | _=>none
theorem RelV.abs {x:V}{u:Value}(r:RelV x u):absV u=some x:=by
 cases x with
 | non=>cases r;rfl
 | bl _=>cases r;rfl
 | int _=>obtain ⟨t,rfl⟩:=r;rfl
 | str _=>obtain ⟨t,rfl⟩:=r;rfl
 | byt _=>obtain ⟨t,rfl⟩:=r;rfl
 | flt _=>obtain ⟨t,rfl⟩:=r;rfl
 | ref _=>cases r;rfl
 | ty _=>cases r;rfl
theorem RelV.inj {x y:V}{u:Value}(r:RelV x u)(q:RelV y u):x=y:=Option.some.inj (r.abs.symm.trans q.abs)
theorem Vals.inj:∀ {xs ys:List V} {us:List Value},Vals xs us→Vals ys us→xs=ys
 | _,_,_,.nil,.nil=>rfl
 | _,_,_,.cons r t,.cons r' t'=>by rw [r.inj r',Vals.inj t t']
section
variable {X:Cx}{pins:List (Addr×Obj)}{σ:St}{H:Hp}{s:Shared}{a:Addr}{xs ys:List V}
theorem SqL.of {K:W.Frag}(h:H a=some (.lst xs)):SqL K H a xs:=.inl (.inl h)
theorem SqT.of {K:W.Frag}(h:H a=some (.tup xs)):SqT K H a xs:=.inl (.inl h)
theorem Inv.list (I:Inv X pins σ H s)(h:SqL X.K H a xs):∃ its:List Value,Vals xs its∧PlainL s.heap a its.toArray∧xs.length≤sizeLine:=by
 rcases h with h | ⟨o,its,n,hk,hc,hd,hs,hz,r⟩
 ·obtain ⟨z,its,n,r,e⟩:=h.ok I.hok
  exact ⟨its,r,⟨_,n,e,rfl,rfl,rfl⟩,z⟩
 ·refine ⟨its.toList,r,⟨o,n,I.kIn a o hk,hc,hd,by simpa using hs⟩,?_⟩
  have e:=r.length
  simp only [Array.length_toList] at e
  omega
theorem Inv.tuple (I:Inv X pins σ H s)(h:SqT X.K H a xs):∃ its:List Value,Vals xs its∧IsTup s.heap a its.toArray∧xs.length≤sizeLine:=by
 rcases h with h | ⟨o,its,n,hk,hc,hs,hz,r⟩
 ·obtain ⟨z,its,r,p⟩:=h.ok I.hok
  exact ⟨its,r,p,z.1⟩
 ·refine ⟨its.toList,r,⟨o,I.kIn a o hk,hc,n,by simpa using hs⟩,?_⟩
  have e:=r.length
  simp only [Array.length_toList] at e
  omega
theorem Inv.list_inj (I:Inv X pins σ H s)(h:SqL X.K H a xs)(h':SqL X.K H a ys):xs=ys:=by
 obtain ⟨its,r,⟨o,n,e,_,_,d⟩,_⟩:=I.list h
 obtain ⟨its',r',⟨o',n',e',_,_,d'⟩,_⟩:=I.list h'
 rw [e] at e';cases e'
 rw [d] at d'
 injection d' with d1 _
 have:its=its':=by simpa using congrArg Array.toList d1
 subst this
 exact r.inj r'
theorem Inv.tuple_inj (I:Inv X pins σ H s)(h:SqT X.K H a xs)(h':SqT X.K H a ys):xs=ys:=by
 obtain ⟨its,r,⟨o,e,_,n,d⟩,_⟩:=I.tuple h
 obtain ⟨its',r',⟨o',e',_,n',d'⟩,_⟩:=I.tuple h'
 rw [e] at e';cases e'
 rw [d] at d'
 injection d' with d1 _
 have:its=its':=by simpa using congrArg Array.toList d1
 subst this
 exact r.inj r'
end
abbrev Cx.wish (X:Cx)(E:Value→Shared→Prop):Cx:={ X with xe:=E }
abbrev Cx.nox (X:Cx):Cx:=X.wish fun _ _=>False
theorem Cx.Ok.wish {X:Cx}(ok:X.Ok)(E:Value→Shared→Prop):(X.wish E).Ok:=
 ⟨ok.mod,ok.kind,ok.glob,ok.blt,ok.above,ok.inj,ok.has,ok.cab,ok.hd,ok.frames,ok.stk,ok.exf,ok.bs,ok.bsz,ok.noex,ok.exfs,ok.funs,ok.frf⟩
theorem Cx.Ok.unwish {X:Cx}{E:Value→Shared→Prop}(ok:(X.wish E).Ok):X.Ok:=
 ⟨ok.mod,ok.kind,ok.glob,ok.blt,ok.above,ok.inj,ok.has,ok.cab,ok.hd,ok.frames,ok.stk,ok.exf,ok.bs,ok.bsz,ok.noex,ok.exfs,ok.funs,ok.frf⟩
section
variable {X:Cx}{pins:List (Addr×Obj)}{σ:St}{H:Hp}{s:Shared}{E:Value→Shared→Prop}
theorem Inv.wish (I:Inv X pins σ H s)(E:Value→Shared→Prop):Inv (X.wish E) pins σ H s:=⟨I.ok.wish E,I.os,I.bare,I.base,I.loc,I.cell,I.free,I.freeC,I.pin,I.hok,I.len⟩
theorem Inv.unwish (I:Inv (X.wish E) pins σ H s):Inv X pins σ H s:=⟨I.ok.unwish,I.os,I.bare,I.base,I.loc,I.cell,I.free,I.freeC,I.pin,I.hok,I.len⟩
theorem SP.unwish {D:Ends}{f:Flow}{s':Shared}(h:SP (X.wish E) pins D f s'):SP X pins D f s':=by
 cases f with
 | next=>obtain ⟨σ',H',I,q⟩:=h;exact ⟨σ',H',I.unwish,q⟩
 | brk=>obtain ⟨σ',H',I,q⟩:=h;exact ⟨σ',H',I.unwish,q⟩
 | cont=>obtain ⟨σ',H',I,q⟩:=h;exact ⟨σ',H',I.unwish,q⟩
 | ret u=>obtain ⟨v,σ',H',I,r,q⟩:=h;exact ⟨v,σ',H',I.unwish,r,q⟩
theorem PT.nox {e:Expr}{t:TT}(h:PT X.nox e t):PT X e t:=fun pins s σ H Q I hw =>
 Xaw (h pins s σ H Q (I.wish _) hw) (fun _ _ ⟨H',I',q⟩=>⟨H',I'.unwish,q⟩) fun _ _ z=>False.elim z
theorem PSs.nox {st:List Stmt}{t:TS}(h:PSs X.nox st t):PSs X st t:=fun pins s σ H D I hw =>
 Xaw (h pins s σ H D (I.wish _) hw) (fun _ _ q=>q.unwish) fun _ _ z=>False.elim z
end
section
variable {X:Cx}{st:Stmt}{rest:List Stmt}{t u:TS}{e:Expr}{te:TE}{pos:Pos}
def tNext:TS:=fun D σ H=>D.nx σ H
def tSeq (t u:TS):TS:=fun D σ H=>t { D with nx:=u D } σ H
theorem zap:PSs X [] tNext:=fun _ _ σ H _ I h=>wpAny_execs_nil ⟨σ,H,I,h⟩
theorem zad (h1:PS X st t)(h2:PSs X rest u):PSs X (st :: rest) (tSeq t u):=by
 intro pins s σ H D I h
 refine wpAny_execs_cons (thn (h1 pins s σ H { D with nx:=u D } I h) fun f s1 q=>?_)
 cases f with
 | next =>
  obtain ⟨σ',H',I',q⟩:=q
  exact h2 pins s1 σ' H' D I' q
 | ret v=>exact q
 | brk=>exact q
 | cont=>exact q
theorem zag (h1:PS X st t):PSs X [st] t:=by
 intro pins s σ H D I h
 refine wpAny_execs_cons (thn (h1 pins s σ H D I h) fun f s1 q=>?_)
 cases f with
 | next=>exact wpAny_execs_nil q
 | ret v=>exact q
 | brk=>exact q
 | cont=>exact q
theorem Inv.quiet {pins:List (Addr×Obj)}{σ:St}{H:Hp}{s:Shared}(I:Inv X pins σ H s):interactive X.env=false:=by simp [interactive,I.ok.kind]
def tDrop (te:TE):TS:=fun D σ H=>te σ H fun _ H1=>D.nx σ H1
theorem zaI (he:PE X e te)(hs:swapsWith e none pos.line X.env=pure false:=by rfl):PS X (.Expr e pos) (tDrop te):=by
 intro pins s σ H D I h
 exact wpAny_Expr_any (thn (he pins s σ H _ I h) fun v s1 ⟨x,H1,I1,r1,q1⟩=>⟨σ,H1,I1,q1⟩) I.quiet hs
def tRet (te:TE):TS:=fun D σ H=>te σ H D.rt
theorem zal (he:PE X e te):PS X (.Return (some e) pos) (tRet te):=by
 intro pins s σ H D I h
 exact wpAny_Return_some (thn (he pins s σ H _ I h) fun v s1 ⟨x,H1,I1,r1,q1⟩=>⟨x,σ,H1,I1,r1,q1⟩)
def tIfS (c:TT)(t u:TS):TS:=fun D σ H=>c σ H fun b H1=>if b=true then t D σ H1 else u D σ H1
theorem zaB {c:Expr}{a b:List Stmt}{tc:TT}(hc:PT X c tc)(ha:PSs X a t)(hb:PSs X b u):PS X (.If c a b pos) (tIfS tc t u):=by
 intro pins s σ H D I h
 refine wpAny_If (thn (hc pins s σ H _ I h) fun d s1 ⟨H1,I1,q1⟩=>?_)
 cases d with
 | true=>exact ha pins s1 σ H1 D I1 q1
 | false=>exact hb pins s1 σ H1 D I1 q1
def tNever:TS:=fun _ _ _=>False
theorem zaw:PS X st tNever:=fun _ _ _ _ _ _ h=>h.elim
end
abbrev TG:=V→St→Hp→(St→Hp→Prop)→Prop
abbrev TGs:=List V→St→Hp→(St→Hp→Prop)→Prop
def PG (X:Cx)(target:Expr)(t:TG):Prop:=
 ∀ (pins:List (Addr×Obj)) (s:Shared) (σ:St) (H:Hp) (v:V) (u:Value) (Q:St→Hp→Prop),Inv X pins σ H s→RelV v u→t v σ H Q →
  wpAny (model X.prog X.w) X.A (assign target X.env u) (fun _ s'=>∃ σ' H',Inv X pins σ' H' s'∧Q σ' H') X.xe s
def PGs (X:Cx)(ts:List Expr)(t:TGs):Prop:=
 ∀ (pins:List (Addr×Obj)) (s:Shared) (σ:St) (H:Hp) (vs:List V) (us:List Value) (Q:St→Hp→Prop),Inv X pins σ H s→Vals vs us→t vs σ H Q →
  wpAny (model X.prog X.w) X.A (assignInOrder ((assignEach ts X.env).map (·.2)) us) (fun _ s'=>∃ σ' H',Inv X pins σ' H' s'∧Q σ' H') X.xe s
abbrev TSet:=V→V→V→Hp→(Hp→Prop)→Prop
def PSet (X:Cx)(t:TSet):Prop:=
 ∀ (pins:List (Addr×Obj)) (s:Shared) (σ:St) (H:Hp) (o i v:V) (ov iv u:Value) (Q:Hp→Prop),Inv X pins σ H s→RelV o ov→RelV i iv→RelV v u→t o i v H Q →
  wpAny (model X.prog X.w) X.A (setItem ov iv u) (fun _ s'=>∃ H',Inv X pins σ H' s'∧Q H') X.xe s
abbrev TIp:=V→V→Hp→VK→Prop
def PIp (X:Cx)(op:Operator)(t:TIp):Prop:=
 ∀ (pins:List (Addr×Obj)) (s:Shared) (σ:St) (H:Hp) (x y:V) (v u:Value) (Q:VK),Inv X pins σ H s→RelV x v→RelV y u→t x y H Q →
  wpAny (model X.prog X.w) X.A (inplaceOp op v u) (EP X pins σ Q) X.xe s
section
variable {X:Cx}{pos:Pos}
def zaA (i:Nat):TG:=fun v σ H Q=>Q (σ.set i (some v)) H
theorem zju {i:Nat}{x:Str}(hN:X.N.Nodup)(hi:X.N[i]? = some x)(hx:Loc X.env.scope x)(hf:X.fn x=true∨X.env.scope.names.lookup x=some .local:=by first | exact .inl rfl | exact .inr rfl | assumption):PG X (.Name x pos) (zaA i):=by
 intro pins s σ H v u Q I r h
 exact wpAny_assign_Name (zcd I hN hi hx r (fun s' I'=>⟨_,H,I',h⟩) hf)
def gNil:TGs:=fun vs σ H Q=>vs=[]∧Q σ H
inductive gCons (t:TG)(u:TGs)(vs:List V)(σ:St)(H:Hp)(Q:St→Hp→Prop):Prop
 | mk (v:_) (r:_) (z0_:vs=v :: r) (z1_:t v σ H fun σ' H'=>u r σ' H' Q)
theorem zaV:PGs X [] gNil:=by
 intro pins s σ H vs us Q I r h
 obtain ⟨e,h⟩:=h
 subst e
 cases r
 exact assignInOrder_nil ⟨σ,H,I,h⟩
theorem zan {e:Expr}{es:List Expr}{t:TG}{u:TGs}(h1:PG X e t)(h2:PGs X es u)
  (hs:(assignEach (e :: es) X.env).map (·.2)=assign e X.env :: (assignEach es X.env).map (·.2):=by rfl):PGs X (e :: es) (gCons t u):=by
 intro pins s σ H vs us Q I r h
 obtain ⟨v,vr,e1,h⟩:=h
 subst e1
 cases r with
 | cons r rr =>
  rw [hs]
  refine assignInOrder_cons (thn (h1 pins s σ H _ _ _ I r h) fun _ s1 ⟨σ1,H1,I1,q1⟩=>?_)
  exact h2 pins s1 σ1 H1 _ _ Q I1 rr q1
inductive gTup (K:W.Frag)(n:Nat)(t:TGs)(v:V)(σ:St)(H:Hp)(Q:St→Hp→Prop):Prop
 | mk (a:_) (xs:_) (z0_:v = .ref a) (z1_:SqT K H a xs) (z2_:xs.length=n) (z3_:t xs σ H Q)
theorem zbs {es:List Expr}{k:Nat}{t:TGs}{n:Nat}(hc:X.calm=true)(h:PGs X es t)
  (hn:(assignEach es X.env).length=n:=by rfl) (hst:(assignEach es X.env).findIdx? (·.1)=none:=by rfl):PG X (.Tuple es k pos) (gTup X.K n t):=by
 intro pins s σ H v u Q I r hw
 obtain ⟨a,xs,e1,hq,hl,hw⟩:=hw
 subst e1
 cases r
 obtain ⟨its,rv,ht,hz⟩:=I.tuple hq
 refine assign_Tuple_tuple (I.ok.hd hc) ht (by simp [hn,← hl,rv.length]) hst fun h' hx=>?_
 have I1:Inv X pins σ H { s with heap:=h' }:=I.kept (t':=s.toks) fun b o e=>hx b o (Xat (Xah e)) e
 exact h pins _ σ H xs _ Q I1 (by simpa using rv) hw
def gSub (to ti:TE)(t:TSet):TG:=fun v σ H Q=>to σ H fun o H1=>ti σ H1 fun i H2=>t o i v H2 fun H3=>Q σ H3
theorem pg_sub {o i:Expr}{to ti:TE}{t:TSet}(ho:PE X o to)(hi:PE X i ti)(hs:PSet X t)
  (ha:∀ v,assign (.Subscript o i pos) X.env v=(do
   let ov ← holding [v] (eval o X.env)
   let iv ← holding [v,ov] (eval i X.env)
   standAt pos
   holding [v,ov,iv] (setItem ov iv v)
   release [v,ov,iv] []):=by intro _;rfl):PG X (.Subscript o i pos) (gSub to ti t):=by
 intro pins s σ H v u Q I r h
 rw [ha]
 refine Xaa (Xaz (thn (ho pins s σ H _ I h) fun ov s1 hh_=>?_))
 obtain ⟨x,H1,I1,r1,q1⟩:=hh_
 refine Xaa (Xaz (thn (hi pins s1 σ H1 _ I1 q1) fun iv s2 hh_=>?_))
 obtain ⟨y,H2,I2,r2,q2⟩:=hh_
 refine Xaa (Xa4 (Xaa (Xaz (thn (hs pins s2 σ H2 x y v ov iv u _ I2 r1 r2 r q2) fun _ s3 ⟨H3,I3,q3⟩=>?_))))
 exact wpAny_release ⟨σ,H3,I3,q3⟩
def tAsg (te:TE)(g:TG):TS:=fun D σ H=>te σ H fun x H1=>g x σ H1 D.nx
theorem zch {tg e:Expr}{te:TE}{g:TG}(he:PE X e te)(hg:PG X tg g)(hs:swapsWithSole [tg] e pos.line X.env=pure false:=by rfl)(hw:swappedStores [tg] e X.env=pure none:=by rfl)
  (h1:(assignEach [tg] X.env).map (·.2)=[assign tg X.env]:=by rfl):PS X (.Assign [tg] e pos) (tAsg te g):=by
 intro pins s σ H D I h
 refine wpAny_Assign_stores (thn (he pins s σ H _ I h) fun v s1 hh_=>?_) hs hw
 obtain ⟨x,H1,I1,r1,q1⟩:=hh_
 rw [h1]
 exact thn (hg pins s1 σ H1 x v _ I1 r1 q1) fun _ s2 q=>q
theorem zg8 {i:Nat}{x:Str}{e:Expr}{te:TE}{pos':Pos}(hN:X.N.Nodup)(hi:X.N[i]? = some x)(hx:Loc X.env.scope x)(he:PE X e te)(hs:swapsWith e (some (.Name x pos')) pos.line X.env=pure false:=by rfl)(hf:X.fn x=true∨X.env.scope.names.lookup x=some .local:=by first | exact .inl rfl | exact .inr rfl | assumption) :
  PS X (.Assign [.Name x pos'] e pos) (tAsg te (zaA i)):=by
 intro pins s σ H D I h
 refine wpAny_Assign_Name (thn (he pins s σ H _ I h) fun v s1 hh_=>?_) hs
 obtain ⟨y,H1,I1,r1,q1⟩:=hh_
 exact zcd I1 hN hi hx r1 (fun s2 I2=>⟨_,H1,I2,q1⟩) hf
inductive tAug (i:Nat)(te:TE)(ti:TIp)(D:Ends)(σ:St)(H:Hp):Prop
 | mk (x:_) (z0_:σ[i]? = some (some x)) (z1_:te σ H fun y H1=>ti x y H1 fun z H2=>D.nx (σ.set i (some z)) H2)
theorem zeD {i:Nat}{x:Str}{e:Expr}{te:TE}{op:Operator}{ti:TIp}{pos':Pos}(hN:X.N.Nodup)(hi:X.N[i]? = some x)(hx:Loc X.env.scope x)(he:PE X e te)(ho:PIp X op ti)(hf:X.fn x=true∨X.env.scope.names.lookup x=some .local:=by first | exact .inl rfl | exact .inr rfl | assumption) :
  PS X (.AugAssign (.Name x pos') op e pos) (tAug i te ti):=by
 intro pins s σ H D I h
 obtain ⟨v,e1,h⟩:=h
 obtain ⟨m,hn,hl⟩:=I.loc
 have vis:Vis X.env.scope x:=by rcases hx with k | k;exact .inl k;exact .inr (.inl k)
 obtain ⟨u,r,l⟩:=hl i x v hi e1 vis
 refine wpAny_AugAssign_Name ?_
 have go:wpAny (model X.prog X.w) X.A (eval e X.env) (fun w s₂=>wpAny (model X.prog X.w) X.A (inplaceOp op u w) (fun r s₃=>wpAny (model X.prog X.w) X.A (storeName X.env x r) (fun _=>SP X pins D .next) X.xe s₃) X.xe s₂) X.xe s:=by
  refine thn (he pins s σ H _ I h) fun w s1 hh_=>?_
  obtain ⟨y,H1,I1,r1,q1⟩:=hh_
  refine thn (ho pins s1 σ H1 v y u w _ I1 r r1 q1) fun z s2 hh_=>?_
  obtain ⟨zv,H2,I2,r2,q2⟩:=hh_
  exact zcd I2 hN hi hx r2 (fun s3 I3=>⟨_,H2,I3,q2⟩) hf
 rcases l with ⟨hk,hm⟩ | ⟨hk,c,hc,hcell⟩
 ·exact wpAny_loadName_local I.ok.kind hk hn hm go
 ·rcases hk with hk | hk
  ·exact wpAny_loadName_cell I.ok.kind hk hc hcell go
  ·rcases hx with k | k
   ·have:X.env.scope.names.lookup x=some .free:=hk
    rw [k] at this;cases this
   ·have:X.env.scope.names.lookup x=some .free:=hk
    rw [k] at this;cases this
def tAugS (to ti te:TE)(tget:V→V→Hp→VK→Prop)(tip:TIp)(tset:TSet):TS:=fun D σ H=>to σ H fun o H1=>ti σ H1 fun i H2=>tget o i H2 fun x H3=>te σ H3 fun y H4=>tip x y H4 fun z H5=>tset o i z H5 fun H6=>D.nx σ H6
def PGet (X:Cx)(t:V→V→Hp→VK→Prop):Prop:=
 ∀ (pins:List (Addr×Obj)) (s:Shared) (σ:St) (H:Hp) (o i:V) (ov iv:Value) (Q:VK),Inv X pins σ H s→RelV o ov→RelV i iv→t o i H Q →
  wpAny (model X.prog X.w) X.A (getItem ov iv) (EP X pins σ Q) X.xe s
theorem zjs {o i e:Expr}{to ti te:TE}{tget:V→V→Hp→VK→Prop}{tip:TIp}{tset:TSet}{op:Operator}{tpos:Pos}(ho:PE X o to)(hi:PE X i ti)(hg:PGet X tget)(he:PE X e te)(hp:PIp X op tip)(hs:PSet X tset)
  (ha:∀ ov iv new,augStore i ov iv new=(do holding [new,ov,iv] (setItem ov iv new);release [new,ov,iv] [];pure .next):=by intros;rfl):PS X (.AugAssign (.Subscript o i tpos) op e pos) (tAugS to ti te tget tip tset):=by
 intro pins s σ H D I h
 refine wpAny_AugAssign_SubscriptAny (thn (ho pins s σ H _ I h) fun ov s1 hh_=>?_) ha
 obtain ⟨x1,H1,I1,r1,q1⟩:=hh_
 refine thn (hi pins s1 σ H1 _ I1 q1) fun iv s2 hh_=>?_
 obtain ⟨x2,H2,I2,r2,q2⟩:=hh_
 refine thn (hg pins s2 σ H2 x1 x2 ov iv _ I2 r1 r2 q2) fun old s3 hh_=>?_
 obtain ⟨x3,H3,I3,r3,q3⟩:=hh_
 refine thn (he pins s3 σ H3 _ I3 q3) fun v s4 hh_=>?_
 obtain ⟨x4,H4,I4,r4,q4⟩:=hh_
 refine thn (hp pins s4 σ H4 x3 x4 old v _ I4 r3 r4 q4) fun new s5 hh_=>?_
 obtain ⟨x5,H5,I5,r5,q5⟩:=hh_
 exact thn (hs pins s5 σ H5 x1 x2 x5 ov iv new _ I5 r1 r2 r5 q5) fun _ s6 ⟨H6,I6,q6⟩=>⟨σ,H6,I6,q6⟩
inductive ipI (f:Int→Int→Int)(x:V)(y:V)(H:Hp)(Q:VK):Prop
 | mk (i:_) (j:_) (z0_:x = .int i) (z1_:y = .int j) (z2_:Q (.int (f i j)) H)
theorem ip_add:PIp X .Add (ipI fun i j=>i+j):=by
 intro pins s σ H x y v u Q I r1 r2 h
 obtain ⟨i,j,e1,e2,q⟩:=h
 subst e1;subst e2
 obtain ⟨t,rfl⟩:=r1
 obtain ⟨t',rfl⟩:=r2
 exact iadd_int ⟨.int _,H,I.tok _,⟨_,rfl⟩,q⟩
end
section
variable {X:Cx}{pos:Pos}
def ziO (c:TT)(tb:TS):TS:=fun D σ H=>∃ W:Nat→St→Hp→Prop,(∃ m,W m σ H)∧∀ m σ H,W m σ H →
 c σ H fun b H1=>if b=true then ∃ N:St→Hp→Prop,(∀ σ' H',N σ' H'→∃ m',m'<m∧W m' σ' H')∧tb { D with nx:=N,ct:=N,bk:=D.nx } σ H1 else D.nx σ H1
theorem zfO {c:Expr}{body:List Stmt}{tc:TT}{tb:TS}(hp:PassesOwn (model X.prog X.w) X.A X.env X.xe)(hc:PT X c tc)(hb:PSs X body tb):PS X (.While c body [] pos) (ziO tc tb):=by
 intro pins s σ H D I h
 obtain ⟨W,⟨m0,w0⟩,turn⟩:=h
 refine wpAny_While (codeAny_whileLoop (fun n s'=>∃ σ' H',Inv X pins σ' H' s'∧W n σ' H') ?_ m0 ⟨σ,H,I,w0⟩)
 rintro n s1 ⟨σ1,H1,I1,w1⟩
 refine Xbh hp (thn (hc pins s1 σ1 H1 _ I1 (turn n σ1 H1 w1)) fun b s2 ⟨H2,I2,q2⟩=>?_)
 cases b with
 | true =>
  obtain ⟨N,hN,q2⟩:=q2
  rw [if_pos rfl]
  refine Xbh hp (thn (hb pins s2 σ1 H2 _ I2 q2) fun f s3 q3=>?_)
  cases f with
  | next =>
   obtain ⟨σ3,H3,I3,n3⟩:=q3
   obtain ⟨m',hm,w3⟩:=hN σ3 H3 n3
   exact ⟨m',hm,σ3,H3,I3,w3⟩
  | cont =>
   obtain ⟨σ3,H3,I3,n3⟩:=q3
   obtain ⟨m',hm,w3⟩:=hN σ3 H3 n3
   exact ⟨m',hm,σ3,H3,I3,w3⟩
  | brk=>exact q3
  | ret v=>exact q3
 | false =>
  rw [if_neg Xak]
  exact wpAny_execs_nil ⟨σ1,H2,I2,q2⟩
end
structure It where
 go:Nat→Hp→Prop
 yld:Nat→Hp→V→Hp→Prop
 stop:Nat→Hp→Prop
def FpOk (X:Cx)(pins:List (Addr×Obj))(H:Hp)(b:Addr):Prop:=
 H b=none∧b≠X.env.locals∧b ∉ X.fs∧(b∈X.ex∨X.s₀.heap.objs.size≤b)∧(∀ x c,X.env.cells.lookup x=some c→c≠b)∧∀ p∈X.pn ++ pins,p.1≠b
theorem Inv.fpOk {X:Cx}{pins:List (Addr×Obj)}{σ:St}{H H':Hp}{s:Shared}{b:Addr}(I:Inv X pins σ H s)(hb:s.heap.objs.size≤b)(hn:H' b=none):FpOk X pins H' b:=by
 refine ⟨hn,Xbf (Xaf I.lt hb),I.nofs hb,.inr (Xam I.sz hb),fun x c e z=>?_,fun p hp z=>?_⟩
 ·obtain ⟨v,q⟩:=I.cell x c e
  exact absurd (Xaf q.lt (by rw [z];exact hb)) (XaL _)
 ·exact absurd (Xaf (Xah (I.pin p hp).1) (by rw [z];exact hb)) (XaL _)
structure Turn (P:Program)(w:World)(K:W.Frag)(tg:Expr)(J:It)(fp:List Addr)(it:Addr)(tn:Nat→Heap→Prop):Prop where
 mem:it∈fp
 obj:∀ i h,tn i h→∀ b∈fp,∃ o,h.get? b=some o∧∀ v,o.data≠.cell v
 keep:∀ i h h',tn i h→(∀ b∈fp,∀ o,h.get? b=some o→h'.get? b=some o)→tn i h'
 item:∀ (X:Cx),X.prog=P→X.w=w→X.K=K→X.calm=true→∀ (i:Nat) (pins:List (Addr×Obj)) (s:Shared) (σ:St) (H:Hp) (E:Value→Shared→Prop),Inv X pins σ H s→(∀ b∈fp,FpOk X pins H b)→tn i s.heap→J.go i H →
  wpAny (model P w) X.A (pyNext (.ref it)) (fun r s1=>∃ u,r=some u ∧
   wpAny (model P w) X.A (letOwnedTupleGo tg (.ref it) u) (fun _ s2=>∃ x H',Inv X pins σ H' s2∧RelV x u∧J.yld i H x H'∧tn (i+1) s2.heap∧∀ b∈fp,H' b=none) E s1) E s
 done:∀ (X:Cx),X.prog=P→X.w=w→X.K=K→X.calm=true→∀ (i:Nat) (pins:List (Addr×Obj)) (s:Shared) (σ:St) (H:Hp) (E:Value→Shared→Prop),Inv X pins σ H s→(∀ b∈fp,FpOk X pins H b)→tn i s.heap→J.stop i H →
  wpAny (model P w) X.A (pyNext (.ref it)) (fun r s1=>r=none∧Inv X pins σ H s1) E s
 self:∀ (A:Around) (i:Nat) (s:Shared) (Q:Value→Shared→Prop) (E:Value→Shared→Prop),tn i s.heap→Q (.ref it) s→wpAny (model P w) A (pyIter (.ref it)) Q E s
abbrev TI:=St→Hp→(It→Hp→Prop)→Prop
def PIE (X:Cx)(pins:List (Addr×Obj))(σ:St)(tg:Expr)(R:It→Hp→Prop)(itv:Value)(s2:Shared):Prop:=
 ∃ (it:Addr) (fp:List Addr) (tn:Nat→Heap→Prop) (J:It) (H':Hp),itv = .ref it∧Inv X pins σ H' s2∧Turn X.prog X.w X.K tg J fp it tn∧tn 0 s2.heap∧(∀ b∈fp,FpOk X pins H' b)∧R J H'
def PI (X:Cx)(tg iter:Expr)(wi:TI):Prop:=
 ∀ (pins:List (Addr×Obj)) (s:Shared) (σ:St) (H:Hp) (R:It→Hp→Prop),Inv X pins σ H s→wi σ H R →
  wpAny (model X.prog X.w) X.A (eval iter X.env) (fun v s1=>wpAny (model X.prog X.w) X.A (pyIter v) (PIE X pins σ tg R) X.xe s1) X.xe s
theorem zjO {M:Model}{A:Around}{E:Value→Shared→Prop}{s:Shared}{tg:Expr}{it:Addr}{u:Value}{o:Obj}{n:String}{vs:Array Value}{Q:Unit→Shared→Prop}(ho:s.heap.get? it=some o)(hc:o.cls = .type n)(hd:o.data = .fields vs)
    (hn:["enumerate","zip","dict_itemiterator","dict_reverseitemiterator","odict_iterator","itertools.zip_longest","itertools.pairwise"].contains n=false) (hQ:Q () s):wpAny M A (letOwnedTupleGo tg (.ref it) u) Q E s:=by
  unfold letOwnedTupleGo
  cases tg <;> first
    | exact Xac hQ
    | (cases u <;> first
        | exact Xac hQ
        | (refine Xaa (wpAny_load ho ?_)
           rw [hc,hd]
           show wpAny M A (if (["enumerate","zip","dict_itemiterator","dict_reverseitemiterator","odict_iterator","itertools.zip_longest","itertools.pairwise"].contains n && vs[0]? == some (rawInt _))=true then _ else _) Q E s
           rw [if_neg (by intro h;rw [hn,Bool.false_and] at h;cases h)]
           exact Xac hQ))
def Itl (K:W.Frag)(a:Addr):It:=
 ⟨fun i H=>∃ xs x,SqL K H a xs∧xs[i]? = some x,fun i H x H'=>H'=H∧∀ xs,SqL K H a xs→xs[i]? = some x,fun i H=>∃ xs,SqL K H a xs∧xs.length≤i⟩
def Itt (K:W.Frag)(a:Addr):It:=
 ⟨fun i H=>∃ xs x,SqT K H a xs∧xs[i]? = some x,fun i H x H'=>H'=H∧∀ xs,SqT K H a xs→xs[i]? = some x,fun i H=>∃ xs,SqT K H a xs∧xs.length≤i⟩
def Itr (lo:Int)(n:Nat):It:=⟨fun i _=>i<n,fun i H x H'=>H'=H∧x = .int (lo+i),fun i _=>n≤i⟩
theorem zgP {P:Program}{w:World}{K:W.Frag}{tg:Expr}(a it:Addr):Turn P w K tg (Itl K a) [it] it (fun i h=>h.IsListIter it a i) where
 mem:=by simp
 obj:=fun i h st b hb=>by
  have e:b=it:=by simpa using hb
  subst e
  obtain ⟨o,e,c,d⟩:=st
  exact ⟨o,e,fun v z=>by rw [d] at z;cases z⟩
 keep:=fun i h h' st k=>st.at fun o e=>k it (by simp) o e
 item:=by
  intro X hP hw hK hc i pins s σ H E I hf st hg
  subst hP hw hK
  obtain ⟨xs,x,hq,hx⟩:=hg
  obtain ⟨its,rv,p,hz⟩:=I.list hq
  obtain ⟨u,hu,ru⟩:=rv.get hx
  obtain ⟨f0,f1,f2,f3,f4,f5⟩:=hf it (by simp)
  refine wpAny_pyNext_list_item st p.isList (x:=u) (by simpa using hu) fun h' st' sb=>?_
  have I1:Inv X pins σ H { s with heap:=h' }:=I.turned (t':=s.toks) (fun b o hb e=>(sb.2 b hb).trans e) f0 f1 f3 f4 f5
  obtain ⟨o,e,c,d⟩:=id st'
  exact ⟨u,rfl,zjO (s:={ s with heap:=h' }) e c d (by decide) ⟨x,H,I1,ru,⟨rfl,fun ys hy=>by rw [I.list_inj hy hq];exact hx⟩,st',fun b hb=>(hf b hb).1⟩⟩
 done:=by
  intro X hP hw hK hc i pins s σ H E I hf st hg
  subst hP hw hK
  obtain ⟨xs,hq,hx⟩:=hg
  obtain ⟨its,rv,p,hz⟩:=I.list hq
  obtain ⟨f0,f1,f2,f3,f4,f5⟩:=hf it (by simp)
  have hl:=rv.length
  exact wpAny_pyNext_list_end (I.ok.hd hc) st p.isList (by simp;omega) fun h' eb=>⟨rfl,I.turned (t':=s.toks) (fun b o hb e=>eb b o hb e) f0 f1 f3 f4 f5⟩
 self:=fun _ _ _ _ _ st h=>wpAny_pyIter_listiter st h
theorem zf3 {P:Program}{w:World}{K:W.Frag}{tg:Expr}(a it:Addr):Turn P w K tg (Itt K a) [it] it (fun i h=>h.IsTupleIter it a i) where
 mem:=by simp
 obj:=fun i h st b hb=>by
  have e:b=it:=by simpa using hb
  subst e
  obtain ⟨o,e,c,d⟩:=st
  exact ⟨o,e,fun v z=>by rw [d] at z;cases z⟩
 keep:=fun i h h' st k=>st.at fun o e=>k it (by simp) o e
 item:=by
  intro X hP hw hK hc i pins s σ H E I hf st hg
  subst hP hw hK
  obtain ⟨xs,x,hq,hx⟩:=hg
  obtain ⟨its,rv,p,hz⟩:=I.tuple hq
  obtain ⟨u,hu,ru⟩:=rv.get hx
  obtain ⟨f0,f1,f2,f3,f4,f5⟩:=hf it (by simp)
  refine wpAny_pyNext_tuple_item st (show s.heap.IsTuple a its.toArray from p) (x:=u) (by simpa using hu) fun h' st' sb=>?_
  have I1:Inv X pins σ H { s with heap:=h' }:=I.turned (t':=s.toks) (fun b o hb e=>(sb.2 b hb).trans e) f0 f1 f3 f4 f5
  obtain ⟨o,e,c,d⟩:=id st'
  exact ⟨u,rfl,zjO (s:={ s with heap:=h' }) e c d (by decide) ⟨x,H,I1,ru,⟨rfl,fun ys hy=>by rw [I.tuple_inj hy hq];exact hx⟩,st',fun b hb=>(hf b hb).1⟩⟩
 done:=by
  intro X hP hw hK hc i pins s σ H E I hf st hg
  subst hP hw hK
  obtain ⟨xs,hq,hx⟩:=hg
  obtain ⟨its,rv,p,hz⟩:=I.tuple hq
  obtain ⟨f0,f1,f2,f3,f4,f5⟩:=hf it (by simp)
  have hl:=rv.length
  exact wpAny_pyNext_tuple_end (I.ok.hd hc) st (show s.heap.IsTuple a its.toArray from p) (by simp;omega) fun h' eb=>⟨rfl,I.turned (t':=s.toks) (fun b o hb e=>eb b o hb e) f0 f1 f3 f4 f5⟩
 self:=fun _ _ _ _ _ st h=>wpAny_pyIter_tupleiter st h
theorem zf4 {P:Program}{w:World}{K:PySem.W.Frag}{tg:Expr}(it:Addr)(lo:Int)(n:Nat):Turn P w K tg (Itr lo n) [it] it (fun i h=>IsRangeIter h it (lo+(i:Nat) * 1) ((n:Int) - (i:Nat)) 1) where
 mem:=by simp
 obj:=fun i h st b hb=>by
  have e:b=it:=by simpa using hb
  subst e
  exact ⟨_,st,fun v z=>by
   have z':Data.fields _=Data.cell v:=z
   cases z'⟩
 keep:=fun i h h' st k=>k it (by simp) _ st
 item:=by
  intro X hP hw hK hc i pins s σ H E I hf st hg
  subst hP hw hK
  obtain ⟨f0,f1,f2,f3,f4,f5⟩:=hf it (by simp)
  have W:=Walks.range (prog:=X.prog) (w:=X.w) (I.ok.hd hc) it lo 1 n
  refine W.item i s _ _ hg st fun v h' tk hv st' kk=>?_
  obtain ⟨t,rfl⟩:=hv
  have I1:Inv X pins σ H { s with heap:=h',toks:=tk }:=I.turned (fun b o hb e=>kk b o (by simpa using hb) e) f0 f1 f3 f4 f5
  refine ⟨_,rfl,zjO (s:={ s with heap:=h',toks:=tk }) (n := "range_iterator") st' rfl rfl (by decide) ⟨.int (lo+i),H,I1,⟨t,?_⟩,⟨rfl,rfl⟩,st',fun b hb=>(hf b hb).1⟩⟩
  rw [Int.mul_one]
 done:=by
  intro X hP hw hK hc i pins s σ H E I hf st hg
  subst hP hw hK
  obtain ⟨f0,f1,f2,f3,f4,f5⟩:=hf it (by simp)
  exact wpAny_pyNext_range_end (I.ok.hd hc) st (by have:n≤i:=hg;omega) fun h' eb=>⟨rfl,I.turned (t':=s.toks) (fun b o hb e=>eb b o hb e) f0 f1 f3 f4 f5⟩
 self:=fun _ _ _ _ _ st h=>wpAny_pyIter_rangeiter st h
section
variable {X:Cx}{tg:Expr}
inductive iList_1 (K:W.Frag)(R:It→Hp→Prop)(x:V)(H1:Hp):Prop
 | mk (a:_) (z0_:x = .ref a) (z1_:(∃ xs,SqL K H1 a xs)) (z2_:R (Itl K a) H1)
def iList (K:W.Frag)(tl:TE):TI:=fun σ H R=>tl σ H (iList_1 K R)
inductive iTup_1 (K:W.Frag)(R:It→Hp→Prop)(x:V)(H1:Hp):Prop
 | mk (a:_) (z0_:x = .ref a) (z1_:(∃ xs,SqT K H1 a xs)) (z2_:R (Itt K a) H1)
def iTup (K:W.Frag)(tl:TE):TI:=fun σ H R=>tl σ H (iTup_1 K R)
theorem zfn {l:Expr}{tl:TE}(hl:PE X l tl):PI X tg l (iList X.K tl):=by
 intro pins s σ H R I h
 refine thn (hl pins s σ H _ I h) fun v s1 hh_=>?_
 obtain ⟨x,H1,I1,r1,q1⟩:=hh_
 obtain ⟨a,e,⟨xs,hq⟩,q⟩:=q1
 subst e
 cases r1
 obtain ⟨its,rv,p,hz⟩:=I1.list hq
 refine wpAny_pyIter_list p.isList ?_
 refine ⟨s1.heap.objs.size,[s1.heap.objs.size],_,_,H1,rfl,I1.kept (t':=s1.toks) fun b o e=>Xab _ e,zgP a _,⟨_,Xag _ rfl,rfl,rfl⟩,fun b hb=>?_,q⟩
 have e:b=s1.heap.objs.size:=by simpa using hb
 subst e
 exact I1.fpOk (Xae _) (I1.hok.fresh (Xae _))
theorem ziV {l:Expr}{tl:TE}(hl:PE X l tl):PI X tg l (iTup X.K tl):=by
 intro pins s σ H R I h
 refine thn (hl pins s σ H _ I h) fun v s1 hh_=>?_
 obtain ⟨x,H1,I1,r1,q1⟩:=hh_
 obtain ⟨a,e,⟨xs,hq⟩,q⟩:=q1
 subst e
 cases r1
 obtain ⟨its,rv,p,hz⟩:=I1.tuple hq
 refine Xbr (show s1.heap.IsTuple a its.toArray from p) ?_
 refine ⟨s1.heap.objs.size,[s1.heap.objs.size],_,_,H1,rfl,I1.kept (t':=s1.toks) fun b o e=>Xab _ e,zf3 a _,⟨_,Xag _ rfl,rfl,rfl⟩,fun b hb=>?_,q⟩
 have e:b=s1.heap.objs.size:=by simpa using hb
 subst e
 exact I1.fpOk (Xae _) (I1.hok.fresh (Xae _))
theorem zid {pins:List (Addr×Obj)}{σ:St}{H:Hp}{s:Shared}{R:It→Hp→Prop}{E:Value→Shared→Prop}{lo hi:Int}{t u v:Tok}{tk:Nat}(I:Inv X pins σ H s)(h1:-(2 ^ 62)≤lo)(h2:lo<2 ^ 62)(h3:-(2 ^ 62)≤hi)(h4:hi<2 ^ 62)
  (q:R (Itr lo (hi - lo).toNat) H):wpAny (model X.prog X.w) X.A (pyIter (.ref s.heap.objs.size)) (PIE X pins σ tg R) E { s with heap:=s.heap.push { cls:=.type "range",data:=.fields #[.int lo t,.int hi u,.int 1 v] },toks:=tk }:=by
 refine wpAny_pyIter_range (IsRange.new ..) (small_one h1 h2 h3 h4) ?_
 have I1:Inv X pins σ H { s with heap:=s.heap.push { cls:=.type "range",data:=.fields #[.int lo t,.int hi u,.int 1 v] },toks:=tk }:=I.kept fun b o e=>Xab _ e
 refine ⟨(s.heap.push { cls:=.type "range",data:=.fields #[.int lo t,.int hi u,.int 1 v] }).objs.size,[(s.heap.push { cls:=.type "range",data:=.fields #[.int lo t,.int hi u,.int 1 v] }).objs.size],_,_,H,rfl,
  I1.kept (t':=tk) fun b o e=>Xab _ e,zf4 _ lo (hi - lo).toNat,?_,fun b hb=>?_,q⟩
 ·have e1:lo+((0:Nat):Int) * 1=lo:=by simp
  have e2:(((hi - lo).toNat:Nat):Int) - ((0:Nat):Int)=Builtin.Range.rangeSize lo hi 1:=by rw [rangeSize_one];split <;> omega
  show IsRangeIter _ _ (lo+((0:Nat):Int) * 1) ((((hi - lo).toNat:Nat):Int) - ((0:Nat):Int)) 1
  rw [e1,e2]
  exact Xag _ rfl
 ·have e:b=(s.heap.push { cls:=.type "range",data:=.fields #[.int lo t,.int hi u,.int 1 v] }).objs.size:=by simpa using hb
  subst e
  exact I1.fpOk (Xae _) (I1.hok.fresh (Xae _))
inductive iRng1_1 (R:It→Hp→Prop)(vs:List V)(H1:Hp):Prop
 | mk (j:Int) (z0_:vs=[.int j]) (z1_:-(2 ^ 62)≤j) (z2_:j<2 ^ 62) (z3_:R (Itr 0 j.toNat) H1)
def iRng1 (ta:TA):TI:=fun σ H R=>ta σ H (iRng1_1 R)
theorem zaX {a:Expr}{ta:TA}{p pos:Pos}(hg:Gl X "range")(hm:X.mg "range" = none)(ha:PA X [a] ta)(hs:starEach [a] X.env=[(false,eval a X.env)]:=by rfl):PI X tg (.Call (.Name "range" p) [a] [] pos) (iRng1 ta):=by
 intro pins s σ H R I h
 refine Call_ (zdz I hg hm boot_range (PyProof.Rows.callWith_type1 (thn (ha pos pins s σ H _ I h) fun us s1 hh_=>?_) hs rfl))
 obtain ⟨vs,H1,I1,r1,q1⟩:=hh_
 obtain ⟨j,e,q1,q2,q⟩:=q1
 subst e
 cases r1 with
 | cons r rr =>
  cases rr
  obtain ⟨t,rfl⟩:=r
  exact call_range_1 (zid I1 (by omega) (by omega) q1 q2 (by simpa using q))
def tFor (wi:TI)(g:TG)(tb:TS):TS:=fun D σ H=>wi σ H fun J H1=>∃ W:Nat→Nat→St→Hp→Prop,(∃ m,W 0 m σ H1)∧∀ i m σ H,W i m σ H →
 (J.stop i H∧D.nx σ H)∨(J.go i H∧∃ N:St→Hp→Prop,(∀ σ' H',N σ' H'→∃ m',m'<m∧W (i+1) m' σ' H')∧∀ x H',J.yld i H x H'→g x σ H' fun σ2 H2=>tb { D with nx:=N,ct:=N,bk:=D.nx } σ2 H2)
def zdX (fp:List Addr)(h:Heap):List (Addr×Obj):=fp.filterMap fun b=>(h.get? b).map fun o=>(b,o)
theorem za4 {fp:List Addr}{h:Heap}{b:Addr}{o:Obj}(hb:b∈fp)(e:h.get? b=some o):(b,o)∈zdX fp h:=List.mem_filterMap.mpr ⟨b,hb,by rw [e];rfl⟩
theorem zhs {fp:List Addr}{h:Heap}{p:Addr×Obj}(hp:p∈zdX fp h):p.1∈fp∧h.get? p.1=some p.2:=by
 obtain ⟨b,hb,e⟩:=List.mem_filterMap.mp hp
 cases q:h.get? b with
 | none=>rw [q] at e;cases e
 | some o =>
  rw [q] at e
  have e':(b,o)=p:=Option.some.inj e
  subst e'
  exact ⟨hb,q⟩
theorem Inv.pinned {pins:List (Addr×Obj)}{σ:St}{H:Hp}{s:Shared}{fp:List Addr}(I:Inv X pins σ H s)(hf:∀ b∈fp,FpOk X pins H b)(ho:∀ b∈fp,∃ o,s.heap.get? b=some o∧∀ v,o.data≠.cell v):Inv X (pins ++ zdX fp s.heap) σ H s:=
 I.pins_of fun p hp=>(XaP.mp hp).elim (fun z=>I.pin p (Xap _ z)) fun z=>by
  obtain ⟨hb,e⟩:=zhs z
  obtain ⟨f0,f1,f2,_⟩:=hf p.1 hb
  obtain ⟨o,e',d⟩:=ho p.1 hb
  rw [e] at e';cases e'
  exact ⟨e,f0,f1,f2,d⟩
theorem Inv.unpinned {pins pl:List (Addr×Obj)}{σ:St}{H:Hp}{s:Shared}(I:Inv X (pins ++ pl) σ H s):Inv X pins σ H s:=I.pins_of fun p hp=>I.pin p (Xap _ (XaA _ hp))
theorem zb0 {iter:Expr}{body:List Stmt}{wi:TI}{g:TG}{tb:TS}{pos:Pos}(hp:PassesOwn (model X.prog X.w) X.A X.env X.xe)(hc:X.calm=true)(hi:PI X tg iter wi)(hg:PG X tg g)(hb:PSs X body tb)
  (hs:∀ x,foldedSetIterable iter X.env x=pure x:=by intro _;rfl):PS X (.For tg iter body [] pos) (tFor wi g tb):=by
 intro pins s σ H D I h
 refine wpAny_For (thn (hi pins s σ H _ I h) fun v s1 h1=>thn h1 fun itv s2 h2=>?_) hs
 obtain ⟨it,fp,tn,J,H2,e,I2,T,st2,f2,W,⟨m0,w0⟩,turn⟩:=h2
 subst e
 
 have stat:∀ {H':Hp},(∀ b∈fp,H' b=none)→∀ b∈fp,FpOk X pins H' b:=fun hn b hb=>⟨hn b hb,(f2 b hb).2⟩
 refine codeAny_forLoop_any (fun n s'=>∃ i σ' H',Inv X pins σ' H' s'∧tn i s'.heap∧(∀ b∈fp,H' b=none)∧W i n σ' H') ?_ m0 ⟨0,σ,H2,I2,st2,fun b hb=>(f2 b hb).1,w0⟩
 rintro n s3 ⟨i,σ3,H3,I3,st3,fr3,w3⟩
 rcases turn i n σ3 H3 w3 with ⟨stop,qn⟩ | ⟨go,N,hN,step⟩
 ·refine Xbh hp (thn (T.done X rfl rfl rfl hc i pins s3 σ3 H3 X.xe I3 (stat fr3) st3 stop) fun r s4 ⟨hr,I4⟩=>?_)
  subst hr
  exact wpAny_execs_nil ⟨σ3,H3,I4,qn⟩
 ·refine Xbh hp (thn (T.item X rfl rfl rfl hc i pins s3 σ3 H3 X.xe I3 (stat fr3) st3 go) fun r s4 ⟨u,hr,h4⟩=>?_)
  subst hr
  refine Xbh hp (thn h4 fun _ s5 hh_=>?_)
  obtain ⟨x,H5,I5,r5,y5,st5,fr5⟩:=hh_
  have I5':=I5.pinned (stat fr5) (T.obj _ _ st5)
  refine Xbh hp (thn (hg _ s5 σ3 H5 x u _ I5' r5 (step x H5 y5)) fun _ s6 ⟨σ6,H6,I6,q6⟩=>?_)
  refine Xbh hp (thn (hb _ s6 σ6 H6 _ I6 q6) fun f s7 q7=>?_)
  have again:∀ {σ7:St} {H7:Hp},Inv X (pins ++ zdX fp s5.heap) σ7 H7 s7→N σ7 H7→∃ m,m<n∧∃ i σ' H',Inv X pins σ' H' s7∧tn i s7.heap∧(∀ b∈fp,H' b=none)∧W i m σ' H':=fun {σ7 H7} I7 n7=>by
   obtain ⟨m',hm,w7⟩:=hN σ7 H7 n7
   refine ⟨m',hm,i+1,σ7,H7,I7.unpinned,T.keep _ _ _ st5 fun b hb o e=>(I7.pin (b,o) (Xap _ (Xap _ (za4 hb e)))).1,fun b hb=>?_,w7⟩
   obtain ⟨o,e,d⟩:=T.obj _ _ st5 b hb
   exact (I7.pin (b,o) (Xap _ (Xap _ (za4 hb e)))).2.1
  cases f with
  | next=>obtain ⟨σ7,H7,I7,n7⟩:=q7;exact again I7 n7
  | cont=>obtain ⟨σ7,H7,I7,n7⟩:=q7;exact again I7 n7
  | brk=>obtain ⟨σ7,H7,I7,q7⟩:=q7;exact ⟨σ7,H7,I7.unpinned,q7⟩
  | ret v=>obtain ⟨x7,σ7,H7,I7,r7,q7⟩:=q7;exact ⟨x7,σ7,H7,I7.unpinned,r7,q7⟩
end
theorem ziC {K:PySem.W.Frag}{a:Addr}{xs:List V}{g:TG}{tb:TS}{D:Ends}{σ:St}{H:Hp}(Pv:Nat→St→Hp→Prop)(h0:Pv 0 σ H)(hl:∀ i σ H,i≤xs.length→Pv i σ H→SqL K H a xs)
  (hs:∀ i x σ H,xs[i]? = some x→Pv i σ H→g x σ H fun σ2 H2=>tb { D with nx:=Pv (i+1),ct:=Pv (i+1),bk:=D.nx } σ2 H2) (hd:∀ σ H,Pv xs.length σ H→D.nx σ H) :
  ∃ W:Nat→Nat→St→Hp→Prop,(∃ m,W 0 m σ H)∧∀ i m σ H,W i m σ H →
   ((Itl K a).stop i H∧D.nx σ H)∨((Itl K a).go i H∧∃ N:St→Hp→Prop,(∀ σ' H',N σ' H'→∃ m',m'<m∧W (i+1) m' σ' H')∧∀ x H',(Itl K a).yld i H x H'→g x σ H' fun σ2 H2=>tb { D with nx:=N,ct:=N,bk:=D.nx } σ2 H2):=by
 refine ⟨fun i m σ H=>m=xs.length - i∧i≤xs.length∧Pv i σ H,⟨xs.length,by simp,Nat.zero_le _,h0⟩,?_⟩
 rintro i m σ H ⟨rfl,hi,p⟩
 have q:=hl i σ H hi p
 by_cases hlt:i<xs.length
 ·refine .inr ⟨⟨xs,xs[i],q,by simp [hlt]⟩,Pv (i+1),fun σ' H' p'=>⟨xs.length - (i+1),by omega,rfl,hlt,p'⟩,fun x H' y=>?_⟩
  obtain ⟨e,y⟩:=y
  subst e
  exact hs i x σ _ (y xs q) p
 ·have e:i=xs.length:=by omega
  subst e
  exact .inl ⟨⟨xs,q,Xae _⟩,hd σ H p⟩
theorem zbT {lo:Int}{n:Nat}{g:TG}{tb:TS}{D:Ends}{σ:St}{H:Hp}(Pv:Nat→St→Hp→Prop)(h0:Pv 0 σ H)
  (hs:∀ i σ H,i<n→Pv i σ H→g (.int (lo+i)) σ H fun σ2 H2=>tb { D with nx:=Pv (i+1),ct:=Pv (i+1),bk:=D.nx } σ2 H2) (hd:∀ σ H,Pv n σ H→D.nx σ H) :
  ∃ W:Nat→Nat→St→Hp→Prop,(∃ m,W 0 m σ H)∧∀ i m σ H,W i m σ H →
   ((Itr lo n).stop i H∧D.nx σ H)∨((Itr lo n).go i H∧∃ N:St→Hp→Prop,(∀ σ' H',N σ' H'→∃ m',m'<m∧W (i+1) m' σ' H')∧∀ x H',(Itr lo n).yld i H x H'→g x σ H' fun σ2 H2=>tb { D with nx:=N,ct:=N,bk:=D.nx } σ2 H2):=by
 refine ⟨fun i m σ H=>m=n - i∧i≤n∧Pv i σ H,⟨n,by simp,Nat.zero_le _,h0⟩,?_⟩
 rintro i m σ H ⟨rfl,hi,p⟩
 by_cases hlt:i<n
 ·refine .inr ⟨hlt,Pv (i+1),fun σ' H' p'=>⟨n - (i+1),by omega,rfl,hlt,p'⟩,fun x H' y=>?_⟩
  obtain ⟨e,y⟩:=y
  subst e y
  exact hs i σ _ hlt p
 ·have e:i=n:=by omega
  subst e
  exact .inl ⟨Xae _,hd σ H p⟩
theorem zfI {c:TT}{tb:TS}{D:Ends}{σ:St}{H:Hp}(Pv:St→Hp→Prop)(μ:St→Hp→Nat)(h0:Pv σ H)
  (hs:∀ σ H,Pv σ H→c σ H fun b H1=>if b=true then tb { D with nx:=fun σ' H'=>Pv σ' H'∧μ σ' H'<μ σ H,ct:=fun σ' H'=>Pv σ' H'∧μ σ' H'<μ σ H,bk:=D.nx } σ H1 else D.nx σ H1)
  (mono:∀ σ H Q Q',(∀ b H1,Q b H1→Q' b H1)→c σ H Q→c σ H Q'):ziO c tb D σ H:=by
 refine ⟨fun m σ H=>m=μ σ H∧Pv σ H,⟨_,rfl,h0⟩,?_⟩
 rintro m σ H ⟨rfl,p⟩
 refine mono σ H _ _ (fun b H1 q=>?_) (hs σ H p)
 cases b with
 | true=>exact ⟨_,fun σ' H' ⟨p',l⟩=>⟨_,l,rfl,p'⟩,q⟩
 | false=>exact q
abbrev R2:=V→V→Hp→VK→Prop
def OpR (X:Cx)(f:Value→Value→Sem Value)(r:R2):Prop:=
 ∀ (pins:List (Addr×Obj)) (s:Shared) (σ:St) (H:Hp) (x y:V) (v u:Value) (Q:VK),Inv X pins σ H s→RelV x v→RelV y u→r x y H Q →
  wpAny (model X.prog X.w) X.A (f v u) (EP X pins σ Q) X.xe s
def UnR (X:Cx)(f:Value→Sem Value)(r:V→Hp→VK→Prop):Prop:=
 ∀ (pins:List (Addr×Obj)) (s:Shared) (σ:St) (H:Hp) (x:V) (v:Value) (Q:VK),Inv X pins σ H s→RelV x v→r x H Q →
  wpAny (model X.prog X.w) X.A (f v) (EP X pins σ Q) X.xe s
def zbU (X:Cx)(f:Value)(r:List V→Hp→VK→Prop):Prop:=
 ∀ (pins:List (Addr×Obj)) (s:Shared) (σ:St) (H:Hp) (xs:List V) (us:List Value) (Q:VK),Inv X pins σ H s→Vals xs us→r xs H Q →
  wpAny (model X.prog X.w) X.A (call f us) (EP X pins σ Q) X.xe s
def TruR (X:Cx)(r:V→Hp→(Bool→Hp→Prop)→Prop):Prop:=
 ∀ (pins:List (Addr×Obj)) (s:Shared) (σ:St) (H:Hp) (x:V) (v:Value) (Q:Bool→Hp→Prop),Inv X pins σ H s→RelV x v→r x H Q →
  wpAny (model X.prog X.w) X.A (truthy v) (TP X pins σ Q) X.xe s
def tOp (r:R2)(ta tb:TE):TE:=fun σ H Q=>ta σ H fun x H1=>tb σ H1 fun y H2=>r x y H2 Q
def tUn (r:V→Hp→VK→Prop)(ta:TE):TE:=fun σ H Q=>ta σ H fun x H1=>r x H1 Q
inductive rI (C:Int→Int→Prop)(g:Int→Int→V)(x:V)(y:V)(H:Hp)(Q:VK):Prop
 | mk (i:_) (j:_) (z0_:x = .int i) (z1_:y = .int j) (z2_:C i j) (z3_:Q (g i j) H)
inductive rI0 (g:Int→Int→V)(x:V)(y:V)(H:Hp)(Q:VK):Prop
 | mk (i:_) (j:_) (z0_:x = .int i) (z1_:y = .int j) (z2_:Q (g i j) H)
inductive rU (g:Int→V)(x:V)(H:Hp)(Q:VK):Prop
 | mk (i:_) (z0_:x = .int i) (z1_:Q (g i) H)
section
variable {X:Cx}{a b c:Expr}{ta tb tc:TE}{pos:Pos}
theorem binT (ha:PE X a ta)(hb:PE X b tb){pins:List (Addr×Obj)}{s:Shared}{σ:St}{H:Hp}{R:V→V→Hp→Prop}(I:Inv X pins σ H s)
  (h:ta σ H fun x H1=>tb σ H1 fun y H2=>R x y H2) {Q:Value→Shared→Prop} {f:Value→Value→Sem Value}
  (hf:∀ v u s2 x y H2,Inv X pins σ H2 s2→RelV x v→RelV y u→R x y H2→wpAny (model X.prog X.w) X.A (f v u) Q X.xe s2) :
  wpAny (model X.prog X.w) X.A (eval a X.env) (fun v s₁=>wpAny (model X.prog X.w) X.A (eval b X.env) (fun u s₂=>wpAny (model X.prog X.w) X.A (f v u) Q X.xe s₂) X.xe s₁) X.xe s:=by
 refine thn (ha pins s σ H _ I h) fun v s1 hh_=>?_
 obtain ⟨x,H1,I1,r1,q1⟩:=hh_
 refine thn (hb pins s1 σ H1 _ I1 q1) fun u s2 hh_=>?_
 obtain ⟨y,H2,I2,r2,q2⟩:=hh_
 exact hf v u s2 x y H2 I2 r1 r2 q2
theorem zaq {op:Operator}{r:R2}(ho:OpR X (binaryOp op) r)(ha:PE X a ta)(hb:PE X b tb):PE X (.BinOp a op b pos) (tOp r ta tb):=by
 intro pins s σ H Q I h
 exact wpAny_BinOp (binT ha hb I h fun v u s2 x y H2 I2 rx ry q=>ho pins s2 σ H2 x y v u Q I2 rx ry q)
theorem zgb {op:UnaryOp}{r:V→Hp→VK→Prop}(ho:UnR X (unaryOp op) r)(ha:PE X a ta):PE X (.UnaryOp op a pos) (tUn r ta):=by
 intro pins s σ H Q I h
 exact UnaryOp_ (thn (ha pins s σ H _ I h) fun v s1 ⟨x,H1,I1,r1,q1⟩=>ho pins s1 σ H1 x v Q I1 r1 q1)
theorem opI {f:Value→Value→Sem Value}{C:Int→Int→Prop}{g:Int→Int→Int}
  (rule:∀ (i j:Int) (t u:Tok) (s:Shared) (Q:Value→Shared→Prop) (E:Value→Shared→Prop),C i j→Q (.int (g i j) s.toks) { s with toks:=s.toks+1 }→wpAny (model X.prog X.w) X.A (f (.int i t) (.int j u)) Q E s) :
  OpR X f (rI C fun i j=>.int (g i j)):=by
 intro pins s σ H x y v u Q I rx ry h
 obtain ⟨i,j,rfl,rfl,hc,q⟩:=h
 obtain ⟨t,rfl⟩:=rx
 obtain ⟨t',rfl⟩:=ry
 exact rule i j t t' s _ _ hc ⟨.int (g i j),H,I.tok _,⟨_,rfl⟩,q⟩
theorem opI0 {f:Value→Value→Sem Value}{g:Int→Int→Int}
  (rule:∀ (i j:Int) (t u:Tok) (s:Shared) (Q:Value→Shared→Prop) (E:Value→Shared→Prop),Q (.int (g i j) s.toks) { s with toks:=s.toks+1 }→wpAny (model X.prog X.w) X.A (f (.int i t) (.int j u)) Q E s) :
  OpR X f (rI0 fun i j=>.int (g i j)):=by
 intro pins s σ H x y v u Q I rx ry h
 obtain ⟨i,j,rfl,rfl,q⟩:=h
 obtain ⟨t,rfl⟩:=rx
 obtain ⟨t',rfl⟩:=ry
 exact rule i j t t' s _ _ ⟨.int (g i j),H,I.tok _,⟨_,rfl⟩,q⟩
theorem opB0 {f:Value→Value→Sem Value}{g:Int→Int→Bool}
  (rule:∀ (i j:Int) (t u:Tok) (s:Shared) (Q:Value→Shared→Prop) (E:Value→Shared→Prop),Q (.bool (g i j)) s→wpAny (model X.prog X.w) X.A (f (.int i t) (.int j u)) Q E s) :
  OpR X f (rI0 fun i j=>.bl (g i j)):=by
 intro pins s σ H x y v u Q I rx ry h
 obtain ⟨i,j,rfl,rfl,q⟩:=h
 obtain ⟨t,rfl⟩:=rx
 obtain ⟨t',rfl⟩:=ry
 exact rule i j t t' s _ _ ⟨.bl (g i j),H,I,rfl,q⟩
def CPow (i j:Int):Prop:=0≤j∧j≤1000000∧i.natAbs<2 ^ 64
theorem zf2 (k:Nat):(0:Int)≤2 ^ k:=by
 rw [two_pow_cast]
 exact Int.natCast_nonneg _
theorem za2:OpR X (binaryOp .Add) (rI0 fun i j=>.int (i+j)):=opI0 fun _ _ _ _ _ _ _ q=>add_int q
theorem zeG:OpR X (binaryOp .Sub) (rI0 fun i j=>.int (i - j)):=opI0 fun _ _ _ _ _ _ _ q=>sub_int q
theorem zcJ:OpR X (binaryOp .Mod) (rI (fun _ j=>0<j) fun i j=>.int (i % j)):=opI fun i j _ _ _ _ _ hc q=>by
 have h1:(0:Int)<j:=hc
 exact mod_int' (by omega) (by rw [Int.fmod_eq_emod_of_nonneg i (by omega)];exact q)
theorem zfR:OpR X (binaryOp .Pow) (rI CPow fun i j=>.int (i ^ j.toNat)):=opI fun _ _ _ _ _ _ _ hc q=>pow_int_small hc.1 hc.2.1 hc.2.2 q
theorem zbN:OpR X (binaryOp .LShift) (rI CPow fun i j=>.int (i * 2 ^ j.toNat)):=opI fun _ _ _ _ _ _ _ hc q=>lshift_int_small hc.1 hc.2.1 hc.2.2 q
theorem ziZ:OpR X (binaryOp .RShift) (rI (fun _ j=>0≤j) fun i j=>.int (i / 2 ^ j.toNat)):=opI fun i j _ _ _ _ _ hc q =>
 rshift_int hc (by rw [Int.fdiv_eq_ediv_of_nonneg i (zf2 _)];exact q)
theorem zck:OpR X (binaryOp .BitAnd) (rI0 fun i j=>.int (Builtin.bitAnd i j)):=opI0 fun _ _ _ _ _ _ _ q=>and_int q
theorem ziY:OpR X (binaryOp .BitXor) (rI0 fun i j=>.int (Builtin.bitXor i j)):=opI0 fun _ _ _ _ _ _ _ q=>xor_int q
theorem zjN:OpR X (inplaceOp .Add) (rI0 fun i j=>.int (i+j)):=opI0 fun _ _ _ _ _ _ _ q=>iadd_int q
theorem zjM:OpR X (inplaceOp .Sub) (rI0 fun i j=>.int (i - j)):=opI0 fun _ _ _ _ _ _ _ q=>isub_int q
theorem zhy:OpR X (inplaceOp .BitOr) (rI0 fun i j=>.int (Builtin.bitOr i j)):=opI0 fun _ _ _ _ _ _ _ q=>ior_int q
theorem unI {f:Value→Sem Value}{g:Int→Int}
  (rule:∀ (i:Int) (t:Tok) (s:Shared) (Q:Value→Shared→Prop) (E:Value→Shared→Prop),Q (.int (g i) s.toks) { s with toks:=s.toks+1 }→wpAny (model X.prog X.w) X.A (f (.int i t)) Q E s) :
  UnR X f (rU fun i=>.int (g i)):=by
 intro pins s σ H x v Q I rx h
 obtain ⟨i,rfl,q⟩:=h
 obtain ⟨t,rfl⟩:=rx
 exact rule i t s _ _ ⟨.int (g i),H,I.tok _,⟨_,rfl⟩,q⟩
theorem zdT:UnR X (unaryOp .USub) (rU fun i=>.int (-i)):=unI fun _ _ _ _ _ q=>neg_int q
end
def scal:V→V→Bool
 | .non,.non=>true | .non,.int _=>true | .int _,.non=>true | .non,.bl _=>true | .bl _,.non=>true | .non,.str _=>true | .str _,.non=>true
 | .int _,.int _=>true | .bl _,.bl _=>true | .str _,.str _=>true | .byt _,.byt _=>true
 | .int _,.str _=>true | .str _,.int _=>true | .bl _,.str _=>true | .str _,.bl _=>true
 | _,_=>false
def rEq:R2:=fun x y H Q=>scal x y=true∧Q (.bl (decide (x=y))) H
def rNe:R2:=fun x y H Q=>scal x y=true∧Q (.bl (!decide (x=y))) H
theorem zhG {i j:Int}:decide (V.int i=V.int j)=(i == j):=by
 rw [Bool.eq_iff_iff]
 simp
theorem zi8 {i j:Bool}:decide (V.bl i=V.bl j)=(i == j):=by
 rw [Bool.eq_iff_iff]
 simp
theorem zhF {i j:Str}:decide (V.str i=V.str j)=(i == j):=by
 rw [Bool.eq_iff_iff]
 simp
theorem zhH {i j:Array UInt8}:decide (V.byt i=V.byt j)=(i.toList == j.toList):=by
 rw [Bool.eq_iff_iff]
 cases i
 cases j
 simp
section
variable {X:Cx}{a b c:Expr}{ta tb tc:TE}{pos:Pos}
theorem zaz {pins:List (Addr×Obj)}{σ:St}{H:Hp}{s:Shared}{Q:VK}{k k':Bool}(I:Inv X pins σ H s)(q:Q (.bl k) H)(e:k=k'):EP X pins σ Q (.bool k') s:=by
 subst e
 exact ⟨.bl k,H,I,rfl,q⟩
theorem zbO:OpR X (compareOp .Eq) rEq:=by
 intro pins s σ H x y v u Q I rx ry h
 obtain ⟨hs,q⟩:=h
 cases x with
 | non =>
  cases rx
  cases y with
  | non=>cases ry;exact PySem.EqNone.eq_none_none (zaz I q (by simp))
  | bl j=>cases ry;exact PySem.EqNone.eq_none_bool (zaz I q (by simp))
  | int j=>obtain ⟨t',rfl⟩:=ry;exact PySem.EqNone.eq_none_int (zaz I q (by simp))
  | str j=>obtain ⟨t',rfl⟩:=ry;exact PySem.EqNone.eq_none_str (zaz I q (by simp))
  | _=>exact absurd (show false=true from hs) Xak
 | bl i =>
  cases rx
  cases y with
  | non=>cases ry;exact PySem.EqNone.eq_bool_none (zaz I q (by simp))
  | bl j=>cases ry;exact eq_bool (zaz I q zi8)
  | str j=>obtain ⟨t',rfl⟩:=ry;exact PySem.EqMixed.eq_bool_str (zaz I q (by simp))
  | _=>exact absurd (show false=true from hs) Xak
 | int i =>
  obtain ⟨t,rfl⟩:=rx
  cases y with
  | non=>cases ry;exact PySem.EqNone.eq_int_none (zaz I q (by simp))
  | int j=>obtain ⟨t',rfl⟩:=ry;exact eq_int (zaz I q zhG)
  | str j=>obtain ⟨t',rfl⟩:=ry;exact PySem.EqMixed.eq_int_str (zaz I q (by simp))
  | _=>exact absurd (show false=true from hs) Xak
 | str i =>
  obtain ⟨t,rfl⟩:=rx
  cases y with
  | non=>cases ry;exact PySem.EqNone.eq_str_none (zaz I q (by simp))
  | bl j=>cases ry;exact PySem.EqMixed.eq_str_bool (zaz I q (by simp))
  | int j=>obtain ⟨t',rfl⟩:=ry;exact PySem.EqMixed.eq_str_int (zaz I q (by simp))
  | str j=>obtain ⟨t',rfl⟩:=ry;exact eq_str (zaz I q zhF)
  | _=>exact absurd (show false=true from hs) Xak
 | byt i =>
  obtain ⟨t,rfl⟩:=rx
  cases y with
  | byt j=>obtain ⟨t',rfl⟩:=ry;exact W.eq_bytes (zaz I q zhH)
  | _=>exact absurd (show false=true from hs) Xak
 | _=>cases y <;> exact absurd (show false=true from hs) Xak
theorem zgf:OpR X (compareOp .NotEq) rNe:=by
 intro pins s σ H x y v u Q I rx ry h
 obtain ⟨hs,q⟩:=h
 cases x with
 | non =>
  cases rx
  cases y with
  | non=>cases ry;exact PySem.EqNone.ne_none_none (zaz I q (by simp))
  | bl j=>cases ry;exact PySem.EqNone.ne_none_bool (zaz I q (by simp))
  | int j=>obtain ⟨t',rfl⟩:=ry;exact PySem.EqNone.ne_none_int (zaz I q (by simp))
  | str j=>obtain ⟨t',rfl⟩:=ry;exact PySem.EqNone.ne_none_str (zaz I q (by simp))
  | _=>exact absurd (show false=true from hs) Xak
 | bl i =>
  cases rx
  cases y with
  | non=>cases ry;exact PySem.EqNone.ne_bool_none (zaz I q (by simp))
  | bl j=>cases ry;exact ne_bool (zaz I q (congrArg not zi8))
  | str j=>obtain ⟨t',rfl⟩:=ry;exact PySem.EqMixed.ne_bool_str (zaz I q (by simp))
  | _=>exact absurd (show false=true from hs) Xak
 | int i =>
  obtain ⟨t,rfl⟩:=rx
  cases y with
  | non=>cases ry;exact PySem.EqNone.ne_int_none (zaz I q (by simp))
  | int j=>obtain ⟨t',rfl⟩:=ry;exact ne_int (zaz I q (congrArg not zhG))
  | str j=>obtain ⟨t',rfl⟩:=ry;exact PySem.EqMixed.ne_int_str (zaz I q (by simp))
  | _=>exact absurd (show false=true from hs) Xak
 | str i =>
  obtain ⟨t,rfl⟩:=rx
  cases y with
  | non=>cases ry;exact PySem.EqNone.ne_str_none (zaz I q (by simp))
  | bl j=>cases ry;exact PySem.EqMixed.ne_str_bool (zaz I q (by simp))
  | int j=>obtain ⟨t',rfl⟩:=ry;exact PySem.EqMixed.ne_str_int (zaz I q (by simp))
  | str j=>obtain ⟨t',rfl⟩:=ry;exact ne_str (zaz I q (congrArg not zhF))
  | _=>exact absurd (show false=true from hs) Xak
 | byt i =>
  obtain ⟨t,rfl⟩:=rx
  cases y with
  | byt j=>obtain ⟨t',rfl⟩:=ry;exact W.ne_bytes (zaz I q (congrArg not zhH))
  | _=>exact absurd (show false=true from hs) Xak
 | _=>cases y <;> exact absurd (show false=true from hs) Xak
theorem zfo:OpR X (compareOp .Lt) (rI0 fun i j=>.bl (decide (i<j))):=opB0 fun _ _ _ _ _ _ _ q=>lt_int q
theorem zhk:OpR X (compareOp .LtE) (rI0 fun i j=>.bl (decide (i≤j))):=opB0 fun _ _ _ _ _ _ _ q=>le_int q
theorem zhl:OpR X (compareOp .Gt) (rI0 fun i j=>.bl (decide (j<i))):=opB0 fun _ _ _ _ _ _ _ q=>gt_int q
theorem zjB:OpR X (compareOp .GtE) (rI0 fun i j=>.bl (decide (j≤i))):=opB0 fun _ _ _ _ _ _ _ q=>ge_int q
theorem zas (b:Expr){op:CmpOp}(h:op≠.In:=by decide)(h2:op≠.NotIn:=by decide):behindInMarks op b=false:=by
 have e1:(op == CmpOp.In)=false:=by cases op <;> first | rfl | exact absurd rfl h
 have e2:(op == CmpOp.NotIn)=false:=by cases op <;> first | rfl | exact absurd rfl h2
 cases b <;> simp [behindInMarks,e1,e2]
theorem zbd {op:CmpOp}{r:R2}(ho:OpR X (compareOp op) r)(ha:PE X a ta)(hb:PE X b tb)(hm:behindInMarks op b=false):PE X (.Compare a [op] [b] pos) (tOp r ta tb):=by
 intro pins s σ H Q I h
 exact wpAny_Compare1 (binT ha hb I h fun v u s2 x y H2 I2 rx ry q=>ho pins s2 σ H2 x y v u Q I2 rx ry q) hm
inductive tTest_1 (Q:Bool→Hp→Prop)(x:V)(H':Hp):Prop
 | mk (k:_) (z0_:x = .bl k) (z1_:Q k H')
def tTest (t:TE):TT:=fun σ H Q=>t σ H (tTest_1 Q)
theorem zat {op:CmpOp}{r:R2}(ho:OpR X (compareOp op) r)(ha:PE X a ta)(hb:PE X b tb)(hm:behindInMarks op b=false):PT X (.Compare a [op] [b] pos) (tTest (tOp r ta tb)):=by
 intro pins s σ H Q I h
 refine wpAny_isTrue_Compare1 (thn (ha pins s σ H _ I h) fun v s1 ⟨x,H1,I1,r1,q1⟩=>thn (hb pins s1 σ H1 _ I1 q1) fun u s2 ⟨y,H2,I2,r2,q2⟩ =>
  thn (ho pins s2 σ H2 x y v u _ I2 r1 r2 q2) fun c s3 ⟨z,H3,I3,r3,k,e,q3⟩=>?_) hm
 subst e
 cases r3
 exact XaQ ⟨H3,I3,q3⟩
inductive tChain_1 (r':R2)(tc:TE)(σ:St)(Q:VK)(y:V)(z:V)(H3:Hp):Prop
 | mk (k:_) (z0_:z = .bl k) (z1_:(if k=true then tc σ H3 fun w' H4=>r' y w' H4 Q else Q (.bl false) H3))
def ziP (r r':R2)(ta tb tc:TE):TE:=fun σ H Q=>ta σ H fun x H1=>tb σ H1 fun y H2=>r x y H2 (tChain_1 r' tc σ Q y)
theorem zim {op op':CmpOp}{r r':R2}(ho:OpR X (compareOp op) r)(ho':OpR X (compareOp op') r')(ha:PE X a ta)(hb:PE X b tb)(hc:PE X c tc)
  (hm:lastMarks [op,op'] [b,c]=false:=by with_unfolding_all rfl):PE X (.Compare a [op,op'] [b,c] pos) (ziP r r' ta tb tc):=by
 intro pins s σ H Q I h
 refine Compare_chain (thn (ha pins s σ H _ I h) fun v s1 ⟨x,H1,I1,r1,q1⟩=>chain_link (thn (hb pins s1 σ H1 _ I1 q1) fun u s2 ⟨y,H2,I2,r2,q2⟩ =>
  thn (ho pins s2 σ H2 x y v u _ I2 r1 r2 q2) fun d s3 ⟨z,H3,I3,r3,k,e,q3⟩=>?_)) hm
 subst e
 cases r3
 refine XaQ ?_
 cases k with
 | false=>exact ite_ff ⟨.bl false,H3,I3,rfl,q3⟩
 | true=>exact ite_tt (chain_last (thn (hc pins s3 σ H3 _ I3 q3) fun w' s4 ⟨z',H4,I4,r4,q4⟩=>ho' pins s4 σ H4 y z' u w' Q I4 r2 r4 q4))
theorem zig {op op':CmpOp}{r r':R2}(ho:OpR X (compareOp op) r)(ho':OpR X (compareOp op') r')(ha:PE X a ta)(hb:PE X b tb)(hc:PE X c tc)
  (hm:lastMarks [op,op'] [b,c]=false:=by with_unfolding_all rfl):PT X (.Compare a [op,op'] [b,c] pos) (tTest (ziP r r' ta tb tc)):=by
 intro pins s σ H Q I h
 refine isTrue_chain (thn (ha pins s σ H _ I h) fun v s1 ⟨x,H1,I1,r1,q1⟩=>test_link (thn (hb pins s1 σ H1 _ I1 q1) fun u s2 ⟨y,H2,I2,r2,q2⟩ =>
  thn (ho pins s2 σ H2 x y v u _ I2 r1 r2 q2) fun d s3 ⟨z,H3,I3,r3,k,e,q3⟩=>?_)) hm
 subst e
 cases r3
 refine XaQ ?_
 cases k with
 | false =>
  obtain ⟨k',e',q'⟩:=q3
  cases e'
  exact ite_ff ⟨H3,I3,q'⟩
 | true =>
  refine ite_tt (test_last (thn (hc pins s3 σ H3 _ I3 q3) fun w' s4 ⟨z',H4,I4,r4,q4⟩=>thn (ho' pins s4 σ H4 y z' u w' _ I4 r2 r4 q4) fun d' s5 hh_=>?_))
  obtain ⟨z2,H5,I5,r5,k2,e2,q5⟩:=hh_
  subst e2
  cases r5
  exact XaQ ⟨H5,I5,q5⟩
def TruV (K:W.Frag)(x:V)(H:Hp)(k:Bool):Prop:=
 match x with
 | .non=>k=false
 | .bl b=>k=b
 | .int i=>k=(i != 0)
 | .str y=>y.length≤sizeLine∧k=((y.length:Int) != 0)
 | .byt y=>y.size≤sizeLine∧k=((y.size:Int) != 0)
 | .ref p=>(∃ xs,SqL K H p xs∧k = !xs.isEmpty)∨(∃ xs,SqT K H p xs∧k = !xs.isEmpty)∨∃ kvs,H p=some (.dK kvs)∧k = !kvs.isEmpty
 | _=>False
theorem zgr {κ:Type}{kvs:List (κ×V)}{vs:List (κ×Value)}(r:KV kvs vs):(!vs.isEmpty) = !kvs.isEmpty:=by
 cases r <;> rfl
theorem zd1 {xs:List V}{its:List Value}(r:Vals xs its):(!its.toArray.isEmpty) = !xs.isEmpty:=by
 cases r <;> simp
theorem zdx:(sizeLine:Nat)<2 ^ 63:=by rw [sizeLine_eq];decide
theorem tru_ok:TruR X (fun x H Q=>∃ k,TruV X.K x H k∧Q k H):=by
 intro pins s σ H x v Q I rx h
 obtain ⟨k,e,q⟩:=h
 have hl:=zdx
 have hs:sizeLine=16777216:=sizeLine_eq
 cases x with
 | non =>
  cases rx
  have e':k=false:=e
  subst e'
  exact truthy_none ⟨H,I,q⟩
 | bl b =>
  cases rx
  have e':k=b:=e
  subst e'
  exact XaQ ⟨H,I,q⟩
 | int i =>
  obtain ⟨t,rfl⟩:=rx
  have e':k=(i != 0):=e
  subst e'
  exact PySem.P.truthy_int ⟨H,I,q⟩
 | str y =>
  obtain ⟨t,rfl⟩:=rx
  obtain ⟨hy,e'⟩:y.length≤sizeLine∧k=((y.length:Int) != 0):=e
  subst e'
  exact PySem.P.truthy_str (by omega) ⟨H,I.tok _,q⟩
 | byt y =>
  obtain ⟨t,rfl⟩:=rx
  obtain ⟨hy,e'⟩:y.size≤sizeLine∧k=((y.size:Int) != 0):=e
  subst e'
  exact W.truthy_bytes (by omega) ⟨H,I.tok _,q⟩
 | ref p =>
  cases rx
  have e':(∃ xs,SqL X.K H p xs∧k = !xs.isEmpty)∨(∃ xs,SqT X.K H p xs∧k = !xs.isEmpty)∨∃ kvs,H p=some (.dK kvs)∧k = !kvs.isEmpty:=e
  rcases e' with ⟨xs,hx,e'⟩ | ⟨xs,hx,e'⟩ | ⟨kvs,hx,e'⟩
  ·subst e'
   obtain ⟨its,r,pl,hz⟩:=I.list hx
   have hlen:=r.length
   exact wpAny_truthy_list pl.isList (by simp only [Xaj];omega) ⟨H,I.tok _,by rw [zd1 r];exact q⟩
  ·subst e'
   obtain ⟨its,r,pl,hz⟩:=I.tuple hx
   have hlen:=r.length
   exact truthy_tuple pl (by simp only [Xaj];omega) ⟨H,I.tok _,by rw [zd1 r];exact q⟩
  ·subst e'
   obtain ⟨hz,hS,vs,r,m⟩:kvs.length≤sizeLine∧(p == sysModules)=false∧∃ vs,KV kvs vs∧s.heap.DictOf (zfy X.prog X.w) p vs:=I.hok p _ hx
   have hlen:kvs.length=vs.length:=Paired.length r
   exact wpAny_truthy_dict hS m (by omega) ⟨H,I.tok _,by rw [zgr r];exact q⟩
 | _=>exact (show False from e).elim
theorem zif (ha:PE X a ta)(he:∀ whole,isTrue a X.env whole=(do let v ← whole;standAt a.pos;holding [v] (truthy v))) :
  PT X a (fun σ H Q=>ta σ H fun x H'=>∃ k,TruV X.K x H' k∧Q k H'):=by
 intro pins s σ H Q I h
 exact isTrue_plain (thn (ha pins s σ H _ I h) fun v s1 ⟨x,H1,I1,r1,q1⟩=>tru_ok pins s1 σ H1 x v Q I1 r1 q1) (he _)
theorem zgg:OpR X (binaryOp .Add) (fun x y H Q=>∃ i j,x = .str i∧y = .str j∧i.length+j.length≤sizeLine∧Q (.str (i ++ j)) H):=by
 intro pins s σ H x y v u Q I rx ry h
 obtain ⟨i,j,rfl,rfl,hz,q⟩:=h
 obtain ⟨t,rfl⟩:=rx
 obtain ⟨t',rfl⟩:=ry
 exact add_str (fun t' tk=>⟨.str (i ++ j),H,I.tok _,⟨_,rfl⟩,q⟩) hz
theorem zc8 {x:V}{us:List Value}(r:Vals [x] us):∃ u,us=[u]∧RelV x u:=by
 cases r with
 | cons r1 r2=>cases r2;exact ⟨_,rfl,r1⟩
theorem zfd {x y:V}{us:List Value}(r:Vals [x,y] us):∃ u w',us=[u,w']∧RelV x u∧RelV y w':=by
 cases r with
 | cons r1 r2 =>
  cases r2 with
  | cons r3 r4=>cases r4;exact ⟨_,_,rfl,r1,r3⟩
theorem ze5 (hc:X.calm=true):zbU X (.builtin "max") (fun xs H Q=>∃ i j,xs=[.int i,.int j]∧Q (.int (if j > i then j else i)) H):=by
 intro pins s σ H xs us Q I r h
 obtain ⟨i,j,rfl,q⟩:=h
 obtain ⟨u,w',rfl,⟨t,rfl⟩,⟨t',rfl⟩⟩:=zfd r
 refine max_two_ints (I.ok.hd hc) fun h' tk k=>⟨_,H,I.kept k,?_,q⟩
 by_cases hj:j > i
 ·rw [if_pos hj,if_pos hj];exact ⟨_,rfl⟩
 ·rw [if_neg hj,if_neg hj];exact ⟨_,rfl⟩
theorem zhN (hc:X.calm=true):zbU X (.builtin "min") (fun xs H Q=>∃ i j,xs=[.int i,.int j]∧Q (.int (if j<i then j else i)) H):=by
 intro pins s σ H xs us Q I r h
 obtain ⟨i,j,rfl,q⟩:=h
 obtain ⟨u,w',rfl,⟨t,rfl⟩,⟨t',rfl⟩⟩:=zfd r
 refine min_two_ints (I.ok.hd hc) fun h' tk k=>⟨_,H,I.kept k,?_,q⟩
 by_cases hj:j<i
 ·rw [if_pos hj,if_pos hj];exact ⟨_,rfl⟩
 ·rw [if_neg hj,if_neg hj];exact ⟨_,rfl⟩
theorem zdI:zbU X (.type "int") (fun xs H Q=>(∃ i,xs=[.int i]∧Q (.int i) H)∨∃ k,xs=[.bl k]∧Q (.int (if k then 1 else 0)) H):=by
 intro pins s σ H xs us Q I r h
 rcases h with ⟨i,rfl,q⟩ | ⟨k,rfl,q⟩
 ·obtain ⟨u,rfl,t,rfl⟩:=zc8 r
  exact call_int_int ⟨.int i,H,I,⟨_,rfl⟩,q⟩
 ·obtain ⟨u,rfl,r1⟩:=zc8 r
  cases r1
  exact call_int_bool ⟨.int (if k then 1 else 0),H,I.tok _,⟨_,rfl⟩,q⟩
end
structure ObjM (h:Heap)(x dx C:Addr)(mA:Str→Option Value):Prop where
 obj:h.get? x=some (W.instObj C dx)
 ns:h.Ns1 dx mA
 ne:dx≠x
set_option tactic.hygienic true in
theorem zdw {h:Heap}{dx:Addr}{mA:Str→Option Value}(n:h.Ns1 dx mA):∃ od,h.get? dx=some od∧∀ name,W.lookIn name od=some (mA name):=by
 obtain ⟨o,es,ep,ho,hd,hk,_,hm⟩:=n
 refine ⟨o,ho,fun name=>?_⟩
 have e:=hm name
 unfold nsFind findBy at e
 rw [← Array.find?_toList] at e
 unfold W.lookIn
 rw [hd]
 dsimp only
 split
 ·rename_i y q
  rw [q] at e
  exact congrArg some e
 ·rename_i q
  rw [q] at e
  have a:es.toList.any (·.refKey)=false:=by
   rw [List.any_eq_false]
   intro y hy
   obtain ⟨z,t,hkey⟩:=hk y (Array.mem_toList_iff.mp hy)
   simp [DictEntry.refKey,hkey]
  have a':¬ es.toList.any (·.refKey)=true:=by rw [a];exact Xak
  rw [if_neg a']
  exact congrArg some e
theorem ObjM.look {h:Heap}{x dx C:Addr}{mA:Str→Option Value}(I:ObjM h x dx C mA):∃ od,W.InstAt h x (W.instObj C dx) C (some od)∧∀ name,W.lookIn name od=some (mA name):=
 let ⟨od,ho,hl⟩:=zdw I.ns
 ⟨od,⟨I.obj,rfl,rfl,ho⟩,hl⟩
section
variable {prog:Program}{w:World}{A:Around}{E:Value→Shared→Prop}{s:Shared}{K:W.Frag}{x dx C f:Addr}{mA:Str→Option Value}{name:Str}{v:Value}
theorem zjP {expr:Bool}{Q:Value→Shared→Prop}(X:K.In s.heap)(I:ObjM s.heap x dx C mA)(hg:W.plainGet K C name=true)(hh:W.hasDictIn K C=true)
  (ha:W.findIn K (.ref C) name=some none) (hv:mA name=some v) (hv':W.handedIn v=true) (h:Q v { s with toks:=s.toks+1 }) :
  wpAny (model prog w) A (getAttr (.ref x) name expr) Q E s:=by
 obtain ⟨od,J,hl⟩:=I.look
 exact W.get_value X J (W.plainGet_of hg).1 (W.findObj_own hh ha rfl (by rw [hl,hv])) hv' h
theorem ziA {pl:Sem Bool}{Q:Value×List Value→Shared→Prop}(X:K.In s.heap)(I:ObjM s.heap x dx C mA)(hg:W.plainGet K C name=true)
  (hf:W.findIn K (.ref C) name=some (some (.ref f))) (ht:W.isFn K (.ref f)=true) (hv:mA name=none) (h:Q (.ref f,[.ref x]) s) :
  wpAny (model prog w) A (getMethod (.ref x) name pl) Q E s:=by
 obtain ⟨od,J,hl⟩:=I.look
 exact W.method_fn X J (W.plainGet_of hg).1 (W.plainGet_of hg).2 hf (beq_iff_eq.mp ht) (by show (W.lookIn name od).map (·.isSome)=some false;rw [hl,hv];rfl) h
theorem zjm {ns:List Str}{Q:Unit→Shared→Prop}(X:K.In s.heap)(I:ObjM s.heap x dx C mA)
  (hs:W.findIn K (.ref C) "__setattr__" = some (some (.builtin "object.__setattr__"))) (hp:W.plainOver K C=true) (ht:W.takerIn K C name=some none) (hh:W.hasDictIn K C=true)
  (hw:PySem.Within mA ns) (hsz:ns.length≤sizeLine)
  (h:∀ h',ObjM h' x dx C (fun y=>if y=name then some v else mA y)→Heap.SameBut dx s.heap h'→Q () { s with heap:=h',toks:=s.toks+2 }) :
  wpAny (model prog w) A (setAttr (.ref x) name v) Q E s:=by
 obtain ⟨od,J,hl⟩:=I.look
 refine W.set_plain X J hs (W.osa_open (s:={ s with toks:=s.toks+1 }) (r:=none) X J hp ht fun b=>?_)
 obtain ⟨cd,hc,hd'⟩:=W.any_some hh
 have hx:s.heap.get? x=some ⟨.ref C,some dx,.plain,#[]⟩:=I.obj
 refine Xaa (Xac (Xaa (Xaa (wpAny_loadPart hx (Xaa (W.Looks.here (s:={ s with toks:=s.toks+1 }) (W.looks_clsIn X hc) ?_))))))
 rw [hd']
 refine Xac (a:=some dx) (Xaa (Xac (Xaa ?_)))
 refine wpAny_nsSet1 (s:={ s with toks:=s.toks+1 }) I.ns fun h' hn2 hs2=>?_
 obtain ⟨oD,esD,epD,hoD,hdD,hcD⟩:=hn2.count (PySem.Within.cons name v hw)
 refine Xaa (wpAny_lookBehind hoD (by rw [hdD];exact pastItsLine_dict (Xam hcD (by rw [Xau];omega))) ?_)
 exact Xac (h _ ⟨(hs2.2 _ (Ne.symm I.ne)).trans I.obj,hn2,I.ne⟩ hs2)
theorem zfT {R:Result→Shared→Prop}{vs:List Value}{kw:List (Str×Value)}(X:K.In s.heap)(hm:W.makesIn K C=true)
  (hi:W.findIn K (.ref C) "__init__" = some (some (.ref f))) (hf:W.typeIn K (.ref f)=some (.type "function"))
  (h:codeAny (model prog w) (A.under (.builtin "type.__call__" ⟨.ref C :: vs,kw⟩)) (.call (.ref f) ⟨.ref (s.heap.objs.size+1) :: vs,kw⟩) (W.InitBack (s.heap.objs.size+1) R)
   { s with heap:=(s.heap.push W.emptyDict).push (W.instObj C s.heap.objs.size) }) :
  codeAny (model prog w) A (.call (.ref C) ⟨vs,kw⟩) R s:=by
 obtain ⟨hh,g,d,t,os⟩:=s
 exact W.make_core (W.makes_of X hm) (W.looks_findIn X hi) (fun self=>W.bind_fn X self hf) (.inl rfl) h
end
def putF (f:Str)(v:V):List (Str×V)→List (Str×V)
 | []=>[(f,v)]
 | (g,x) :: r=>if g=f then (g,v) :: r else (g,x) :: putF f v r
theorem zdv (f g:Str)(v:V):∀ fs:List (Str×V),(putF f v fs).lookup g=if g=f then some v else fs.lookup g
 | []=>by
  show List.lookup g [(f,v)]=_
  by_cases h:g=f
  ·have hb:(g == f)=true:=beq_iff_eq.mpr h
   simp only [List.lookup,hb,if_pos h]
  ·have hb:(g == f)=false:=beq_eq_false_iff_ne.mpr h
   simp only [List.lookup,hb,if_neg h]
 | (k,x) :: r=>by
  have ih:=zdv f g v r
  rw [show putF f v ((k,x) :: r)=(if k=f then (k,v) :: r else (k,x) :: putF f v r) from rfl]
  by_cases hk:k=f
  ·rw [if_pos hk]
   by_cases h:g=k
   ·have hb:(g == k)=true:=beq_iff_eq.mpr h
    simp only [List.lookup,hb,if_pos (h.trans hk)]
   ·have hb:(g == k)=false:=beq_eq_false_iff_ne.mpr h
    simp only [List.lookup,hb,if_neg (fun e:g=f=>h (e.trans hk.symm))]
  ·rw [if_neg hk]
   by_cases h:g=k
   ·have hb:(g == k)=true:=beq_iff_eq.mpr h
    simp only [List.lookup,hb,if_neg (fun e:g=f=>hk (h.symm.trans e))]
   ·have hb:(g == k)=false:=beq_eq_false_iff_ne.mpr h
    simp only [List.lookup,hb]
    exact ih
theorem zdB (f:Str)(v:V):∀ fs:List (Str×V),f∈(putF f v fs).map (·.1)∧∀ g,g∈fs.map (·.1)→g∈(putF f v fs).map (·.1)
 | []=>⟨by simp [putF],fun g h=>by simp at h⟩
 | (k,x) :: r=>by
  obtain ⟨i1,i2⟩:=zdB f v r
  rw [show putF f v ((k,x) :: r)=(if k=f then (k,v) :: r else (k,x) :: putF f v r) from rfl]
  by_cases hk:k=f
  ·rw [if_pos hk]
   subst hk
   exact ⟨by simp,fun g h=>by simpa using h⟩
  ·rw [if_neg hk]
   refine ⟨?_,fun g h=>?_⟩
   ·rw [Xbc]
    exact Xay _ i1
   ·rw [Xbc] at h ⊢
    rcases Xaq.mp h with e | e
    ·exact Xaq.mpr (.inl e)
    ·exact Xay _ (i2 g e)
theorem zdy (f:Str)(v:V):∀ fs:List (Str×V),(putF f v fs).length≤fs.length+1
 | []=>by simp [putF]
 | (k,x) :: r=>by
  have ih:=zdy f v r
  rw [show putF f v ((k,x) :: r)=(if k=f then (k,v) :: r else (k,x) :: putF f v r) from rfl]
  by_cases hk:k=f
  ·rw [if_pos hk,Xau,Xau];omega
  ·rw [if_neg hk,Xau,Xau];omega
theorem RelO.some_of {v:V}{o:Option Value}(r:RelO (some v) o):∃ u,o=some u∧RelV v u:=by
 cases o with
 | none=>exact (show False from r).elim
 | some u=>exact ⟨u,rfl,r⟩
theorem RelO.none_of {o:Option Value}(r:RelO none o):o=none:=by
 cases o with
 | none=>rfl
 | some u=>exact (show False from r).elim
theorem zeT {v:V}{u:Value}(r:RelV v u):W.handedIn u=true:=by
 cases v with
 | non=>cases (show u=Value.none from r);rfl
 | bl b=>cases (show u=Value.bool b from r);rfl
 | int i=>obtain ⟨t,e⟩:=(show ∃ t,u=Value.int i t from r);cases e;rfl
 | str x=>obtain ⟨t,e⟩:=(show ∃ t,u=Value.str x t from r);cases e;rfl
 | byt b=>obtain ⟨t,e⟩:=(show ∃ t,u=Value.bytes b t from r);cases e;rfl
 | flt b=>obtain ⟨t,e⟩:=(show ∃ t,u=Value.float b t from r);cases e;rfl
 | ref a=>cases (show u=Value.ref a from r);rfl
 | ty n=>cases (show u=Value.type n from r);rfl
section
variable {P:Program}{w:World}{H H':Hp}{h h':Heap}{a C dx:Addr}{fs fs':List (Str×V)}
theorem zdD (hok:HOk P w H h)(e:H a=some (.ins C dx fs)):∃ mA,ObjM h a dx C mA∧(∀ f,RelO (fs.lookup f) (mA f))∧PySem.Within mA (fs.map (·.1))∧fs.length≤1000∧H dx=some (.own a):=by
 obtain ⟨d,z,ne,ob,mA,n,r,q⟩:=(show ObjOk P w H h a (.ins C dx fs) from hok a _ e)
 exact ⟨mA,⟨ob,n,ne⟩,r,q,z,d⟩
end
structure Cls (K:W.Frag)(C:Addr):Prop where
 pg:W.plainGet K C Str.empty=true
 hd:W.hasDictIn K C=true
 po:W.plainOver K C=true
 sa:W.findIn K (.ref C) "__setattr__" = some (some (.builtin "object.__setattr__"))
theorem Cls.get {K:W.Frag}{C:Addr}(c:Cls K C)(f:Str):W.plainGet K C f=true:=c.pg
def NoAttr (K:W.Frag)(C:Addr)(f:Str):Prop:=W.findIn K (.ref C) f=some none
theorem NoAttr.taker {K:W.Frag}{C:Addr}{f:Str}(n:NoAttr K C f):W.takerIn K C f=some none:=by
 unfold W.takerIn
 rw [show W.findIn K (.ref C) f=some none from n]
 rfl
structure Meth (K:W.Frag)(C:Addr)(m:Str)(f:Addr):Prop where
 at_:W.findIn K (.ref C) m=some (some (.ref f))
 fn:W.isFn K (.ref f)=true
 kp:W.keepIn K (.ref f)=true
section
variable {X:Cx}{pins:List (Addr×Obj)}{σ:St}{H:Hp}{s:Shared}{a C dx:Addr}{fs:List (Str×V)}{f:Str}{v:V}{A:Around}{E:Value→Shared→Prop}
theorem zgu {b:Bool}{Q:Value→Shared→Prop}(I:Inv X pins σ H s)(e:H a=some (.ins C dx fs))(c:Cls X.K C)(n:NoAttr X.K C f)(l:fs.lookup f=some v)
  (h:∀ u s',Inv X pins σ H s'→RelV v u→Q u s'):wpAny (model X.prog X.w) A (getAttr (.ref a) f b) Q E s:=by
 obtain ⟨mA,O,r,_,_,_⟩:=zdD I.hok e
 obtain ⟨u,hu,ru⟩:=RelO.some_of (v:=v) (o:=mA f) (by rw [← l];exact r f)
 exact zjP I.kIn O (c.get f) c.hd n hu (zeT ru) (h u _ (I.tok _) ru)
theorem zcC {m:Str}{g:Addr}{pl:Sem Bool}{Q:Value×List Value→Shared→Prop}(I:Inv X pins σ H s)(e:H a=some (.ins C dx fs))(c:Cls X.K C)(k:Meth X.K C m g)(l:fs.lookup m=none)
  (h:Q (.ref g,[.ref a]) s):wpAny (model X.prog X.w) A (getMethod (.ref a) m pl) Q E s:=by
 obtain ⟨mA,O,r,_,_,_⟩:=zdD I.hok e
 have hn:mA m=none:=RelO.none_of (by rw [← l];exact r m)
 exact ziA I.kIn O (c.get m) k.at_ k.fn hn h
theorem zf6 {y:V}{u:Value}{Q:Unit→Shared→Prop}(I:Inv X pins σ H s)(e:H a=some (.ins C dx fs))(c:Cls X.K C)(n:NoAttr X.K C f)(hl:fs.length<1000)(ry:RelV y u)
  (h:∀ s',Inv X pins σ (upd H a (.ins C dx (putF f y fs))) s'→Q () s'):wpAny (model X.prog X.w) A (setAttr (.ref a) f u) Q E s:=by
 obtain ⟨mA,O,r,wi,_,ho⟩:=zdD I.hok e
 have hz:(fs.map (·.1)).length≤sizeLine:=by rw [Xal,sizeLine_eq];omega
 refine zjm I.kIn O c.sa c.po n.taker c.hd wi hz fun h' O' sb=>h _ ?_
 have hd:∃ o,h'.get? dx=some o:=let ⟨o,_,_,e',_⟩:=O'.ns;⟨o,e'⟩
 refine I.write (x:=a) (e:=dx) (by rw [e];exact True.intro) (.inr ho) (fun b q hb z=>(sb.2 b hb).trans z) hd ?_
 refine ⟨by rw [zah O.ne];exact ho,?_,O.ne,O'.obj,_,O'.ns,fun g=>?_,fun g hg=>?_⟩
 ·have:=zdy f y fs;omega
 ·show RelO ((putF f y fs).lookup g) (if g=f then some u else mA g)
  rw [zdv]
  by_cases q:g=f
  ·rw [if_pos q,if_pos q];exact ry
  ·rw [if_neg q,if_neg q];exact r g
 ·by_cases q:g=f
  ·rw [q];exact (zdB f y fs).1
  ·refine (zdB f y fs).2 g (wi g fun z=>hg ?_)
   show (if g=f then some u else mA g)=none
   rw [if_neg q];exact z
theorem Inv.made (I:Inv X pins σ H s):Inv X pins σ (upd (upd H s.heap.objs.size (.own (s.heap.objs.size+1))) (s.heap.objs.size+1) (.ins C s.heap.objs.size []))
  { s with heap:=(s.heap.push W.emptyDict).push (W.instObj C s.heap.objs.size) }:=by
 have e1:(s.heap.push W.emptyDict).get? s.heap.objs.size=some W.emptyDict:=Xag s.heap rfl
 have e2:((s.heap.push W.emptyDict).push (W.instObj C s.heap.objs.size)).get? (s.heap.objs.size+1)=some (W.instObj C s.heap.objs.size):=by
  have:=Xag (s.heap.push W.emptyDict) (o:=W.instObj C s.heap.objs.size) rfl
  rwa [XaC] at this
 have e3:(s.heap.push W.emptyDict).Ns s.heap.objs.size (fun _=>none):=⟨W.emptyDict,#[],_,e1,rfl,(fun e he=>absurd he (by simp)),fun _=>rfl⟩
 have I1:=I.laid (a:=s.heap.objs.size) (o:=.own (s.heap.objs.size+1)) (h':=s.heap.push W.emptyDict) (t':=s.toks) (fun b u q=>Xab _ q) (Xae _) ⟨_,e1⟩
 refine I1.laid (a:=s.heap.objs.size+1) (o:=.ins C s.heap.objs.size []) (t':=s.toks) (fun b u q=>Xab _ q) (Nat.le_of_eq (XaC _ _)) ?_
 have ne:s.heap.objs.size≠s.heap.objs.size+1:=Xat (Xa3 _)
 refine ⟨by rw [zah ne,zab],Nat.zero_le _,ne,e2,fun _=>none,(Heap.Ns1.of_empty e3).at fun o q=>Xab _ q,fun _=>True.intro,fun y hy=>absurd rfl hy⟩
theorem zhU {prog:Program}{w:World}{env:Env}{e:Expr}{f:Str}{pos:Pos}{s:Shared}{Q:Value→Shared→Prop}(hb:attributeBase e f env (eval e env)=eval e env)
  (h:wpAny (model prog w) A (eval e env) (fun o s₁=>wpAny (model prog w) A (getAttr o f true) Q E s₁) E s):wpAny (model prog w) A (eval (.Attribute e f pos) env) Q E s:=
 Attribute_any_ h (by rw [arm_eval_Attribute,hb])
end
inductive tFld_1 (K:W.Frag)(f:Str)(Q:VK)(x:V)(H1:Hp):Prop
 | mk (a:_) (C:_) (dx:_) (fs:_) (v:_) (z0_:x = .ref a) (z1_:H1 a=some (.ins C dx fs)) (z2_:Cls K C) (z3_:NoAttr K C f) (z4_:fs.lookup f=some v) (z5_:Q v H1)
def tFld (K:W.Frag)(ta:TE)(f:Str):TE:=fun σ H Q=>ta σ H (tFld_1 K f Q)
inductive sFld_1 (K:W.Frag)(f:Str)(D:Ends)(σ:St)(y:V)(x:V)(H2:Hp):Prop
 | mk (a:_) (C:_) (dx:_) (fs:_) (z0_:x = .ref a) (z1_:H2 a=some (.ins C dx fs)) (z2_:Cls K C) (z3_:NoAttr K C f) (z4_:fs.length<1000) (z5_:D.nx σ (upd H2 a (.ins C dx (putF f y fs))))
def sFld (K:W.Frag)(ta tv:TE)(f:Str):TS:=fun D σ H=>tv σ H fun y H1=>ta σ H1 (sFld_1 K f D σ y)
section
variable {X:Cx}{o e value:Expr}{f:Str}{pos pos' tpos:Pos}{ta tv:TE}
theorem zcH (he:PE X e ta)(hb:attributeBase e f X.env (eval e X.env)=eval e X.env):PE X (.Attribute e f pos) (tFld X.K ta f):=by
 intro pins s σ H Q I h
 refine zhU hb (thn (he pins s σ H _ I h) fun u s1 hh_=>?_)
 obtain ⟨x,H1,I1,rx,a,C,dx,fs,v,ex,ea,c,n,l,q⟩:=hh_
 subst ex
 obtain rfl:u=Value.ref a:=rx
 exact zgu I1 ea c n l fun u' s2 I2 ru=>⟨v,H1,I2,ru,q⟩
theorem za0 (ha:PE X o ta)(hv:PE X value tv)(hs:swapsWith value (some (.Attribute o f pos')) pos.line X.env=pure false):PS X (.Assign [.Attribute o f pos'] value pos) (sFld X.K ta tv f):=by
 intro pins s σ H D I h
 refine plainObj_wpAny_Assign_Attribute (thn (hv pins s σ H _ I h) fun u s1 ⟨y,H1,I1,ry,q⟩=>thn (ha pins s1 σ H1 _ I1 q) fun ov s2 hh_=>?_) hs
 obtain ⟨x,H2,I2,rx,a,C,dx,fs,ex,ea,c,n,l,q2⟩:=hh_
 subst ex
 obtain rfl:ov=Value.ref a:=rx
 exact zf6 I2 ea c n l ry fun s3 I3=>⟨σ,_,I3,q2⟩
end
section
variable {X:Cx}{pins:List (Addr×Obj)}{σ:St}{H:Hp}{s:Shared}{A:Around}{E:Value→Shared→Prop}{Q:Value→Shared→Prop}{c:Value}{b:Bool}
inductive TyOf (K:W.Frag)(H:Hp):V→Value→Prop where
 | non:TyOf K H .non (.type "NoneType")
 | bl (x:Bool):TyOf K H (.bl x) (.type "bool")
 | int (i:Int):TyOf K H (.int i) (.type "int")
 | str (x:Str):TyOf K H (.str x) (.type "str")
 | flt (x:UInt64):TyOf K H (.flt x) (.type "float")
 | lst {a:Addr} {xs:List V} (e:H a=some (.lst xs)):TyOf K H (.ref a) (.type "list")
 | frz {a:Addr} {o:Obj} {xs:List V} (e:H a=some (.frz o (.lst xs))):TyOf K H (.ref a) (.type "list")
 | tup {a:Addr} {xs:List V} (e:H a=some (.tup xs)):TyOf K H (.ref a) (.type "tuple")
 | dK {a:Addr} {kvs:List (Key×V)} (e:H a=some (.dK kvs)):TyOf K H (.ref a) (.type "dict")
 | dT {a:Addr} {kvs:List (List Key×V)} (e:H a=some (.dT kvs)):TyOf K H (.ref a) (.type "dict")
 | ins {a C dx:Addr} {fs:List (Str×V)} (e:H a=some (.ins C dx fs)) (cl:Cls K C) (ha:W.findIn K (.ref C) "__class__" = some (some (.builtin "object.__class__")))
   (hn:W.specialIn K (.builtin "object.__class__") "__get__" = some (some (.builtin "getset_descriptor.__get__"))) (htk:W.takesIn K (.builtin "object.__class__")=some true)
   (hm:W.mroIn K C (.type "object")=some true):TyOf K H (.ref a) (.ref C)
theorem zeS {x:V}{u t:Value}(I:Inv X pins σ H s)(rx:RelV x u)(ty:TyOf X.K H x t)(e:W.kitOne X.K t c=some b)(h:∀ tk,Q (.bool b) { s with toks:=tk }) :
  wpAny (model X.prog X.w) A (call (.builtin "isinstance") [u,c]) Q E s:=by
 cases ty with
 | non=>cases (show u=Value.none from rx);exact W.kia_one W.kitx_none I.kIn True.intro e (fun z=>nomatch z) h
 | bl y=>cases (show u=Value.bool y from rx);exact W.kia_one W.kitx_bool I.kIn True.intro e (fun z=>nomatch z) h
 | int i=>obtain ⟨t,q⟩:=(show ∃ t,u=Value.int i t from rx);cases q;exact W.kia_one W.kitx_int I.kIn True.intro e (fun z=>nomatch z) h
 | str y=>obtain ⟨t,q⟩:=(show ∃ t,u=Value.str y t from rx);cases q;exact W.kia_one W.kitx_str I.kIn True.intro e (fun z=>nomatch z) h
 | flt y=>obtain ⟨t,q⟩:=(show ∃ t,u=Value.float y t from rx);cases q;exact W.kia_one W.kitx_float I.kIn True.intro e (fun z=>nomatch z) h
 | @lst a xs ea =>
  cases (show u=Value.ref a from rx)
  obtain ⟨_,_,n,_,h1⟩:=(show ObjOk X.prog X.w H s.heap a (.lst xs) from I.hok a _ ea)
  exact W.kia_one W.kitx_list I.kIn ⟨_,h1,rfl⟩ e (fun z=>nomatch z) h
 | @frz a ob xs ea =>
  cases (show u=Value.ref a from rx)
  obtain ⟨_,_,_,n,_,h1⟩:=(show ObjOk X.prog X.w H s.heap a (.frz ob (.lst xs)) from I.hok a _ ea)
  exact W.kia_one W.kitx_list I.kIn ⟨_,h1,rfl⟩ e (fun z=>nomatch z) h
 | @tup a xs ea =>
  cases (show u=Value.ref a from rx)
  obtain ⟨_,_,_,p⟩:=(show ObjOk X.prog X.w H s.heap a (.tup xs) from I.hok a _ ea)
  obtain ⟨o,h1,h2,_⟩:=p
  exact W.kia_one W.kitx_tuple I.kIn ⟨o,h1,h2⟩ e (fun z=>nomatch z) h
 | @dK a kvs ea =>
  cases (show u=Value.ref a from rx)
  obtain ⟨_,_,vs,_,p⟩:=(show ObjOk X.prog X.w H s.heap a (.dK kvs) from I.hok a _ ea)
  obtain ⟨o,es,ep,h1,h2,_⟩:=p
  exact W.kia_one W.kitx_dict I.kIn ⟨o,h1,h2.1⟩ e (fun z=>nomatch z) h
 | @dT a kvs ea =>
  cases (show u=Value.ref a from rx)
  obtain ⟨_,_,xs,_,o,es,ep,h1,h2,_⟩:=(show ObjOk X.prog X.w H s.heap a (.dT kvs) from I.hok a _ ea)
  exact W.kia_one W.kitx_dict I.kIn ⟨o,h1,h2.1⟩ e (fun z=>nomatch z) h
 | @ins a C dx fs ea cl ha hn htk hm =>
  cases (show u=Value.ref a from rx)
  obtain ⟨mA,O,_⟩:=zdD I.hok ea
  obtain ⟨od,J,_⟩:=O.look
  exact W.kia_one (W.kitx_own (cl.get _) cl.hd ha hn htk hm) I.kIn J e (fun z=>nomatch z) h
end
structure Room (k:Nat)(A:Around):Prop where
 hd:A.handled=none
 dp:A.depth+3 * k+5<recursionLimit
 un:A.units+16 * k+200<cLine
 gd:A.guards=some []
theorem Room.mono {j k:Nat}{A:Around}(r:Room k A)(h:j≤k):Room j A:=⟨r.hd,by have:=r.dp;omega,by have:=r.un;omega,r.gd⟩
theorem Room.deeper {k:Nat}{A:Around}(r:Room (k+1) A)(env:Env):Room k (A.deeper env):=
 ⟨r.hd,by have:=r.dp;show A.depth+1+3 * k+5<_;omega,by have:=r.un;show A.units+3+16 * k+200<_;omega,r.gd⟩
theorem Room.in1 {k:Nat}{A:Around}(r:Room (k+1) A):Room k A.in1:=
 ⟨r.hd,by have:=r.dp;show A.depth+3 * k+5<_;omega,by have:=r.un;show A.units+1+16 * k+200<_;omega,r.gd⟩
theorem zgo {A:Around}{C:Addr}{us:List Value}{kw:List (Str×Value)}:(A.under (.builtin "type.__call__" ⟨.ref C :: us,kw⟩)).depth=A.depth+1:=by
 first | rfl | simp [Around.under,Code.weight,Code.isCreation,Code.isGuard,Code.isCaller,Code.frames,Code.isFrame,guardIds]
theorem zgn {A:Around}{C:Addr}{us:List Value}{kw:List (Str×Value)}:(A.under (.builtin "type.__call__" ⟨.ref C :: us,kw⟩)).units=A.units+1:=by
 first | rfl | simp [Around.under,Code.cUnits,Code.frames,Code.isFrame]
theorem zfz {A:Around}{C:Addr}{us:List Value}{kw:List (Str×Value)}(h:A.guards=some []):(A.under (.builtin "type.__call__" ⟨.ref C :: us,kw⟩)).guards=some []:=by
 have hc:(Code.builtin "type.__call__" ⟨Value.ref C :: us,kw⟩).guards=[]:=by
  first | rfl | (simp [Code.guards,Code.isGuard,guardIds];done) | (unfold Code.guards;rw [if_neg];decide +kernel) | skip
 simp only [Around.under,h,hc]
 rfl
theorem Room.make {k:Nat}{A:Around}(r:Room (k+1) A)(C:Addr)(us:List Value)(kw:List (Str×Value)):Room k (A.under (.builtin "type.__call__" ⟨.ref C :: us,kw⟩)):=
 ⟨r.hd,by have:=r.dp;rw [zgo];omega,by have:=r.un;rw [zgn];omega,zfz r.gd⟩
theorem Room.depth {k:Nat}{A:Around}(r:Room k A):A.depth<recursionLimit:=by have:=r.dp;omega
theorem Room.units {k:Nat}{A:Around}(r:Room k A):A.units+64<cLine:=by have:=r.un;omega
def tNil:TA:=fun _ H Q=>Q [] H
def tCons (ta:TE)(tr:TA):TA:=fun σ H Q=>ta σ H fun x H1=>tr σ H1 fun xs H2=>Q (x :: xs) H2
section
variable {X:Cx}{e:Expr}{es:List Expr}{te:TE}{t:TA}{pos:Pos}
theorem zac:PA X [] tNil:=fun _ _ _ _ H Q I h=>Calls.spliced_nil ⟨[],H,I,.nil,h⟩
theorem zaa (ha:PE X e te)(hr:PA X es t)(hs:starEach (e :: es) X.env=(false,eval e X.env) :: starEach es X.env:=by rfl):PA X (e :: es) (tCons te t):=by
 intro pos pins s σ H Q I h
 rw [hs]
 show wpAny _ _ (spliced ((false,eval e X.env) :: backTo pos (starEach es X.env))) _ _ s
 refine Calls.spliced_cons (thn (ha pins s σ H _ I h) fun u s1 hh_=>?_)
 obtain ⟨x,H1,I1,r1,q1⟩:=hh_
 exact thn (hr pos pins s1 σ H1 _ I1 q1) fun us s2 ⟨xs,H2,I2,r2,q2⟩=>⟨x :: xs,H2,I2,.cons r1 r2,q2⟩
def tTup (t:TA):TE:=fun σ H Q=>t σ H fun xs H1=>xs.length≤sizeLine∧∀ p,H1 p=none→Q (.ref p) (upd H1 p (.tup xs))
def tLst (t:TA):TE:=fun σ H Q=>t σ H fun xs H1=>xs.length≤sizeLine∧∀ p,H1 p=none→Q (.ref p) (upd H1 p (.lst xs))
theorem zaP {x1}(h:PA X es t):PE X (.Tuple es x1 pos) (tTup t):=by
 intro pins s σ H Q I hq
 refine wpAny_Tuple_spliced (thn (h pos pins s σ H _ I hq) fun us s1 ⟨xs,H1,I1,r,z,q⟩=>⟨by rw [← r.length];exact z,?_⟩)
 have hf:H1 s1.heap.objs.size=none:=I1.hok.fresh (Xae _)
 refine ⟨.ref s1.heap.objs.size,upd H1 s1.heap.objs.size (.tup xs),I1.laid (t':=s1.toks) (fun b u e=>Xab _ e) (Xae _) ?_,rfl,q _ hf⟩
 exact ⟨⟨z,_,Xag _ rfl,rfl⟩,us,r,⟨_,Xag _ rfl,rfl,_,rfl⟩⟩
theorem zav (h:PA X es t):PE X (.List es pos) (tLst t):=by
 intro pins s σ H Q I hq
 refine wpAny_List_spliced (thn (h pos pins s σ H _ I hq) fun us s1 ⟨xs,H1,I1,r,z,q⟩=>⟨by rw [← r.length];exact z,?_⟩)
 have hf:H1 s1.heap.objs.size=none:=I1.hok.fresh (Xae _)
 refine ⟨.ref s1.heap.objs.size,upd H1 s1.heap.objs.size (.lst xs),I1.laid (t':=s1.toks) (fun b u e=>Xab _ e) (Xae _) ?_,rfl,q _ hf⟩
 exact ⟨z,us,0,r,Xag _ rfl⟩
end
abbrev Sp:=List V→Hp→VK→XK→Prop
abbrev CXT:=List Env→Hp→Shared→XK→Value→Shared→Prop
structure Env0 (P:Program)(w:World)(K:W.Frag)(mg:Str→Option Value)(base:Heap)(A:Around)(outer:List Env)(s:Shared)(H:Hp):Prop where
 frames:A.frames=some outer
 mod:Mod K mg base
 bs:∀ b o,base.get? b=some o→s.heap.get? b=some o∧H b=none
 bsz:base.objs.size≤s.heap.objs.size
 funs:s.heap.FunFrames base outer
 frf:∀ b∈frs outer,H b=none
 hok:HOk P w H s.heap
 bare:AllBare s.gens
def CE (outer:List Env)(P:Program)(w:World)(H:Hp)(s:Shared)(Q:VK)(u:Value)(s':Shared):Prop:=
 ∃ v H',s'.os=s.os∧AllBare s'.gens∧Un (frs outer) [] H H' s.heap s'.heap∧HOk P w H' s'.heap∧RelV v u∧Q v H'
def CR (CX:CXT)(outer:List Env)(P:Program)(w:World)(H:Hp)(s:Shared)(Q:VK)(E:XK)(r:Result)(s':Shared):Prop:=
 match r with
 | .ok (.ret u)=>CE outer P w H s Q u s'
 | .ok _=>False
 | .error e=>CX outer H s E e s'
structure FnOk (P:Program)(w:World)(K:W.Frag)(mg:Str→Option Value)(base:Heap)(CX:CXT)(k:Nat)(f:Addr)(fd:FuncData)(ps:List Str)(sp:Sp):Prop where
 len:∀ vs H Q E,sp vs H Q E→vs.length=ps.length
 run:∀ (A:Around) (outer:List Env) (s:Shared) (H:Hp) (args:Args) (us:List Value) (vs:List V) (Q:VK) (E:XK),Room k A→Env0 P w K mg base A outer s H→BindsTo s fd args (ps.zip us)→Vals vs us→sp vs H Q E →
  codeAny (model P w) A (.call (.ref f) args) (CR CX outer P w H s Q E) s
theorem Env0.make {P:Program}{w:World}{K:W.Frag}{mg:Str→Option Value}{base:Heap}{A:Around}{outer:List Env}{s:Shared}{H:Hp}(e:Env0 P w K mg base A outer s H)(C:Addr)(us:List Value)(kw:List (Str×Value)) :
  Env0 P w K mg base (A.under (.builtin "type.__call__" ⟨.ref C :: us,kw⟩)) outer s H:=⟨by first | exact e.frames | (simpa [Around.under,Code.envs,Code.isFrame,pushEnvs] using e.frames),e.mod,e.bs,e.bsz,e.funs,e.frf,e.hok,e.bare⟩
theorem Env0.in1 {P:Program}{w:World}{K:W.Frag}{mg:Str→Option Value}{base:Heap}{A:Around}{outer:List Env}{s:Shared}{H:Hp}(e:Env0 P w K mg base A outer s H) :
  Env0 P w K mg base A.in1 outer s H:=⟨e.frames,e.mod,e.bs,e.bsz,e.funs,e.frf,e.hok,e.bare⟩
section
variable {X:Cx}{pins:List (Addr×Obj)}{σ:St}{H:Hp}{s s':Shared}
theorem Inv.env0 (I:Inv X pins σ H s):Env0 X.prog X.w X.K X.mg X.base X.A X.stack s H:=
 ⟨I.ok.frames,I.ok.mod,I.bs,Xam I.ok.bsz I.sz,I.stack,I.stkFree,I.hok,I.bare⟩
theorem Inv.after {Q:VK}{u:Value}(I:Inv X pins σ H s)(h:CE X.stack X.prog X.w H s Q u s'):EP X pins σ Q u s':=by
 obtain ⟨v,H',os,bare,un,hok,r,q⟩:=h
 obtain ⟨hh,g,d,t,os'⟩:=s'
 obtain rfl:os'=s.os:=os
 exact ⟨v,H',I.call (h':=hh) (g':=g) (d':=d) (t':=t) (ch:=[]) un hok bare (fun b z=>absurd z (by simp)),r,q⟩
end
def zh4 (sp:Sp)(dvs:List V)(E:XK)(t:TA):TE:=fun σ H Q=>t σ H fun vs H1=>sp (vs ++ dvs) H1 Q E
def Binds (K:W.Frag)(fd:FuncData)(ps:List Str)(ds:List Value):Prop:=
 ∀ (s:Shared) (us:List Value),K.In s.heap→(us ++ ds).length=ps.length→BindsTo s fd ⟨us,[]⟩ (ps.zip (us ++ ds))
theorem Binds.all {K:W.Frag}{fd:FuncData}{ps:List Str}(h:∀ us:List Value,us.length=ps.length→bindArgs fd ⟨us,[]⟩=pure (ps.zip us)):Binds K fd ps []:=fun s us _ hl=>by
 rw [Xbs] at hl ⊢
 exact .of_eq (h us hl)
def Passes (CX:CXT)(X:Cx)(E:XK):Prop:=∀ (pins:List (Addr×Obj)) (σ:St) (H:Hp) (s:Shared) (e:Value) (s':Shared),Inv X pins σ H s→CX X.stack H s E e s'→X.xe e s'
section
variable {X:Cx}{CX:CXT}{k:Nat}{f C:Addr}{fd:FuncData}{ps:List Str}{sp:Sp}{dvs:List V}{ds:List Value}{E:XK}{x m:Str}{p pos apos:Pos}{e o:Expr}{es:List Expr}{ta:TE}{t:TA}
theorem ziS {pins:List (Addr×Obj)}{σ:St}{H:Hp}{s:Shared}{Q:VK}{us:List Value}{vs:List V}(F:FnOk X.prog X.w X.K X.mg X.base CX k f fd ps sp)(hr:Room k X.A)(hb:Binds X.K fd ps ds)(hd:Vals dvs ds)(hx:Passes CX X E)
  (I:Inv X pins σ H s) (r:Vals vs us) (h:sp (vs ++ dvs) H Q E):wpAny (model X.prog X.w) X.A (call (.ref f) us) (EP X pins σ Q) X.xe s:=by
 have r2:Vals (vs ++ dvs) (us ++ ds):=r.append hd
 have hl:(us ++ ds).length=ps.length:=by rw [← r2.length];exact F.len _ _ _ _ h
 refine Xba (Xbb (F.run X.A X.stack s H ⟨us,[]⟩ (us ++ ds) (vs ++ dvs) Q E hr I.env0 (hb s us I.kIn hl) r2 h) fun r s' hq=>?_)
 cases r with
 | error e=>exact hx pins σ H s e s' I hq
 | ok fl =>
  cases fl with
  | ret u=>exact I.after hq
  | next=>exact False.elim hq
  | brk=>exact False.elim hq
  | cont=>exact False.elim hq
theorem zjA (F:FnOk X.prog X.w X.K X.mg X.base CX k f fd ps sp)(hr:Room k X.A)(hg:Gl X x)(hm:X.mg x=some (.ref f))(hk:W.keepIn X.K (.ref f)=true)(hb:Binds X.K fd ps ds)(hd:Vals dvs ds)(hx:Passes CX X E)
  (ha:PA X (e :: es) t) (hdb:(x == ("__debug__" : Str))=false:=by decide) (he:starEach (e :: es) X.env=(false,eval e X.env) :: starEach es X.env:=by rfl) (hpl:(backTo pos (starEach es X.env)).any (·.1)=false:=by rfl) :
  PE X (.Call (.Name x p) (e :: es) [] pos) (zh4 sp dvs E t):=by
 intro pins s σ H Q I h
 refine Xa7 (zbC I hg hm ?_ hdb)
 refine W.callWith_K (h₀:=X.base) I.ok.mod.kin hk (thn (ha pos pins s σ H _ I h) fun us s1 ⟨vs,H1,I1,r,q⟩=>⟨I1.kIn,?_⟩) he hpl
 exact ziS F hr hb hd hx I1 r q
structure Mk (K:W.Frag)(C f:Addr):Prop where
 makes:W.makesIn K C=true
 init:W.findIn K (.ref C) "__init__" = some (some (.ref f))
 fn:W.isFn K (.ref f)=true
 kp:W.keepIn K (.ref C)=true
end
section
variable {X:Cx}{CX:CXT}{k:Nat}{f C:Addr}{fd:FuncData}{ps ks:List Str}{sp:Sp}{E:XK}{x m:Str}{p pos apos kpos:Pos}{e o:Expr}{es:List Expr}{kws:List Keyword}{te ta:TE}{t tk:TA}{nm:Option Str}
structure KBinds (K:W.Frag)(fd:FuncData)(ps ks:List Str)(g:List Value→List Value→List Value)(gV:List V→List V→List V):Prop where
 to:∀ (s:Shared) (us ws:List Value),K.In s.heap→(g us ws).length=ps.length→BindsTo s fd ⟨us,ks.zip ws⟩ (ps.zip (g us ws))
 rel:∀ {vs:List V} {us:List Value} {zs:List V} {ws:List Value},Vals vs us→Vals zs ws→Vals (gV vs zs) (g us ws)
variable {g:List Value→List Value→List Value}{gV:List V→List V→List V}
theorem zg0 {pins:List (Addr×Obj)}{σ:St}{H:Hp}{s:Shared}{Q:VK}{us ws:List Value}{vs zs:List V}(F:FnOk X.prog X.w X.K X.mg X.base CX k f fd ps sp)(hr:Room k X.A)(hb:KBinds X.K fd ps ks g gV)(hx:Passes CX X E)
  (I:Inv X pins σ H s) (r:Vals vs us) (rz:Vals zs ws) (h:sp (gV vs zs) H Q E):wpAny (model X.prog X.w) X.A (call (.ref f) us (ks.zip ws)) (EP X pins σ Q) X.xe s:=by
 have r2:=hb.rel r rz
 have hl:(g us ws).length=ps.length:=by rw [← r2.length];exact F.len _ _ _ _ h
 refine Xba (Xbb (F.run X.A X.stack s H ⟨us,ks.zip ws⟩ (g us ws) (gV vs zs) Q E hr I.env0 (hb.to s us ws I.kIn hl) r2 h) fun r s' hq=>?_)
 cases r with
 | error e=>exact hx pins σ H s e s' I hq
 | ok fl =>
  cases fl with
  | ret u=>exact I.after hq
  | next=>exact False.elim hq
  | brk=>exact False.elim hq
  | cont=>exact False.elim hq
end
structure FnScope (N P:List Str)(sc:Scope):Prop where
 kind:sc.kind = .function
 co:sc.isCoroutine=false
 gen:sc.isGenerator=false
 nd:N.Nodup
 pre:N.take P.length=P
 par:∀ x∈P,sc.names.lookup x=some .local∨sc.names.lookup x=some .cell
 nofree:∀ y∈sc.names,y.2≠.free
theorem ze7 {kindOf:Str→Option NameKind}{x:Str}:∀ {binds:List (Str×Value)} {m:Str→Option Value},(∀ v,(x,v) ∉ binds)→bindL kindOf binds m x=m x
 | [],_,_=>rfl
 | (n,v) :: r,m,h=>by
  unfold bindL
  rw [ze7 fun w hw=>h w (Xay _ hw)]
  split
  ·have:x≠n:=by rintro rfl;exact h v XaT
   simp [this]
  ·rfl
theorem ze9 {kindOf:Str→Option NameKind}{x:Str}:∀ {binds:List (Str×Value)} {m:Str→Option Value},(∀ v,(x,v) ∉ binds)→bindC kindOf binds m x=m x
 | [],_,_=>rfl
 | (n,v) :: r,m,h=>by
  unfold bindC
  rw [ze9 fun w hw=>h w (Xay _ hw)]
  split
  ·rfl
  ·have:x≠n:=by rintro rfl;exact h v XaT
   simp [this]
theorem ze8 {kindOf:Str→Option NameKind}{x:Str}{v:Value}:∀ {P:List Str} {vs:List Value} {i:Nat} {m:Str→Option Value},P.Nodup→P[i]? = some x→vs[i]? = some v→kindOf x=some .local →
  bindL kindOf (P.zip vs) m x=some v
 | [],_,_,_,_,h,_,_=>by simp at h
 | _ :: _,[],_,_,_,_,h,_=>by simp at h
 | p :: P,w :: vs,0,m,nd,h1,h2,hk=>by
  simp at h1 h2;subst h1;subst h2
  show bindL kindOf ((p,w) :: P.zip vs) m p=_
  unfold bindL
  rw [ze7 fun v hv=>(Xbi.mp nd).1 (List.of_mem_zip hv).1,if_pos hk]
  simp
 | p :: P,w :: vs,i+1,m,nd,h1,h2,hk=>by
  show bindL kindOf ((p,w) :: P.zip vs) m x=_
  unfold bindL
  exact ze8 (i:=i) (Xbi.mp nd).2 (by simpa using h1) (by simpa using h2) hk
theorem zfa {kindOf:Str→Option NameKind}{x:Str}{v:Value}:∀ {P:List Str} {vs:List Value} {i:Nat} {m:Str→Option Value},P.Nodup→P[i]? = some x→vs[i]? = some v→kindOf x≠some .local →
  bindC kindOf (P.zip vs) m x=some v
 | [],_,_,_,_,h,_,_=>by simp at h
 | _ :: _,[],_,_,_,_,h,_=>by simp at h
 | p :: P,w :: vs,0,m,nd,h1,h2,hk=>by
  simp at h1 h2;subst h1;subst h2
  show bindC kindOf ((p,w) :: P.zip vs) m p=_
  unfold bindC
  rw [ze9 fun v hv=>(Xbi.mp nd).1 (List.of_mem_zip hv).1,if_neg hk]
  simp
 | p :: P,w :: vs,i+1,m,nd,h1,h2,hk=>by
  show bindC kindOf ((p,w) :: P.zip vs) m x=_
  unfold bindC
  exact zfa (i:=i) (Xbi.mp nd).2 (by simpa using h1) (by simpa using h2) hk
def start (N:List Str)(vs:List V):St:=vs.map some ++ List.replicate (N.length - vs.length) none
def cxOf (CX:CXT)(P:Program)(w:World)(K:W.Frag)(mg:Str→Option Value)(base:Heap)(N:List Str)(qual:Str)(scope:Scope)(f:Addr)(cd:Value)(A:Around)(outer:List Env)(s:Shared)(H:Hp)(E:XK):Cx where
 prog:=P
 w:=w
 K:=K
 mg:=mg
 base:=base
 A:=A.deeper (envOfC qual scope s.heap.objs.size f cd)
 N:=N
 s₀:=s
 H₀:=H
 env:=envOfC qual scope s.heap.objs.size f cd
 outer:=outer
 stack:=envOfC qual scope s.heap.objs.size f cd :: outer
 ex:=[]
 calm:=true
 fn:=fun _=>true
 pn:=[]
 xe:=fun e s'=>wpAny (model P w) (A.deeper (envOfC qual scope s.heap.objs.size f cd)) (leaving (envOfC qual scope s.heap.objs.size f cd) e) (fun _ s''=>CX outer H s E e s'') (fun e' s''=>CX outer H s E e' s'') s'
theorem zfX {sc:Scope}{n:Nat}{x:Str}(h:sc.names.lookup x=some .cell):∃ c,(cellsFrom n sc.names []).lookup x=some c:=by
 have q:=W.cellsFrom_some sc.names n [] (.inl h)
 exact Option.isSome_iff_exists.mp q
theorem zhz {CX:CXT}{P:Program}{w:World}{K:W.Frag}{mg:Str→Option Value}{base:Heap}{N ps:List Str}{qual:Str}{scope:Scope}{f:Addr}{cd:Value}{A:Around}{outer:List Env}{s s1:Shared}{H:Hp}{E:XK}{us:List Value}{vs:List V}
  (S:FnScope N ps scope) (hd:A.handled=none) (e0:Env0 P w K mg base A outer s H) (hl:vs.length=ps.length) (r:Vals vs us)
  (x:InCallC s s.heap.objs.size (bindL (envOfC qual scope s.heap.objs.size f cd).kindOf (ps.zip us) fun _=>none) (cellsFrom (s.heap.objs.size+1) scope.names []) (bindC (envOfC qual scope s.heap.objs.size f cd).kindOf (ps.zip us) fun _=>none) s1) :
  Inv (cxOf CX P w K mg base N qual scope f cd A outer s H E) [] (start N vs) H s1:=by
 have hpl:ps.length≤N.length:=by have:=congrArg List.length S.pre;rw [Xa6] at this;omega
 obtain ⟨h1,tk,rfl,hk⟩:=x.done
 have noA:∀ b:Addr,b ∉ (cxOf CX P w K mg base N qual scope f cd A outer s H E).ex:=fun b z=>absurd (show b∈([]:List Addr) from z) (by simp)
 refine ⟨⟨e0.mod,S.kind,rfl,rfl,Xae _,fun y z c h1 h2=>?_,fun y hy=>?_,fun y c _ h=>?_,fun _=>hd,Around.frames_deeper e0.frames,.inr ⟨rfl,rfl⟩,fun b z=>absurd z (noA b),e0.bs,e0.bsz,fun b _ _=>noA b,fun b z=>absurd z (noA b),e0.funs,e0.frf⟩,
  rfl,e0.bare,Un.kept hk,⟨_,x.toInCall.ns,fun i y v h1 h2 h3=>?_⟩,fun y c h=>⟨_,x.cell y c h⟩,e0.hok.fresh (Xae _),fun y c h=>?_,fun p hp=>absurd (show p∈([]:List (Addr×Obj)) from hp) (by simp),e0.hok.kept hk,?_⟩
 ·exact name_of_addr x.apart (PySem.mem_of_lookup h1) (PySem.mem_of_lookup h2)
 ·have hy:scope.names.lookup y=some .cell∨scope.names.lookup y=some .free:=hy
  rcases hy with hy | hy
  ·exact zfX hy
  ·exact absurd rfl (S.nofree _ (PySem.mem_of_lookup hy))
 ·exact Nat.le_of_lt (x.above y c (PySem.mem_of_lookup h))
 ·have hi:i<vs.length:=by
   unfold start at h2
   by_cases hi:i<vs.length
   ·exact hi
   ·rw [List.getElem?_append_right (by simpa using hi)] at h2
    rw [List.getElem?_replicate] at h2
    split at h2 <;> cases h2
  have ha:vs[i]? = some v:=by
   unfold start at h2
   rw [List.getElem?_append_left (by simpa using hi),Xav] at h2
   cases e:vs[i]? with
   | none=>rw [e] at h2;cases h2
   | some a=>rw [e] at h2;cases h2;rfl
  obtain ⟨u,hu,rv⟩:=r.get ha
  have hp:ps[i]? = some y:=by
   rw [← S.pre,List.getElem?_take_of_lt (by omega)];exact h1
  have ndP:ps.Nodup:=by rw [← S.pre];exact S.nd.sublist (List.take_sublist _ _)
  refine ⟨u,rv,?_⟩
  rcases S.par y (XaK hp) with k | k
  ·exact .inl ⟨k,ze8 ndP hp hu k⟩
  ·obtain ⟨c,e⟩:=zfX (n:=s.heap.objs.size+1) k
   refine .inr ⟨.inl k,c,e,?_⟩
   have q:=x.cell y c e
   rw [zfa ndP hp hu (by show scope.names.lookup y≠_;rw [k];decide)] at q
   exact q
 ·exact e0.hok.fresh (Nat.le_of_lt (x.above y c (PySem.mem_of_lookup h)))
 ·unfold start
  show _=N.length
  rw [Xan,Xal,Xbj]
  omega
theorem ziD {CX:CXT}{P:Program}{w:World}{K:W.Frag}{mg:Str→Option Value}{base:Heap}{k:Nat}{f:Addr}{name qual:Str}{params:Arguments}{body:List Stmt}{scope:Scope}{dV kV doc pm cdv ct oc:Value}{an od:Option Addr}
  {osl:Array (Option Value)} {N ps:List Str} {sp:Sp} (lk:K.lookup f=some ⟨oc,od,.func (W.fnOf name qual params body scope dV kV doc pm an cdv ct),osl⟩) (hcd:W.codeIn K cdv qual=true) (S:FnScope N ps scope)
  (len:∀ vs H Q E,sp vs H Q E→vs.length=ps.length)
  (hbody:∀ (A:Around) (outer:List Env) (s:Shared) (H:Hp) (vs:List V) (Q:VK) (E:XK),Room k (A.deeper (envOfC qual scope s.heap.objs.size f cdv))→sp vs H Q E →
   ∃ t,PSs (cxOf CX P w K mg base N qual scope f cdv A outer s H E) body t∧t { nx:=fun _ H'=>Q .non H',rt:=Q } (start N vs) H) :
  FnOk P w K mg base CX (k+1) f (W.fnOf name qual params body scope dV kV doc pm an cdv ct) ps sp:=by
 refine ⟨len,fun A outer s H args us vs Q E hr e0 hb r hsp=>?_⟩
 have hl:=len _ _ _ _ hsp
 have KX:K.In s.heap:=e0.mod.kin.keeps fun b o e=>(e0.bs b o e).1
 have lim:s.heap.NoLimit:=e0.mod.nolimit.keeps fun b o e=>(e0.bs b o e).1
 have hkind:∀ y∈ps.zip us,scope.names.lookup y.1=some .local∨(scope.names.lookup y.1=some .cell∧((cellsFrom (s.heap.objs.size+1) scope.names []).lookup y.1).isSome=true):=fun ⟨n,v⟩ hy=>by
  rcases S.par n (List.of_mem_zip hy).1 with q | q
  ·exact .inl q
  ·exact .inr ⟨q,W.cellsFrom_some _ _ _ (.inl q)⟩
 refine codeAny_call_function hr.depth (KX _ _ lk) rfl S.co S.gen rfl (W.codeRec_of KX hcd) (hb _ _ _ _ ?_)
 refine wpAny_newFunctionEnv_cells S.kind hkind fun env he s1 x=>?_
 subst he
 refine ⟨lim.keeps x.toInCall.keep,codeAny_func ?_⟩
 obtain ⟨t,ht,hq⟩:=hbody A outer s H vs Q E (hr.deeper _) hsp
 have I:Inv (cxOf CX P w K mg base N qual scope f cdv A outer s H E) [] (start N vs) H s1:=zhz S hr.hd e0 hl r x
 refine Xaw (ht [] s1 (start N vs) H _ I hq) (fun fl s' hs=>?_) fun e s' hs=>hs
 have fin:∀ {σ':St} {H':Hp} {v:V} {u:Value},Inv (cxOf CX P w K mg base N qual scope f cdv A outer s H E) [] σ' H' s'→RelV v u→Q v H'→CE outer P w H s Q u s':=
  fun {σ' H' v u} J rv q=>⟨v,H',J.os,J.bare,J.base,J.hok,rv,q⟩
 cases fl with
 | ret u =>
  obtain ⟨v,σ',H',J,rv,q⟩:=hs
  exact fin J rv q
 | next =>
  obtain ⟨σ',H',J,q⟩:=hs
  exact fin (v:=V.non) (u:=Value.none) J rfl q
 | brk =>
  obtain ⟨_,_,_,q⟩:=hs
  exact False.elim q
 | cont =>
  obtain ⟨_,_,_,q⟩:=hs
  exact False.elim q
section
variable {X:Cx}{x:Str}{p pos:Pos}{e:Expr}{es:List Expr}{t:TA}{id T:String}{r:List V→Hp→VK→Prop}
def tCB (r:List V→Hp→VK→Prop)(t:TA):TE:=fun σ H Q=>t σ H fun vs H1=>r vs H1 Q
theorem zak (hc:zbU X (.builtin id) r)(hg:Gl X x)(hm:X.mg x=none)(hv:bootBuiltins x=some (.builtin id))(ha:PA X (e :: es) t)(hn:x ≠ "__name__" := by decide)(hdb:(x == ("__debug__" : Str))=false:=by decide)
  (he:starEach (e :: es) X.env=(false,eval e X.env) :: starEach es X.env:=by rfl) (hpl:(backTo pos (starEach es X.env)).any (·.1)=false:=by rfl):PE X (.Call (.Name x p) (e :: es) [] pos) (tCB r t):=by
 intro pins s σ H Q I h
 refine Xa7 (zdz I hg hm hv ?_ hn hdb)
 exact PyProof.Rows.callWith_builtin1 (thn (ha pos pins s σ H _ I h) fun us s1 ⟨vs,H1,I1,r1,q1⟩=>hc pins s1 σ H1 vs us Q I1 r1 q1) he hpl
theorem zaH (hc:zbU X (.type T) r)(hg:Gl X x)(hm:X.mg x=none)(hv:bootBuiltins x=some (.type T))(ha:PA X (e :: es) t)(hn:x ≠ "__name__" := by decide)(hdb:(x == ("__debug__" : Str))=false:=by decide)
  (he:starEach (e :: es) X.env=(false,eval e X.env) :: starEach es X.env:=by rfl) (hpl:(backTo pos (starEach es X.env)).any (·.1)=false:=by rfl):PE X (.Call (.Name x p) (e :: es) [] pos) (tCB r t):=by
 intro pins s σ H Q I h
 refine Xa7 (zdz I hg hm hv ?_ hn hdb)
 exact PyProof.Rows.callWith_type1 (thn (ha pos pins s σ H _ I h) fun us s1 ⟨vs,H1,I1,r1,q1⟩=>hc pins s1 σ H1 vs us Q I1 r1 q1) he hpl
end
end L2
namespace HT
open PySem PyProof.Rows
section
open PySem.SeqAt
open PySem.AutoSeq1 (wpAny_loadPart')
open PySem.MeetsSeq PySem.MeetsSeq2 PySem.MeetsSeq3
end
section
variable {prog:Program}{w:World}{A:Around}{E:Value→Shared→Prop}{s:Shared}
theorem cat_tup {t b:Addr}{vs ws:List Value}{Q:Value→Shared→Prop}(ht:IsTup s.heap t vs.toArray)(hb:IsTup s.heap b ws.toArray)(hv:vs≠[])
  (h1:ws=[]→Q (.ref t) s) (h2:ws≠[]→Q (.ref s.heap.objs.size) { s with heap:=s.heap.push { cls:=.type "tuple",data:=.seq (vs ++ ws).toArray } })
  (hsz:vs.length+ws.length≤sizeLine):wpAny (model prog w) A (binaryOp .Add (.ref t) (.ref b)) Q E s:=by
 obtain ⟨⟨cls,dd,data,sl⟩,ho,hc,n,hd⟩:=id ht
 obtain ⟨⟨cls2,dd2,data2,sl2⟩,ho2,hc2,n2,hd2⟩:=id hb
 simp only at hc hd hc2 hd2
 subst hc hd hc2 hd2
 have e:vs.toArray ++ ws.toArray=(vs ++ ws).toArray:=by simp
 by_cases hw:ws=[]
 ·exact concat_meets ⟨_,ho,rfl⟩ ⟨_,ho2,rfl⟩ noFill_tuple_add seq_tuple_add PySem.F.slot_tuple_add PySem.F.entry_tuple_add (PySem.F.args_tuple_add_2 _ _)
   (tuple_addW1 t b vs.toArray ws.toArray n n2 dd dd2 sl sl2 (by simpa using hv) (by simp [hw])) ⟨ho,ho2,h1 hw⟩
 ·refine concat_meets ⟨_,ho,rfl⟩ ⟨_,ho2,rfl⟩ noFill_tuple_add seq_tuple_add PySem.F.slot_tuple_add PySem.F.entry_tuple_add (PySem.F.args_tuple_add_2 _ _)
   (tuple_addW2 t b vs.toArray ws.toArray n n2 dd dd2 sl sl2 (by simpa using hv) (by simpa using hw) (by rw [Xaj,Xaj];exact hsz)) ⟨ho,ho2,?_⟩
  rw [e]
  exact h2 hw
def sIx (n d:Nat):Option Int→Nat
 | none=>d
 | some v=>if v<0 then (v+(n:Int)).toNat else min v.toNat n
theorem sIx_none (n d:Nat):sIx n d none=d:=rfl
theorem sIx_nat (n d k:Nat):sIx n d (some (k:Int))=min k n:=by
 show (if (k:Int)<0 then ((k:Int)+(n:Int)).toNat else min (k:Int).toNat n)=min k n
 rw [if_neg (by omega),Xai]
theorem sIx_le (n d:Nat)(hd:d≤n)(o:Option Int):sIx n d o≤n:=by
 cases o with
 | none=>exact hd
 | some v =>
  show (if v<0 then (v+(n:Int)).toNat else min v.toNat n)≤n
  by_cases hv:v<0
  ·rw [if_pos hv];omega
  ·rw [if_neg hv];exact Nat.min_le_right _ _
theorem zhK (v:Int)(n d:Nat):(if v<0 then max (v+(n:Int)) 0 else min v (n:Int))=((sIx n d (some v):Nat):Int):=by
 show (if v<0 then max (v+(n:Int)) 0 else min v (n:Int))=(((if v<0 then (v+(n:Int)).toNat else min v.toNat n):Nat):Int)
 by_cases hv:v<0
 ·simp only [if_pos hv];omega
 ·simp only [if_neg hv];omega
theorem zgD (lo hi:Option Int)(n:Nat):Builtin.Slice.sliceAdjust lo hi 1 (n:Int)=(((sIx n 0 lo:Nat):Int),((sIx n n hi:Nat):Int)):=by
 have h1:¬ ((1:Int)<0):=by omega
 unfold Builtin.Slice.sliceAdjust
 simp only [h1,if_false]
 refine Prod.ext ?_ ?_
 ·cases lo with
  | none=>rfl
  | some v=>exact zhK v n 0
 ·cases hi with
  | none=>rfl
  | some v=>exact zhK v n n
theorem zga (i j:Nat):Builtin.Slice.slicePlaces (i:Int) (j:Int) 1=j - i:=by
 unfold Builtin.Slice.slicePlaces
 have h1:(1:Int) > 0:=by omega
 simp only [h1,if_true,Int.ediv_one]
 split <;> omega
theorem zdU {v:Value}{o:Option Int}{Q:Option Int→Shared→Prop}(p:IsPart v o)(h:Q o s):wpAny (model prog w) A (Builtin.Slice.slicePartIndex v) Q E s:=by
 cases p with
 | none=>exact slicePart_none h
 | int i t=>exact slicePart_int h
theorem zbF {sl:Addr}{vl vu:Value}{lo hi:Option Int}{n:Nat}{Q:Int×Int×Nat→Shared→Prop}(hs:s.heap.IsSliceOf sl vl vu .none)(pl:IsPart vl lo)(pu:IsPart vu hi)
  (h:Q (((sIx n 0 lo:Nat):Int),1,sIx n n hi - sIx n 0 lo) s):wpAny (model prog w) A (Builtin.Slice.sliceApplied (.ref sl) (pure (n:Int))) Q E s:=by
 obtain ⟨os,hos,hcs,hds⟩:=id hs
 unfold Builtin.Slice.sliceApplied Builtin.Slice.sliceFields
 refine Xaa (Xaa (XaI hos hds (x:=vl) rfl (Xaa (XaI hos hds (x:=vu) rfl (Xaa (XaI hos hds (x:=.none) rfl (Xac ?_)))))))
 refine Xaa (slicePart_none ?_)
 show wpAny _ _ (if ((1:Int) == 0)=true then _ else _) _ _ s
 rw [if_neg (by decide)]
 refine Xaa (zdU pl (Xaa (zdU pu (Xaa (Xac ?_)))))
 show wpAny _ _ (match Builtin.Slice.sliceAdjust lo hi 1 (n:Int) with | (lo,hi)=>pure (lo,(1:Int),Builtin.Slice.slicePlaces lo hi 1)) _ _ s
 rw [zgD lo hi n]
 show wpAny _ _ (pure (((sIx n 0 lo:Nat):Int),(1:Int),Builtin.Slice.slicePlaces ((sIx n 0 lo:Nat):Int) ((sIx n n hi:Nat):Int) 1)) _ _ s
 rw [zga]
 exact Xac h
theorem zii (xs:Array Value)(i k:Nat):((List.range k).filterMap fun (m:Nat)=>xs[((i:Int)+(m:Int) * 1).toNat]?).toArray=((xs.toList.drop i).take k).toArray:=by
 have e:(fun (m:Nat)=>xs[((i:Int)+(m:Int) * 1).toNat]?)=fun m=>xs[i+m]?:=by
  funext m
  have:((i:Int)+(m:Int) * 1).toNat=i+m:=by omega
  rw [this]
 rw [e]
 have:=pick_run xs i k
 rw [List.filterMap_map] at this
 have e2:((fun x=>xs[x]?) ∘ fun x=>i+x)=fun m=>xs[i+m]?:=rfl
 rw [e2] at this
 rw [this]
theorem getItem_tuple_cut {t sl:Addr}{items:Array Value}{vl vu:Value}{lo hi:Option Int}{Q:Value→Shared→Prop}(ht:IsTup s.heap t items)(hs:s.heap.IsSliceOf sl vl vu .none)(pl:IsPart vl lo)(pu:IsPart vu hi)
  (hw:¬ (sIx items.size 0 lo=0∧sIx items.size items.size hi=items.size))
  (h:Q (.ref s.heap.objs.size) { s with heap:=s.heap.push { cls:=.type "tuple",data:=.seq ((items.toList.drop (sIx items.size 0 lo)).take (sIx items.size items.size hi - sIx items.size 0 lo)).toArray } })
  (hsz:items.size≤sizeLine):wpAny (model prog w) A (getItem (.ref t) (.ref sl)) Q E s:=by
 have htake:sizeOk (.seq ((items.toList.drop (sIx items.size 0 lo)).take (sIx items.size items.size hi - sIx items.size 0 lo)).toArray):=by
  show ((items.toList.drop (sIx items.size 0 lo)).take (sIx items.size items.size hi - sIx items.size 0 lo)).toArray.size≤sizeLine
  rw [Xaj,Xa6,List.length_drop,Array.length_toList]
  omega
 have hj:sIx items.size items.size hi≤items.size:=sIx_le _ _ (Xae _) hi
 obtain ⟨os,hos,hcs,hds⟩:=id hs
 have hTs:s.TypeIs (.ref sl) "slice" := ⟨os,hos,hcs⟩
 unfold getItem
 try with_reducible refine Xaz ?_
 first | refine Xaa (Xac ?_) | skip
 refine Xaa (wpAny_sequenceKey ht.typeIs (by decide) ?_)
 refine Xaa (wpAny_callSpecial?_slot (name:=Str.ofString "__getitem__") ht.typeIs PyProof.Rows.slot_tuple_getitem
  (XaM PyProof.Rows.slot_tuple_getitem ht.typeIs entry_tuple_getitem ?_ (args_tuple_getitem _ _)))
 show wpAny _ _ (Builtin.Tuple.tupleItemsOf (.ref t) >>= _) _ _ s
 refine Xaa (tupleItemsOf_ ht ?_)
 refine Xaa (Xbo hTs ?_)
 rw [if_pos (by decide)]
 refine Xaa (zbF hs pl pu ?_)
 have hno:¬ ((((sIx items.size 0 lo:Nat):Int) == 0 && (1:Int) == 1 && (sIx items.size items.size hi - sIx items.size 0 lo) == items.size)=true):=by
  intro q
  rw [XaY,XaY] at q
  have q1:((sIx items.size 0 lo:Nat):Int)=0:=eq_of_beq q.1.1
  have q2:sIx items.size items.size hi - sIx items.size 0 lo=items.size:=eq_of_beq q.2
  exact hw ⟨by omega,by omega⟩
 show wpAny _ _ (if (((sIx items.size 0 lo:Nat):Int) == 0 && (1:Int) == 1 && (sIx items.size items.size hi - sIx items.size 0 lo) == items.size)=true then _ else _) _ _ s
 rw [if_neg hno,zii]
 first
  | exact Xaa (m:=Builtin.Tuple.tupleExact _) (XaJ (Xac ⟨_,rfl,Xac h⟩) htake)
  | exact Xaa (m:=Builtin.Tuple.tupleExact _) (XaJ (Xaa (Xac (Xac ⟨_,rfl,Xac h⟩))) htake)
  | exact Xaa (Xaa (m:=Builtin.Tuple.tupleExact _) (XaJ (Xac (Xac ⟨_,rfl,Xac h⟩)) htake))
  | exact Xaa (Xaa (m:=Builtin.Tuple.tupleExact _) (XaJ (Xac ⟨_,rfl,Xac h⟩) htake))
end
end HT
namespace L2
open PySem PySem.Spec PyProof.Rows
abbrev TO:=St→Hp→(Option Int→Hp→Prop)→Prop
def PO (X:Cx)(e:Option Expr)(t:TO):Prop:=
 ∀ (pins:List (Addr×Obj)) (s:Shared) (σ:St) (H:Hp) (Q:Option Int→Hp→Prop),Inv X pins σ H s→t σ H Q →
  wpAny (model X.prog X.w) X.A (evalPart e X.env) (fun u s'=>∃ o H',Inv X pins σ H' s'∧IsPart u o∧Q o H') X.xe s
def zji:TO:=fun _ H Q=>Q none H
inductive tPart_1 (Q:Option Int→Hp→Prop)(x:V)(H1:Hp):Prop
 | mk (i:_) (z0_:x = .int i) (z1_:Q (some i) H1)
def tPart (t:TE):TO:=fun σ H Q=>t σ H (tPart_1 Q)
theorem zgs {ns:List Int}:∀ {us:List Value},Vals (ns.map V.int) us→IntsAre us ns:=by
 induction ns with
 | nil=>intro us r;rw [List.map_nil] at r;cases r;exact .nil
 | cons n ns ih =>
  intro us r
  rw [Xbc] at r
  cases r with
  | cons r1 r2 =>
   obtain ⟨t,e⟩:=r1
   subst e
   exact .cons n t (ih r2)
section
variable {X:Cx}{e:Expr}{te:TE}{lo hi:Option Expr}{tl th:TO}{pos p2:Pos}
theorem zdm:PO X none zji:=by
 intro pins s σ H Q I h
 rw [evalPart_none]
 exact Xac ⟨none,H,I,.none,h⟩
theorem zcy (h:PE X e te):PO X (some e) (tPart te):=by
 intro pins s σ H Q I hw
 rw [evalPart_some]
 refine thn (h pins s σ H _ I hw) fun u s1 hh_=>?_
 obtain ⟨x,H1,I1,r1,q1⟩:=hh_
 obtain ⟨i,rfl,q⟩:=q1
 obtain ⟨t,rfl⟩:=r1
 exact ⟨some i,H1,I1,.int i t,q⟩
def SlR (X:Cx)(r:V→Option Int→Option Int→Hp→VK→Prop):Prop:=
 ∀ (pins:List (Addr×Obj)) (s:Shared) (σ:St) (H:Hp) (x:V) (v vl vu:Value) (lo hi:Option Int) (sl:Addr) (Q:VK),Inv X pins σ H s→RelV x v→s.heap.IsSliceOf sl vl vu .none→IsPart vl lo→IsPart vu hi→r x lo hi H Q →
  ∃ T id,typeLookup (.type T) "__getitem__" = pure (some (.builtin id))∧s.TypeIs v T∧wpAny (model X.prog X.w) X.A (getItem v (.ref sl)) (EP X pins σ Q) X.xe s
def tSl (r:V→Option Int→Option Int→Hp→VK→Prop)(te:TE)(tl th:TO):TE:=fun σ H Q=>te σ H fun x H1=>tl σ H1 fun l H2=>th σ H2 fun u H3=>r x l u H3 Q
theorem zci {r:V→Option Int→Option Int→Hp→VK→Prop}(hr:SlR X r)(he:PE X e te)(hl:PO X lo tl)(hu:PO X hi th):PE X (.Subscript e (.Slice lo hi none p2) pos) (tSl r te tl th):=by
 intro pins s σ H Q I h
 refine Subscript_ (thn (he pins s σ H _ I h) fun v s1 hh_=>?_)
 obtain ⟨x,H1,I1,r1,q1⟩:=hh_
 refine wpAny_Slice (thn (hl pins s1 σ H1 _ I1 q1) fun vl s2 ⟨l,H2,I2,pl,q2⟩=>thn (hu pins s2 σ H2 _ I2 q2) fun vu s3 hh_=>?_)
 obtain ⟨u,H3,I3,pu,q3⟩:=hh_
 rw [evalPart_none]
 refine Xac ?_
 have I4:Inv X pins σ H3 { s3 with heap:=s3.heap.push { cls:=.type "slice",data:=.fields #[vl,vu,.none] } }:=I3.kept (t':=s3.toks) fun b ob q=>Xab _ q
 obtain ⟨T,id,hT,ht,hg⟩:=hr pins { s3 with heap:=s3.heap.push { cls:=.type "slice",data:=.fields #[vl,vu,.none] } } σ H3 x v vl vu l u s3.heap.objs.size Q I4 r1 (Heap.IsSliceOf.new ..) pl pu q3
 show wpAny (model X.prog X.w) X.A (subscriptTail e (.Slice lo hi none p2) v (.ref s3.heap.objs.size)) (EP X pins σ Q) X.xe { s3 with heap:=s3.heap.push { cls:=.type "slice",data:=.fields #[vl,vu,.none] } }
 exact tail_any (ops:=[.ref s3.heap.objs.size,v]) ht hT hg (by with_unfolding_all rfl)
def cutV (xs:List V)(lo hi:Option Int):List V:=(xs.drop (HT.sIx xs.length 0 lo)).take (HT.sIx xs.length xs.length hi - HT.sIx xs.length 0 lo)
theorem zdG (xs:List V)(lo hi:Option Int):(cutV xs lo hi).length≤xs.length:=by
 unfold cutV
 rw [Xa6,List.length_drop]
 omega
inductive rSlT (K:W.Frag)(x:V)(lo:Option Int)(hi:Option Int)(H:Hp)(Q:VK):Prop
 | mk (a:_) (xs:_) (z0_:x = .ref a) (z1_:SqT K H a xs) (z2_:¬ (HT.sIx xs.length 0 lo=0∧HT.sIx xs.length xs.length hi=xs.length)) (z3_:∀ p,H p=none→Q (.ref p) (upd H p (.tup (cutV xs lo hi))))
theorem sl_tup:SlR X (rSlT X.K):=by
 intro pins s σ H x v vl vu lo hi sl Q I rx hs pl pu h
 obtain ⟨a,xs,rfl,hx,hw,q⟩:=h
 cases rx
 obtain ⟨its,r,ht,hz⟩:=I.tuple hx
 have hlen:its.toArray.size=xs.length:=by rw [Xaj];exact r.length.symm
 refine ⟨"tuple",_,PyProof.Rows.slot_tuple_getitem.lookup,ht.typeIs,?_⟩
 refine HT.getItem_tuple_cut ht hs pl pu (by rw [hlen];exact hw) ?_ (by rw [hlen];exact hz)
 rw [hlen]
 refine ⟨.ref s.heap.objs.size,_,I.laid (t':=s.toks) (o:=.tup (cutV xs lo hi)) (fun b ob q=>Xab _ q) (Xae _) ?_,rfl,q _ (I.hok.fresh (Xae _))⟩
 exact ⟨⟨Xam (zdG xs lo hi) hz,_,Xag _ rfl,rfl⟩,_,(r.drop (HT.sIx xs.length 0 lo)).take (HT.sIx xs.length xs.length hi - HT.sIx xs.length 0 lo),IsTup.new _ _⟩
inductive rCatT (K:W.Frag)(x:V)(y:V)(H:Hp)(Q:VK):Prop
 | mk (a:_) (b:_) (xs:_) (ys:_) (z0_:x = .ref a) (z1_:y = .ref b) (z2_:SqT K H a xs) (z3_:SqT K H b ys) (z4_:xs≠[]) (z5_:xs.length+ys.length≤sizeLine) (z6_:(ys=[]→Q (.ref a) H)) (z7_:(ys≠[]→∀ p,H p=none→Q (.ref p) (upd H p (.tup (xs ++ ys)))))
theorem Vals.nil_iff {xs:List V}{us:List Value}(r:Vals xs us):us=[]↔xs=[]:=by
 cases r with
 | nil=>simp
 | cons _ _=>simp
theorem zjE:OpR X (binaryOp .Add) (rCatT X.K):=by
 intro pins s σ H x y v u Q I rx ry h
 obtain ⟨a,b,xs,ys,rfl,rfl,ha,hb,hx,hz,q1,q2⟩:=h
 cases rx
 cases ry
 obtain ⟨its,r1,p1,_⟩:=I.tuple ha
 obtain ⟨its2,r2,p2,_⟩:=I.tuple hb
 refine HT.cat_tup p1 p2 (fun z=>hx (r1.nil_iff.mp z)) (fun z=>⟨.ref a,H,I,rfl,q1 (r2.nil_iff.mp z)⟩) (fun z=>?_) (by rw [← r1.length,← r2.length];exact hz)
 refine ⟨.ref s.heap.objs.size,_,I.laid (t':=s.toks) (o:=.tup (xs ++ ys)) (fun b ob q=>Xab _ q) (Xae _) ?_,rfl,q2 (fun w=>z (r2.nil_iff.mpr w)) _ (I.hok.fresh (Xae _))⟩
 exact ⟨⟨by rw [Xan];exact hz,_,Xag _ rfl,rfl⟩,_,r1.append r2,IsTup.new _ _⟩
end
def ixN (n:Nat)(i:Int):Option Nat:=if 0≤i then (if i<n then some i.toNat else none) else if -(n:Int)≤i then some (i+n).toNat else none
def atI {α:Type}(xs:List α)(i:Int):Option α:=(ixN xs.length i).bind fun j=>xs[j]?
theorem zhx {n:Nat}{i:Int}{j:Nat}(h:ixN n i=some j):seqIndex? i n=some j∧j<n∧-(n:Int)≤i∧i<n:=by
 unfold ixN at h
 by_cases h0:0≤i
 ·rw [if_pos h0] at h
  by_cases h1:i<n
  ·rw [if_pos h1] at h
   have e:i.toNat=j:=Option.some.inj h
   exact ⟨by rw [seqIndex_of h0 h1,e],by omega,by omega,h1⟩
  ·rw [if_neg h1] at h;cases h
 ·rw [if_neg h0] at h
  by_cases h1:-(n:Int)≤i
  ·rw [if_pos h1] at h
   have e:(i+n).toNat=j:=Option.some.inj h
   exact ⟨by rw [seqIndex_neg (by omega) h1,e],by omega,h1,by omega⟩
  ·rw [if_neg h1] at h;cases h
theorem zes {α:Type}{xs:List α}{i:Int}{v:α}(h:atI xs i=some v):∃ j,seqIndex? i xs.length=some j∧xs[j]? = some v∧j<xs.length∧-(xs.length:Int)≤i∧i<xs.length:=by
 unfold atI at h
 cases e:ixN xs.length i with
 | none=>rw [e] at h;cases h
 | some j =>
  rw [e] at h
  obtain ⟨h1,h2,h3,h4⟩:=zhx e
  exact ⟨j,h1,h,h2,h3,h4⟩
theorem zaT {α:Type}{xs:List α}{j:Nat}{v:α}(h:xs[j]? = some v):atI xs (j:Int)=some v:=by
 have hj:j<xs.length:=(Xar.mp h).1
 have e:ixN xs.length (j:Int)=some j:=by
  unfold ixN
  rw [if_pos (by omega),if_pos (by omega)];simp
 unfold atI;rw [e];exact h
def zhX (b:Expr):Prop:=∀ o i,subscripted b false o i=operate [o,i] (getItem o i)
def IxR (X:Cx)(r:R2):Prop:=
 ∀ (value slice:Expr) (pins:List (Addr×Obj)) (s:Shared) (σ:St) (H:Hp) (x y:V) (v u:Value) (Q:VK),Inv X pins σ H s→RelV x v→RelV y u→r x y H Q →
  subscripted slice false v u=operate [v,u] (getItem v u)→wpAny (model X.prog X.w) X.A (subscriptTail value slice v u) (EP X pins σ Q) X.xe s
def MtR (X:Cx)(id:String)(r:V→List V→Hp→VK→Prop):Prop:=
 ∀ (pins:List (Addr×Obj)) (s:Shared) (σ:St) (H:Hp) (x:V) (xs:List V) (v:Value) (us:List Value) (Q:VK),Inv X pins σ H s→RelV x v→Vals xs us→r x xs H Q →
  wpAny (model X.prog X.w) X.A (call (.builtin id) (v :: us)) (EP X pins σ Q) X.xe s
section
variable {X:Cx}{a b:Expr}{ta tb:TE}{pos:Pos}
theorem pe_ix {r:R2}(hr:IxR X r)(ha:PE X a ta)(hb:PE X b tb)(hs:zhX b):PE X (.Subscript a b pos) (tOp r ta tb):=by
 intro pins s σ H Q I h
 exact Subscript_ (binT ha hb I h fun v u s2 x y H2 I2 rx ry q=>hr a b pins s2 σ H2 x y v u Q I2 rx ry q (hs _ _))
inductive rIxL (K:W.Frag)(x:V)(y:V)(H:Hp)(Q:VK):Prop
 | mk (p:_) (xs:_) (i:_) (v:_) (z0_:x = .ref p) (z1_:y = .int i) (z2_:SqL K H p xs) (z3_:atI xs i=some v) (z4_:Q v H)
inductive rIxT (K:W.Frag)(x:V)(y:V)(H:Hp)(Q:VK):Prop
 | mk (p:_) (xs:_) (i:_) (v:_) (z0_:x = .ref p) (z1_:y = .int i) (z2_:SqT K H p xs) (z3_:atI xs i=some v) (z4_:Q v H)
inductive rIxS (x:V)(y:V)(H:Hp)(Q:VK):Prop
 | mk (z:_) (i:_) (c:_) (z0_:x = .str z) (z1_:y = .int i) (z2_:z.length≤sizeLine) (z3_:atI z.cps.toList i=some c) (z4_:Q (.str ⟨#[c]⟩) H)
theorem zau:IxR X (rIxL X.K):=by
 intro value slice pins s σ H x y v u Q I rx ry h hs
 obtain ⟨p,xs,i,z,rfl,rfl,hq,he,q⟩:=h
 cases rx
 obtain ⟨t,rfl⟩:=ry
 obtain ⟨its,r,pl,hz⟩:=I.list hq
 obtain ⟨j,h1,h2,h3,h4,h5⟩:=zes he
 obtain ⟨w,ew,rw'⟩:=r.get h2
 have hl:=r.length
 have hn:=zdx
 have fin:EP X pins σ Q w s:=⟨z,H,I,rw',q⟩
 by_cases h0:0≤i
 ·have hj:i.toNat=j:=by
   rw [seqIndex_of h0 h5] at h1
   exact Option.some.inj h1
  exact item_listR pl.isList h0 (by omega) (by rw [hj];simpa using ew) fin hs
 ·have hj:(i+(its.toArray.size:Int)).toNat=j:=by
   rw [seqIndex_neg (by omega) h4] at h1
   rw [Xaj,← hl]
   exact Option.some.inj h1
  exact subscriptTail_builtinR (x:=w) pl.isList.typeIs slot_list_getitem.lookup
   (wpAny_getItem_list_neg (Q:=fun r s'=>r=w∧EP X pins σ Q r s') pl.isList (by omega) (by rw [Xaj] <;> omega) (by omega) (by rw [hj];simpa using ew) ⟨rfl,fin⟩) hs
theorem zaS:IxR X (rIxT X.K):=by
 intro value slice pins s σ H x y v u Q I rx ry h hs
 obtain ⟨p,xs,i,z,rfl,rfl,hq,he,q⟩:=h
 cases rx
 obtain ⟨t,rfl⟩:=ry
 obtain ⟨its,r,pl,hz⟩:=I.tuple hq
 obtain ⟨j,h1,h2,h3,h4,h5⟩:=zes he
 obtain ⟨w,ew,rw'⟩:=r.get h2
 have hl:=r.length
 have hn:=zdx
 have fin:EP X pins σ Q w s:=⟨z,H,I,rw',q⟩
 exact subscriptTail_builtinR (x:=w) pl.typeIs slot_tuple_getitem.lookup
  (getItem_tuple (j:=j) (Q:=fun r s'=>r=w∧EP X pins σ Q r s') pl (by omega) (by omega) (by rw [Xaj,← hl];exact h1) (by simpa using ew) ⟨rfl,fin⟩) hs
theorem ix_str:IxR X rIxS:=by
 intro value slice pins s σ H x y v u Q I rx ry h hs
 obtain ⟨z,i,c,rfl,rfl,hz,he,q⟩:=h
 obtain ⟨t,rfl⟩:=rx
 obtain ⟨t',rfl⟩:=ry
 obtain ⟨j,h1,h2,h3,h4,h5⟩:=zes he
 have hl:z.cps.toList.length=z.length:=by simp [Str.length]
 rw [hl] at h1 h4 h5
 have hn:=zdx
 exact tail_any (typeIs_str s z t) slot_str_getitem.lookup (getItem_str (c:=c) (by
  have e1:decide (i < -(2 ^ 63:Int))=false:=Xao (by omega)
  have e2:decide (i ≥ 2 ^ 63)=false:=Xao (by omega)
  rw [e1,e2,Bool.or_false]) (by rw [h1];simpa using h2) ⟨.str ⟨#[c]⟩,H,I.tok _,⟨_,rfl⟩,q⟩) hs
theorem zgm (its:List Value)(n j:Nat)(u:Value):Obj.mapSeq (·.setIfInBounds j u) { cls:=.type "list",data:=.seq its.toArray n }={ cls:=.type "list",data:=.seq (its.set j u).toArray n }:=by
 simp [Obj.mapSeq]
theorem Inv.lst {pins:List (Addr×Obj)}{σ:St}{H:Hp}{s:Shared}{p:Addr}{xs:List V}(I:Inv X pins σ H s)(h:H p=some (.lst xs)) :
  ∃ (its:List Value) (n:Nat),Vals xs its∧s.heap.get? p=some { cls:=.type "list",data:=.seq its.toArray n }∧xs.length≤sizeLine:=by
 obtain ⟨z,its,n,r,e⟩:=I.hok p _ h
 exact ⟨its,n,r,e,z⟩
theorem Inv.lstUpd {pins:List (Addr×Obj)}{σ:St}{H:Hp}{s:Shared}{p:Addr}{xs ys:List V}{its its':List Value}{n n':Nat}{f:Obj→Obj}(I:Inv X pins σ H s)(h:H p=some (.lst xs))
  (ho:s.heap.get? p=some { cls:=.type "list",data:=.seq its.toArray n }) (hf:f { cls:=.type "list",data:=.seq its.toArray n }={ cls:=.type "list",data:=.seq its'.toArray n' }) (r:Vals ys its') (hz:ys.length≤sizeLine) (t:Nat) :
  Inv X pins σ (upd H p (.lst ys)) { s with heap:=s.heap.update p f,toks:=t }:=by
 have e:(s.heap.update p f).get? p=some { cls:=.type "list",data:=.seq its'.toArray n' }:=by
  rw [XaD f ho (by rw [hf] <;> rfl),hf]
 refine I.write (x:=p) (e:=p) (by rw [h];trivial) (.inl rfl) (fun b u hb q=>(XaF _ _ (Ne.symm hb)).trans q) ⟨_,e⟩ ?_
 exact ⟨hz,its',n',r,e⟩
inductive rSetL (o:V)(i:V)(v:V)(H:Hp)(Q:(Hp→Prop)):Prop
 | mk (p:_) (xs:_) (k:_) (j:_) (z0_:o = .ref p) (z1_:i = .int k) (z2_:H p=some (.lst xs)) (z3_:ixN xs.length k=some j) (z4_:Q (upd H p (.lst (xs.set j v))))
theorem zfM:PSet X rSetL:=by
 intro pins s σ H o i v ov iv u Q I ro ri rv h
 obtain ⟨p,xs,k,j,rfl,rfl,hp,hj,q⟩:=h
 cases ro
 obtain ⟨t,rfl⟩:=ri
 obtain ⟨its,n,r,ho,hz⟩:=I.lst hp
 obtain ⟨h1,h2,h3,h4⟩:=zhx hj
 have hl:=r.length
 have hn:=zdx
 have I':Inv X pins σ (upd H p (.lst (xs.set j v))) { s with heap:=s.heap.update p (Obj.mapSeq (·.setIfInBounds j u)) }:=
  I.lstUpd hp ho (zgm its n j u) (r.set rv j) (by rw [List.length_set];exact hz) s.toks
 by_cases h0:0≤k
 ·have hk:k.toNat=j:=by
   rw [seqIndex_of h0 h4] at h1
   exact Option.some.inj h1
  exact W.ki_setAt ho h0 (by omega) (by rw [Xaj,← hl];exact h4) (by rw [hk];exact ⟨_,I',q⟩)
 ·have hk:(k+(its.toArray.size:Int)).toNat=j:=by
   rw [seqIndex_neg (by omega) h3] at h1
   rw [Xaj,← hl]
   exact Option.some.inj h1
  exact W.ki_setBack ho (by omega) (by rw [Xaj,← hl];exact h3) (by omega) (by rw [hk];exact ⟨_,I',q⟩)
theorem zev (lo hi:Option Int)(n:Nat):(sliceBounds lo hi none n).1=((HT.sIx n 0 lo:Nat):Int)∧(sliceBounds lo hi none n).2.1=((HT.sIx n n hi:Nat):Int)∧(sliceBounds lo hi none n).2.2=1:=by
 refine ⟨?_,?_,rfl⟩
 ·cases lo with
  | none=>simp [sliceBounds,HT.sIx]
  | some i =>
   simp only [sliceBounds,HT.sIx,Option.getD_none,show (1:Int) > 0 by decide,if_true]
   by_cases h:i<0
   ·simp only [h,if_true] <;> omega
   ·simp only [h,if_false] <;> omega
 ·cases hi with
  | none=>simp [sliceBounds,HT.sIx]
  | some i =>
   simp only [sliceBounds,HT.sIx,Option.getD_none,show (1:Int) > 0 by decide,if_true]
   by_cases h:i<0
   ·simp only [h,if_true] <;> omega
   ·simp only [h,if_false] <;> omega
theorem zd9 (its:List Value)(lo hi:Option Int):slicePick its.toArray lo hi none=((its.drop (HT.sIx its.length 0 lo)).take (HT.sIx its.length its.length hi - HT.sIx its.length 0 lo)).toArray:=by
 obtain ⟨h1,h2,h3⟩:=zev lo hi its.toArray.size
 unfold slicePick
 rw [h1,h2,h3]
 simp only [sliceRange_one,pick_run,Xaj] <;> rfl
inductive rSlL (K:W.Frag)(x:V)(lo:Option Int)(hi:Option Int)(H:Hp)(Q:VK):Prop
 | mk (a:_) (xs:_) (z0_:x = .ref a) (z1_:SqL K H a xs) (z2_:∀ p,H p=none→Q (.ref p) (upd H p (.lst (cutV xs lo hi))))
theorem zgU:SlR X (rSlL X.K):=by
 intro pins s σ H x v vl vu lo hi sl Q I rx hs pl pu h
 obtain ⟨a,xs,rfl,hx,q⟩:=h
 cases rx
 obtain ⟨its,r,ht,hz⟩:=I.list hx
 have hlen:=r.length
 refine ⟨"list",_,slot_list_getitem.lookup,ht.isList.typeIs,?_⟩
 refine wpAny_getItem_list_slice ht.isList hs pl pu .none (by simp) ?_ (by rw [Xaj] <;> omega)
 rw [zd9,← hlen]
 refine ⟨.ref s.heap.objs.size,_,I.laid (t':=s.toks) (o:=.lst (cutV xs lo hi)) (fun b ob q=>Xab _ q) (Xae _) ?_,rfl,q _ (I.hok.fresh (Xae _))⟩
 exact ⟨Xam (zdG xs lo hi) hz,_,0,(r.drop (HT.sIx xs.length 0 lo)).take (HT.sIx xs.length xs.length hi - HT.sIx xs.length 0 lo),Xag _ rfl⟩
theorem zam:zbU X (.builtin "len") (fun xs H Q=>∃ p ys,xs=[.ref p]∧(SqL X.K H p ys∨SqT X.K H p ys)∧Q (.int ys.length) H):=by
 intro pins s σ H xs us Q I r h
 obtain ⟨p,ys,rfl,hq,q⟩:=h
 obtain ⟨u,rfl,rx⟩:=zc8 r
 cases rx
 have hn:=zdx
 rcases hq with hq | hq
 ·obtain ⟨its,r',pl,hz⟩:=I.list hq
  have hlen:=r'.length
  exact Calls.call_len_list pl.isList (by simp only [Xaj] <;> omega) ⟨.int ys.length,H,I.tok _,⟨s.toks+1,by rw [Xaj,hlen]⟩,q⟩
 ·obtain ⟨its,r',pl,hz⟩:=I.tuple hq
  have hlen:=r'.length
  exact len_tuple pl (by simp only [Xaj] <;> omega) ⟨.int ys.length,H,I.tok _,⟨s.toks+1,by rw [Xaj,hlen]⟩,q⟩
theorem zbh:zbU X (.type "list") (fun xs H Q=>∃ p ys,xs=[.ref p]∧(SqL X.K H p ys∨SqT X.K H p ys)∧∀ l,H l=none→Q (.ref l) (upd H l (.lst ys))):=by
 intro pins s σ H xs us Q I r h
 obtain ⟨p,ys,rfl,hq,q⟩:=h
 obtain ⟨u,rfl,rx⟩:=zc8 r
 cases rx
 have fin:∀ (its:List Value),Vals ys its→ys.length≤sizeLine→∀ (h':Heap) (c':Nat),(∀ b o',s.heap.get? b=some o'→h'.get? b=some o') →
   h'.get? s.heap.objs.size=some { cls:=.type "list",dict:=none,data:=.seq its.toArray c',slots:=#[] }→EP X pins σ Q (.ref s.heap.objs.size) { s with heap:=h' }:=fun its r' hz h' c' kp e =>
  ⟨.ref s.heap.objs.size,_,I.laid (t':=s.toks) kp (Xae _) (show ObjOk X.prog X.w _ h' _ (.lst ys) from ⟨hz,its,c',r',e⟩),rfl,q _ (I.hok.fresh (Xae _))⟩
 rcases hq with hq | hq
 ·obtain ⟨its,r',pl,hz⟩:=I.list hq
  have hlen:=r'.length
  obtain ⟨o,ho,hc,n,hd⟩:=pl.isList
  exact call_list_seq p (.inl rfl) ho hc hd (fun h' c' kp e=>fin its r' hz h' c' kp e) (by simp only [Xaj] <;> omega)
 ·obtain ⟨its,r',pl,hz⟩:=I.tuple hq
  have hlen:=r'.length
  obtain ⟨o,ho,hc,n,hd⟩:=pl
  exact call_list_seq p (.inr rfl) ho hc hd (fun h' c' kp e=>fin its r' hz h' c' kp e) (by simp only [Xaj] <;> omega)
theorem zbE:zbU X (.type "tuple") (fun xs H Q=>∃ p ys,xs=[.ref p]∧((SqL X.K H p ys∧∀ l,H l=none→Q (.ref l) (upd H l (.tup ys)))∨(SqT X.K H p ys∧Q (.ref p) H))):=by
 intro pins s σ H xs us Q I r h
 obtain ⟨p,ys,rfl,h⟩:=h
 obtain ⟨u,rfl,rx⟩:=zc8 r
 cases rx
 rcases h with ⟨hq,q⟩ | ⟨hq,q⟩
 ·obtain ⟨its,r',pl,hz⟩:=I.list hq
  have hlen:=r'.length
  refine call_tuple_list pl.isList (fun h' kp=>?_) (by simp only [Xaj] <;> omega)
  have I1:Inv X pins σ H { s with heap:=h' }:=I.kept (t':=s.toks) kp
  have I2:Inv X pins σ (upd H h'.objs.size (.tup ys)) { s with heap:=h'.push { cls:=.type "tuple",data:=.seq its.toArray } }:=
   I1.laid (t':=s.toks) (fun b o e=>Xab _ e) (Xae _) (show ObjOk X.prog X.w _ _ _ (.tup ys) from ⟨⟨hz,_,Xag _ rfl,rfl⟩,its,r',IsTup.new _ _⟩)
  exact ⟨.ref h'.objs.size,_,I2,rfl,q _ (I1.hok.fresh (Xae _))⟩
 ·obtain ⟨its,r',pl,hz⟩:=I.tuple hq
  exact call_tuple_same pl ⟨.ref p,H,I,rfl,q⟩
def tyV (K:W.Frag)(T:String)(x:V)(H:Hp):Prop:=match x with
 | .str _=>T = "str"
 | .int _=>T = "int"
 | .ref p=>(T = "list" ∧ ∃ xs,SqL K H p xs)∨(T = "tuple" ∧ ∃ o,K.lookup p=some o∧o.cls = .type "tuple" ∧ o.dict=none) ∨
   (T = "dict" ∧ ((∃ kvs,H p=some (.dK kvs))∨∃ kvs,H p=some (.dT kvs)))∨(T = "set" ∧ ∃ S n,H p=some (.set S n))
 | _=>False
theorem tyV_is {pins:List (Addr×Obj)}{σ:St}{H:Hp}{s:Shared}{T:String}{x:V}{v:Value}(I:Inv X pins σ H s)(r:RelV x v)(ty:tyV X.K T x H) :
  s.TypeIs v T∧∀ a,v = .ref a→∃ ob,s.heap.get? a=some ob∧ob.dict=none:=by
 cases x with
 | str z =>
  obtain ⟨t,rfl⟩:=r
  cases (show T = "str" from ty)
  exact ⟨typeIs_str s z t,fun _ e=>nomatch e⟩
 | int i =>
  obtain ⟨t,rfl⟩:=r
  cases (show T = "int" from ty)
  exact ⟨typeIs_int s i t,fun _ e=>nomatch e⟩
 | ref p =>
  cases r
  rcases ty with ⟨rfl,xs,hq⟩ | ⟨rfl,o,hk,hc,hd⟩ | ⟨rfl,hk⟩ | ⟨rfl,S,n,hk⟩
  ·obtain ⟨its,_,pl,_⟩:=I.list hq
   refine ⟨pl.isList.typeIs,fun a e=>?_⟩
   cases e
   obtain ⟨o,n,e,c,hd,_⟩:=pl
   exact ⟨o,e,hd⟩
  ·refine ⟨⟨o,I.kIn p o hk,hc⟩,fun a e=>?_⟩
   cases e
   exact ⟨o,I.kIn _ o hk,hd⟩
  ·have z:∃ o,s.heap.get? p=some o∧o.ExactDict:=by
    rcases hk with ⟨kvs,hk⟩ | ⟨kvs,hk⟩
    ·obtain ⟨_,_,_,_,o,_,_,e,ex,_⟩:=I.hok p _ hk
     exact ⟨o,e,ex⟩
    ·obtain ⟨_,_,_,_,o,_,_,e,ex,_⟩:=I.hok p _ hk
     exact ⟨o,e,ex⟩
   obtain ⟨o,e,ex⟩:=z
   refine ⟨⟨o,e,ex.1⟩,fun a e2=>?_⟩
   cases e2
   exact ⟨o,e,ex.2.1⟩
  ·obtain ⟨o,_,_,_,e,ex,_⟩:=I.hok p _ hk
   refine ⟨⟨o,e,ex.1⟩,fun a e2=>?_⟩
   cases e2
   exact ⟨o,e,ex.2.1⟩
 | _=>exact False.elim ty
def tBM (K:W.Frag)(T:String)(r:V→List V→Hp→VK→Prop)(to:TE)(t:TA):TE:=fun σ H Q=>to σ H fun x H1=>tyV K T x H1∧t σ H1 fun xs H2=>r x xs H2 Q
variable {o e:Expr}{es:List Expr}{to:TE}{t:TA}{name:Str}{apos cpos:Pos}{T id:String}{r:V→List V→Hp→VK→Prop}
theorem zgd (pa:PlainAttrs T)(slot:Slot T name id)(hty:typeOf (.builtin id)=pure (.type "method_descriptor"))(hm:MtR X id r)(ho:PE X o to)(ha:PA X (e :: es) t)
  (hbase:attributeBase o name X.env (eval o X.env)=eval o X.env:=by rfl)
  (hfew:((backTo cpos (starEach (e :: es) X.env)).all (fun x=>!x.1) && (backToKw cpos (keywordEach [] X.env)).all (fun x=>x.1.isSome)
   && decide ((e :: es).length+([]:List Keyword).length+(if ([]:List Keyword).isEmpty then 0 else 1)<30))=true:=by rfl)
  (hline:(apos.endLine == cpos.line)=true:=by rfl) (hs:starEach (e :: es) X.env=(false,eval e X.env) :: starEach es X.env:=by rfl) (hplain:(backTo cpos (starEach es X.env)).any (·.1)=false:=by rfl) :
  PE X (.Call (.Attribute o name apos) (e :: es) [] cpos) (tBM X.K T r to t):=by
 intro pins s σ H Q I h
 refine wpAny_Call_method_late hbase hfew hline rfl (thn (ho pins s σ H _ I h) fun v s1 hh_=>?_)
 obtain ⟨x,H1,I1,r1,ty,q1⟩:=hh_
 obtain ⟨h1,h2⟩:=tyV_is I1 r1 ty
 refine ⟨T,id,pa,slot,hty,h1,h2,?_⟩
 have hA:=ha cpos pins s1 σ H1 _ I1 q1
 rw [hs] at hA ⊢
 refine Calls.callWith_builtin (by show (false || (backTo cpos (starEach es X.env)).any (·.1))=false;rw [hplain] <;> rfl) (Calls.evalArgs_plain ?_)
 exact thn hA fun us s2 ⟨vs,H2,I2,r2,q2⟩=>hm pins s2 σ H2 x vs v us Q I2 r1 r2 q2
end
def MtM (X:Cx)(id:String)(r:V→List V→Hp→VK→Prop):Prop:=
 ∀ (pins:List (Addr×Obj)) (s:Shared) (σ:St) (H:Hp) (x:V) (xs:List V) (v:Value) (us:List Value) (Q:VK),Inv X pins σ H s→RelV x v→Vals xs us→r x xs H Q →
  wpAny (model X.prog X.w) X.A (call (.builtin id) (v :: us)) (EP X pins σ Q) X.xe s
theorem Vals.one:∀ {x:V} {us:List Value},Vals [x] us→∃ u,us=[u]∧RelV x u
 | _,_,.cons r .nil=>⟨_,rfl,r⟩
theorem Vals.eraseIdx:∀ {xs:List V} {us:List Value} (i:Nat),Vals xs us→Vals (xs.eraseIdx i) (us.eraseIdx i)
 | _,_,_,.nil=>.nil
 | _,_,0,.cons _ t=>t
 | _,_,i+1,.cons r t=>.cons r (Vals.eraseIdx i t)
theorem Vals.rep {xs:List V}{us:List Value}(h:Vals xs us):∀ k:Nat,Vals (List.replicate k xs).flatten (List.replicate k us).flatten
 | 0=>.nil
 | k+1=>by
  rw [XaW,XaW,List.flatten_cons,List.flatten_cons]
  exact Vals.append h (Vals.rep h k)
theorem zeQ {α:Type}:∀ (l:List α) (i:Nat),(l.eraseIdx i).length≤l.length
 | [],_=>Xae _
 | _ :: _,0=>Xbn _
 | _ :: r,i+1=>Nat.succ_le_succ (zeQ r i)
theorem zeW (its:List Value):∀ (k:Nat) (acc:List Value),
  List.foldl (fun x1 x2=>x1 ++ x2) acc.toArray (List.replicate k its.toArray)=(acc ++ (List.replicate k its).flatten).toArray
 | 0,acc=>by simp
 | k+1,acc=>by
  have e:acc.toArray ++ its.toArray=(acc ++ its).toArray:=by simp
  have e2:(acc ++ its) ++ (List.replicate k its).flatten=acc ++ (List.replicate (k+1) its).flatten:=by
   rw [XaW,List.flatten_cons,List.append_assoc]
  rw [← e2,← zeW its k (acc ++ its),← e,XaW,List.foldl_cons]
section
variable {X:Cx}{pins:List (Addr×Obj)}{σ:St}{H:Hp}{s:Shared}{l b:Addr}{xs ys zs:List V}
theorem Inv.lset {its its':List Value}{n:Nat}{f:Array Value→Array Value}{t':Nat}(I:Inv X pins σ H s)(hH:H l=some (.lst xs))
  (e:s.heap.get? l=some { cls:=.type "list",data:=.seq its.toArray n }) (hf:f its.toArray=its'.toArray) (hv:Vals ys its') (hz:ys.length≤sizeLine) :
  Inv X pins σ (upd H l (.lst ys)) { s with heap:=s.heap.update l (Obj.mapSeq f),toks:=t' }:=by
 have q:=PySem.IsL.update e f
 rw [hf] at q
 refine I.write (x:=l) (e:=l) (by rw [hH];exact trivial) (.inl rfl) (fun b' u hb hu=>(XaF s.heap (Obj.mapSeq f) (Ne.symm hb)).trans hu) ⟨_,q⟩ ?_
 exact ⟨hz,its',_,hv,q⟩
theorem Inv.lnew {its:List Value}{t':Nat}(I:Inv X pins σ H s)(hv:Vals ys its)(hz:ys.length≤sizeLine) :
  Inv X pins σ (upd H s.heap.objs.size (.lst ys)) { s with heap:=s.heap.push { cls:=.type "list",data:=.seq its.toArray },toks:=t' }:=
 I.laid (fun _ _ q=>Xab _ q) (Xae _) ⟨hz,its,0,hv,Xag _ rfl⟩
theorem Inv.fresh (I:Inv X pins σ H s):H s.heap.objs.size=none:=I.hok.fresh (Xae _)
theorem Inv.lstM (I:Inv X pins σ H s)(hH:H l=some (.lst xs)):xs.length≤sizeLine∧∃ (its:List Value) (n:Nat),Vals xs its∧xs.length=its.length∧s.heap.get? l=some { cls:=.type "list",data:=.seq its.toArray n }:=by
 obtain ⟨z,its,n,r,e⟩:=I.hok l _ hH
 exact ⟨z,its,n,r,r.length,e⟩
theorem zis {n:Nat}(h:n≤sizeLine):Builtin.List.listTooLong n=false:=by
 unfold Builtin.List.listTooLong
 exact Xao (by omega)
end
section
variable {X:Cx}
inductive rAppend (x:V)(vs:List V)(H:Hp)(Q:VK):Prop
 | mk (l:_) (xs:_) (y:_) (z0_:x = .ref l) (z1_:vs=[y]) (z2_:H l=some (.lst xs)) (z3_:xs.length<sizeLine) (z4_:Q .non (upd H l (.lst (xs ++ [y]))))
theorem zbR:MtM X "list.append" rAppend:=by
 intro pins s σ H x vs v us Q I rx rv h
 obtain ⟨l,xs,y,rfl,rfl,hH,hz,q⟩:=h
 cases rx
 obtain ⟨u,rfl,ru⟩:=rv.one
 obtain ⟨z,its,n,r,hl,e⟩:=I.lstM hH
 refine call_meets F.slot_list_append ⟨_,e,rfl⟩ F.entry_list_append (F.args_list_append_2 _ _) (PySem.list_append l its.toArray n u (by rw [Xaj];omega)) ⟨e,?_⟩
 refine ⟨.non,_,I.lset (its':=its ++ [u]) hH e (by simp) (r.append (.cons ru .nil)) ?_,rfl,q⟩
 rw [Xan,List.length_singleton]
 omega
inductive rPopAt (x:V)(vs:List V)(H:Hp)(Q:VK):Prop
 | mk (l:_) (xs:_) (i:_) (k:_) (y:_) (z0_:x = .ref l) (z1_:vs=[.int i]) (z2_:H l=some (.lst xs)) (z3_:-(2 ^ 63)≤i) (z4_:i<2 ^ 63) (z5_:seqIndex? i xs.length=some k) (z6_:xs[k]? = some y) (z7_:Q y (upd H l (.lst (xs.eraseIdx k))))
theorem zit:MtM X "list.pop" rPopAt:=by
 intro pins s σ H x vs v us Q I rx rv h
 obtain ⟨l,xs,i,k,y,rfl,rfl,hH,h1,h2,hk,hy,q⟩:=h
 cases rx
 obtain ⟨u,rfl,ru⟩:=rv.one
 obtain ⟨t,rfl⟩:=ru
 obtain ⟨z,its,n,r,hl,e⟩:=I.lstM hH
 obtain ⟨w,hw,rw'⟩:=r.get hy
 refine call_meets F.slot_list_pop ⟨_,e,rfl⟩ F.entry_list_pop (F.args_list_pop_2 _ _)
  (MeetsSeq.list_pop_at l its.toArray n i t k w (fitsIndex_both h1 h2) (by rw [Xaj,← hl];exact hk) (by rw [← Xa8];exact hw) (by rw [Xaj];omega)) ⟨e,?_⟩
 refine ⟨y,_,I.lset (its':=its.eraseIdx k) hH e ?_ (r.eraseIdx k) ?_,rw',q⟩
 ·show its.toArray.eraseIdxIfInBounds k=(its.eraseIdx k).toArray
  rw [List.eraseIdxIfInBounds_toArray]
 ·have:=zeQ xs k
  omega
inductive rRep (x:V)(y:V)(H:Hp)(Q:VK):Prop
 | mk (l:_) (k:_) (xs:_) (z0_:x = .ref l) (z1_:y = .int k) (z2_:H l=some (.lst xs)) (z3_:-(2 ^ 63)≤k) (z4_:k<2 ^ 63) (z5_:xs.length * k.toNat≤sizeLine) (z6_:∀ p,H p=none→Q (.ref p) (upd H p (.lst (List.replicate k.toNat xs).flatten)))
theorem zjL {α:Type}(xs:List α)(k:Nat):(List.replicate k xs).flatten.length=k * xs.length:=by
 induction k with
 | zero=>simp
 | succ k ih=>rw [XaW,List.flatten_cons,Xan,ih,Nat.succ_mul,Nat.add_comm]
theorem zhj:OpR X (binaryOp .Mult) rRep:=by
 intro pins s σ H x y v u Q I rx ry h
 obtain ⟨l,k,xs,rfl,rfl,hH,h1,h2,hz,q⟩:=h
 cases rx
 obtain ⟨t,rfl⟩:=ry
 obtain ⟨z,its,n,r,hl,e⟩:=I.lstM hH
 have hlen:its.toArray.size * k.toNat≤sizeLine:=by rw [Xaj,← hl];exact hz
 have hcap:¬ its.toArray.size * k.toNat > (2 ^ 63 - 1) / 8:=by
  have:(sizeLine:Nat)≤(2 ^ 63 - 1) / 8:=by decide
  omega
 have hfit:¬ (!Builtin.List.listFitsIndex k)=true:=by
  rw [fitsIndex_both h1 h2]
  exact Xak
 have hlong:¬ Builtin.List.listTooLong (its.toArray.size * k.toNat)=true:=by
  rw [zis hlen]
  exact Xak
 have hnew:List.foldl (fun x1 x2=>x1 ++ x2) #[] (List.replicate (if its.toArray.isEmpty=true then 0 else k.toNat) its.toArray)=(List.replicate k.toNat its).flatten.toArray:=by
  have f0:∀ m:Nat,List.foldl (fun x1 x2=>x1 ++ x2) #[] (List.replicate m its.toArray)=(List.replicate m its).flatten.toArray:=fun m=>by
   have:=zeW its m []
   rw [List.nil_append] at this
   exact this
  rw [f0]
  cases its with
  | nil=>simp
  | cons a r'=>rw [if_neg (by simp)]
 refine wpAny_binaryOp_repeat_ref (T := "list") (U := "int") (by decide) ⟨_,e,rfl⟩ (fun s'=>typeIs_int s' k t) noFill_list_mul F.fills_int_mul F.slot_int_rmul repeat_list F.slot_int_index.lookup
  (call_meets F.slot_int_rmul (typeIs_int s k t) F.entry_int_rmul (F.args_int_rmul_2 _ _) (int___rmul___int_list k t l its.toArray n)
   ⟨e,rfl,⟨_,e,rfl⟩,call_meets F.slot_list_mul ⟨_,e,rfl⟩ F.entry_list_mul (F.args_list_mul_2 _ _) (AutoListH.list___mul___list_int_3 l its.toArray n k t hfit hcap hlong) ⟨e,?_⟩⟩)
 rw [hnew]
 exact ⟨.ref _,_,I.lnew (t':=s.toks) (r.rep k.toNat) (by rw [zjL,Nat.mul_comm];exact hz),rfl,q _ I.fresh⟩
end
section
variable {prog:Program}{w:World}{A:Around}{E:Value→Shared→Prop}{s:Shared}
end
section
variable {X:Cx}
end
section
variable {κ:Type}[DecidableEq κ]
end
section
variable {P:Program}{w:World}{H:Hp}{h:Heap}{a:Addr}
end
section
variable {X:Cx}{pins:List (Addr×Obj)}{σ:St}{H:Hp}{s:Shared}{a:Addr}{y v:V}{u r:Value}{o:Option V}{A:Around}{E:Value→Shared→Prop}
theorem Inv.big (I:Inv X pins σ H s):sysModules<s.heap.objs.size:=by
 have h:mainGlobals<s.heap.objs.size:=(I.mod.glob.keeps I.bk).lt
 exact Nat.lt_trans (by decide) h
end
section
variable {X:Cx}{pins:List (Addr×Obj)}{σ:St}{H:Hp}{s:Shared}{a:Addr}{kvs:List (Key×V)}{k:Key}{u:Value}{A:Around}{E:Value→Shared→Prop}
end
section
variable {X:Cx}{o i e value:Expr}{pos pos' tpos:Pos}{td ty tv:TE}
end
theorem ziF {P:Program}{w:World}{H:Hp}(h:Heap)(hb:sysModules<h.objs.size):ObjOk P w H (h.push { cls:=.type "dict",data:=.dict #[] }) h.objs.size (.dK []):=
 ⟨Nat.zero_le _,beq_eq_false_iff_ne.mpr (Ne.symm (Xat hb)),[],.nil,Heap.DictOf.new h⟩
def tDNewK:TE:=fun _ H Q=>∀ p,H p=none→Q (.ref p) (upd H p (.dK []))
section
variable {X:Cx}{pos:Pos}
theorem zil:PE X (.Dict [] [] pos) tDNewK:=fun pins s σ H Q I h =>
 wpAny_Dict_empty ⟨.ref s.heap.objs.size,_,I.laid (a:=s.heap.objs.size) (o:=.dK []) (t':=s.toks) (fun _ _ q=>Xab _ q) (Xae _) (ziF s.heap I.big),rfl,h _ (I.hok.fresh (Xae _))⟩
end
section
variable {X:Cx}{pins:List (Addr×Obj)}{σ:St}{H:Hp}{s:Shared}{a:Addr}{y d:V}{u r:Value}{o:Option V}{A:Around}{E:Value→Shared→Prop}
end
section
variable {X:Cx}{o e f:Expr}{apos cpos:Pos}{td ty tx:TE}
end
section
variable {X:Cx}{pins:List (Addr×Obj)}{σ:St}{H:Hp}{s:Shared}{a:Addr}{kvs:List (Key×V)}{A:Around}{E:Value→Shared→Prop}
end
section
variable {X:Cx}{pins:List (Addr×Obj)}{σ:St}{H:Hp}{s:Shared}{a:Addr}{y:V}{u:Value}{A:Around}{E:Value→Shared→Prop}
end
end L2
namespace Att
open PySem PySem.W PySem.Calls PyProof.Rows
theorem zdC {P:Params}{h:Heap}:∀ (ns:List Int) (vs:List Value),WellAll P h vs (ns.map WData.int)→IntsAre vs ns:=by
 intro ns
 induction ns with
 | nil =>
  intro vs w
  rw [List.map_nil] at w
  cases w
  exact .nil
 | cons n ns ih =>
  intro vs w
  rw [Xbc] at w
  cases w with
  | cons a b =>
   cases a
   exact .cons _ _ (ih _ b)
theorem zgX {l:OpenLaw}{n:Nat}(hn:l.most=some n){P:Params}{h:Heap}{args:List WData}{vals:List Value}
  (hpre:l.row.toRowW.claim.pre args=true) (hwl:WellAll P h vals args) :
  ∃ a vs ns,vals=[Value.ref a]∧args=[WData.list (ns.map WData.int)]∧h.get? a=some { cls:=.type "list",data:=.seq vs.toArray }∧IntsAre vs ns∧ns.length≤n:=by
 have hsh:WShape.hasAll [] args [.list .int]=true:=(pre_splitW hpre).1
 have hc:l.pre.holds [] { args:=args }=true:=(pre_splitW hpre).2
 obtain ⟨d,r,rfl,h1,h2⟩:=hasAllW_cons hsh
 obtain rfl:=hasAllW_nil h2
 obtain ⟨xs,rfl,h3⟩:=hasW_list h1
 obtain ⟨ns,rfl⟩:=items_int h3
 have hlen:ns.length≤n:=by
  unfold OpenLaw.pre at hc
  have h4:(WTm.not (.lt (.lit (.int (n:Int))) (.len (.arg 0)))).holds [] { args:=[.list (ns.map .int)] }=true:=by
   have h4:=(holds_andW hc).1
   rw [hn] at h4
   exact h4
  have h5:=condW_of h4 (w_not (w_lt w_lit (w_len_list (w_arg rfl))))
  rw [Xal] at h5
  refine Nat.le_of_not_lt fun q=>?_
  have q':(n:Int)<((ns.length:Nat):Int):=by omega
  first
   | (rw [Xas q'] at h5;exact absurd h5 (by decide))
   | (simp at h5;omega)
 cases hwl with
 | cons w1 w2 =>
  cases w2
  cases w1 with
  | list ho hall=>exact ⟨_,_,ns,rfl,rfl,ho,zdC ns _ hall,hlen⟩
theorem zha (l:OpenLaw)(args:List WData):l.row.toRowW.claim.post args (.bool true) args=true:=
 postW_of (r:=l.row.toRowW) (X:=(true == true))
  (show WShape.has [] (.bool true) .bool=true by first | rfl | decide | simp [WShape.has,WShape.arms,WShape.armsAll])
  (show (WTm.eq .res (.lit (.bool true))).value [] { args:=args,res:=some (.bool true),after:=args }=some (.bool (true == true)) from w_eq_bool (w_res rfl) w_lit) rfl
section
variable {prog:Program}{w:World}{A:Around}{E:Value→Shared→Prop}{s:Shared}{K:Frag}
end
end Att
namespace L2
open PySem PySem.Spec PyProof.Rows
theorem zc7:∀ {vs:List Value} {ns:List Int},IntsAre vs ns→Vals (ns.map V.int) vs
 | _,_,.nil=>.nil
 | _,_,.cons n t h=>.cons ⟨t,rfl⟩ (zc7 h)
def Only (H:Hp):Prop:=∀ b,H b=none∨∃ o xs,H b=some (.frz o (.lst xs))
theorem ziw {P:Program}{w:World}{K:W.Frag}{mg mb:Str→Option Value}{CX:CXT}{k:Nat}{fa a:Addr}{fd:FuncData}{x:Str}{sp:Sp}{s₁:Shared}{vs:List Value}{ns:List Int}
  (KX:K.In s₁.heap) (hns:s₁.heap.Ns mainGlobals mg) (hb:s₁.heap.Ns builtinsNs mb) (hbb:∀ x:Str,x ≠ "__name__" → mb x=bootBuiltins x) (hlim:s₁.heap.NoLimit) (hg:s₁.gens = #[])
  (ha:s₁.heap.get? a=some { cls:=.type "list",data:=.seq vs.toArray }) (hi:IntsAre vs ns) (hl:ns.length≤sizeLine) (hr:Room k callerA)
  (F:∀ base:Heap,K.In base→base.Ns mainGlobals mg→FnOk P w K mg base CX k fa fd [x] sp) (hbind:∀ (s:Shared) (u:Value),BindsTo s fd ⟨[u],[]⟩ [(x,u)])
  (hsp:∀ H:Hp,Only H→SqL K H a (ns.map V.int)→sp [.ref a] H (fun v _=>v = .bl true) fun _ _ _=>False)
  (hCX:∀ H e s',CX [] H s₁ (fun _ _ _=>False) e s'→False) :
  codeAny (model P w) callerA (.call (.ref fa) ⟨[.ref a],[]⟩) (fun r s'=>r = .ok (.ret (.bool true))∧OldK s₁.heap s'.heap∧s'.os=s₁.os∧AllBare s'.gens) s₁:=by
 have rv:=zc7 hi
 have lenV:=hi.length
 
 have core:∀ H:Hp,Only H→SqL K H a (ns.map V.int)→HOk P w H s₁.heap→(∀ b,H b≠none→b=a)→(H a≠none→K.lookup a=none) →
   codeAny (model P w) callerA (.call (.ref fa) ⟨[.ref a],[]⟩) (fun r s'=>r = .ok (.ret (.bool true))∧OldK s₁.heap s'.heap∧s'.os=s₁.os∧AllBare s'.gens) s₁:=by
  intro H hO hS hok hA hK
  have base_of:∀ {b:Addr} {o:Obj},s₁.heap.get? b=some o→H b=none→(hidT s₁.heap H).get? b=some o:=fun e n=>ziz e n
  have noA:∀ {b:Addr} {o:Obj} {es:Array DictEntry} {ep:Nat},s₁.heap.get? b=some o→o.data = .dict es ep→H b=none:=fun {b o es ep} e d=>by
   cases q:H b with
   | none=>rfl
   | some u =>
    have e':b=a:=hA b (by rw [q];simp)
    subst e'
    rw [ha] at e;cases e
    have d':Data.seq vs.toArray _=Data.dict es ep:=d
    cases d'
  have nsK:∀ {b:Addr} {m:Str→Option Value},s₁.heap.Ns b m→(hidT s₁.heap H).Ns b m:=fun {b m} ⟨o,es,ep,e,d,r⟩=>⟨o,es,ep,base_of e (noA e d),d,r⟩
  have hKb:K.In (hidT s₁.heap H):=fun b o e=>base_of (KX b o e) (by
   cases q:H b with
   | none=>rfl
   | some u =>
    have e':b=a:=hA b (by rw [q];simp)
    subst e'
    rw [hK (by rw [q];simp)] at e;cases e)
  have hM:Mod K mg (hidT s₁.heap H):=⟨hKb,nsK hns,⟨mb,nsK hb,hbb⟩,let ⟨mc,h1,h2⟩:=hlim;⟨mc,nsK h1,h2⟩⟩
  have e0:Env0 P w K mg (hidT s₁.heap H) callerA [] s₁ H:=⟨rfl,hM,fun b o e=>zjG e,Nat.le_of_eq (zhA _ _),trivial,fun b hb=>absurd (show b∈([]:List Addr) from hb) (by simp),hok,.of_eq hg⟩
  refine Xbb ((F _ hKb (nsK hns)).run callerA [] s₁ H ⟨[.ref a],[]⟩ [.ref a] [.ref a] _ _ hr e0 (hbind s₁ (.ref a)) (.cons rfl .nil) (hsp H hO hS)) fun r s' h=>?_
  cases r with
  | error e=>exact (hCX H e s' h).elim
  | ok fl =>
   cases fl with
   | next=>exact False.elim h
   | brk=>exact False.elim h
   | cont=>exact False.elim h
   | ret u =>
    obtain ⟨v,H',os,bare,un,hok',r',q⟩:=h
    have q':v = .bl true:=q
    subst q'
    obtain rfl:u=Value.bool true:=r'
    refine ⟨rfl,OldK.of_keep fun b o e=>?_,os,bare⟩
    cases q:H b with
    | none=>exact un.keep b o e q (by intro z;exact absurd (show b∈([]:List Addr) from z) (by simp)) (by simp)
    | some u =>
     rcases hO b with z | ⟨ob,xs,z⟩
     ·rw [q] at z;cases z
     ·have z2:=un.frzs b ob _ z
      obtain ⟨e1,_⟩:=hok b _ z
      obtain ⟨e2,_⟩:=hok' b _ z2
      rw [e] at e1;cases e1
      exact e2
 cases hk:K.lookup a with
 | some o =>
  
  have e:=KX a o hk
  rw [ha] at e
  cases e
  refine core (fun _=>none) (fun _=>.inl rfl) (.inr ⟨_,vs.toArray,_,hk,rfl,rfl,rfl,by rw [Xaj,lenV];exact hl,by simpa using rv⟩) (fun b u z=>by have z':(none:Option HO)=some u:=z;cases z') (fun b z=>absurd rfl z) fun z=>absurd rfl z
 | none =>
  refine core (fun b=>if b=a then some (.frz { cls:=.type "list",data:=.seq vs.toArray } (.lst (ns.map V.int))) else none) (fun b=>?_) (.inl (.inr ⟨{ cls:=.type "list",data:=.seq vs.toArray },if_pos rfl⟩)) (fun b u z=>?_) (fun b z=>?_) fun _=>hk
  ·by_cases hb:b=a
   ·exact .inr ⟨_,_,if_pos hb⟩
   ·exact .inl (if_neg hb)
  ·by_cases hb:b=a
   ·have z':=(if_pos hb).symm.trans z
    cases z'
    subst hb
    exact ⟨ha,by rw [Xal];exact hl,vs,_,rv,ha⟩
   ·have z':=(if_neg hb).symm.trans z
    cases z'
  ·by_cases hb:b=a
   ·exact hb
   ·exact absurd (if_neg hb) z
def zaF (s:Stmt)(j:Nat):Stmt:=match s with
 | .ClassDef _ _ _ body _ _ _ _ _ _ _=>body.getD j (.Pass ⟨0,0,0,0⟩)
 | _=>.Pass ⟨0,0,0,0⟩
def zbe (s:Stmt):Arguments:=match s with
 | .FunctionDef _ a _ _ _ _ _ _ _ _=>a
 | _=>{ posonlyargs:=[],args:=[],vararg:=none,kwonlyargs:=[],kw_defaults:=[],kwarg:=none,defaults:=[] }
def zaO (s:Stmt):List Stmt:=match s with
 | .FunctionDef _ _ b _ _ _ _ _ _ _=>b
 | _=>[]
def zai (s:Stmt):Scope:=match s with
 | .FunctionDef _ _ _ _ _ _ sc _ _ _=>sc
 | _=>{ kind:=.function,names:=[],isGenerator:=false,isCoroutine:=false }
abbrev CX0:CXT:=fun _ _ _ _ _ _=>False
abbrev E0:XK:=fun _ _ _=>False
theorem zge {X:Cx}:Passes CX0 X E0:=fun _ _ _ _ _ _ _ h=>h.elim
structure Fun (K:W.Frag)(x qual:Str)(st:Stmt)(f:Addr)(fd:FuncData):Prop where
 ex:∃ (oc:Value) (od:Option Addr) (kV doc pm:Value) (an:Option Addr) (cdv ct:Value) (osl:Array (Option Value)),
  fd=W.fnOf x qual (zbe st) (zaO st) (zai st) .none kV doc pm an cdv ct∧K.lookup f=some ⟨oc,od,.func fd,osl⟩∧W.codeIn K cdv qual=true
 kp:W.keepIn K (.ref f)=true
section
variable {P:Program}{w:World}{K:W.Frag}{mg:Str→Option Value}{base:Heap}
theorem Fun.ok {x qual:Str}{st:Stmt}{f:Addr}{fd:FuncData}{N ps:List Str}{k:Nat}{sp:Sp}(F:Fun K x qual st f fd)(S:FnScope N ps (zai st))(len:∀ vs H Q E,sp vs H Q E→vs.length=ps.length)
  (hbody:∀ (cdv:Value) (A:Around) (outer:List Env) (s:Shared) (H:Hp) (vs:List V) (Q:VK) (E:XK),Room k (A.deeper (envOfC qual (zai st) s.heap.objs.size f cdv))→sp vs H Q E →
   ∃ t,PSs (cxOf CX0 P w K mg base N qual (zai st) f cdv A outer s H E).nox (zaO st) t∧t { nx:=fun _ H'=>Q .non H',rt:=Q } (start N vs) H):FnOk P w K mg base CX0 (k+1) f fd ps sp:=by
 obtain ⟨oc,od,kV,doc,pm,an,cdv,ct,osl,rfl,lk,hcd⟩:=F.ex
 refine ziD lk hcd S len fun A outer s H vs Q E hr hsp=>?_
 obtain ⟨t,h,q⟩:=hbody cdv A outer s H vs Q E hr hsp
 exact ⟨t,h.nox,q⟩
theorem Fun.binds {x qual:Str}{st:Stmt}{f:Addr}{fd:FuncData}{ps:List Str}(F:Fun K x qual st f fd)
  (h:∀ (kV doc pm:Value) (an:Option Addr) (cdv ct:Value) (us:List Value),us.length=ps.length→bindArgs (W.fnOf x qual (zbe st) (zaO st) (zai st) .none kV doc pm an cdv ct) ⟨us,[]⟩=pure (ps.zip us)):Binds K fd ps []:=by
 obtain ⟨oc,od,kV,doc,pm,an,cdv,ct,osl,rfl,lk,hcd⟩:=F.ex
 exact .all (h kV doc pm an cdv ct)
theorem zi6 {x qual:Str}{st:Stmt}{f:Addr}{oc:Value}{od an:Option Addr}{osl:Array (Option Value)}{kV doc pm cdv ct:Value}(l:K.lookup f=some ⟨oc,od,.func (W.fnOf x qual (zbe st) (zaO st) (zai st) .none kV doc pm an cdv ct),osl⟩)
  (c:W.codeIn K cdv qual=true) (k:W.keepIn K (.ref f)=true):Fun K x qual st f (W.fnOf x qual (zbe st) (zaO st) (zai st) .none kV doc pm an cdv ct):=⟨⟨oc,od,kV,doc,pm,an,cdv,ct,osl,rfl,l,c⟩,k⟩
end
theorem hu_of {A:Around}{k:Nat}(hr:Room k A):A.units+1<cLine:=Xa9 (Nat.add_le_add_left (by decide:1≤64) _) hr.units
theorem zdc {n:Nat}(h:n≤1000):n<sizeLine:=Xa9 h (by decide)
section
variable {X:Cx}
theorem pv (i:Nat){x:Str}{pos:Pos}(hN:X.N[i]? = some x:=by rfl)(hv:Vis X.env.scope x:=by first | exact Or.inl rfl | exact Or.inr (Or.inl rfl) | exact Or.inr (Or.inr rfl))(hd:(x == ("__debug__" : Str))=false:=by decide)
  (hcd:(x == ("__classdict__" : Str))=false:=by decide):PE X (.Name x pos) (tVar i):=pe_var hN hv hd hcd
end
theorem iteF {A B:Prop}(h:B):if false=true then A else B:=by
 rw [if_neg Xak]
 exact h
theorem iteT {A B:Prop}(h:A):if true=true then A else B:=by
 rw [if_pos rfl]
 exact h
theorem ite2 {c A B:Prop}[Decidable c](h1:c→A)(h2:¬ c→B):if c then A else B:=by
 by_cases h:c
 ·rw [if_pos h]
  exact h1 h
 ·rw [if_neg h]
  exact h2 h
theorem zgq {c A B:Prop}[Decidable c](hc:c)(h:B):if (!decide c)=true then A else B:=by
 rw [Xas hc]
 exact iteF h
def Same (H H':Hp):Prop:=∀ b o,H b=some o→H' b=some o
theorem Same.refl (H:Hp):Same H H:=fun _ _ h=>h
theorem Same.trans {H H1 H2:Hp}(a:Same H H1)(b:Same H1 H2):Same H H2:=fun c o h=>b c o (a c o h)
theorem Same.free {H H':Hp}(e:Same H H'){l:Addr}(h:H' l=Option.none):H l=Option.none:=by
 cases q:H l with
 | none=>rfl
 | some o =>
  rw [e l o q] at h
  cases h
theorem Same.seq {K:W.Frag}{H H':Hp}{a:Addr}{xs:List V}(e:Same H H')(h:SqL K H a xs):SqL K H' a xs:=by
 rcases h with (h | ⟨o,h⟩) | h
 ·exact .inl (.inl (e _ _ h))
 ·exact .inl (.inr ⟨o,e _ _ h⟩)
 ·exact .inr h
section
variable {X:Cx}
end
section
variable {κ:Type}[DecidableEq κ]
end
theorem zjK {prog:Program}{w:World}{A:Around}{R:Result→Shared→Prop}{s:Shared}{elt target iter:Expr}{ifs:List Expr}{scope:Scope}{pos:Pos}{it acc:Value}{env:Env}(I:Nat→Shared→Prop)
  (turn:∀ n s,I n s→wpAny (model prog w) A (pyNext it) (fun r s1=>match r with
   | none=>R (.ok .next) s1
   | some v=>wpAny (model prog w) A (letOwnedTupleGo target it v) (fun _ s2=>wpAny (model prog w) A (assign target env v) (fun _ s3 =>
     wpAny (model prog w) A (forIn ifs true fun c r=>if r=true then do let ok ← isTrue c env (eval c env);pure (ForInStep.yield ok) else pure (ForInStep.yield r)) (fun ok s4 =>
      if ok=true then wpAny (model prog w) A (eval elt env) (fun x s5 =>
       wpAny (model prog w) A (call (.builtin "list.append") [acc,x]) (fun _ s6=>∃ m,m<n∧I m s6) (fun _ _=>False) s5) (fun _ _=>False) s4
      else ∃ m,m<n∧I m s4) (fun _ _=>False) s3) (fun _ _=>False) s2) (fun _ _=>False) s1) (fun _ _=>False) s)
  (n:Nat) (h:I n s) :
  codeAny (model prog w) A (.compLoop (.ListComp elt [⟨target,iter,ifs,0⟩] scope pos) 0 it acc env) R s:=by
 refine codeAny_loop rfl I (fun n s hI=>?_) n h
 show wpAny _ A ((compTurn (.ListComp elt [⟨target,iter,ifs,0⟩] scope pos) 0 it acc env).onRaise (fun x=>do noteFrame x env;theTreesLotGoes x)) _ _ s
 refine wpAny_noted ?_
 rw [compTurn_list]
 refine Xaa (Xa4 (Xaa (Xaw (turn n s hI) (fun r s1 h1=>?_) fun _ _ h'=>h'.elim)))
 cases r with
 | none=>exact Xac h1
 | some v =>
  refine Xaa (Xaw h1 (fun _ s2 h2=>?_) fun _ _ h'=>h'.elim)
  refine Xaa (Xaw h2 (fun _ s3 h3=>Xaa (Xaw h3 (fun ok s4 h4=>?_) fun _ _ h'=>h'.elim)) fun _ _ h'=>h'.elim)
  cases ok with
  | false=>exact Xac ⟨rfl,h4⟩
  | true =>
   exact Xaa (Xaa (Xaw h4 (fun x s5 h5=>Xaa (Xaw h5 (fun _ s6 h6=>Xac (Xac ⟨rfl,h6⟩)) fun _ _ h'=>h'.elim)) fun _ _ h'=>h'.elim))
def PF (X:Cx)(ifs:List Expr)(t:TT):Prop:=
 ∀ (pins:List (Addr×Obj)) (s:Shared) (σ:St) (H:Hp) (Q:Bool→Hp→Prop),Inv X pins σ H s→t σ H Q →
  wpAny (model X.prog X.w) X.A (forIn ifs true fun c r=>if r=true then do let ok ← isTrue c X.env (eval c X.env);pure (ForInStep.yield ok) else pure (ForInStep.yield r)) (TP X pins σ Q) X.xe s
def tYes:TT:=fun _ H Q=>Q true H
theorem zdY {X:Cx}:PF X [] tYes:=fun pins s σ H Q I h=>wpAny_tests_nil ⟨H,I,h⟩
theorem ziW {X:Cx}{c:Expr}{t:TT}(hc:PT X c t):PF X [c] t:=fun pins s σ H Q I h=>wpAny_tests_one (hc pins s σ H Q I h)
def cxC (X:Cx)(Nc:List Str)(scope:Scope)(cl:List (Str×Addr))(C:Addr)(fp:List Addr)(s2:Shared)(H2:Hp):Cx where
 prog:=X.prog
 w:=X.w
 K:=X.K
 mg:=X.mg
 base:=X.base
 A:=X.A
 N:=Nc
 s₀:=s2
 H₀:=H2
 env:=compEnvC scope cl C X.env
 outer:=X.stack
 stack:=X.stack
 ex:=fp
 fn:=fun _=>false
 calm:=X.calm
 pn:=[]
 xe:=fun _ _=>False
def za3 (src:List (Option Nat))(σ:St):St:=src.map fun o=>match o with
 | none=>none
 | some i=>(σ[i]?).getD none
structure CompOk (N:List Str)(osc:Scope)(Nc:List Str)(src:List (Option Nat))(scope:Scope):Prop where
 kind:scope.kind = .function
 nocell:∀ x∈scope.names,x.2≠.cell
 nodup:scope.names.Pairwise fun x y=>x.1≠y.1
 free:∀ x∈scope.names,x.2 = .free→osc.names.lookup x.1=some .cell∨osc.names.lookup x.1=some .free
 len:src.length=Nc.length
 src:∀ (j i:Nat),src[j]? = some (some i)→∃ x,Nc[j]? = some x∧N[i]? = some x∧scope.names.lookup x=some .free
set_option tactic.hygienic true in
theorem zbW {α:Type}{l:List (Str×α)}{x:Str}{k:α}(h:l.lookup x=some k):(x,k)∈l:=by
 induction l with
 | nil=>cases h
 | cons p r ih =>
  obtain ⟨y,j⟩:=p
  rw [List.lookup_cons] at h
  split at h
  ·rename_i hb
   have e:=eq_of_beq hb
   cases h;subst e;exact XaT
  ·exact Xay _ (ih h)
theorem zbB {α:Type}{l:List (Str×α)}(nd:l.Pairwise fun x y=>x.1≠y.1){x:Str}{k:α}(h:(x,k)∈l):l.lookup x=some k:=by
 induction l with
 | nil=>cases h
 | cons p r ih =>
  obtain ⟨y,j⟩:=p
  rw [List.pairwise_cons] at nd
  rw [List.lookup_cons]
  rcases Xaq.mp h with e | h
  ·cases e;simp
  ·have ne:=nd.1 _ h
   have:(x == y)=false:=beq_eq_false_iff_ne.mpr (Ne.symm ne)
   rw [this];exact ih nd.2 h
theorem zgw {X:Cx}(ok:X.Ok){scope:Scope}:∀ (names:List (Str×NameKind)) (acc:List (Str×Addr)),(∀ x∈names,x.2 = .free→∃ c,X.env.cells.lookup x.1=some c) →
  (∀ x c,(x,c)∈acc→X.env.cells.lookup x=some c) →
  ∃ cl,(forIn names acc (fun (p:Str×NameKind) (cs:List (Str×Addr))=>(do
   if p.2 == NameKind.free then
    let c ← cellOf X.env p.1
    pure (ForInStep.yield ((p.1,c) :: cs))
   else pure (ForInStep.yield cs):Sem (ForInStep (List (Str×Addr))))))=pure cl∧(∀ x c,(x,c)∈cl→X.env.cells.lookup x=some c)∧(∀ x∈names,x.2 = .free→∃ c,(x.1,c)∈cl)∧(∀ p∈acc,p∈cl):=by
 intro names
 induction names with
 | nil=>intro acc _ ha;exact ⟨acc,(by rw [List.forIn_nil]),ha,(fun _ h=>nomatch h),fun _ h=>h⟩
 | cons p r ih =>
  intro acc hf ha
  obtain ⟨x,k⟩:=p
  rw [List.forIn_cons]
  by_cases hk:k = .free
  ·subst hk
   obtain ⟨c,hc⟩:=hf _ XaT rfl
   obtain ⟨cl,e,h1,h2,h3⟩:=ih ((x,c) :: acc) (fun y hy=>hf y (Xay _ hy)) (fun y d hy=>by
    rcases Xaq.mp hy with e | hy
    ·cases e;exact hc
    ·exact ha y d hy)
   have hcell:cellOf X.env x=pure c:=by unfold cellOf;rw [show X.env.cells.lookup x=some c from hc]
   refine ⟨cl,?_,h1,fun y hy hk=>?_,fun q hq=>h3 q (Xay _ hq)⟩
   ·simp only [beq_self_eq_true,if_true,hcell,pure_bind];exact e
   ·rcases Xaq.mp hy with e | hy
    ·cases e;exact ⟨c,h3 _ XaT⟩
    ·exact h2 y hy hk
  ·obtain ⟨cl,e,h1,h2,h3⟩:=ih acc (fun y hy=>hf y (Xay _ hy)) ha
   have hb:(k == NameKind.free)=false:=by simpa using hk
   refine ⟨cl,?_,h1,fun y hy hk'=>?_,h3⟩
   ·simp only [hb,Bool.false_eq_true,if_false,pure_bind];exact e
   ·rcases Xaq.mp hy with e | hy
    ·cases e;exact absurd hk' hk
    ·exact h2 y hy hk'
theorem zbD {X:Cx}(ok:X.Ok){scope:Scope}(hf:∀ x∈scope.names,x.2 = .free→X.env.scope.names.lookup x.1=some .cell∨X.env.scope.names.lookup x.1=some .free) :
  ∃ cl:List (Str×Addr),closureFor scope X.env=pure cl∧(∀ (x:Str) (c:Addr),cl.lookup x=some c→X.env.cells.lookup x=some c)∧(∀ x∈scope.names,x.2 = .free→∃ c,cl.lookup x.1=some c):=by
 obtain ⟨cl,e,h1,h2,_⟩:=zgw ok (scope:=scope) scope.names [] (fun x hx hk=>ok.has x.1 (hf x hx hk)) (fun _ _ h=>nomatch h)
 refine ⟨cl,?_,fun x c h=>h1 x c (zbW h),fun x hx hk=>?_⟩
 ·unfold closureFor
  exact (bind_pure _).trans e
 ·obtain ⟨c,hc⟩:=h2 x hx hk
  have:∀ l:List (Str×Addr),(x.1,c)∈l→∃ d,l.lookup x.1=some d:=by
   intro l
   induction l with
   | nil=>intro h;cases h
   | cons p r ih =>
    intro h
    obtain ⟨y,d⟩:=p
    rw [List.lookup_cons]
    cases hb:x.1 == y with
    | true=>exact ⟨d,rfl⟩
    | false =>
     rcases Xaq.mp h with e | h
     ·cases e;simp at hb
     ·exact ih h
  exact this cl hc
theorem zbq {scope:Scope}{env:Env}(x:Str):(relabel scope env).names.lookup x=(scope.names.lookup x).map fun k=>if (k == .free && env.scope.kind == .function && env.kindOf x == some .cell) then .cell else k:=by
 unfold relabel
 show List.lookup x (scope.names.map _)=_
 induction scope.names with
 | nil=>rfl
 | cons p r ih =>
  obtain ⟨n,k⟩:=p
  rw [Xbc]
  cases hb:x == n with
  | true =>
   have e:=eq_of_beq hb
   subst e
   show List.lookup x ((if (k == NameKind.free && env.scope.kind == .function && env.kindOf x == some .cell)=true then (x,NameKind.cell) else (x,k)) :: _)=_
   by_cases hc:(k == NameKind.free && env.scope.kind == .function && env.kindOf x == some .cell)=true
   ·rw [if_pos hc,List.lookup_cons,List.lookup_cons]
    simp only [beq_self_eq_true,Option.map_some]
    rw [if_pos hc]
   ·rw [if_neg hc,List.lookup_cons,List.lookup_cons]
    simp only [beq_self_eq_true,Option.map_some]
    rw [if_neg hc]
  | false =>
   show List.lookup x ((if (k == NameKind.free && env.scope.kind == .function && env.kindOf n == some .cell)=true then (n,NameKind.cell) else (n,k)) :: _)=_
   by_cases hc:(k == NameKind.free && env.scope.kind == .function && env.kindOf n == some .cell)=true
   ·rw [if_pos hc,List.lookup_cons,List.lookup_cons,hb];exact ih
   ·rw [if_neg hc,List.lookup_cons,List.lookup_cons,hb];exact ih
theorem HOk.track {P:Program}{w:World}{H:Hp}{h:Heap}{a:Addr}{o:HO}(x:HOk P w H h)(hn:H a=none)(new:ObjOk P w (upd H a o) h a o):HOk P w (upd H a o) h:=fun b u e=>by
 by_cases hb:b=a
 ·subst hb;rw [zab] at e;cases e;exact new
 ·rw [zah hb] at e
  exact (x b u e).stay (fun c v _ q=>q) (fun c q=>by rw [zah (zaj q hn)];exact q) fun c xs q=>by rw [zah (zaj q hn)];exact q
theorem Un.track {fs ex:List Addr}{H H':Hp}{h h':Heap}{a:Addr}{o:HO}(u:Un fs ex H H' h h')(hp:h.objs.size≤a)(hl:∀ b v,H b=some v→b<h.objs.size):Un fs ex H (upd H' a o) h h' where
 keep:=u.keep
 slot:=u.slot
 free:=fun b v q n x=>by rw [zah (Xat (Xaf (Xah q) hp))];exact u.free b v q n x
 there:=u.there
 tups:=fun b xs q=>by rw [zah (Xat (Xaf (hl b _ q) hp))];exact u.tups b xs q
 frzs:=fun b v xs q=>by rw [zah (Xat (Xaf (hl b _ q) hp))];exact u.frzs b v xs q
 tbls:=fun b ps q=>by rw [zah (Xat (Xaf (hl b _ q) hp))];exact u.tbls b ps q
theorem zja {X:Cx}{pins:List (Addr×Obj)}{σ:St}{H2:Hp}{s2:Shared}{Nc:List Str}{src:List (Option Nat)}{scope:Scope}{cl:List (Str×Addr)}{C:Addr}{fp:List Addr}(I2:Inv X pins σ H2 s2)(S:CompOk X.N X.env.scope Nc src scope)
  (hcl1:∀ (x:Str) (c:Addr),cl.lookup x=some c→X.env.cells.lookup x=some c) (hcl2:∀ x∈scope.names,x.2 = .free→∃ c,cl.lookup x.1=some c) (hC:s2.heap.objs.size≤C)
  (hfp:∀ b∈fp,b<s2.heap.objs.size) (f2:∀ b∈fp,FpOk X pins H2 b):(cxC X Nc scope cl C fp s2 H2).Ok where
 mod:=I2.ok.mod
 kind:=S.kind
 glob:=I2.ok.glob
 blt:=I2.ok.blt
 above:=hC
 inj:=fun x y c h1 h2=>I2.ok.inj x y c (hcl1 _ _ h1) (hcl1 _ _ h2)
 has:=fun x h=>by
  have h':(relabel scope X.env).names.lookup x=some .cell∨(relabel scope X.env).names.lookup x=some .free:=h
  rw [zbq] at h'
  cases hk:scope.names.lookup x with
  | none=>rw [hk] at h';rcases h' with h' | h' <;> cases h'
  | some k =>
   have hm:=zbW hk
   have hkf:k = .free:=by
    rw [hk] at h'
    simp only [Option.map_some] at h'
    cases k with
    | free=>rfl
    | cell=>exact absurd rfl (S.nocell _ hm)
    | _=>exfalso;revert h';simp
   subst hkf
   exact hcl2 _ hm rfl
 cab:=fun x c h=>nomatch h
 hd:=I2.ok.hd
 frames:=I2.ok.frames
 stk:=.inl rfl
 exf:=fun b hb=>⟨Xat (Xaf (hfp b hb) hC),fun x c e=>(f2 b hb).2.2.2.2.1 x c (hcl1 _ _ e)⟩
 bs:=I2.bs
 bsz:=Xam I2.ok.bsz I2.sz
 noex:=fun b o e hb=>by
  rcases (f2 b hb).2.2.2.1 with z | z
  ·exact I2.ok.noex b o e z
  ·exact absurd (Xaf (Xah e) (Xam I2.ok.bsz z)) (XaL _)
 exfs:=fun b hb hs=>by
  obtain ⟨_,f1,f3,_⟩:=f2 b hb
  rcases Xaq.mp (I2.stkSub b hs) with z | z
  ·exact f1 z
  ·exact f3 z
 funs:=I2.stack
 frf:=I2.stkFree
def zgG (J:It)(g:TG)(tf:TT)(te:TE)(Q:List V→Hp→Prop)(σ0:St)(H1:Hp):Prop:=
 ∃ W:Nat→Nat→List V→St→Hp→Prop,(∃ m,W 0 m [] σ0 H1)∧∀ i m ys σc Hc,W i m ys σc Hc →
  (J.stop i Hc∧ys.length≤sizeLine∧Q ys Hc) ∨
  (J.go i Hc∧ys.length<sizeLine∧∃ N:List V→St→Hp→Prop,(∀ ys' σ' H',N ys' σ' H'→∃ m',m'<m∧W (i+1) m' ys' σ' H') ∧
   ∀ x H',J.yld i Hc x H'→g x σc H' fun σ2 H2=>tf σ2 H2 fun b H3=>if b=true then te σ2 H3 fun y H4=>N (ys ++ [y]) σ2 H4 else N ys σ2 H3)
def tComp (src:List (Option Nat))(wi:TI)(g:TG)(tf:TT)(te:TE):TE:=fun σ H Q=>wi σ H fun J H1 =>
 zgG J g tf te (fun ys H2=>∀ D,H2 D=none→Q (.ref D) (upd H2 D (.lst ys))) (za3 src σ) H1
theorem ze0 {X:Cx}{pins:List (Addr×Obj)}{σ:St}{H2:Hp}{s2:Shared}{Nc:List Str}{src:List (Option Nat)}{scope:Scope}{cl:List (Str×Addr)}{fp:List Addr}{elt tg iter:Expr}{ifs:List Expr}{pos:Pos}
  {it:Addr} {tn:Nat→Heap→Prop} {J:It} {g:TG} {tf:TT} {te:TE} {Qf:List V→Hp→Prop} {E:Value→Shared→Prop} {RR:Value→Addr→Result→Shared→Prop}
  (hc:X.calm=true) (I2:Inv X pins σ H2 s2) (S:CompOk X.N X.env.scope Nc src scope)
  (hcl1:∀ (x:Str) (c:Addr),cl.lookup x=some c→X.env.cells.lookup x=some c) (hcl2:∀ x∈scope.names,x.2 = .free→∃ c,cl.lookup x.1=some c)
  (T:Turn X.prog X.w X.K tg J fp it tn) (st2:tn 0 s2.heap) (f2:∀ b∈fp,FpOk X pins H2 b)
  (hg:∀ cl C fp s2 H2,PG (cxC X Nc scope cl C fp s2 H2) tg g) (hf:∀ cl C fp s2 H2,PF (cxC X Nc scope cl C fp s2 H2) ifs tf) (he:∀ cl C fp s2 H2,PE (cxC X Nc scope cl C fp s2 H2) elt te)
  (hw:zgG J g tf te Qf (za3 src σ) H2)
  (fin:∀ (H4:Hp) (s4:Shared) (ys:List V) (m:Str→Option Value) (C:Addr),s2.heap.objs.size≤C→H4 s2.heap.objs.size=none→Inv X pins σ (upd H4 s2.heap.objs.size (.lst ys)) s4→s4.heap.Ns C m→upd H4 s2.heap.objs.size (.lst ys) C=none→Qf ys H4→RR (.ref s2.heap.objs.size) C (.ok .next) s4) :
  wpAny (model X.prog X.w) X.A (newList []) (fun acc s3=>wpAny (model X.prog X.w) X.A (newFunctionEnv scope X.env.globals cl [] X.env.qual none .none (some X.env)) (fun cenv s4 =>
   codeAny (model X.prog X.w) X.A (.compStart (.ListComp elt [⟨tg,iter,ifs,0⟩] scope pos) 0 (.ref it) acc { cenv with scope:=relabel scope X.env }) (RR acc cenv.locals) s4) E s3) E s2:=by
 refine XaJ (wpAny_newFunctionEnv S.nocell (by intro y hy;simp at hy) (fun h1 hns1 hsb1=>?_) S.kind)
 dsimp only at hns1 hsb1 ⊢
 generalize hH2:s2.heap.push { cls:=.type "list",dict:=none,data:=.seq ([]:List Value).toArray }=G2 at hns1 hsb1 ⊢
 have hCz:G2.objs.size=s2.heap.objs.size+1:=by rw [← hH2,XaC]
 generalize hCe:G2.objs.size=C at hns1 hsb1 hCz ⊢
 generalize hDe:s2.heap.objs.size=D at fin hCz ⊢
 have hDC:D≠C:=by omega
 have hCle:s2.heap.objs.size≤C:=by omega
 have hDle:s2.heap.objs.size≤D:=by omega
 have old:∀ b o,s2.heap.get? b=some o→h1.get? b=some o:=fun b o e=>hsb1.extBut b o (Xat (Xaf (Xah e) hCle)) (Xab _ (hH2 ▸ Xab _ e))
 have hacc:h1.get? D=some { cls:=.type "list",data:=.seq ([]:List Value).toArray 0 }:=by
  refine hsb1.extBut _ _ hDC (Xab _ ?_)
  rw [← hH2,← hDe]
  exact Xag _ rfl
 have hfp:∀ b∈fp,b<s2.heap.objs.size:=fun b hb=>by
  obtain ⟨o,e,_⟩:=T.obj 0 _ st2 b hb
  exact Xah e
 have ok:=zja (Nc:=Nc) (src:=src) (scope:=scope) (cl:=cl) (C:=C) (fp:=fp) I2 S hcl1 hcl2 hCle hfp f2
 generalize hXC:cxC X Nc scope cl C fp s2 H2=Y at ok
 have hYN:Y.N=Nc:=by rw [← hXC];rfl
 
 have I0:Inv (cxC X Nc scope cl C fp s2 H2) [] (za3 src σ) H2 { s2 with heap:=h1,toks:=s2.toks+([]:List (Str×Value)).length }:=by
  rw [← hXC] at ok
  refine ⟨ok,rfl,I2.bare,Un.kept old,⟨_,hns1,fun j x v e1 e2 _=>?_⟩,fun x c e=>?_,I2.hok.fresh hCle,fun x c e=>I2.freeC x c (hcl1 _ _ e),(fun p hp=>nomatch hp),I2.hok.kept old,?_⟩
  ·
   have e2':(za3 src σ)[j]? = some (some v):=e2
   have e1':Nc[j]? = some x:=e1
   unfold za3 at e2'
   rw [Xav] at e2'
   cases hs:src[j]? with
   | none=>rw [hs] at e2';cases e2'
   | some o =>
    rw [hs] at e2'
    cases o with
    | none=>cases e2'
    | some i =>
     simp only [Option.map_some,Option.some.injEq] at e2'
     obtain ⟨y,hy1,hy2,hy3⟩:=S.src j i hs
     rw [e1'] at hy1;cases hy1
     have hσ:σ[i]? = some (some v):=by
      cases hq:σ[i]? with
      | none=>rw [hq] at e2';cases e2'
      | some z=>rw [hq] at e2';simp only [Option.getD_some] at e2';rw [e2']
     have hm:=zbW hy3
     have hfr:=S.free _ hm rfl
     obtain ⟨m0,hn0,hl0⟩:=I2.loc
     obtain ⟨u,r,l⟩:=hl0 i x v hy2 hσ (Or.inr hfr)
     refine ⟨u,r,.inr ⟨?_,?_⟩⟩
     ·show (relabel scope X.env).names.lookup x=some .cell∨(relabel scope X.env).names.lookup x=some .free
      rw [zbq,hy3]
      simp only [Option.map_some]
      split
      ·exact .inl rfl
      ·exact .inr rfl
     ·rcases l with ⟨k,_⟩ | ⟨_,c,hc1,hc2⟩
      ·have k':X.env.scope.names.lookup x=some .local:=k
       rw [k'] at hfr;rcases hfr with z | z <;> cases z
      ·obtain ⟨c',hc'⟩:=hcl2 _ hm rfl
       have:=hcl1 _ _ hc'
       rw [hc1] at this;cases this
       exact ⟨c,hc',hc2.keeps old⟩
  ·obtain ⟨v,z⟩:=I2.cell x c (hcl1 _ _ e)
   exact ⟨v,z.keeps old⟩
  ·show (za3 src σ).length=Nc.length
   unfold za3;rw [Xal];exact S.len
 obtain ⟨W,⟨m0,w0⟩,turn⟩:=hw
 have loop:codeAny (model X.prog X.w) X.A (.compLoop (.ListComp elt [⟨tg,iter,ifs,0⟩] scope pos) 0 (.ref it) (.ref D) (compEnvC scope cl C X.env)) (RR (.ref D) C) { s2 with heap:=h1,toks:=s2.toks+([]:List (Str×Value)).length }:=by
  have fpk:∀ {H':Hp} {ob:Obj},(∀ b∈fp,H' b=none)→∀ b∈fp,FpOk (cxC X Nc scope cl C fp s2 H2) [(D,ob)] H' b:=fun {H' ob} hn b hb =>
   ⟨hn b hb,(I0.ok.exf b hb).1,I0.ok.exfs b hb,.inl hb,(I0.ok.exf b hb).2,fun p hp=>by
    have e:p=(D,ob):=Xad.mp hp
    subst e
    exact Xbf (Xaf (hfp b hb) hDle)⟩
  have hDfs:D ∉ frs X.stack:=fun hs=>by
   rcases Xaq.mp (I2.stkSub D hs) with z | z
   ·exact absurd (Xaf I2.lt hDle) (by rw [z];exact XaL _)
   ·exact I2.nofs hDle z
  refine zjK (fun n s'=>∃ i ys σ' H' its k,Inv (cxC X Nc scope cl C fp s2 H2) [] σ' H' s'∧tn i s'.heap∧(∀ b∈fp,H' b=none)∧H' D=none∧s'.heap.get? D=some { cls:=.type "list",data:=.seq (its:List Value).toArray k }∧Vals ys its∧W i n ys σ' H') ?_ m0
   ⟨0,[],za3 src σ,H2,[],0,I0,T.keep _ _ _ st2 fun b hb o e=>old b o e,fun b hb=>(f2 b hb).1,I2.hok.fresh hDle,hacc,.nil,w0⟩
  rintro n s3 ⟨i,ys,σ3,H3,its,k,I3,st3,fr3,hD3,hO3,vs3,w3⟩
  have I3':Inv (cxC X Nc scope cl C fp s2 H2) [(D,({ cls:=.type "list",data:=.seq its.toArray k }:Obj))] σ3 H3 s3:=I3.pins_of fun p hp=>by
   have e:=Xad.mp hp
   subst e
   exact ⟨hO3,hD3,hDC,hDfs,fun v z=>by
    have z':Data.seq _ _=Data.cell v:=z
    cases z'⟩
  rcases turn i n ys σ3 H3 w3 with ⟨stop,hlen,qn⟩ | ⟨go,hlen,N,hN,step⟩
  ·refine thn (T.done (cxC X Nc scope cl C fp s2 H2) rfl rfl rfl hc i _ s3 σ3 H3 _ I3' (fpk fr3) st3 stop) fun r s4 ⟨hr,I4⟩=>?_
   subst hr
   have hO4:=(I4.pin (D,_) (Xap _ (Xad.mpr rfl))).1
   obtain ⟨m4,hn4,_⟩:=I4.loc
   have fC:H3 C=none:=I4.free
   have uD:upd H3 D (.lst ys) C=none:=by rw [zah hDC.symm];exact fC
   have hl2:∀ b v,H2 b=some v→b<s2.heap.objs.size:=fun b v e=>I2.hok.lt e
   have Iout:Inv X pins σ (upd H3 D (.lst ys)) s4:=by
    refine I2.call' (ch:=fp) I4.os (Un.track I4.base hDle hl2) (HOk.track I4.hok hD3 ⟨hlen,its,k,vs3,hO4⟩) I4.bare fun b hb=>?_
    obtain ⟨_,a1,_,a3,a4,a5⟩:=f2 b hb
    exact ⟨a3,a1,a4,a5⟩
   exact fin H3 s4 ys m4 C (by omega) hD3 Iout hn4 uD qn
  ·refine thn (T.item (cxC X Nc scope cl C fp s2 H2) rfl rfl rfl hc i _ s3 σ3 H3 _ I3' (fpk fr3) st3 go) fun r s4 ⟨u,hr,h4⟩=>?_
   subst hr
   refine thn h4 fun _ s5 hh_=>?_
   obtain ⟨x,H5,I5,r5,y5,st5,fr5⟩:=hh_
   have I5':=I5.pinned (fpk fr5) (T.obj _ _ st5)
   refine thn (hg cl C fp s2 H2 _ s5 σ3 H5 x u _ I5' r5 (step x H5 y5)) fun _ s6 ⟨σ6,H6,I6,q6⟩=>?_
   refine thn (hf cl C fp s2 H2 _ s6 σ6 H6 _ I6 q6) fun ok s7 ⟨H7,I7,q7⟩=>?_
   have back:∀ {s8:Shared} {σ8:St} {H8:Hp},Inv (cxC X Nc scope cl C fp s2 H2) ([(D,({ cls:=.type "list",data:=.seq its.toArray k }:Obj))] ++ zdX fp s5.heap) σ8 H8 s8 →
     tn (i+1) s8.heap∧(∀ b∈fp,H8 b=none)∧H8 D=none∧s8.heap.get? D=some { cls:=.type "list",data:=.seq its.toArray k }:=fun {s8 σ8 H8} I8=>by
    refine ⟨T.keep _ _ _ st5 fun b hb o e=>(I8.pin (b,o) (Xap _ (Xap _ (za4 hb e)))).1,fun b hb=>?_,?_,?_⟩
    ·obtain ⟨o,e,d⟩:=T.obj _ _ st5 b hb
     exact (I8.pin (b,o) (Xap _ (Xap _ (za4 hb e)))).2.1
    ·exact (I8.pin (D,_) (Xap _ (XaA _ (Xad.mpr rfl)))).2.1
    ·exact (I8.pin (D,_) (Xap _ (XaA _ (Xad.mpr rfl)))).1
   cases ok with
   | false =>
    obtain ⟨m',hm',w7⟩:=hN _ _ _ q7
    obtain ⟨b1,b2,b3,b4⟩:=back I7
    exact ⟨m',hm',i+1,ys,σ6,H7,its,k,I7.pins_of (fun p hp=>nomatch hp),b1,b2,b3,b4,vs3,w7⟩
   | true =>
    refine thn (he cl C fp s2 H2 _ s7 σ6 H7 _ I7 q7) fun v s8 hh_=>?_
    obtain ⟨y,H8,I8,r8,q8⟩:=hh_
    obtain ⟨m',hm',w8⟩:=hN _ _ _ q8
    obtain ⟨b1,b2,b3,b4⟩:=back I8
    have hl8:=vs3.length
    refine call_meets F.slot_list_append ⟨_,b4,rfl⟩ F.entry_list_append (F.args_list_append_2 _ _) (PySem.list_append D its.toArray k v (by rw [Xaj];omega)) ⟨b4,?_⟩
    have I8n:Inv (cxC X Nc scope cl C fp s2 H2) [] σ6 H8 s8:=I8.pins_of fun p hp=>nomatch hp
    have kq:∀ b o,b≠D→s8.heap.get? b=some o→(s8.heap.update D (Obj.mapSeq (·.push v))).get? b=some o:=fun b o hb e=>(XaF s8.heap _ (Ne.symm hb)).trans e
    have qn:=PySem.IsL.update b4 (·.push v)
    have e2:its.toArray.push v=(its ++ [v]).toArray:=by simp
    rw [e2] at qn
    have I9:Inv (cxC X Nc scope cl C fp s2 H2) [] σ6 H8 { s8 with heap:=s8.heap.update D (Obj.mapSeq (·.push v)),toks:=s8.toks }:=
     I8n.turned (it:=D) kq b3 hDC (.inr hDle) (fun x c e z=>by
      obtain ⟨w',z'⟩:=I2.cell x c (hcl1 _ _ e)
      exact absurd (Xaf z'.lt hDle) (by rw [z];exact XaL _)) (fun p hp=>nomatch hp)
    refine ⟨m',hm',i+1,ys ++ [y],σ6,H8,its ++ [v],_,I9,T.keep _ _ _ b1 fun b hb o e=>kq b o (Xat (Xaf (hfp b hb) hDle)) e,b2,b3,qn,vs3.append (.cons r8 .nil),w8⟩
 exact codeAny_compStart_list loop (T.self X.A 0 _ _ _ (T.keep _ _ _ st2 fun b hb o e=>old b o e) loop)
section
variable {X:Cx}{Nc:List Str}{src:List (Option Nat)}{scope:Scope}{elt tg iter:Expr}{ifs:List Expr}{pos:Pos}{wi:TI}{g:TG}{tf:TT}{te:TE}
theorem zdn (src:List (Option Nat))(hc:X.calm=true)(S:CompOk X.N X.env.scope Nc src scope)(hi:PI X tg iter wi)
  (hg:∀ cl C fp s2 H2,PG (cxC X Nc scope cl C fp s2 H2) tg g) (hf:∀ cl C fp s2 H2,PF (cxC X Nc scope cl C fp s2 H2) ifs tf) (he:∀ cl C fp s2 H2,PE (cxC X Nc scope cl C fp s2 H2) elt te)
  (hs:∀ x,foldedSetIterable iter X.env x=pure x:=by intro _;rfl):PE X (.ListComp elt [⟨tg,iter,ifs,0⟩] scope pos) (tComp src wi g tf te):=by
 intro pins s σ H Q I h
 obtain ⟨cl,hclos,hcl1,hcl2⟩:=zbD I.ok (scope:=scope) S.free
 rw [eval_ListComp]
 refine wpAny_comprehension_free (use:=none) rfl hs hclos S.kind (fun x hx hl=>by obtain ⟨n,k⟩:=x;cases hl;exact zbB S.nodup hx) (thn (hi pins s σ H _ I h) fun xv s1 h1=>thn h1 fun itv s2 h2=>?_)
 obtain ⟨it,fp,tn,J,H2,e,I2,T,st2,f2,hw⟩:=h2
 subst e
 refine ze0 (RR:=fun acc C=>compPost (model X.prog X.w) X.A X.xe none (EP X pins σ Q) acc C) hc I2 S hcl1 hcl2 T st2 f2 hg hf he hw ?_
 intro H4 s4 ys m C hC hD Iout hn hCn q
 refine ⟨m,hn,fun h' sb=>⟨.ref s2.heap.objs.size,_,?_,rfl,q _ hD⟩⟩
 obtain ⟨f0,f1,f3,f4,f5,f6⟩:=I2.fpOk (H':=upd H4 s2.heap.objs.size (.lst ys)) hC hCn
 exact Iout.turned (t':=s4.toks) (it:=C) (fun b o hb e=>(sb.2 b hb).trans e) f0 f1 f4 f5 f6
theorem zdW {i:Nat}{y:Str}{pos' spos:Pos}(src:List (Option Nat))(hN:X.N.Nodup)(hi':X.N[i]? = some y)(hy:X.env.scope.names.lookup y=some .local)
  (hc:X.calm=true) (S:CompOk X.N X.env.scope Nc src scope) (hi:PI X tg iter wi)
  (hg:∀ cl C fp s2 H2,PG (cxC X Nc scope cl C fp s2 H2) tg g) (hf:∀ cl C fp s2 H2,PF (cxC X Nc scope cl C fp s2 H2) ifs tf) (he:∀ cl C fp s2 H2,PE (cxC X Nc scope cl C fp s2 H2) elt te)
  (hsw:swapsWith (.ListComp elt [⟨tg,iter,ifs,0⟩] scope pos) (some (.Name y pos')) spos.line X.env=pure true:=by rfl)
  (hs:∀ x,foldedSetIterable iter X.env x=pure x:=by intro _;rfl):PS X (.Assign [.Name y pos'] (.ListComp elt [⟨tg,iter,ifs,0⟩] scope pos) spos) (tAsg (tComp src wi g tf te) (zaA i)):=by
 intro pins s σ H D I h
 obtain ⟨cl,hclos,hcl1,hcl2⟩:=zbD I.ok (scope:=scope) S.free
 rw [exec_Assign_Name_used _ _ _ _ hsw]
 refine Xaa (Xa4 (Xaa ?_))
 show wpAny _ X.A (do let _ ← comprehension (.ListComp elt [⟨tg,iter,ifs,0⟩] scope pos) scope X.env _ (newList []) false (eval iter X.env) (some (assign (.Name y pos') X.env))) _ _ s
 refine Xaa (Xaw (wpAny_comprehension_free (use:=some (assign (.Name y pos') X.env)) (Q:=fun _ s'=>SP X pins D .next s') rfl hs hclos S.kind (fun x hx hl=>by obtain ⟨n,k⟩:=x;cases hl;exact zbB S.nodup hx)
  (thn (hi pins s σ H _ I h) fun xv s1 h1=>thn h1 fun itv s2 h2=>?_)) (fun _ s' hq=>Xac (Xac hq)) fun _ _ e=>e)
 obtain ⟨it,fp,tn,J,H2,e,I2,T,st2,f2,hw⟩:=h2
 subst e
 refine ze0 (RR:=fun acc C=>compPost (model X.prog X.w) X.A X.xe (some (assign (.Name y pos') X.env)) (fun _ s'=>SP X pins D .next s') acc C) hc I2 S hcl1 hcl2 T st2 f2 hg hf he hw ?_
 intro H4 s4 ys m C hC hD Iout hn hCn q
 show wpAny _ X.A (assign (.Name y pos') X.env (.ref s2.heap.objs.size)) _ _ _
 refine wpAny_assign_Name (zeu (i:=i) Iout hN hi' (.inl hy) (v:=.ref s2.heap.objs.size) rfl (fun s5 I5 ch=>?_) (.inr hy))
 obtain ⟨f0,f1,f3,f4,f5,f6⟩:=I2.fpOk (H':=upd H4 s2.heap.objs.size (.lst ys)) hC hCn
 obtain ⟨a,sb,ha⟩:=ch
 have hCa:C≠a:=by
  rcases ha with ha | ha
  ·rw [ha];exact f1
  ·exact fun z=>f5 _ _ ha z.symm
 refine ⟨m,hn.sameBut sb hCa,fun h' sb'=>⟨_,_,I5.turned (t':=s5.toks) (it:=C) (fun b o hb e=>(sb'.2 b hb).trans e) f0 f1 f4 f5 f6,q _ hD⟩⟩
end
section
variable {X:Cx}{pins:List (Addr×Obj)}{σ:St}{H:Hp}{s:Shared}
theorem Inv.turnedL {h':Heap}{t':Nat}{ch:List Addr}(I:Inv X pins σ H s)(k:∀ b o,b ∉ ch→s.heap.get? b=some o→h'.get? b=some o)(hf:∀ b∈ch,FpOk X pins H b):Inv X pins σ H { s with heap:=h',toks:=t' }:=by
 have nit:∀ b u,H b=some u→b ∉ ch:=fun b u e z=>by rw [(hf b z).1] at e;cases e
 refine I.step (g':=s.gens) (d':=s.drawn) (ch:=ch) (fun b hb=>?_) (fun b o _ _ hc e _=>k b o hc e) (fun b o _ _ hc e _=>⟨o.slots,k b o hc e⟩) (fun _ _ _ _ n=>n)
  (fun b o hc e=>⟨o,k b o hc e⟩) (fun _ _ e=>e) (fun _ _ _ e=>e) (fun b ps e=>⟨#[],by rw [e];simp⟩) (fun m hm=>?_) (fun b u e=>?_) I.bare
 ·obtain ⟨_,a1,_,a3,a4,a5⟩:=hf b hb
  exact ⟨a3,a1,a4,a5⟩
 ·obtain ⟨o,es,ep,ho,r⟩:=hm
  exact ⟨o,es,ep,k _ o (fun z=>(hf _ z).2.1 rfl) ho,r⟩
 ·refine (I.hok b u e).stay (fun c v hc q=>k c v ?_ q) (fun _ q=>q) fun _ _ q=>q
  rcases hc with z | z
  ·rw [z];exact nit b u e
  ·exact nit c _ z
theorem Un.track' {fs ex:List Addr}{H H':Hp}{h h':Heap}{a:Addr}{o:HO}(u:Un fs ex H H' h h')(hp:h.objs.size≤a)(hn:H' a=none):Un fs ex H (upd H' a o) h h' where
 keep:=u.keep
 slot:=u.slot
 free:=fun b v q n x=>by rw [zah (Xat (Xaf (Xah q) hp))];exact u.free b v q n x
 there:=u.there
 tups:=fun b xs q=>by rw [zah (zaj (u.tups b xs q) hn)];exact u.tups b xs q
 frzs:=fun b v xs q=>by rw [zah (zaj (u.frzs b v xs q) hn)];exact u.frzs b v xs q
 tbls:=fun b ps q=>by
  obtain ⟨m,e⟩:=u.tbls b ps q
  exact ⟨m,by rw [zah (zaj e hn)];exact e⟩
theorem Inv.track {a:Addr}{o:HO}(I:Inv X pins σ H s)(f:FpOk X pins H a)(hs:X.s₀.heap.objs.size≤a)(new:ObjOk X.prog X.w (upd H a o) s.heap a o):Inv X pins σ (upd H a o) s:=by
 obtain ⟨hn,h1,_,_,h4,h5⟩:=f
 refine ⟨I.ok,I.os,I.bare,Un.track' I.base hs hn,I.loc,I.cell,by rw [zah (Ne.symm h1)];exact I.free,fun x c e=>by rw [zah (h4 x c e)];exact I.freeC x c e,fun p hp=>?_,HOk.track I.hok hn new,I.len⟩
 obtain ⟨a1,a2,a3⟩:=I.pin p hp
 exact ⟨a1,by rw [zah (h5 p hp)];exact a2,a3⟩
end
theorem zgQ {P:Program}{w:World}{H:Hp}{h:Heap}{T:Addr}{x y:V}{u v:Value}(r:RelV x u)(q:RelV y v)(e:h.get? T=some { cls:=.type "tuple",data:=.seq #[u,v] }):ObjOk P w H h T (.tup [x,y]):=
 ⟨⟨by show 2≤sizeLine;decide,_,e,rfl⟩,[u,v],.cons r (.cons q .nil),⟨_,e,rfl,_,rfl⟩⟩
theorem ziL:bootBuiltins "zip" = some (.type "zip"):=by decide +kernel
section
variable {X:Cx}{CX:CXT}{k:Nat}{f:Addr}{fd:FuncData}{ps ks:List Str}{sp:Sp}{E:XK}{x:Str}{p pos:Pos}{kws:List Keyword}{tk:TA}{g:List Value→List Value→List Value}{gV:List V→List V→List V}
theorem Fun.kbinds {K:W.Frag}{x qual:Str}{st:Stmt}{f:Addr}{fd:FuncData}{ps ks:List Str}{g:List Value→List Value→List Value}{gV:List V→List V→List V}(F:Fun K x qual st f fd)
  (h:∀ (kV doc pm:Value) (an:Option Addr) (cdv ct:Value) (us ws:List Value),(g us ws).length=ps.length→bindArgs (W.fnOf x qual (zbe st) (zaO st) (zai st) .none kV doc pm an cdv ct) ⟨us,ks.zip ws⟩=pure (ps.zip (g us ws)))
  (rel:∀ {vs:List V} {us:List Value} {zs:List V} {ws:List Value},Vals vs us→Vals zs ws→Vals (gV vs zs) (g us ws)):KBinds K fd ps ks g gV:=by
 obtain ⟨oc,od,kV,doc,pm,an,cdv,ct,osl,rfl,lk,hcd⟩:=F.ex
 exact ⟨fun s us ws _ hl=>.of_eq (h kV doc pm an cdv ct us ws hl),rel⟩
end
section
variable {X:Cx}
theorem zfm (val:Nat→Int)(ns:List Int)(h:∀ i n,ns[i]? = some n→val i=n):∀ j,j≤ns.length→preSum val j=(ns.take j).sum:=by
 intro j
 induction j with
 | zero=>intro _;rfl
 | succ j ih =>
  intro hj
  have hlt:j<ns.length:=hj
  show preSum val j+val j=_
  rw [ih (Nat.le_of_lt hlt),h j ns[j] (by simp [hlt]),List.take_succ,List.sum_append]
  simp [hlt]
theorem ze2 (hc:X.calm=true):zbU X (.builtin "sum") (fun xs H Q=>∃ (a:Addr) (ns:List Int),xs=[.ref a]∧SqL X.K H a (ns.map V.int)∧Q (.int ns.sum) H):=by
 intro pins s σ H xs us Q I r h
 obtain ⟨a,ns,rfl,hq,q⟩:=h
 obtain ⟨u,rfl,ru⟩:=zc8 r
 cases ru
 obtain ⟨its,rv,p,hz⟩:=I.list hq
 have hi:=zgs rv
 have hl:=hi.length
 refine call_sum_walkG (wpAny_pyIter_list p.isList ?_)
 have hne:a≠s.heap.objs.size:=by
  obtain ⟨o,ho,_⟩:=p.isList
  exact Xat (Xah ho)
 refine ⟨s.heap.objs.size,_,_,_,_,_,fun i=>(ns[i]?).getD 0,rfl,Walks.list (A:=X.A.in1) (I.ok.hd hc) s.heap.objs.size a hne its.toArray,⟨⟨_,Xag _ rfl,rfl,rfl⟩,p.isList.push _⟩,?_,?_,fun h' tk t' kk=>?_⟩
 ·intro b hb
  simp only [Xaq,Xbd,or_false] at hb
  rw [show ({ s with heap:=s.heap.push _ }:Shared).heap.objs.size=s.heap.objs.size+1 from XaC ..]
  rcases hb with rfl | rfl
  ·exact Xa3 _
  ·obtain ⟨o,ho,_⟩:=p.isList
   exact Nat.lt_succ_of_lt (Xah ho)
 ·intro i v hv
  have hv':its[i]? = some v:=by simpa using hv
  cases hn:ns[i]? with
  | none =>
   exfalso
   rw [List.getElem?_eq_none_iff,← hl] at hn
   rw [XaB hn] at hv'
   cases hv'
  | some n =>
   obtain ⟨t,ht⟩:=hi.get i n hn
   rw [ht] at hv';cases hv'
   exact ⟨t,by show Value.int n t=Value.int ((ns[i]?).getD 0) t;rw [hn];rfl⟩
 ·have e:preSum (fun i=>(ns[i]?).getD 0) its.toArray.size=ns.sum:=by
   rw [zfm _ ns (fun i n h=>by rw [h];rfl) _ (by simp;omega),Xbw (by simp;omega)]
  rw [e]
  refine ⟨.int ns.sum,H,I.kept (t':=tk) fun b o e1=>kk b o (fun hb=>?_) (Xab _ e1),⟨t',rfl⟩,q⟩
  have hb:=Xad.mp hb
  exact absurd (Xah e1) (by rw [hb];exact XaL _)
theorem zhW (bs:List Bool)(tr:Nat→Bool)(h:∀ i b,bs[i]? = some b→tr i=b):(List.range bs.length).all tr=bs.all id:=by
 induction bs generalizing tr with
 | nil=>rfl
 | cons b r ih =>
  rw [Xau,List.range_succ_eq_map,List.all_cons,List.all_map,List.all_cons,h 0 b rfl]
  have:=ih (tr ∘ Nat.succ) (fun i c hi=>h (i+1) c (by simpa using hi))
  rw [this];rfl
theorem zdJ (hc:X.calm=true):zbU X (.builtin "all") (fun xs H Q=>∃ (a:Addr) (bs:List Bool),xs=[.ref a]∧SqL X.K H a (bs.map V.bl)∧Q (.bl (bs.all id)) H):=by
 intro pins s σ H xs us Q I r h
 obtain ⟨a,bs,rfl,hq,q⟩:=h
 obtain ⟨u,rfl,ru⟩:=zc8 r
 cases ru
 obtain ⟨its,rv,p,hz⟩:=I.list hq
 have hl:=rv.length
 rw [Xal] at hl
 refine call_all_walk (wpAny_pyIter_list p.isList ?_)
 have hne:a≠s.heap.objs.size:=by
  obtain ⟨o,ho,_⟩:=p.isList
  exact Xat (Xah ho)
 refine ⟨s.heap.objs.size,_,_,_,_,_,fun i=>(bs[i]?).getD true,rfl,Walks.list (A:=X.A.in1) (I.ok.hd hc) s.heap.objs.size a hne its.toArray,⟨⟨_,Xag _ rfl,rfl,rfl⟩,p.isList.push _⟩,?_,fun h' tk kk=>?_⟩
 ·intro i v s' Q' E' hv hq'
  have hv':its[i]? = some v:=by simpa using hv
  cases hn:bs[i]? with
  | none =>
   exfalso
   rw [List.getElem?_eq_none_iff,hl] at hn
   rw [XaB hn] at hv'
   cases hv'
  | some b =>
   obtain ⟨u',hu',ru'⟩:=rv.get (i:=i) (x:=V.bl b) (by simp [hn])
   obtain rfl:u'=Value.bool b:=ru'
   rw [hu'] at hv';cases hv'
   have hq2:Q' ((bs[i]?).getD true) s':=hq'
   rw [hn] at hq2
   exact XaQ hq2
 ·have e:(List.range its.toArray.size).all (fun i=>(bs[i]?).getD true)=bs.all id:=by
   rw [show its.toArray.size=bs.length by simp;omega]
   exact zhW bs _ fun i b h=>by rw [h];rfl
  rw [e]
  refine ⟨.bl _,H,I.kept (t':=tk) fun b o e1=>kk b o (fun hb=>?_) (Xab _ e1),rfl,q⟩
  have hb:=Xad.mp hb
  exact absurd (Xah e1) (by rw [hb];exact XaL _)
theorem zg2:RelV (.ty "int") (.type "int"):=rfl
theorem zg3:RelV (.ty "bool") (.type "bool"):=rfl
theorem zd3:bootBuiltins "int" = some (.type "int"):=by decide +kernel
theorem zhQ:bootBuiltins "bool" = some (.type "bool"):=by decide +kernel
theorem zaU:bootBuiltins "isinstance" = some (.builtin "isinstance"):=by decide +kernel
theorem zhR:bootBuiltins "all" = some (.builtin "all"):=by decide +kernel
inductive rCatS (K:W.Frag)(x:V)(y:V)(H:Hp)(Q:VK):Prop
 | mk (a:_) (b:_) (xs:_) (ys:_) (z0_:x = .ref a) (z1_:y = .ref b) (z2_:SqL K H a xs) (z3_:SqL K H b ys) (z4_:xs.length+ys.length≤sizeLine) (z5_:∀ p,H p=none→Q (.ref p) (upd H p (.lst (xs ++ ys))))
theorem zhm:OpR X (binaryOp .Add) (rCatS X.K):=by
 intro pins s σ H x y v u Q I rx ry h
 obtain ⟨a,b,xs,ys,rfl,rfl,hq,hq2,hz,q⟩:=h
 cases rx
 cases ry
 obtain ⟨its,rv,p,_⟩:=I.list hq
 obtain ⟨its2,rv2,p2,_⟩:=I.list hq2
 have e1:=rv.length
 have e2:=rv2.length
 obtain ⟨⟨cls,dd,data,sl⟩,ho,hc,n,hd⟩:=id p.isList
 obtain ⟨⟨cls2,dd2,data2,sl2⟩,ho2,hc2,n2,hd2⟩:=id p2.isList
 simp only at hc hd hc2 hd2
 subst hc hd hc2 hd2
 have ea:its.toArray ++ its2.toArray=(its ++ its2).toArray:=by simp
 refine concat_meets ⟨_,ho,rfl⟩ ⟨_,ho2,rfl⟩ noFill_list_add seq_list_add PySem.F.slot_list_add PySem.F.entry_list_add (PySem.F.args_list_add_2 _ _) (list_addW a b its.toArray its2.toArray n n2 dd dd2 sl sl2 (by rw [Xaj,Xaj];omega)) ⟨ho,ho2,?_⟩
 rw [ea]
 exact ⟨.ref _,_,I.lnew (t':=s.toks) (rv.append rv2) (by rw [Xan];omega),rfl,q _ I.fresh⟩
theorem zbp:OpR X (binaryOp .Mult) (rI IntMulOk fun i j=>.int (i * j)):=opI fun _ _ _ _ _ _ _ hc q=>mul_int q hc
theorem zcj:OpR X (binaryOp .FloorDiv) (rI (fun _ j=>0<j∧j.natAbs.log2<9000) fun i j=>.int (i / j)):=opI fun i j _ _ _ _ _ hc q=>by
 have e:i.fdiv j=i / j:=Int.fdiv_eq_ediv_of_nonneg _ (Int.le_of_lt hc.1)
 exact floordiv_int (by have:=hc.1;omega) (by rw [e];exact q) (.inl (PyProof.noPylong_of_log2 hc.2))
end
theorem bits_script {ns:List Int}(h:W.WData.layableAll [W.WData.list (ns.map W.WData.int)]=true):∀ n∈ns,Builtin.Int.intBits n≤2 ^ 20:=by
 intro n hn
 have h1:(W.WData.list (ns.map W.WData.int)).layable=true:=by
  have:=Xbp.mp h _ XaT
  exact this
 have hw:=(W.layableW_iff.mp h1).2.2
 have key:∀ l:List Int,n∈l→Builtin.Int.intBits n≤W.WData.weightAll (l.map W.WData.int):=by
  intro l
  induction l with
  | nil=>intro h;cases h
  | cons m r ih =>
   intro hm
   rw [Xbc,W.WData.weightAll]
   rcases Xaq.mp hm with e | hm
   ·subst e
    have:Builtin.Int.intBits n≤(W.WData.int n).weight:=by
     simp only [W.WData.weight,Builtin.Int.intBits]
     omega
    omega
   ·have:=ih hm
    omega
 have h2:=key ns hn
 rw [W.WData.weight] at hw
 omega
end L2
namespace Att
open PySem PySem.W PyProof.Rows PySem.Calls
theorem attach_callB {l:OpenLaw}{n:Nat}{q:Program}{loose:List Str}{XP:(Str→Option Value)→Heap→Prop}{YP:World→Heap→Prop}{d:DefRec}
  (hn:l.most=some n) (hdf:d.params.defaults=[])
  (call:∀ (w:World) (s₀ s₁:Shared) (mg mb:Str→Option Value) (fa:Addr) (o:Obj) (pm cd doc:Value) (a:Addr) (vs:List Value) (ns:List Int),
   Ground q loose [] XP w s₀ mg mb s₁.heap→YP w s₁.heap →
   s₁.heap.get? fa=some o→o.data = .func (docDef d.name d.params d.body d.scope pm cd doc)→s₁.heap.CodeRec cd d.name→mg d.name=some (.ref fa) →
   s₁.heap.get? a=some { cls:=.type "list",data:=.seq vs.toArray }→IntsAre vs ns→ns.length≤n→(∀ m∈ns,Builtin.Int.intBits m≤2 ^ 20)→s₁.gens = #[] →
   codeAny (model l.prog w) callerA (.call (.ref fa) ⟨[.ref a],[]⟩) (fun r s'=>r = .ok (.ret (.bool true))∧OldK s₁.heap s'.heap∧s'.os=s₁.os∧AllBare s'.gens) s₁) :
  WalkO q loose XP YP l.row.toRowW d [] (fun f vs=>PySem.call f vs):=by
 intro w s₀ s₁ mg mb G Y fa o pm cd doc dV kV ho hd hcd hD hmg hg args vals as hpre hlay hrd hwl hlo
 obtain rfl:dV = .none:=Dflts.none hD hdf
 obtain rfl:kV = .none:=Dflts.noKw hD
 obtain ⟨a,vs,ns,rfl,rfl,hobj,hints,hlen⟩:=zgX hn hpre hwl
 refine enter_call (Xbb (call w s₀ s₁ mg mb fa o pm cd doc a vs ns G Y ho (fd_plain hd) hcd hmg hobj hints hlen (L2.bits_script hlay) hg) fun r s' hq=>?_)
 obtain ⟨rfl,h2,h3,h4⟩:=hq
 exact ⟨.inl ⟨.bool true,.bool true,[],rfl,fun _=>rfl,.bool true,zha l _,fun _=>⟨List.Pairwise.nil,fun _ hm=>(nomatch hm)⟩⟩,h2,h3,h4⟩
end Att
namespace L2
open PySem PySem.Spec PyProof.Rows
theorem walk_ofB {l:W.OpenLaw}{n k:Nat}{q:Program}{loose:List Str}{XP:(Str→Option Value)→Heap→Prop}{YP:World→Heap→Prop}{d:DefRec}{K:Params→W.Frag}{CX:World→CXT}{sp:World→Sp}{x:Str}
  (hn:l.most=some n) (hn2:n≤sizeLine) (hdf:d.params.defaults=[]) (hr:Room k callerA)
  (hY:∀ (w:World) (h:Heap),YP w h→(K w.params).In h)
  (F:∀ (w:World) (mg:Str→Option Value) (fa:Addr) (h:Heap),(K w.params).In h→h.Ns mainGlobals mg→mg d.name=some (.ref fa) →
   ∃ fd:FuncData,(∀ (s:Shared) (u:Value),BindsTo s fd ⟨[u],[]⟩ [(x,u)]) ∧
    ∀ base:Heap,(K w.params).In base→base.Ns mainGlobals mg→FnOk l.prog w (K w.params) mg base (CX w) k fa fd [x] (sp w))
  (hsp:∀ (w:World) (H:Hp) (a:Addr) (ns:List Int),ns.length≤n→(∀ m∈ns,Builtin.Int.intBits m≤2 ^ 20)→Only H→SqL (K w.params) H a (ns.map V.int)→sp w [.ref a] H (fun v _=>v = .bl true) fun _ _ _=>False)
  (hCX:∀ (w:World) (H:Hp) (s:Shared) (e:Value) (s':Shared),CX w [] H s (fun _ _ _=>False) e s'→False) :
  W.WalkO q loose XP YP l.row.toRowW d [] (fun f vs=>PySem.call f vs):=by
 refine Att.attach_callB hn hdf fun w s₀ s₁ mg mb fa o pm cd doc a vs ns G Y ho hd hcd hmg hobj hints hlen hbits hg=>?_
 have KX:=hY w _ Y
 obtain ⟨fd,hb,hF⟩:=F w mg fa _ KX G.T.g hmg
 exact ziw KX G.T.g G.T.b G.T.builtins G.T.nolimit hg hobj hints (Xam hlen hn2) hr hF hb (fun H hO hS=>hsp w H a ns hlen hbits hO hS) fun H e s'=>hCX w H s₁ e s'
section
variable {K:W.Frag}{g:TG}{tf:TT}{te:TE}{Q:List V→Hp→Prop}{σ:St}{H:Hp}
theorem zcE {lo:Int}{n:Nat}(Pv:Nat→List V→St→Hp→Prop)(hn:n≤sizeLine)(h0:Pv 0 [] σ H)(hz:∀ i ys σ H,Pv i ys σ H→ys.length≤i)
  (hs:∀ i ys σ H,i<n→Pv i ys σ H→g (.int (lo+i)) σ H fun σ2 H2=>tf σ2 H2 fun b H3=>if b=true then te σ2 H3 fun y H4=>Pv (i+1) (ys ++ [y]) σ2 H4 else Pv (i+1) ys σ2 H3)
  (hd:∀ ys σ H,Pv n ys σ H→Q ys H):zgG (Itr lo n) g tf te Q σ H:=by
 refine ⟨fun i m ys σ H=>m=n - i∧i≤n∧Pv i ys σ H,⟨n,by simp,Nat.zero_le _,h0⟩,?_⟩
 rintro i m ys σ H ⟨rfl,hi,p⟩
 have hl:=hz i ys σ H p
 by_cases hlt:i<n
 ·refine .inr ⟨hlt,by omega,Pv (i+1),fun ys' σ' H' p'=>⟨n - (i+1),by omega,rfl,hlt,p'⟩,fun x H' y=>?_⟩
  obtain ⟨e,y⟩:=y
  subst e y
  exact hs i ys σ _ hlt p
 ·have e:i=n:=by omega
  subst e
  exact .inl ⟨Xae _,by omega,hd ys σ H p⟩
theorem zeZ {a:Addr}{xs:List V}(Pv:Nat→List V→St→Hp→Prop)(hn:xs.length≤sizeLine)(h0:Pv 0 [] σ H)(hl:∀ i ys σ H,i≤xs.length→Pv i ys σ H→SqL K H a xs∧ys.length≤i)
  (hs:∀ i x ys σ H,xs[i]? = some x→Pv i ys σ H→g x σ H fun σ2 H2=>tf σ2 H2 fun b H3=>if b=true then te σ2 H3 fun y H4=>Pv (i+1) (ys ++ [y]) σ2 H4 else Pv (i+1) ys σ2 H3)
  (hd:∀ ys σ H,Pv xs.length ys σ H→Q ys H):zgG (Itl K a) g tf te Q σ H:=by
 refine ⟨fun i m ys σ H=>m=xs.length - i∧i≤xs.length∧Pv i ys σ H,⟨xs.length,by simp,Nat.zero_le _,h0⟩,?_⟩
 rintro i m ys σ H ⟨rfl,hi,p⟩
 obtain ⟨q,hz⟩:=hl i ys σ H hi p
 by_cases hlt:i<xs.length
 ·refine .inr ⟨⟨xs,xs[i],q,by simp [hlt]⟩,by omega,Pv (i+1),fun ys' σ' H' p'=>⟨xs.length - (i+1),by omega,rfl,hlt,p'⟩,fun x H' y=>?_⟩
  obtain ⟨e,y⟩:=y
  subst e
  exact hs i x ys σ _ (y xs q) p
 ·have e:i=xs.length:=by omega
  subst e
  exact .inl ⟨⟨xs,q,Xae _⟩,by omega,hd ys σ H p⟩
end
theorem zeU {K:W.Frag}{i j:Nat}{T:Addr}{x y:V}{σ:St}{H:Hp}{Q:St→Hp→Prop}(h:Q ((σ.set i (some x)).set j (some y)) (upd H T (.tup [x,y]))) :
  gTup K 2 (gCons (zaA i) (gCons (zaA j) gNil)) (.ref T) σ (upd H T (.tup [x,y])) Q:=
 ⟨T,[x,y],rfl,SqT.of zab,rfl,x,[y],rfl,y,[],rfl,rfl,h⟩
end L2
end
section
namespace Cb
open PySem
def ones:Nat→Nat
 | 0=>0
 | n+1=>(n+1) % 2+ones ((n+1) / 2)
decreasing_by omega
theorem zdo (n:Nat):ones n=n % 2+ones (n / 2):=by
 cases n with
 | zero=>simp [ones]
 | succ n=>rw [ones]
def sgl:Nat→List Nat
 | 0=>[]
 | n+1=>if (n+1) % 2=1 then 1 :: (sgl ((n+1) / 2)).map (2 * ·) else (sgl ((n+1) / 2)).map (2 * ·)
decreasing_by all_goals omega
theorem zh6:sgl 0=[]:=by simp [sgl]
theorem zgV (n:Nat):sgl (2 * n+1)=1 :: (sgl n).map (2 * ·):=by
 rw [sgl,if_pos (by omega),show (2 * n+1) / 2=n by omega]
theorem zc1 (n:Nat):sgl (2 * n)=(sgl n).map (2 * ·):=by
 cases n with
 | zero=>simp [sgl]
 | succ n =>
  rw [show 2 * (n+1)=(2 * n+1)+1 by omega,sgl,if_neg (by omega),show (2 * n+1+1) / 2=n+1 by omega]
theorem zcq:∀ n,(sgl n).length=ones n:=by
 intro n
 induction n using Nat.strongRecOn with
 | _ n ih =>
  rcases Nat.mod_two_eq_zero_or_one n with h | h
  ·by_cases h0:n=0
   ·subst h0;simp [sgl,ones]
   ·have e:n=2 * (n / 2):=by omega
    rw [zdo,h]
    conv=>lhs;rw [e]
    rw [zc1,Xal,ih _ (by omega)];omega
  ·have e:n=2 * (n / 2)+1:=by omega
   rw [zdo,h]
   conv=>lhs;rw [e]
   rw [zgV,Xau,Xal,ih _ (by omega)];omega
theorem zhv (a b:Nat):(2 * a) &&& (2 * b)=2 * (a &&& b):=by
 apply Nat.eq_of_testBit_eq;intro i
 cases i with
 | zero=>simp [XaG]
 | succ i =>
  rw [XaG,XaZ,XaZ,XaZ,show (2 * a) / 2=a by omega,show (2 * b) / 2=b by omega,show (2 * (a &&& b)) / 2=(a &&& b) by omega,XaG]
theorem zix (a b:Nat):(2 * a+1) &&& (2 * b+1)=2 * (a &&& b)+1:=by
 apply Nat.eq_of_testBit_eq;intro i
 cases i with
 | zero=>simp [XaG]
 | succ i =>
  rw [XaG,XaZ,XaZ,XaZ,show (2 * a+1) / 2=a by omega,show (2 * b+1) / 2=b by omega,show (2 * (a &&& b)+1) / 2=(a &&& b) by omega,XaG]
theorem zfB (a b:Nat):(2 * a+1) &&& (2 * b)=2 * (a &&& b):=by
 apply Nat.eq_of_testBit_eq;intro i
 cases i with
 | zero=>simp [XaG]
 | succ i =>
  rw [XaG,XaZ,XaZ,XaZ,show (2 * a+1) / 2=a by omega,show (2 * b) / 2=b by omega,show (2 * (a &&& b)) / 2=(a &&& b) by omega,XaG]
theorem zhw (a b:Nat):(2 * a) &&& (2 * b+1)=2 * (a &&& b):=by rw [Nat.and_comm,zfB,Nat.and_comm]
theorem zh7:∀ n,0<n→(n &&& (n - 1))<n∧sgl n=(n - (n &&& (n - 1))) :: sgl (n &&& (n - 1)):=by
 intro n
 induction n using Nat.strongRecOn with
 | _ n ih =>
  intro hn
  rcases Nat.mod_two_eq_zero_or_one n with h | h
  ·have e:n=2 * (n / 2):=by omega
   obtain ⟨h1,h2⟩:=ih (n / 2) (by omega) (by omega)
   generalize n / 2=m at *
   subst e
   have e2:2 * m - 1=2 * (m - 1)+1:=by omega
   rw [e2,zhw]
   refine ⟨by omega,?_⟩
   rw [zc1,zc1,h2,Xbc]
   congr 1
   omega
  ·have e:n=2 * (n / 2)+1:=by omega
   generalize n / 2=m at *
   subst e
   have e2:2 * m+1 - 1=2 * m:=by omega
   rw [e2,zfB,Nat.and_self]
   exact ⟨by omega,by rw [zgV,zc1];congr 1;omega⟩
theorem zho:∀ m n,n<2 ^ m→ones n≤m
 | 0,n,h=>by simp at h;subst h;simp [ones]
 | m+1,n,h=>by
  have:=zho m (n / 2) (by rw [Nat.pow_succ] at h;omega)
  rw [zdo];omega
theorem band (a b:Nat):Builtin.bitAnd (a:Int) (b:Int)=((a &&& b:Nat):Int):=by
 unfold Builtin.bitAnd
 simp
end Cb
end
section
namespace L2
open PySem PySem.Spec PyProof.Rows
def zce (N:List Str)(names:List (Str×NameKind)):List (Option Nat)→List Str→Bool
 | [],[]=>true
 | none :: r,_ :: s=>zce N names r s
 | some i :: r,x :: s=>(N[i]? == some x) && (names.lookup x == some .free) && zce N names r s
 | _,_=>false
def ndOk:List (Str×NameKind)→Bool
 | []=>true
 | x :: r=>(r.all fun y=>x.1 != y.1) && ndOk r
def ze1 (N:List Str)(osc:Scope)(Nc:List Str)(src:List (Option Nat))(scope:Scope):Bool:=
 scope.kind == .function && (scope.names.all fun x=>x.2 != .cell) && ndOk scope.names &&
 (scope.names.all fun x=>x.2 != .free || osc.names.lookup x.1 == some .cell || osc.names.lookup x.1 == some .free) && zce N scope.names src Nc
theorem zdb {N:List Str}{names:List (Str×NameKind)}:∀ {src:List (Option Nat)} {Nc:List Str},zce N names src Nc=true→src.length=Nc.length
 | [],[],_=>rfl
 | none :: r,_ :: s,h=>by simp only [Xau];rw [zdb (src:=r) (Nc:=s) h]
 | some i :: r,x :: s,h=>by
  simp only [zce,XaY] at h
  simp only [Xau];rw [zdb h.2]
 | [],_ :: _,h=>by simp [zce] at h
 | none :: _,[],h=>by simp [zce] at h
 | some _ :: _,[],h=>by simp [zce] at h
theorem zda {N:List Str}{names:List (Str×NameKind)}:∀ {src:List (Option Nat)} {Nc:List Str},zce N names src Nc=true→∀ (j i:Nat),src[j]? = some (some i)→∃ x,Nc[j]? = some x∧N[i]? = some x∧names.lookup x=some .free
 | [],[],_,j,i,e=>by simp at e
 | none :: r,y :: s,h,0,i,e=>by simp at e
 | none :: r,y :: s,h,j+1,i,e=>by
  have:=zda (src:=r) (Nc:=s) h j i (by simpa using e)
  simpa using this
 | some k :: r,x :: s,h,0,i,e=>by
  simp only [zce,XaY,beq_iff_eq] at h
  simp only [List.getElem?_cons_zero,Option.some.injEq] at e
  subst e
  exact ⟨x,rfl,h.1.1,h.1.2⟩
 | some k :: r,x :: s,h,j+1,i,e=>by
  simp only [zce,XaY] at h
  have:=zda (src:=r) (Nc:=s) h.2 j i (by simpa using e)
  simpa using this
 | [],_ :: _,h,_,_,_=>by simp [zce] at h
 | none :: _,[],h,_,_,_=>by simp [zce] at h
 | some _ :: _,[],h,_,_,_=>by simp [zce] at h
theorem zhu:∀ {l:List (Str×NameKind)},ndOk l=true→l.Pairwise fun x y=>x.1≠y.1
 | [],_=>.nil
 | x :: r,h=>by
  simp only [ndOk,XaY,Xbp,bne_iff_ne] at h
  exact .cons h.1 (zhu h.2)
theorem zaZ {N:List Str}{osc:Scope}{Nc:List Str}{src:List (Option Nat)}{scope:Scope}(h:ze1 N osc Nc src scope=true):CompOk N osc Nc src scope:=by
 simp only [ze1,XaY,beq_iff_eq,Xbp,bne_iff_ne] at h
 obtain ⟨⟨⟨⟨h1,h2⟩,h3⟩,h4⟩,h5⟩:=h
 refine ⟨h1,h2,zhu h3,fun x hx hf=>?_,zdb h5,zda h5⟩
 have:=h4 x hx
 simp only [Xbt,bne_iff_ne,beq_iff_eq] at this
 rcases this with (z | z) | z
 ·exact absurd hf z
 ·exact .inl z
 ·exact .inr z
structure Cal (P:Program)(w:World)(K:W.Frag)(mg:Str→Option Value)(base:Heap)(k:Nat)(x:Str)(ps:List Str)(sp:Sp):Prop where
 ex:∃ f fd,FnOk P w K mg base CX0 k f fd ps sp∧mg x=some (.ref f)∧W.keepIn K (.ref f)=true∧Binds K fd ps []
section
variable {X:Cx}{k:Nat}{ps ks:List Str}{sp:Sp}{x:Str}{p pos:Pos}{e:Expr}{es:List Expr}{t tk:TA}{kws:List Keyword}{gV:List V→List V→List V}
theorem pe_cal (C:Cal X.prog X.w X.K X.mg X.base k x ps sp)(hr:Room k X.A)(hg:Gl X x)(ha:PA X (e :: es) t)(hdb:(x == ("__debug__" : Str))=false:=by decide)
  (he:starEach (e :: es) X.env=(false,eval e X.env) :: starEach es X.env:=by rfl) (hpl:(backTo pos (starEach es X.env)).any (·.1)=false:=by rfl):PE X (.Call (.Name x p) (e :: es) [] pos) (zh4 sp [] E0 t):=by
 obtain ⟨f,fd,F,hm,hk,hb⟩:=C.ex
 exact zjA F hr hg hm hk hb .nil zge ha hdb he hpl
end
end L2
namespace Cb
open PySem L2
def KeepP (p:Addr)(H H':Hp):Prop:=∀ b o,b≠p→H b=some o→H' b=some o
theorem KeepP.trans {p:Addr}{H H1 H2:Hp}(a:KeepP p H H1)(b:KeepP p H1 H2):KeepP p H H2:=fun c o n h=>b c o n (a c o n h)
theorem KeepP.of {p:Addr}{H H':Hp}(h:Same H H'):KeepP p H H':=fun b o _ e=>h b o e
theorem zae {H:Hp}{p:Addr}{o:HO}(h:H p=none):Same H (upd H p o):=fun b u e=>by rw [zah (zaj e h)];exact e
def vN (l:List Nat):List V:=l.map fun (b:Nat)=>V.int (b:Int)
theorem zao (l:List Nat):(vN l).length=l.length:=Xal ..
theorem zd5 (l:List Nat)(b:Nat):vN (l ++ [b])=vN l ++ [V.int (b:Int)]:=by simp [vN]
theorem zgM {l:List Nat}{i:Nat}{x:V}(h:(vN l)[i]? = some x):∃ b,l[i]? = some b∧x=V.int (b:Int):=by
 unfold vN at h
 rw [Xav] at h
 cases e:l[i]? with
 | none=>rw [e] at h;cases h
 | some b=>rw [e] at h;exact ⟨b,rfl,(Option.some.inj h).symm⟩
inductive spLaw (K:W.Frag)(vs:List V)(H:Hp)(Q:VK)(u3_:XK):Prop
 | mk (a:Addr) (ns:List Int) (z0_:vs=[.ref a]) (z1_:SqL K H a (ns.map V.int)) (z2_:ns.length≤63) (z3_:(∀ m∈ns,Builtin.Int.intBits m≤2 ^ 20)) (z4_:∀ H',Q (.bl true) H')
inductive spSingles (vs:List V)(H:Hp)(Q:VK)(u3_:XK):Prop
 | mk (n:Nat) (z0_:vs=[.int (n:Int)]) (z1_:n<2 ^ 64) (z2_:∀ (p:Addr) (H':Hp),H p=none→H' p=some (.lst (vN (sgl n)))→Same H H'→Q (.ref p) H')
inductive spOnes (vs:List V)(H:Hp)(Q:VK)(u3_:XK):Prop
 | mk (n:Nat) (z0_:vs=[.int (n:Int)]) (z1_:n<2 ^ 64) (z2_:∀ H',Same H H'→Q (.int (ones n:Int)) H')
end Cb
end
section
namespace L2
open PySem PySem.Spec PyProof.Rows
section
variable {X:Cx}{K:W.Frag}
theorem zjt (n:Nat)(hK:X.K=K){es:List Expr}{k:Nat}{t:TGs}{pos:Pos}(hc:X.calm=true)(h:PGs X es t)
  (hn:(assignEach es X.env).length=n:=by rfl) (hst:(assignEach es X.env).findIdx? (·.1)=none:=by rfl):PG X (.Tuple es k pos) (gTup K n t):=by
 subst hK;exact zbs hc h hn hst
theorem zel (hK:X.K=K):IxR X (rIxL K):=by subst hK;exact zau
theorem zfC (hK:X.K=K):IxR X (rIxT K):=by subst hK;exact zaS
end
section
variable {prog:Program}{w:World}{A:Around}{E:Value→Shared→Prop}{s:Shared}
end
end L2
end
section
namespace L2
open PySem PySem.Spec PyProof.Rows Builtin
structure FunD (K:W.Frag)(x qual:Str)(st:Stmt)(dV:Value)(f:Addr)(fd:FuncData):Prop where
 ex:∃ (oc:Value) (od:Option Addr) (kV doc pm:Value) (an:Option Addr) (cdv ct:Value) (osl:Array (Option Value)),
  fd=W.fnOf x qual (zbe st) (zaO st) (zai st) dV kV doc pm an cdv ct∧K.lookup f=some ⟨oc,od,.func fd,osl⟩∧W.codeIn K cdv qual=true
 kp:W.keepIn K (.ref f)=true
section
variable {P:Program}{w:World}{K:W.Frag}{mg:Str→Option Value}{base:Heap}
theorem FunD.ok {x qual:Str}{st:Stmt}{dV:Value}{f:Addr}{fd:FuncData}{N ps:List Str}{k:Nat}{sp:Sp}(F:FunD K x qual st dV f fd)(S:FnScope N ps (zai st))(len:∀ vs H Q E,sp vs H Q E→vs.length=ps.length)
  (hbody:∀ (cdv:Value) (A:Around) (outer:List Env) (s:Shared) (H:Hp) (vs:List V) (Q:VK) (E:XK),Room k (A.deeper (envOfC qual (zai st) s.heap.objs.size f cdv))→sp vs H Q E →
   ∃ t,PSs (cxOf CX0 P w K mg base N qual (zai st) f cdv A outer s H E).nox (zaO st) t∧t { nx:=fun _ H'=>Q .non H',rt:=Q } (start N vs) H):FnOk P w K mg base CX0 (k+1) f fd ps sp:=by
 obtain ⟨oc,od,kV,doc,pm,an,cdv,ct,osl,rfl,lk,hcd⟩:=F.ex
 refine ziD lk hcd S len fun A outer s H vs Q E hr hsp=>?_
 obtain ⟨t,h,q⟩:=hbody cdv A outer s H vs Q E hr hsp
 exact ⟨t,h.nox,q⟩
theorem zjS {x qual:Str}{st:Stmt}{dV:Value}{f:Addr}{oc:Value}{od an:Option Addr}{osl:Array (Option Value)}{kV doc pm cdv ct:Value}(l:K.lookup f=some ⟨oc,od,.func (W.fnOf x qual (zbe st) (zaO st) (zai st) dV kV doc pm an cdv ct),osl⟩)
  (c:W.codeIn K cdv qual=true) (k:W.keepIn K (.ref f)=true):FunD K x qual st dV f (W.fnOf x qual (zbe st) (zaO st) (zai st) dV kV doc pm an cdv ct):=⟨⟨oc,od,kV,doc,pm,an,cdv,ct,osl,rfl,l,c⟩,k⟩
theorem FunD.kbinds {x qual:Str}{st:Stmt}{T:Addr}{o:Obj}{items:Array Value}{n:Nat}{f:Addr}{fd:FuncData}{ps ks:List Str}{g:List Value→List Value→List Value}{gV:List V→List V→List V}(F:FunD K x qual st (.ref T) f fd)
  (ho:K.lookup T=some o) (hs:o.data = .seq items n)
  (h:∀ (kV doc pm:Value) (an:Option Addr) (cdv ct:Value) (us ws:List Value),(g us ws).length=ps.length→∃ q,bindArgs (W.fnOf x qual (zbe st) (zaO st) (zai st) (.ref T) kV doc pm an cdv ct) ⟨us,ks.zip ws⟩=seqItems? (.ref T) >>= q∧q (some items)=pure (ps.zip (g us ws)))
  (rel:∀ {vs:List V} {us:List Value} {zs:List V} {ws:List Value},Vals vs us→Vals zs ws→Vals (gV vs zs) (g us ws)):KBinds K fd ps ks g gV:=by
 obtain ⟨oc,od,kV,doc,pm,an,cdv,ct,osl,rfl,lk,hcd⟩:=F.ex
 refine ⟨fun s us ws X hl=>?_,rel⟩
 obtain ⟨q,h1,h2⟩:=h kV doc pm an cdv ct us ws hl
 exact W.binds_K X rfl ho hs h1 h2
theorem KBinds.pos {fd:FuncData}{ps:List Str}(b:Binds K fd ps []):KBinds K fd ps [] (fun us _=>us) (fun vs _=>vs):=
 ⟨fun s us ws X hl=>by have:=b s us X (by rw [Xbs];exact hl);rw [Xbs] at this;exact this,fun r _=>r⟩
end
def swS {α:Type}(us zs:List α):List α:=match zs with
 | [a,b]=>us ++ [b,a]
 | _=>[]
structure Mth (P:Program)(w:World)(K:W.Frag)(mg:Str→Option Value)(base:Heap)(k:Nat)(C:Addr)(m:Str)(ks:List Str)(gV:List V→List V→List V)(sp:Sp):Prop where
 cls:Cls K C
 ex:∃ f fd ps g,Meth K C m f∧FnOk P w K mg base CX0 k f fd ps sp∧KBinds K fd ps ks g gV
inductive tMth_1 (P:Program)(w:World)(K:W.Frag)(mg:Str→Option Value)(base:Heap)(k:Nat)(m:Str)(ks:List Str)(t:TA)(tk:TA)(σ:St)(Q:VK)(x:V)(H1:Hp):Prop
 | mk (a:_) (C:_) (dx:_) (fs:_) (gV:_) (sp:_) (z0_:x = .ref a) (z1_:H1 a=some (.ins C dx fs)) (z2_:Mth P w K mg base k C m ks gV sp) (z3_:fs.lookup m=none) (z4_:t σ H1 fun vs H2=>tk σ H2 fun zs H3=>sp (gV (x :: vs) zs) H3 Q E0)
def tMth (P:Program)(w:World)(K:W.Frag)(mg:Str→Option Value)(base:Heap)(k:Nat)(m:Str)(ks:List Str)(ta:TE)(t tk:TA):TE:=fun σ H Q=>ta σ H (tMth_1 P w K mg base k m ks t tk σ Q)
section
variable {X:Cx}{k:Nat}{C:Addr}{ks:List Str}{x m:Str}{p pos apos:Pos}{e o:Expr}{es:List Expr}{kws:List Keyword}{ta:TE}{t tk:TA}
theorem pe_mth {P:Program}{w:World}{K:W.Frag}{mg:Str→Option Value}{base:Heap}(k:Nat)(hX:X.prog=P∧X.w=w∧X.K=K∧X.mg=mg∧X.base=base)(hr:Room k X.A){pl:Sem Bool}(he:PE X o ta)(ha:PA X (e :: es) t)
  (hst:starEach (e :: es) X.env=(false,eval e X.env) :: starEach es X.env:=by rfl) (hpl:(backTo pos (starEach es X.env)).any (·.1)=false:=by rfl)
  (ht:eval (.Call (.Attribute o m apos) (e :: es) [] pos) X.env=(do
   let ov ← eval o X.env
   standAt apos.atName
   let (f,first) ← holding [ov] (getMethod ov m pl)
   callWith pos f first (backTo pos (starEach (e :: es) X.env)) (backToKw pos (keywordEach [] X.env))):=by rfl) :
  PE X (.Call (.Attribute o m apos) (e :: es) [] pos) (tMth P w K mg base k m [] ta t tNil):=by
 obtain ⟨rfl,rfl,rfl,rfl,rfl⟩:=hX
 intro pins s σ H Q I h
 refine W.methodCall_KW (pl:=pl) (thn (he pins s σ H _ I h) fun u s1 hh_=>?_) ht
 obtain ⟨x,H1,I1,rx,a,C,dx,fs,gV,sp,ex,ea,M,l,q⟩:=hh_
 obtain ⟨c,f,fd,ps,g,hm,F,hb⟩:=M
 subst ex
 obtain rfl:u=Value.ref a:=rx
 refine zcC I1 ea c hm l ?_
 refine W.callWith_K (first:=[.ref a]) (h₀:=X.base) I.ok.mod.kin hm.kp (thn (ha pos pins s1 σ H1 _ I1 q) fun us s2 ⟨vs,H2,I2,r,q2⟩=>⟨I2.kIn,?_⟩) hst hpl
 exact zg0 (us:=.ref a :: us) (vs:=.ref a :: vs) (ws:=[]) (zs:=[]) F hr hb zge I2 (.cons rfl r) .nil q2
theorem zcb {P:Program}{w:World}{K:W.Frag}{mg:Str→Option Value}{base:Heap}(k:Nat)(hX:X.prog=P∧X.w=w∧X.K=K∧X.mg=mg∧X.base=base)(hr:Room k X.A){pl:Sem Bool}(he:PE X o ta)
  (ht:eval (.Call (.Attribute o m apos) [] [] pos) X.env=(do
   let ov ← eval o X.env
   standAt apos.atName
   let (f,first) ← holding [ov] (getMethod ov m pl)
   callWith pos f first (backTo pos (starEach [] X.env)) (backToKw pos (keywordEach [] X.env))):=by rfl) :
  PE X (.Call (.Attribute o m apos) [] [] pos) (tMth P w K mg base k m [] ta tNil tNil):=by
 obtain ⟨rfl,rfl,rfl,rfl,rfl⟩:=hX
 intro pins s σ H Q I h
 refine W.methodCall_KW (pl:=pl) (thn (he pins s σ H _ I h) fun u s1 hh_=>?_) ht
 obtain ⟨x,H1,I1,rx,a,C,dx,fs,gV,sp,ex,ea,M,l,q⟩:=hh_
 obtain ⟨c,f,fd,ps,g,hm,F,hb⟩:=M
 subst ex
 obtain rfl:u=Value.ref a:=rx
 refine zcC I1 ea c hm l ?_
 exact W.callWith_K0 (first:=[.ref a]) I1.kIn hm.kp (zg0 (us:=[.ref a]) (vs:=[.ref a]) (ws:=[]) (zs:=[]) F hr hb zge I1 (.cons rfl .nil) .nil q)
end
def tLenO (P:Program)(w:World)(K:W.Frag)(mg:Str→Option Value)(base:Heap)(k:Nat)(ta:TE):TE:=fun σ H Q=>ta σ H fun x H1=>∃ a C dx fs gV sp,x = .ref a∧H1 a=some (.ins C dx fs)∧Mth P w K mg base k C "__len__" [] gV sp ∧
 sp (gV [x] []) H1 (fun v H2=>∃ n:Int,v = .int n∧0≤n∧n<2 ^ 63∧Q (.int n) H2) E0
section
variable {X:Cx}{e:Expr}{p pos:Pos}{ta:TE}
def lenQ (X:Cx)(k:Nat)(Q:VK)(vs:List V)(H1:Hp):Prop:=match vs with
 | [x]=>∃ a C dx fs gV sp,x = .ref a∧H1 a=some (.ins C dx fs)∧Mth X.prog X.w X.K X.mg X.base k C "__len__" [] gV sp∧sp (gV [x] []) H1 (fun v H2=>∃ n:Int,v = .int n∧0≤n∧n<2 ^ 63∧Q (.int n) H2) E0
 | _=>False
def LenIs (Q:Value→Shared→Prop):Value→Shared→Prop
 | .int n _,s'=>0≤n∧n<2 ^ 63∧Q (.int n s'.toks) { s' with toks:=s'.toks+1 }
 | _,_=>False
theorem lenOwn {prog:Program}{w:World}{A:Around}{E:Value→Shared→Prop}{s:Shared}{K:W.Frag}{a C f:Addr}{ob:Obj}{od:Option Obj}{Q:Value→Shared→Prop}(X:K.In s.heap)(I:W.InstAt s.heap a ob C od)
  (hs:W.findIn K (.ref C) "__len__" = some (some (.ref f))) (ht:W.typeIn K (.ref f)=some (.type "function"))
  (h:wpAny (model prog w) A.in1 (call (.ref f) [.ref a]) (LenIs Q) E s):wpAny (model prog w) A (call (.builtin "len") [.ref a]) Q E s:=by
 refine Calls.call_function_entry kind_len plain_len entry_len (args_len1 _) ?_
 delta Builtin.«len»
 refine Xaa (m:=oneArg "len" _) (Xac (Xaa (m:=callSpecial? (.ref a) (Str.ofString "__len__")) (W.special_fn X I hs ht (Xaw h (fun r s' hr=>?_) (fun _ _ z=>z)))))
 cases r with
 | int n t =>
  obtain ⟨h0,h1,hq⟩:=hr
  refine Xaa (Xaz (Xac (Xaa (wpAny_letGo ?_))))
  have e1:¬ n<0:=by omega
  have e2:¬ n ≥ 2 ^ 63:=by omega
  dsimp only
  rw [if_neg e1,if_neg e2]
  exact Xaa (wpAny_mkInt (Xac ⟨_,rfl,hq⟩))
 | _=>exact hr.elim
theorem mtyp {K:W.Frag}{C f:Addr}{m:Str}(h:Meth K C m f):W.typeIn K (.ref f)=some (.type "function"):=beq_iff_eq.mp h.fn
theorem zjy {P:Program}{w:World}{K:PySem.W.Frag}{mg:Str→Option Value}{base:Heap}(k:Nat)(hX:X.prog=P∧X.w=w∧X.K=K∧X.mg=mg∧X.base=base)(hr:Room (k+1) X.A)(hg:Gl X "len")(hm:X.mg "len" = none)(he:PE X e ta)
  (hst:starEach [e] X.env=(false,eval e X.env) :: starEach [] X.env:=by rfl):PE X (.Call (.Name "len" p) [e] [] pos) (tLenO P w K mg base k ta):=by
 obtain ⟨rfl,rfl,rfl,rfl,rfl⟩:=hX
 intro pins s σ H Q I h
 refine Xa7 (zdz I hg hm PySem.boot_len ?_ (by decide) (by decide))
 refine PyProof.Rows.callWith_builtin1 (thn (zaa (t:=tNil) he zac hst pos pins s σ H (lenQ X k Q) I h) fun us s1 hh_=>?_) hst rfl
 obtain ⟨vs,H1,I1,r1,q1⟩:=hh_
 cases r1 with
 | nil=>exact q1.elim
 | cons ra rr=>cases rr with
  | cons _ _=>exact q1.elim
  | nil =>
   obtain ⟨a,C,dx,fs,gV,sp,ex,ea,M,q⟩:=q1
   obtain ⟨c,f,fd,ps,g,hm,F,hb⟩:=M
   subst ex
   cases ra
   obtain ⟨mA,O,_⟩:=zdD I1.hok ea
   obtain ⟨od,J,_⟩:=O.look
   refine lenOwn I1.kIn J hm.at_ (mtyp hm) ?_
   have rv:Vals (gV [V.ref a] []) (g [Value.ref a] []):=hb.rel (vs:=[V.ref a]) (us:=[Value.ref a]) (zs:=[]) (ws:=[]) (.cons rfl .nil) .nil
   have hl:(g [Value.ref a] []).length=ps.length:=by rw [← rv.length];exact F.len _ _ _ _ q
   have W:wpAny (model X.prog X.w) X.A.in1 (call (.ref f) [.ref a]) (EP X pins σ (fun v H2=>∃ n:Int,v = .int n∧0≤n∧n<2 ^ 63∧Q (.int n) H2)) X.xe s1:=by
    refine Xba (Xbb (F.run X.A.in1 X.stack s1 H1 ⟨[.ref a],[]⟩ (g [.ref a] []) (gV [.ref a] []) _ E0 hr.in1 I1.env0.in1 (hb.to s1 [.ref a] [] I1.kIn hl) rv q) fun r s' hq=>?_)
    cases r with
    | error e=>exact zge pins σ H1 s1 e s' I1 hq
    | ok fl =>
     cases fl with
     | ret u=>exact I1.after hq
     | next=>exact False.elim hq
     | brk=>exact False.elim hq
     | cont=>exact False.elim hq
   refine Xaw W (fun u s' hu=>?_) fun _ _ z=>z
   ·obtain ⟨v,H2,I2,rv,n,rfl,h0,h1,qn⟩:=hu
    obtain ⟨t,rfl⟩:=(show ∃ t,u=Value.int n t from rv)
    exact ⟨h0,h1,⟨.int n,H2,I2.tok _,⟨_,rfl⟩,qn⟩⟩
end
structure Mak (P:Program)(w:World)(K:W.Frag)(mg:Str→Option Value)(base:Heap)(k:Nat)(x:Str)(C:Addr)(ks:List Str)(gV:List V→List V→List V)(sp:Sp):Prop where
 at_:mg x=some (.ref C)
 ex:∃ f fd ps g,Mk K C f∧FnOk P w K mg base CX0 k f fd ps sp∧KBinds K fd ps ks g gV
def tMak (C:Addr)(gV:List V→List V→List V)(sp:Sp)(t tk:TA):TE:=fun σ H Q=>t σ H fun vs H1=>tk σ H1 fun zs H2=>∀ x dx,H2 x=none→H2 dx=none→dx≠x →
 sp (gV (.ref x :: vs) zs) (upd (upd H2 dx (.own x)) x (.ins C dx [])) (fun v H3=>v = .non∧Q (.ref x) H3) E0
section
variable {X:Cx}{k:Nat}{C:Addr}{ks:List Str}{gV:List V→List V→List V}{sp:Sp}{x:Str}{p pos:Pos}{e:Expr}{es:List Expr}{kws:List Keyword}{t tk:TA}
theorem zfN {pins:List (Addr×Obj)}{σ:St}{H:Hp}{s:Shared}{Q:VK}{us ws:List Value}{vs zs:List V}(M:Mak X.prog X.w X.K X.mg X.base k x C ks gV sp)(hr:Room (k+1) X.A)(I:Inv X pins σ H s)(r:Vals vs us)(rz:Vals zs ws)
  (h:∀ y dy,H y=none→H dy=none→dy≠y→sp (gV (.ref y :: vs) zs) (upd (upd H dy (.own y)) y (.ins C dy [])) (fun v H2=>v = .non∧Q (.ref y) H2) E0) :
  wpAny (model X.prog X.w) X.A (call (.ref C) us (ks.zip ws)) (EP X pins σ Q) X.xe s:=by
 obtain ⟨hm,f,fd,ps,g,M,F,hb⟩:=M
 have hq:=h (s.heap.objs.size+1) s.heap.objs.size (I.hok.fresh (Xbn _)) (I.hok.fresh (Xae _)) (Xat (Xa3 _))
 have I2:=Inv.made (C:=C) I
 have r2:Vals (gV (V.ref (s.heap.objs.size+1) :: vs) zs) (g (Value.ref (s.heap.objs.size+1) :: us) ws):=hb.rel (.cons rfl r) rz
 have hl:(g (Value.ref (s.heap.objs.size+1) :: us) ws).length=ps.length:=by rw [← r2.length];exact F.len _ _ _ _ hq
 refine Xba (zfT (f:=f) I.kIn M.makes M.init (beq_iff_eq.mp M.fn) (Xbb (F.run _ X.stack _ _ ⟨Value.ref (s.heap.objs.size+1) :: us,ks.zip ws⟩ _ _ _ E0 (hr.make C us (ks.zip ws))
  (I2.env0.make C us (ks.zip ws)) (hb.to _ (Value.ref (s.heap.objs.size+1) :: us) ws I2.kIn hl) r2 hq) fun r s' hq'=>?_))
 cases r with
 | error e=>exact zge pins σ _ _ e s' I2 hq'
 | ok fl =>
  cases fl with
  | ret u =>
   obtain ⟨v,H',I3,rv,ev,q3⟩:=I2.after hq'
   subst ev
   exact ⟨rv,⟨V.ref (s.heap.objs.size+1),H',I3,rfl,q3⟩⟩
  | next=>exact False.elim hq'
  | brk=>exact False.elim hq'
  | cont=>exact False.elim hq'
theorem Mak.kp {P:Program}{w:World}{K:W.Frag}{mg:Str→Option Value}{base:Heap}(M:Mak P w K mg base k x C ks gV sp):W.keepIn K (.ref C)=true:=by
 obtain ⟨_,_,_,_,_,M,_⟩:=M
 exact M.kp
theorem zcG (M:Mak X.prog X.w X.K X.mg X.base k x C [] gV sp)(hr:Room (k+1) X.A)(hg:Gl X x)(ha:PA X (e :: es) t)(hdb:(x == ("__debug__" : Str))=false:=by decide)
  (he:starEach (e :: es) X.env=(false,eval e X.env) :: starEach es X.env:=by rfl) (hpl:(backTo pos (starEach es X.env)).any (·.1)=false:=by rfl):PE X (.Call (.Name x p) (e :: es) [] pos) (tMak C gV sp t tNil):=by
 intro pins s σ H Q I h
 refine Xa7 (zbC I hg M.at_ ?_ hdb)
 refine W.callWith_K (h₀:=X.base) I.ok.mod.kin M.kp (thn (ha pos pins s σ H _ I h) fun us s1 ⟨vs,H1,I1,r,q⟩=>⟨I1.kIn,?_⟩) he hpl
 exact zfN (ws:=[]) (zs:=[]) M hr I1 r .nil q
theorem zjx (M:Mak X.prog X.w X.K X.mg X.base k x C [] gV sp)(hr:Room (k+1) X.A)(hg:Gl X x)(hdb:(x == ("__debug__" : Str))=false:=by decide):PE X (.Call (.Name x p) [] [] pos) (tMak C gV sp tNil tNil):=by
 intro pins s σ H Q I h
 refine Xa7 (zbC I hg M.at_ ?_ hdb)
 exact W.callWith_K0 I.kIn M.kp (zfN (us:=[]) (vs:=[]) (ws:=[]) (zs:=[]) M hr I .nil .nil h)
end
structure Clm (P:Program)(w:World)(K:W.Frag)(mg:Str→Option Value)(base:Heap)(k:Nat)(x m:Str)(sp:Sp):Prop where
 ex:∃ C f fd ps mc,mg x=some (.ref C)∧W.specialIn K (.ref C) "__getattribute__" = some (some (.builtin "type.__getattribute__"))∧W.readsIn K C mc=true∧W.findCls K (.ref C) mc m=some (.val (.ref f)) ∧
  W.keepIn K (.ref f)=true∧FnOk P w K mg base CX0 k f fd ps sp∧Binds K fd ps []
section
variable {X:Cx}{k:Nat}{sp:Sp}{x m:Str}{p pos apos:Pos}{e:Expr}{es:List Expr}{t:TA}
theorem zeF (M:Clm X.prog X.w X.K X.mg X.base k x m sp)(hr:Room k X.A)(hg:Gl X x){pl:Sem Bool}(ha:PA X (e :: es) t)(hdb:(x == ("__debug__" : Str))=false:=by decide)
  (hst:starEach (e :: es) X.env=(false,eval e X.env) :: starEach es X.env:=by rfl) (hpl:(backTo pos (starEach es X.env)).any (·.1)=false:=by rfl)
  (ht:eval (.Call (.Attribute (.Name x p) m apos) (e :: es) [] pos) X.env=(do
   let ov ← eval (.Name x p) X.env
   standAt apos.atName
   let (f,first) ← holding [ov] (getMethod ov m pl)
   callWith pos f first (backTo pos (starEach (e :: es) X.env)) (backToKw pos (keywordEach [] X.env))):=by rfl) :
  PE X (.Call (.Attribute (.Name x p) m apos) (e :: es) [] pos) (zh4 sp [] E0 t):=by
 obtain ⟨C,f,fd,ps,mc,hm,hs,hrd,hf,hk,F,hb⟩:=M
 intro pins s σ H Q I h
 refine W.methodCall_KW (pl:=pl) ?_ ht
 refine zbC I hg hm ?_ hdb
 refine W.method_cls I.kIn hs (W.cls_value I.kIn hrd hf rfl ?_)
 have I0:=I.tok (s.toks+1)
 refine W.callWith_K (first:=[]) (h₀:=X.base) I.ok.mod.kin hk (thn (ha pos pins _ σ H _ I0 h) fun us s2 ⟨vs,H2,I2,r,q2⟩=>⟨I2.kIn,?_⟩) hst hpl
 exact ziS F hr hb .nil zge I2 r q2
end
def itC (t:Bool):String:=if t then "tuple_iterator" else "list_iterator"
def sqC (t:Bool):String:=if t then "tuple" else "list"
def IsIt (t:Bool)(h:Heap)(a l:Addr)(i:Nat):Prop:=∃ o,h.get? a=some o∧o.cls = .type (itC t)∧o.data = .fields #[.ref l,.int i 0]
def IsSq (t:Bool)(h:Heap)(a:Addr)(xs:Array Value):Prop:=∃ o,h.get? a=some o∧o.cls = .type (sqC t)∧∃ n,o.data = .seq xs n
theorem IsIt.at {t:Bool}{h h':Heap}{a l:Addr}{i:Nat}(x:IsIt t h a l i)(e:∀ o,h.get? a=some o→h'.get? a=some o):IsIt t h' a l i:=let ⟨o,ho,r⟩:=x;⟨o,e _ ho,r⟩
theorem IsSq.at {t:Bool}{h h':Heap}{a:Addr}{xs:Array Value}(x:IsSq t h a xs)(e:∀ o,h.get? a=some o→h'.get? a=some o):IsSq t h' a xs:=let ⟨o,ho,r⟩:=x;⟨o,e _ ho,r⟩
section
variable {prog:Program}{w:World}{A:Around}{E:Value→Shared→Prop}{s:Shared}
theorem zfx {t:Bool}{it l:Addr}{i:Nat}{xs:Array Value}{x:Value}{Q:Value→Shared→Prop}(hi:IsIt t s.heap it l i)(hl:IsSq t s.heap l xs)(hx:xs[i]? = some x)
  (q:∀ h',IsIt t h' it l (i+1)→Heap.SameBut it s.heap h'→Q x { s with heap:=h' }):wpAny (model prog w) A (Builtin.SmallTypes.nextOf (.ref it)) Q E s:=by
 cases t with
 | false=>exact wpAny_nextOf_list_item hi hl hx q
 | true =>
  have ht:s.TypeIs (.ref it) "tuple_iterator" := let ⟨o,ho,hc,_⟩:=hi;⟨o,ho,hc⟩
  obtain ⟨o,ho,hc,hd⟩:=id hi;obtain ⟨ol,hol,_,nl,hdl⟩:=hl
  delta Builtin.SmallTypes.nextOf
  refine Xaa (wpAny_callSpecial?_slot (name:=Str.ofString "__next__") ht F.slot_tuple_iterator_next (XaM F.slot_tuple_iterator_next ht F.entry_tuple_iterator_next ?_ (F.args_tuple_iterator_next_1 _)))
  show wpAny _ _ (field (.ref it) 0 >>= _) _ _ s;refine Xaa (XaI ho hd (x:=.ref l) rfl ?_)
  show wpAny _ _ (if (Value.ref l == Value.none)=true then _ else _) _ _ s;rw [if_neg (show ¬ ((Value.ref l == Value.none)=true) from Xak)]
  show wpAny _ _ (field (.ref it) 1 >>= _) _ _ s;refine Xaa (XaI ho hd (x:=.int i 0) rfl ?_)
  show wpAny _ _ (seqItems? (.ref l) >>= _) _ _ s;refine Xaa (Xa0 hol hdl ?_);simp only [Xai,hx]
  refine Xaa (XaS ho hd (by simp) (Xac ⟨x,rfl,Xac (q _ ⟨_,XaD _ ho (Obj.isFreed_of_fields (Obj.data_mapFields hd _)),(Obj.cls_mapFields ..).trans hc,by rw [Obj.data_mapFields hd];simp [rawInt]⟩ (Heap.SameBut.update ..))⟩))
theorem zi0 {t:Bool}{it l:Addr}{i:Nat}{xs:Array Value}{Q:Value→Shared→Prop}(hh:A.handled=none)(hi:IsIt t s.heap it l i)(hl:IsSq t s.heap l xs)(hx:xs[i]? = none)
  (q:∀ h' e,Heap.ExtBut it s.heap h'→(∃ o,h'.get? e=some o∧o.cls = .type "StopIteration")→E (.ref e) { s with heap:=h' }):wpAny (model prog w) A (Builtin.SmallTypes.nextOf (.ref it)) Q E s:=by
 cases t with
 | false=>exact wpAny_nextOf_list_end hh hi hl hx q
 | true =>
  have ht:s.TypeIs (.ref it) "tuple_iterator" := let ⟨o,ho,hc,_⟩:=hi;⟨o,ho,hc⟩
  obtain ⟨o,ho,hc,hd⟩:=id hi;obtain ⟨ol,hol,_,nl,hdl⟩:=hl
  delta Builtin.SmallTypes.nextOf
  refine Xaa (wpAny_callSpecial?_slot (name:=Str.ofString "__next__") ht F.slot_tuple_iterator_next (XaM F.slot_tuple_iterator_next ht F.entry_tuple_iterator_next ?_ (F.args_tuple_iterator_next_1 _)))
  show wpAny _ _ (field (.ref it) 0 >>= _) _ _ s;refine Xaa (XaI ho hd (x:=.ref l) rfl ?_)
  show wpAny _ _ (if (Value.ref l == Value.none)=true then _ else _) _ _ s;rw [if_neg (show ¬ ((Value.ref l == Value.none)=true) from Xak)]
  show wpAny _ _ (field (.ref it) 1 >>= _) _ _ s;refine Xaa (XaI ho hd (x:=.int i 0) rfl ?_)
  show wpAny _ _ (seqItems? (.ref l) >>= _) _ _ s;refine Xaa (Xa0 hol hdl ?_);simp only [Xai,hx]
  refine Xaa (Xbm (Xaa (XaS ho hd (by simp) ?_)));show wpAny _ _ (newExc (.type "StopIteration") [] >>= _) _ _ _
  refine Xaa ?_;simp only [newExc,newTuple];refine Xaa (XaJ ?_ (by size_fits))
  refine Xaa (m:=firstArgMember _ _) (wpAny_of_eq (a:=Value.none) (by first | rfl | (simp only [firstArgMember];rfl)) ?_);refine XaJ ?_ (by size_fits)
  simp only [raiseNew];refine Xaa (wpAny_handled ?_);rw [show A.in1.handled=none from hh];refine Xaa (Xac (wpAny_throw ?_))
  exact q _ _ (((Heap.SameBut.update ..).extBut.push _).push _) ⟨_,Xag _ rfl,rfl⟩
theorem zi3 {t:Bool}{l:Addr}{xs:Array Value}{Q:Value→Shared→Prop}(hl:IsSq t s.heap l xs)(q:Q (.ref s.heap.objs.size) { s with heap:=s.heap.push { cls:=.type (itC t),data:=.fields #[.ref l,.int 0 0] } }):wpAny (model prog w) A (pyIter (.ref l)) Q E s:=by
 cases t with
 | false=>exact wpAny_pyIter_list hl q
 | true=>exact Xbr hl q
structure Far2 (z TO i1 i2:Addr):Prop where
 oz:TO≠z
 az:i1≠z
 bz:i2≠z
 oa:TO≠i1
 ob:TO≠i2
 ab:i1≠i2
structure FarM (z TO i1 i2 l:Addr):Prop where
 z:l≠z
 o:l≠TO
 a:l≠i1
 b:l≠i2
theorem zfJ {T:Addr}{a b x:Value}{k:Nat}{Q:Unit→Shared→Prop}(hT:IsPair s.heap T a b)
  (q:∀ h',h'.get? T=some { cls:=.type "tuple",data:=.seq ((#[a,b]:Array Value).setIfInBounds k x) }→Heap.SameBut T s.heap h'→Q () { s with heap:=h' }):wpAny (model prog w) A (updateSeq T (·.setIfInBounds k x)) Q E s:=
 wpAny_updateSeq hT rfl (q _ ((XaD _ hT rfl).trans (by simp [Obj.mapSeq])) (Heap.SameBut.update ..))
theorem zgH {t:Bool}{z TI TO i1 i2 l1 l2:Addr}{k:Nat}{xs ys:Array Value}{x y a b:Value}{Q:Value→Shared→Prop}(D:Far2 z TO i1 i2)(L1:FarM z TO i1 i2 l1)(L2':FarM z TO i1 i2 l2)
  (hz:IsZip s.heap z TI TO .none) (hI:IsPair s.heap TI (.ref i1) (.ref i2)) (hO:IsPair s.heap TO a b)
  (h1:IsIt t s.heap i1 l1 k) (h2:IsIt t s.heap i2 l2 k) (g1:IsSq t s.heap l1 xs) (g2:IsSq t s.heap l2 ys) (ex:xs[k]? = some x) (ey:ys[k]? = some y)
  (q:∀ h',IsZip h' z TI TO (rawInt s.heap.objs.size)→IsPair h' TO x y→IsIt t h' i1 l1 (k+1)→IsIt t h' i2 l2 (k+1)→IsPair h' s.heap.objs.size x y→h'.objs.size=s.heap.objs.size+1 →
   (∀ d o,d≠z→d≠TO→d≠i1→d≠i2→s.heap.get? d=some o→h'.get? d=some o)→Q (.ref s.heap.objs.size) { s with heap:=h' }) :
  wpAny (model prog w) A (Builtin.«zip.__next__» ⟨[.ref z],[]⟩) (fun fin s'=>∃ v,fin = .done (.ret v)∧Q v s') E s:=by
 show wpAny _ _ (field (.ref z) 2 >>= _) _ _ _
 refine Xaa (XaI hz rfl (x:=.bool false) rfl ?_);show wpAny _ _ (field (.ref z) 3 >>= _) _ _ _
 refine Xaa (XaI hz rfl (x:=.ref TI) rfl (Xaa (Xa0 hI rfl ?_)));show wpAny _ _ (Builtin.SmallTypes.ownedTupleIsFree (.ref z) >>= _) _ _ _
 refine Xaa ?_;unfold Builtin.SmallTypes.ownedTupleIsFree
 refine Xaa (XaI hz rfl (x:=.none) rfl (Xac ?_));simp only [if_true]
 refine Xaa (Xbm (Xaa (XaI hz rfl (x:=.ref TO) rfl ?_)))
 refine Xaa (Xbu hz (by simp) fun e1 z1 b1=>?_)
 replace z1:IsZip e1 z TI TO .ellipsis:=z1
 refine Xaa ?_;simp only [List.zipIdx_cons,List.zipIdx_nil,List.forIn_cons,List.forIn_nil]
 refine Xaa (Xaa (wpAny_onRaise ?_));show wpAny _ _ (Builtin.SmallTypes.nextOf (.ref i1) >>= _) _ _ _
 refine Xaa (zfx (h1.at fun o e=>b1.extBut _ _ D.az e) (g1.at fun o e=>b1.extBut _ _ L1.z e) ex fun e2 n1 b2=>Xac ?_)
 have O2:IsPair e2 TO a b:=b2.extBut _ _ D.oa (b1.extBut _ _ D.oz hO)
 refine Xaa (Xa0 O2 rfl (Xaa (zfJ O2 fun e3 O3 b3=>Xaa (wpAny_letGo (Xac ?_)))))
 replace O3:IsPair e3 TO x b:=O3
 have up3:∀ d o,d≠z→d≠TO→d≠i1→s.heap.get? d=some o→e3.get? d=some o:=fun d o q1 q2 q3 e=>b3.extBut _ _ q2 (b2.extBut _ _ q3 (b1.extBut _ _ q1 e))
 refine Xaa (Xaa (wpAny_onRaise ?_));show wpAny _ _ (Builtin.SmallTypes.nextOf (.ref i2) >>= _) _ _ _
 refine Xaa (zfx (h2.at fun o e=>up3 _ o D.bz D.ob.symm D.ab.symm e) (g2.at fun o e=>up3 _ o L2'.z L2'.o L2'.a e) ey fun e4 n2 b4=>Xac ?_)
 have O4:IsPair e4 TO x b:=b4.extBut _ _ D.ob O3
 refine Xaa (Xa0 O4 rfl (Xaa (zfJ O4 fun e5 O5 b5=>Xaa (wpAny_letGo (Xac (Xac ?_))))))
 replace O5:IsPair e5 TO x y:=O5
 have up5:∀ d o,d≠z→d≠TO→d≠i1→d≠i2→s.heap.get? d=some o→e5.get? d=some o:=fun d o q1 q2 q3 q4 e=>b5.extBut _ _ q2 (b4.extBut _ _ q4 (up3 d o q1 q2 q3 e))
 have sz:e5.objs.size=s.heap.objs.size:=by rw [b5.1,b4.1,b3.1,b2.1,b1.1]
 have z7:IsZip e5 z TI TO .ellipsis:=b5.extBut _ _ D.oz.symm (b4.extBut _ _ D.bz.symm (b3.extBut _ _ D.oz.symm (b2.extBut _ _ D.az.symm z1)))
 have m1:IsIt t e5 i1 l1 (k+1):=n1.at fun o e=>b5.extBut _ _ D.oa.symm (b4.extBut _ _ D.ab (b3.extBut _ _ D.oa.symm e))
 have m2:IsIt t e5 i2 l2 (k+1):=n2.at fun o e=>b5.extBut _ _ D.ob.symm e
 have zl:z<e5.objs.size:=Xah z7
 refine Xaa (Xa0 O5 rfl (Xaa (wpAny_newTuple ?_)));show wpAny _ _ (Builtin.SmallTypes.ownedTupleHandOut (.ref z) (.ref e5.objs.size) >>= _) _ _ _
 refine Xaa ?_;unfold Builtin.SmallTypes.ownedTupleHandOut
 have z8:IsZip (e5.push { cls:=.type "tuple",data:=.seq #[x,y] }) z TI TO .ellipsis:=Xab _ z7
 refine Xaa (Xbu z8 (by simp) fun e9 z9 b9=>?_)
 replace z9:IsZip e9 z TI TO (rawInt e5.objs.size):=z9
 refine Xbu z9 (by simp) fun e0 z0 b0=>?_
 replace z0:IsZip e0 z TI TO (rawInt e5.objs.size):=z0
 have up:∀ d o,d≠z→e5.get? d=some o→e0.get? d=some o:=fun d o q1 e=>b0.extBut _ _ q1 (b9.extBut _ _ q1 (Xab _ e))
 have T0:IsPair e0 e5.objs.size x y:=b0.extBut _ _ (Xbf zl) (b9.extBut _ _ (Xbf zl) (Xag _ rfl))
 have s0:e0.objs.size=e5.objs.size+1:=by rw [b0.1,b9.1,XaC]
 rw [sz] at z0 T0 s0
 refine Xac ⟨_,rfl,?_⟩;show Q (.ref e5.objs.size) _;rw [sz]
 exact q e0 z0 (up _ _ D.oz O5) (m1.at fun o e=>up _ o D.az e) (m2.at fun o e=>up _ o D.bz e) T0 s0 fun d o q1 q2 q3 q4 e=>up d o q1 (up5 d o q1 q2 q3 q4 e)
theorem zh1 {t:Bool}{z TI TO i1 i2 l1:Addr}{k:Nat}{xs:Array Value}{Q:Fin→Shared→Prop}(hh:A.handled=none)(D:Far2 z TO i1 i2)(L1:FarM z TO i1 i2 l1)
  (hz:IsZip s.heap z TI TO .none) (hI:IsPair s.heap TI (.ref i1) (.ref i2)) (h1:IsIt t s.heap i1 l1 k) (g1:IsSq t s.heap l1 xs) (ex:xs[k]? = none)
  (q:∀ h' e,(∀ d o,d≠z→d≠i1→s.heap.get? d=some o→h'.get? d=some o)→(∃ o,h'.get? e=some o∧o.cls = .type "StopIteration")→E (.ref e) { s with heap:=h' }) :
  wpAny (model prog w) A (Builtin.«zip.__next__» ⟨[.ref z],[]⟩) Q E s:=by
 show wpAny _ _ (field (.ref z) 2 >>= _) _ _ _
 refine Xaa (XaI hz rfl (x:=.bool false) rfl ?_);show wpAny _ _ (field (.ref z) 3 >>= _) _ _ _
 refine Xaa (XaI hz rfl (x:=.ref TI) rfl (Xaa (Xa0 hI rfl ?_)));show wpAny _ _ (Builtin.SmallTypes.ownedTupleIsFree (.ref z) >>= _) _ _ _
 refine Xaa ?_;unfold Builtin.SmallTypes.ownedTupleIsFree
 refine Xaa (XaI hz rfl (x:=.none) rfl (Xac ?_));simp only [if_true]
 refine Xaa (Xbm (Xaa (XaI hz rfl (x:=.ref TO) rfl ?_)))
 refine Xaa (Xbu hz (by simp) fun e1 z1 b1=>?_)
 replace z1:IsZip e1 z TI TO .ellipsis:=z1
 refine Xaa ?_;simp only [List.zipIdx_cons,List.zipIdx_nil,List.forIn_cons,List.forIn_nil]
 refine Xaa (Xaa (wpAny_onRaise ?_));show wpAny _ _ (Builtin.SmallTypes.nextOf (.ref i1) >>= _) _ _ _
 refine Xaa (zi0 hh (h1.at fun o e=>b1.extBut _ _ D.az e) (g1.at fun o e=>b1.extBut _ _ L1.z e) ex fun e2 e b2 he=>?_)
 obtain ⟨oe,hoe,hce⟩:=he
 have z2:IsZip e2 z TI TO .ellipsis:=b2 _ _ D.az.symm z1
 have ne:e≠z:=fun y=>by subst y;rw [z2] at hoe;cases hoe;simp at hce
 exact Xbu z2 (by simp) fun e3 _ b3=>q e3 e (fun d o q1 q2 y=>b3.extBut _ _ q1 (b2 _ _ q2 (b1.extBut _ _ q1 y))) ⟨oe,b3.extBut _ _ ne hoe,hce⟩
end
abbrev yA (t:Bool)(h:Heap)(l:Addr):Heap:=h.push { cls:=.type (itC t),data:=.fields #[.ref l,.int 0 0] }
abbrev yB (t:Bool)(h:Heap)(l1 l2:Addr):Heap:=(yA t (yA t h l1) l2).push { cls:=.type "tuple",data:=.seq #[.ref h.objs.size,.ref (yA t h l1).objs.size] }
abbrev yC (t:Bool)(h:Heap)(l1 l2:Addr):Heap:=(yB t h l1 l2).push { cls:=.type "tuple",data:=.seq #[.none,.none] }
abbrev yD (t:Bool)(h:Heap)(l1 l2:Addr):Heap:=(yC t h l1 l2).push { cls:=.type "zip",data:=.fields #[.none,.bool false,.bool false,.ref (yA t (yA t h l1) l2).objs.size,.ref (yB t h l1 l2).objs.size] }
theorem zh0 (t:Bool)(l1 l2:Addr)(xs ys:Array Value) :
  Meets (Builtin.«zip.__new__» ⟨[.type "zip",.ref l1,.ref l2],[]⟩) (fun _ R s=>IsSq t s.heap l1 xs∧IsSq t s.heap l2 ys∧R (.ok (.ret (.ref (yC t s.heap l1 l2).objs.size))) { s with heap:=yD t s.heap l1 l2 }):=
 .of_wp fun prog w A R s h=>by
  obtain ⟨hp,g,d,tk,os⟩:=s;obtain ⟨hl1,hl2,h⟩:=h
  have hsub:=sub_zip
  have hA:IsSq t (Shared.heap ⟨hp,g,d,tk,os⟩) l1 xs:=hl1
  have hB:IsSq t (Shared.heap ⟨yA t hp l1,g,d,tk,os⟩) l2 ys:=hl2.at fun o e=>Xab _ e
  wp_walk using zi3 hA,zi3 hB
  exact ⟨_,rfl,h⟩
def hoX (t:Bool)(xs:List V):HO:=if t then .tup xs else .lst xs
def SqX (t:Bool)(H:Hp)(a:Addr)(xs:List V):Prop:=H a=some (hoX t xs)
theorem Inv.sqx {X:Cx}{pins:List (Addr×Obj)}{σ:St}{H:Hp}{s:Shared}(I:Inv X pins σ H s){t:Bool}{a:Addr}{xs:List V}(h:SqX t H a xs):∃ its:List Value,Vals xs its∧IsSq t s.heap a its.toArray:=by
 cases t with
 | false =>
  obtain ⟨its,r,p,_⟩:=I.list (SqL.of (xs:=xs) h)
  exact ⟨its,r,p.isList⟩
 | true =>
  obtain ⟨its,r,p,_⟩:=I.tuple (SqT.of (xs:=xs) h)
  exact ⟨its,r,p⟩
theorem zhM {prog:Program}{w:World}{A:Around}{E:Value→Shared→Prop}{s:Shared}{t:Bool}{l1 l2:Addr}{xs ys:Array Value}{Q:Value→Shared→Prop}(g1:IsSq t s.heap l1 xs)(g2:IsSq t s.heap l2 ys)
  (q:∀ h' n,n=s.heap.objs.size→IsZip h' (n+4) (n+2) (n+3) .none→IsPair h' (n+2) (.ref n) (.ref (n+1))→IsPair h' (n+3) .none .none→IsIt t h' n l1 0→IsIt t h' (n+1) l2 0 →
   (∀ d o,s.heap.get? d=some o→h'.get? d=some o)→Q (.ref (n+4)) { s with heap:=h' }) :
  wpAny (model prog w) A (call (.type "zip") [.ref l1,.ref l2]) Q E s:=by
 refine callType_new F.called_zip (by decide) (F.typeCall_zip_2 _ _) (F.newCall_zip_2 _ _) (fun obj=>F.args_object_init_3 obj _ _) F.entry_zip_new (zh0 t l1 l2 xs ys) ⟨g1,g2,?_⟩
 have n1:(yA t s.heap l1).objs.size=s.heap.objs.size+1:=XaC ..
 have n2:(yA t (yA t s.heap l1) l2).objs.size=s.heap.objs.size+2:=by rw [XaC,n1]
 have n3:(yB t s.heap l1 l2).objs.size=s.heap.objs.size+3:=by rw [XaC,n2]
 have n4:(yC t s.heap l1 l2).objs.size=s.heap.objs.size+4:=by rw [XaC,n3]
 have a4:(yD t s.heap l1 l2).get? (yC t s.heap l1 l2).objs.size=some _:=Xag _ rfl
 have a3:(yD t s.heap l1 l2).get? (yB t s.heap l1 l2).objs.size=some _:=Xab _ (Xag _ rfl)
 have a2:(yD t s.heap l1 l2).get? (yA t (yA t s.heap l1) l2).objs.size=some _:=Xab _ (Xab _ (Xag _ rfl))
 have a1:(yD t s.heap l1 l2).get? (yA t s.heap l1).objs.size=some _:=Xab _ (Xab _ (Xab _ (Xag _ rfl)))
 have a0:(yD t s.heap l1 l2).get? s.heap.objs.size=some _:=Xab _ (Xab _ (Xab _ (Xab _ (Xag _ rfl))))
 show _∧_
 rw [n2,n3,n4] at a4
 rw [n3] at a3
 rw [n1,n2] at a2
 rw [n1] at a1
 rw [n4]
 exact ⟨⟨_,a4,rfl⟩,q _ _ rfl a4 a2 a3 ⟨_,a0,rfl,rfl⟩ ⟨_,a1,rfl,rfl⟩ fun d o e =>
  Xab _ (Xab _ (Xab _ (Xab _ (Xab _ e))))⟩
def Ity (t:Bool)(a b:Addr):It:=
 ⟨fun i H=>∃ xs x ys y,SqX t H a xs∧SqX t H b ys∧xs[i]? = some x∧ys[i]? = some y,
  fun i H v H'=>∃ T x y,H T=none∧v = .ref T∧H'=upd H T (.tup [x,y])∧(∀ xs,SqX t H a xs→xs[i]? = some x)∧∀ ys,SqX t H b ys→ys[i]? = some y,
  fun i H=>∃ xs,SqX t H a xs∧xs.length≤i⟩
theorem zfD {t:Bool}{h:Heap}{z TI TO i1 i2 l k1 k2:Addr}{it:Array Value}{f0:Value}{n1 n2:Nat}(g:IsSq t h l it)(hz:IsZip h z TI TO f0)(lo:l≠TO)(h1:IsIt t h i1 k1 n1)(h2:IsIt t h i2 k2 n2):FarM z TO i1 i2 l:=by
 have ap:∀ {d:Addr} {o:Obj},h.get? d=some o→o.cls≠.type (sqC t)→l≠d:=fun {d o} e nc y=>by
  obtain ⟨o',e',c',_⟩:=g
  rw [y,e] at e';cases e';exact nc c'
 obtain ⟨_,e1,c1,_⟩:=h1
 obtain ⟨_,e2,c2,_⟩:=h2
 have ne:(Value.type (itC t))≠.type (sqC t):=by cases t <;> simp [itC,sqC]
 exact ⟨ap hz (by cases t <;> simp [sqC]),lo,ap e1 (by rw [c1];exact ne),ap e2 (by rw [c2];exact ne)⟩
theorem zgS {H:Hp}{t:Bool}{a:Addr}{xs ys:List V}(h:SqX t H a xs)(h2:SqX t H a ys):xs=ys:=by
 have e:=Option.some.inj (h.symm.trans h2)
 cases t with
 | false=>exact HO.lst.inj e
 | true=>exact HO.tup.inj e
theorem zgO {P:Program}{w:World}{K:W.Frag}{elts:List Expr}{kt:Nat}{tp:Pos}(t:Bool)(l1 l2 z TI TO i1 i2:Addr)(D:Far2 z TO i1 i2)(TIz:TI≠z)(TITO:TI≠TO)(TI1:TI≠i1)(TI2:TI≠i2) :
  Turn P w K (.Tuple elts kt tp) (Ity t l1 l2) [z,TI,TO,i1,i2] z (fun i h=>IsZip h z TI TO .none∧IsPair h TI (.ref i1) (.ref i2)∧(∃ a b,IsPair h TO a b)∧IsIt t h i1 l1 i∧IsIt t h i2 l2 i) where
 mem:=by simp
 obj:=fun i h st b hb=>by
  obtain ⟨hz,hI,⟨_,_,hO⟩,⟨o1,e1,_,d1⟩,⟨o2,e2,_,d2⟩⟩:=st
  simp only [Xaq,Xbd,or_false] at hb
  rcases hb with rfl | rfl | rfl | rfl | rfl
  ·exact ⟨_,hz,fun v y=>by have y':Data.fields _=Data.cell v:=y;cases y'⟩
  ·exact ⟨_,hI,fun v y=>by have y':Data.seq _ _=Data.cell v:=y;cases y'⟩
  ·exact ⟨_,hO,fun v y=>by have y':Data.seq _ _=Data.cell v:=y;cases y'⟩
  ·exact ⟨_,e1,fun v y=>by rw [d1] at y;cases y⟩
  ·exact ⟨_,e2,fun v y=>by rw [d2] at y;cases y⟩
 keep:=fun i h h' st k=>by
  obtain ⟨hz,hI,⟨a,b,hO⟩,h1,h2⟩:=st
  exact ⟨k z (by simp) _ hz,k TI (by simp) _ hI,⟨a,b,k TO (by simp) _ hO⟩,h1.at fun o e=>k i1 (by simp) o e,h2.at fun o e=>k i2 (by simp) o e⟩
 item:=by
  intro X hP hw hK hc i pins s σ H E I hf st hg
  subst hP hw hK
  obtain ⟨xs,x,ys,y,p1,p2,e1,e2⟩:=hg
  obtain ⟨t1,r1,f1⟩:=I.sqx p1
  obtain ⟨t2,r2,f2⟩:=I.sqx p2
  obtain ⟨v1,w1,rx⟩:=r1.get e1
  obtain ⟨v2,w2,ry⟩:=r2.get e2
  obtain ⟨hz,hI,⟨a,b,hO⟩,h1,h2⟩:=st
  have nO:H TO=none:=(hf TO (by simp)).1
  have far:∀ {l:Addr} {zs:List V},SqX t H l zs→l≠TO:=fun {l zs} p e=>by rw [SqX,e,nO] at p;cases p
  have hT:s.TypeIs (.ref z) "zip" := ⟨_,hz,rfl⟩
  unfold pyNext
  refine Xaa (Xbq (wpAny_callSpecial?_slot (name:=Str.ofString "__next__") hT F.slot_zip_next (XaM F.slot_zip_next hT F.entry_zip_next
   (zgH D (zfD f1 hz (far p1) h1 h2) (zfD f2 hz (far p2) h1 h2) hz hI hO h1 h2 f1 f2 (x:=v1) (y:=v2) (by simpa using w1) (by simpa using w2)
    fun h' z1 O1 m1 m2 T1 s1 kk=>Xac ⟨_,rfl,?_⟩) (F.args_zip_next_1 _))))
  refine wpAny_letOwnedTupleGo_zip z1 fun h4 z4 sb=>?_
  have fT:FpOk X pins H s.heap.objs.size:=I.fpOk (Xae _) (I.hok.fresh (Xae _))
  have k2:∀ d o,d ∉ [z,TI,TO,i1,i2]→s.heap.get? d=some o→h4.get? d=some o:=fun d o hb e=>by
   simp only [Xaq,Xbd,or_false,not_or] at hb
   obtain ⟨q1,q2,q3,q4,q5⟩:=hb
   exact (sb.2 d q1).trans (kk d o q1 q3 q4 q5 e)
  have I1:Inv X pins σ H { s with heap:=h4,toks:=s.toks }:=I.turnedL (ch:=[z,TI,TO,i1,i2]) k2 hf
  have eT:h4.get? s.heap.objs.size=some { cls:=.type "tuple",data:=.seq #[v1,v2] }:=(sb.2 _ (Xbf (Xah hz))).trans T1
  have I2:=I1.track (o:=.tup [x,y]) fT (Xam I.sz (Xae _)) (zgQ rx ry eT)
  refine ⟨.ref s.heap.objs.size,_,I2,rfl,⟨_,x,y,fT.1,rfl,rfl,fun ys hy=>by rw [zgS hy p1];exact e1,fun ys hy=>by rw [zgS hy p2];exact e2⟩,
   ⟨z4,(sb.2 _ TIz).trans (kk _ _ TIz TITO TI1 TI2 hI),⟨_,_,sb.extBut _ _ D.oz O1⟩,m1.at fun o e=>sb.extBut _ _ D.az e,m2.at fun o e=>sb.extBut _ _ D.bz e⟩,fun d hb=>?_⟩
  have hlt:d<s.heap.objs.size:=by
   obtain ⟨_,g1,_⟩:=h1
   obtain ⟨_,g2,_⟩:=h2
   simp only [Xaq,Xbd,or_false] at hb
   rcases hb with rfl | rfl | rfl | rfl | rfl
   ·exact Xah hz
   ·exact Xah hI
   ·exact Xah hO
   ·exact Xah g1
   ·exact Xah g2
  rw [zah (Xat hlt)]
  exact (hf d hb).1
 done:=by
  intro X hP hw hK hc i pins s σ H E I hf st hg
  subst hP hw hK
  obtain ⟨xs,p1,hx⟩:=hg
  obtain ⟨t1,r1,f1⟩:=I.sqx p1
  obtain ⟨hz,hI,⟨a,b,hO⟩,h1,h2⟩:=st
  have nO:H TO=none:=(hf TO (by simp)).1
  have far:l1≠TO:=fun e=>by rw [SqX,e,nO] at p1;cases p1
  have hT:s.TypeIs (.ref z) "zip" := ⟨_,hz,rfl⟩
  have e1:=r1.length
  unfold pyNext
  refine Xaa (Xbq (wpAny_callSpecial?_slot (name:=Str.ofString "__next__") hT F.slot_zip_next (XaM F.slot_zip_next hT F.entry_zip_next
   (zh1 (I.ok.hd hc) D (zfD f1 hz far h1 h2) hz hI h1 f1 (by simp;omega) fun h' e kk he=>?_) (F.args_zip_next_1 _))))
  obtain ⟨o,ho,hcl⟩:=he
  refine Xaa (wpAny_isInstance (T := "StopIteration") (b:=true) ⟨o,ho,hcl⟩ isSubtype_stop ?_)
  refine Xac ⟨rfl,I.turnedL (t':=s.toks) (ch:=[z,TI,TO,i1,i2]) (fun d o hb e=>?_) hf⟩
  simp only [Xaq,Xbd,or_false,not_or] at hb
  exact kk d o hb.1 hb.2.2.2.1 e
 self:=fun _ _ _ _ _ st h=>wpAny_pyIter_zip st.1 h
inductive iZipX_1 (R:It→Hp→Prop)(vs:List V)(H1:Hp):Prop
 | mk (t:_) (a:_) (b:_) (xs:_) (ys:_) (z0_:vs=[.ref a,.ref b]) (z1_:SqX t H1 a xs) (z2_:SqX t H1 b ys) (z3_:R (Ity t a b) H1)
def iZipX (ta:TA):TI:=fun σ H R=>ta σ H (iZipX_1 R)
theorem zhd {X:Cx}{a b:Expr}{ta:TA}{p pos:Pos}{elts:List Expr}{kt:Nat}{tp:Pos}(hg:Gl X "zip")(hm:X.mg "zip" = none)(ha:PA X [a,b] ta)(hs:starEach [a,b] X.env=(false,eval a X.env) :: starEach [b] X.env:=by rfl)(hs2:(backTo pos (starEach [b] X.env)).any (·.1)=false:=by rfl) :
  PI X (.Tuple elts kt tp) (.Call (.Name "zip" p) [a,b] [] pos) (iZipX ta):=by
 intro pins s σ H R I h
 refine Call_ (zdz I hg hm ziL (PyProof.Rows.callWith_type1 (thn (ha pos pins s σ H _ I h) fun us s1 hh_=>?_) hs hs2))
 obtain ⟨vs,H1,I1,r1,q1⟩:=hh_
 obtain ⟨t,l1,l2,xs,ys,e,p1,p2,q⟩:=q1
 subst e
 cases r1 with
 | cons ra rr=>cases rr with
  | cons rb rr =>
   cases rr
   cases ra;cases rb
   obtain ⟨t1,v1,f1⟩:=I1.sqx p1
   obtain ⟨t2,v2,f2⟩:=I1.sqx p2
   refine zhM f1 f2 fun h' n hn hz hI hO h1 h2 kk=>?_
   refine wpAny_pyIter_zip hz ?_
   have I2:Inv X pins σ H1 { s1 with heap:=h',toks:=s1.toks }:=I1.kept kk
   have ge:∀ b,n≤b→FpOk X pins H1 b:=fun b hb=>I1.fpOk (by rw [← hn];exact hb) (I1.hok.fresh (by rw [← hn];exact hb))
   have ne:∀ i j:Nat,i≠j→(n+i:Nat)≠n+j:=fun i j h=>by omega
   refine ⟨n+4,[n+4,n+2,n+3,n,n+1],_,_,H1,rfl,I2,zgO t l1 l2 (n+4) (n+2) (n+3) n (n+1) ⟨ne 3 4 (by decide),ne 0 4 (by decide),ne 1 4 (by decide),ne 3 0 (by decide),ne 3 1 (by decide),ne 0 1 (by decide)⟩
    (ne 2 4 (by decide)) (ne 2 3 (by decide)) (ne 2 0 (by decide)) (ne 2 1 (by decide)),⟨hz,hI,⟨_,_,hO⟩,h1,h2⟩,fun b hb=>ge b ?_,q⟩
   simp only [Xaq,Xbd,or_false] at hb
   rcases hb with rfl | rfl | rfl | rfl | rfl
   ·exact Nat.le_add_right _ _
   ·exact Nat.le_add_right _ _
   ·exact Nat.le_add_right _ _
   ·exact Xae _
   ·exact Nat.le_add_right _ _
theorem zhI {t:Bool}{g:TG}{tf:TT}{te:TE}{Q:List V→Hp→Prop}{σ:St}{H:Hp}{a b:Addr}{xs ys:List V}(Pv:Nat→List V→St→Hp→Prop)(he:xs.length=ys.length)(hn:xs.length≤sizeLine)(h0:Pv 0 [] σ H)(hl:∀ i rs σ H,i≤xs.length→Pv i rs σ H→SqX t H a xs∧SqX t H b ys∧rs.length≤i)
  (hs:∀ i x y T rs σ H,xs[i]? = some x→ys[i]? = some y→H T=none→Pv i rs σ H→g (.ref T) σ (upd H T (.tup [x,y])) fun σ2 H2=>tf σ2 H2 fun b H3=>if b=true then te σ2 H3 fun y H4=>Pv (i+1) (rs ++ [y]) σ2 H4 else Pv (i+1) rs σ2 H3)
  (hd:∀ rs σ H,Pv xs.length rs σ H→Q rs H):zgG (Ity t a b) g tf te Q σ H:=by
 refine ⟨fun i m rs σ H=>m=xs.length - i∧i≤xs.length∧Pv i rs σ H,⟨xs.length,by simp,Nat.zero_le _,h0⟩,?_⟩
 rintro i m rs σ H ⟨rfl,hi,p⟩
 obtain ⟨q,q2,hz⟩:=hl i rs σ H hi p
 by_cases hlt:i<xs.length
 ·refine .inr ⟨⟨xs,xs[i],ys,ys[i]'(by omega),q,q2,by simp [hlt],by simp [he ▸ hlt]⟩,by omega,Pv (i+1),fun ys' σ' H' p'=>⟨xs.length - (i+1),by omega,rfl,hlt,p'⟩,fun v H' y=>?_⟩
  obtain ⟨T,x,y',hT,rfl,rfl,y1,y2⟩:=y
  exact hs i x y' T rs σ _ (y1 xs q) (y2 ys q2) hT p
 ·have e:i=xs.length:=by omega
  exact .inl ⟨⟨xs,q,by omega⟩,by omega,hd rs σ H (e ▸ p)⟩
theorem zaJ (T:String){X:Cx}{K:W.Frag}(hK:X.K=K):zbU X (.builtin "isinstance") (fun xs H Q=>∃ x t b,xs=[x,.ty T]∧TyOf K H x t∧W.kitOne K t (.type T)=some b∧Q (.bl b) H):=by
 subst hK
 intro pins s σ H xs us Q I r h
 obtain ⟨x,t,b,rfl,ty,e,q⟩:=h
 obtain ⟨u,u2,rfl,rx,r2⟩:=zfd r
 obtain rfl:u2=Value.type T:=r2
 exact zeS I rx ty e fun tk=>⟨.bl b,H,I.tok _,rfl,q⟩
section
variable {X:Cx}{K:W.Frag}
theorem zbg {x:Str}{n:Int}{pos:Pos}(hg:Gl X x)(h:∃ t,X.mg x=some (.int n t))(hd:(x == ("__debug__" : Str))=false:=by decide):PE X (.Name x pos) (tC (.int n)):=by
 obtain ⟨t,h⟩:=h
 exact zee hg h ⟨_,rfl⟩ hd
end
def dP {α:Type}(ds us zs:List α):List α:=us ++ ds
theorem Vals.dP {ds:List V}{es:List Value}(d:Vals ds es){vs zs:List V}{us ws:List Value}(g:Vals vs us)(h:Vals zs ws):Vals (dP ds vs zs) (dP es us ws):=g.append d
theorem ziT:RelV (.ty "str") (.type "str"):=rfl
theorem zcf:RelV (.ty "tuple") (.type "tuple"):=rfl
theorem zg1:RelV (.ty "list") (.type "list"):=rfl
theorem zjb:bootBuiltins "str" = some (.type "str"):=by decide +kernel
theorem zbi:bootBuiltins "tuple" = some (.type "tuple"):=by decide +kernel
theorem zcc:bootBuiltins "list" = some (.type "list"):=by decide +kernel
end L2
namespace Cb
open PySem L2
structure Blt (mg:Str→Option Value):Prop where
 len:mg "len" = none
 sum:mg "sum" = none
 all:mg "all" = none
 max:mg "max" = none
 min:mg "min" = none
 int:mg "int" = none
 bool:mg "bool" = none
 isinstance:mg "isinstance" = none
 range:mg "range" = none
 enumerate:mg "enumerate" = none
 zip:mg "zip" = none
 str:mg "str" = none
 tuple:mg "tuple" = none
 list:mg "list" = none
inductive Lk (H:Hp):Nat→V→V→Prop where
 | int {n:Nat} (i:Int):Lk H n (.int i) (.int i)
 | seq {n:Nat} {t:Bool} {a b:Addr} {xs ys:List V} (ha:SqX t H a xs) (hb:SqX t H b ys) (hl:xs.length=ys.length) (hz:xs.length≤sizeLine) (h:∀ (i:Nat) (x y:V),xs[i]? = some x→ys[i]? = some y→Lk H n x y):Lk H (n+1) (.ref a) (.ref b)
theorem Lk.same {H H':Hp}{n:Nat}{v w:V}(h:Lk H n v w)(s:Same H H'):Lk H' n v w:=by
 induction h with
 | int i=>exact .int i
 | seq ha hb hl hz _ ih=>exact .seq (s _ _ ha) (s _ _ hb) hl hz ih
def NN (ext:List (Str×V)):Prop:=ext=[]∨∃ r:Int,ext=[(("room" : Str),V.int r)]
structure Ob (C:Addr)(H:Hp)(a p:Addr)(ws:List V)(ext:List (Str×V)):Prop where
 ex:∃ dx hd,H a=some (.ins C dx (("head",.str hd) :: ("held",.ref p) :: ext))
 ls:H p=some (.lst ws)
 nn:NN ext
structure ClsOk (K:W.Frag)(C:Addr):Prop where
 cl:Cls K C
 head:NoAttr K C "head"
 held:NoAttr K C "held"
 room:NoAttr K C "room"
inductive spIsNum (vs:List V)(H:Hp)(Q:VK)(u3_:XK):Prop
 | mk (a b:Int) (z0_:vs=[.int a,.int b]) (z1_:Q (.bl (decide (0≤a∧a≤b))) H)
inductive spIsWord (vs:List V)(H:Hp)(Q:VK)(u3_:XK):Prop
 | mk (a:Int) (z0_:vs=[.int a]) (z1_:Q (.bl (decide (0≤a∧a≤255))) H)
inductive spChkWord (vs:List V)(H:Hp)(Q:VK)(u3_:XK):Prop
 | mk (a:Int) (z0_:vs=[.int a]) (z1_:0≤a) (z2_:a≤255) (z3_:Q .non H)
inductive spLen (C:Addr)(L:List V→Nat)(vs:List V)(H:Hp)(Q:VK)(u3_:XK):Prop
 | mk (a:_) (p:_) (ws:_) (ext:_) (z0_:vs=[.ref a]) (z1_:Ob C H a p ws ext) (z2_:Q (.int (L ws:Int)) H)
inductive spState (C:Addr)(vs:List V)(H:Hp)(Q:VK)(u3_:XK):Prop
 | mk (a:_) (p:_) (ws:_) (ext:_) (z0_:vs=[.ref a]) (z1_:Ob C H a p ws ext) (z2_:∀ q,H q=none→Q (.ref q) (upd H q (.tup ws)))
inductive spInit (K:W.Frag)(vs:List V)(H:Hp)(Q:VK)(u3_:XK):Prop
 | mk (a:_) (C:_) (dx:_) (p:_) (hd:_) (z0_:vs=[.ref a,.str hd,.ref p]) (z1_:H a=some (.ins C dx [])) (z2_:ClsOk K C) (z3_:∀ H',H' a=some (.ins C dx [("head",.str hd),("held",.ref p)])→(∀ b,b≠a→H' b=H b)→Q .non H')
end Cb
end
section
namespace L2
open PySem PySem.Spec PyProof.Rows PySem.SeqAt
section
variable {X:Cx}{K:W.Frag}
inductive tFs2_1 (Q:VK)(a:Str)(y:V)(H2:Hp):Prop
 | mk (b:Str) (z0_:y = .str b) (z1_:b.length≤1000) (z2_:Q (.str (Str.empty ++ a ++ b)) H2)
inductive tFs2_2 (tb:TE)(σ:St)(Q:VK)(x:V)(H1:Hp):Prop
 | mk (a:Str) (z0_:x = .str a) (z1_:a.length≤1000) (z2_:tb σ H1 (tFs2_1 Q a))
def tFs2 (ta tb:TE):TE:=fun σ H Q=>ta σ H (tFs2_2 tb σ Q)
theorem pe_fs2 {e v:Expr}{pos p2:Pos}{ta tb:TE}(he:PE X e ta)(hv:PE X v tb)(hE:evalEach [] X.env=[]:=by rfl):PE X (.JoinedStr [e,.FormattedValue v (-1) none p2] pos) (tFs2 ta tb):=by
 intro pins s σ H Q I h
 refine JoinedStr_many ?_
 rw [hE]
 have l0:Str.empty.length=0:=rfl
 have hz:(3000:Nat)≤sizeLine:=by decide
 refine joinParts_cons (thn (he pins s σ H _ I h) fun u s1 hh_=>?_)
 obtain ⟨x,H1,I1,rx,a,ex,la,q⟩:=hh_
 subst ex
 obtain ⟨t,rfl⟩:=(show ∃ t,u=Value.str a t from rx)
 refine ⟨by rw [strLen_append];omega,?_⟩
 refine joinParts_cons (FormattedValue_plain (thn (hv pins s1 σ H1 _ I1 q) fun u2 s2 hh_=>?_))
 obtain ⟨y,H2,I2,ry,b,ey,lb,q2⟩:=hh_
 subst ey
 obtain ⟨t2,rfl⟩:=(show ∃ t,u2=Value.str b t from ry)
 refine formatField_str (fun t' tk=>⟨by rw [strLen_append,strLen_append];omega,?_⟩) (by omega)
 exact joinParts_nil ⟨.str (Str.empty ++ a ++ b),H2,(I2.tok _).tok _,⟨_,rfl⟩,q2⟩ (by rw [strLen_append,strLen_append];omega)
theorem zcn:∀ {ns:List Int} {us:List Value},Vals (ns.map V.int) us→∀ (j:Nat) (h:j<us.length) (h2:j<ns.length),∃ t,us[j]=Value.int ns[j] t
 | [],_,r,j,h,h2=>absurd h2 (Nat.not_lt_zero _)
 | n :: ns,us,r,j,h,h2=>by
  cases r with
  | cons r1 r2 =>
   cases j with
   | zero=>exact r1
   | succ j=>exact zcn r2 j (by simpa using h) (by simpa using h2)
theorem all_eq {ns ms:List Int}(hl:ns.length=ms.length):(List.range ns.length).all (fun j=>ns[j]? == ms[j]?)=decide (ns=ms):=by
 rw [Bool.eq_iff_iff,Xbp,decide_eq_true_iff]
 constructor
 ·intro h
  apply List.ext_getElem? 
  intro i
  by_cases hi:i<ns.length
  ·exact beq_iff_eq.mp (h i (List.mem_range.mpr hi))
  ·rw [XaB (by omega),XaB (by omega)]
 ·intro h i _
  rw [h];exact beq_iff_eq.mpr rfl
end
end L2
end
section
namespace L2
open PySem PySem.Spec PyProof.Rows Builtin
section
variable {prog:Program}{w:World}{A:Around}{E:Value→Shared→Prop}{s:Shared}{K:W.Frag}{x y C f:Addr}{ox oy:Obj}{od oe:Option Obj}
end
section
variable {X:Cx}
end
section
variable {prog:Program}{w:World}{A:Around}{E:Value→Shared→Prop}{s:Shared}
end
section
variable {X:Cx}{o:Expr}{td:TE}{pos p1 p2 p3:Pos}{k0:Nat}
end
section
variable {X:Cx}{K:W.Frag}
theorem zij {x:Str}{z:Str}{pos:Pos}(hg:Gl X x)(h:∃ t,X.mg x=some (.str z t))(hd:(x == ("__debug__" : Str))=false:=by decide):PE X (.Name x pos) (tC (.str z)):=by
 obtain ⟨t,h⟩:=h
 exact zee hg h ⟨_,rfl⟩ hd
theorem zik {x:Str}{a:Addr}{pos:Pos}(hg:Gl X x)(h:X.mg x=some (.ref a))(hd:(x == ("__debug__" : Str))=false:=by decide):PE X (.Name x pos) (tC (.ref a)):=zee hg h rfl hd
theorem ziK (hK:X.K=K):zbU X (.builtin "isinstance") (fun xs H Q=>∃ x t D b,xs=[x,.ref D]∧TyOf K H x t∧W.kitOne K t (.ref D)=some b∧Q (.bl b) H):=by
 subst hK
 intro pins s σ H xs us Q I r h
 obtain ⟨x,t,D,b,rfl,ty,e,q⟩:=h
 obtain ⟨u,u2,rfl,rx,r2⟩:=zfd r
 obtain rfl:u2=Value.ref D:=r2
 exact zeS I rx ty e fun tk=>⟨.bl b,H,I.tok _,rfl,q⟩
end
theorem ziy {K:W.Frag}{t:Value}{D:Addr}(h:W.isIn K t D=true):W.kitOne K t (.ref D)=some true:=by
 unfold W.isIn at h
 unfold W.kitOne W.kitCls
 by_cases e:(t == Value.ref D)=true
 ·rw [if_pos e]
 ·rw [if_neg e]
  simp only [Xbt,XaY,beq_iff_eq] at h
  rcases h with h | h
  ·exact absurd (beq_iff_eq.mpr h) e
  ·dsimp only
   rw [if_pos (by simp only [XaY,beq_iff_eq];exact h.1.1)]
   exact h.2
section
variable {X:Cx}{e:Expr}{p pos:Pos}{ta:TE}
end
section
variable {prog:Program}{w:World}{A:Around}{E:Value→Shared→Prop}{s:Shared}
end
section
variable {X:Cx}{o:Expr}{td tv:TE}{pos p1 p2 p3:Pos}{k0:Nat}
end
end L2
end
section
namespace L2
open PySem PySem.Spec PyProof.Rows HT PySem.SeqAt
section
section
variable {prog:Program}{w:World}{A:Around}{E:Value→Shared→Prop}{s:Shared}
theorem ziJ {t b:Addr}{ws:List Value}{Q:Value→Shared→Prop}(ht:IsTup s.heap t #[])(hb:IsTup s.heap b ws.toArray)(h:Q (.ref b) s):wpAny (model prog w) A (binaryOp .Add (.ref t) (.ref b)) Q E s:=by
 obtain ⟨⟨cls,dd,data,sl⟩,ho,hc,n,hd⟩:=id ht
 obtain ⟨⟨cls2,dd2,data2,sl2⟩,ho2,hc2,n2,hd2⟩:=id hb
 simp only at hc hd hc2 hd2
 subst hc hd hc2 hd2
 exact concat_meets ⟨_,ho,rfl⟩ ⟨_,ho2,rfl⟩ noFill_tuple_add seq_tuple_add PySem.F.slot_tuple_add PySem.F.entry_tuple_add (PySem.F.args_tuple_add_2 _ _)
   (tuple_addW0 t b #[] ws.toArray n n2 dd dd2 sl sl2 rfl) ⟨ho,ho2,h⟩
theorem zcD {t sl:Addr}{items:Array Value}{vl vu:Value}{lo hi:Option Int}{Q:Value→Shared→Prop}(ht:IsTup s.heap t items)(hs:s.heap.IsSliceOf sl vl vu .none)(pl:IsPart vl lo)(pu:IsPart vu hi)
  (hw:sIx items.size 0 lo=0∧sIx items.size items.size hi=items.size) (h:Q (.ref t) s):wpAny (model prog w) A (getItem (.ref t) (.ref sl)) Q E s:=by
 obtain ⟨os,hos,hcs,hds⟩:=id hs
 have hTs:s.TypeIs (.ref sl) "slice" := ⟨os,hos,hcs⟩
 unfold getItem
 try with_reducible refine Xaz ?_
 first | refine Xaa (Xac ?_) | skip
 refine Xaa (wpAny_sequenceKey ht.typeIs (by decide) ?_)
 refine Xaa (wpAny_callSpecial?_slot (name:=Str.ofString "__getitem__") ht.typeIs PyProof.Rows.slot_tuple_getitem
  (XaM PyProof.Rows.slot_tuple_getitem ht.typeIs entry_tuple_getitem ?_ (args_tuple_getitem _ _)))
 show wpAny _ _ (Builtin.Tuple.tupleItemsOf (.ref t) >>= _) _ _ s
 refine Xaa (tupleItemsOf_ ht ?_)
 refine Xaa (Xbo hTs ?_)
 rw [if_pos (by decide)]
 refine Xaa (zbF hs pl pu ?_)
 rw [hw.1,hw.2,Nat.sub_zero]
 have hyes:((((0:Nat):Int) == 0 && (1:Int) == 1 && items.size == items.size)=true):=by simp
 show wpAny _ _ (if (((0:Nat):Int) == 0 && (1:Int) == 1 && items.size == items.size)=true then _ else _) _ _ s
 rw [if_pos hyes]
 refine Xaa (m:=Builtin.Tuple.tupleIsExact _) ?_
 unfold Builtin.Tuple.tupleIsExact
 refine Xaa (Xbo ht.typeIs (Xac ?_))
 rw [if_pos (by decide)]
 refine Xaa (Xbm ?_)
 exact Xac ⟨_,rfl,Xac h⟩
end
end
section
variable {X:Cx}{K:W.Frag}
inductive rSlT2 (K:W.Frag)(x:V)(lo:Option Int)(hi:Option Int)(H:Hp)(Q:VK):Prop
 | mk (a:_) (xs:_) (z0_:x = .ref a) (z1_:SqT K H a xs) (z2_:(cutV xs lo hi=xs→Q (.ref a) H)) (z3_:∀ p,H p=none→Q (.ref p) (upd H p (.tup (cutV xs lo hi))))
theorem zff (hK:X.K=K):SlR X (rSlT2 K):=by
 subst hK
 intro pins s σ H x v vl vu lo hi sl Q I rx hs pl pu h
 obtain ⟨a,xs,rfl,hx,q0,q⟩:=h
 by_cases hw:sIx xs.length 0 lo=0∧sIx xs.length xs.length hi=xs.length
 ·cases rx
  obtain ⟨its,r,ht,hz⟩:=I.tuple hx
  have hlen:its.toArray.size=xs.length:=by rw [Xaj];exact r.length.symm
  refine ⟨"tuple",_,PyProof.Rows.slot_tuple_getitem.lookup,ht.typeIs,?_⟩
  refine zcD ht hs pl pu (by rw [hlen];exact hw) ?_
  exact ⟨.ref a,H,I,rfl,q0 (by unfold cutV;rw [hw.1,hw.2];simp)⟩
 ·exact sl_tup pins s σ H _ v vl vu lo hi sl Q I rx hs pl pu ⟨a,xs,rfl,hx,hw,q⟩
inductive rCatT2 (K:W.Frag)(x:V)(y:V)(H:Hp)(Q:VK):Prop
 | mk (a:_) (b:_) (xs:_) (ys:_) (z0_:x = .ref a) (z1_:y = .ref b) (z2_:SqT K H a xs) (z3_:SqT K H b ys) (z4_:xs.length+ys.length≤sizeLine) (z5_:(xs=[]→Q (.ref b) H)) (z6_:(ys=[]→Q (.ref a) H)) (z7_:(∀ p,H p=none→Q (.ref p) (upd H p (.tup (xs ++ ys)))))
theorem zin (hK:X.K=K):OpR X (binaryOp .Add) (rCatT2 K):=by
 subst hK
 intro pins s σ H x y v u Q I rx ry h
 obtain ⟨a,b,xs,ys,rfl,rfl,ha,hb,hz,q0,q1,q2⟩:=h
 by_cases hx:xs=[]
 ·cases rx
  cases ry
  obtain ⟨its,r1,p1,_⟩:=I.tuple ha
  obtain ⟨its2,r2,p2,_⟩:=I.tuple hb
  rw [r1.nil_iff.mpr hx] at p1
  exact ziJ p1 p2 ⟨.ref b,H,I,rfl,q0 hx⟩
 ·exact zjE pins s σ H _ _ v u Q I rx ry ⟨a,b,xs,ys,rfl,rfl,ha,hb,hx,hz,q1,fun _=>q2⟩
theorem ziI {g:TG}{tf:TT}{te:TE}{Q:List V→Hp→Prop}{σ:St}{H:Hp}{a:Addr}{xs:List V}(Pv:Nat→List V→St→Hp→Prop)(hn:xs.length≤sizeLine)(h0:Pv 0 [] σ H)(hl:∀ i ys σ H,i≤xs.length→Pv i ys σ H→SqT K H a xs∧ys.length≤i)
  (hs:∀ i x ys σ H,xs[i]? = some x→Pv i ys σ H→g x σ H fun σ2 H2=>tf σ2 H2 fun b H3=>if b=true then te σ2 H3 fun y H4=>Pv (i+1) (ys ++ [y]) σ2 H4 else Pv (i+1) ys σ2 H3)
  (hd:∀ ys σ H,Pv xs.length ys σ H→Q ys H):zgG (Itt K a) g tf te Q σ H:=by
 refine ⟨fun i m ys σ H=>m=xs.length - i∧i≤xs.length∧Pv i ys σ H,⟨xs.length,by simp,Nat.zero_le _,h0⟩,?_⟩
 rintro i m ys σ H ⟨rfl,hi,p⟩
 obtain ⟨q,hz⟩:=hl i ys σ H hi p
 by_cases hlt:i<xs.length
 ·refine .inr ⟨⟨xs,xs[i],q,by simp [hlt]⟩,by omega,Pv (i+1),fun ys' σ' H' p'=>⟨xs.length - (i+1),by omega,rfl,hlt,p'⟩,fun x H' y=>?_⟩
  obtain ⟨e,y⟩:=y
  subst e
  exact hs i x ys σ _ (y xs q) p
 ·have e:i=xs.length:=by omega
  subst e
  exact .inl ⟨⟨xs,q,Xae _⟩,by omega,hd ys σ H p⟩
end
end L2
end
section
namespace L2
open PySem PySem.Spec PyProof.Rows HT
def Slid (fs ch:List Addr)(h h':Heap):Prop:=∀ b o,h.get? b=some o→b ∉ ch→(b ∉ fs→h'.get? b=some o)∧∃ sl,h'.get? b=some { o with slots:=sl }
theorem Slid.of {fs ch:List Addr}{h h':Heap}(k:∀ b o,h.get? b=some o→b ∉ ch→h'.get? b=some o):Slid fs ch h h':=fun b o e hc=>⟨fun _=>k b o e hc,o.slots,k b o e hc⟩
theorem Slid.trans {fs ch:List Addr}{h1 h2 h3:Heap}(x:Slid fs ch h1 h2)(y:Slid fs ch h2 h3):Slid fs ch h1 h3:=fun b o e hc=>by
 obtain ⟨x1,sl,x2⟩:=x b o e hc
 refine ⟨fun hf=>(y b o (x1 hf) hc).1 hf,?_⟩
 obtain ⟨_,sl2,y2⟩:=y b _ x2 hc
 exact ⟨sl2,y2⟩
theorem Slid.mono {fs fs' ch ch':List Addr}{h h':Heap}(x:Slid fs ch h h')(hf:∀ b∈fs,b∈fs')(hc:∀ b∈ch,b∈ch'):Slid fs' ch' h h':=fun b o e n=>⟨fun z=>(x b o e fun q=>n (hc b q)).1 fun q=>z (hf b q),(x b o e fun q=>n (hc b q)).2⟩
def XAt (h:Heap)(e T:Addr)(cls fl:Value)(od:Option Addr):Prop:=∃ oe vs oT ts,h.get? e=some oe∧(oe.cls=cls∧oe.dict=od)∧oe.data = .fields vs∧vs[1]? = some (.ref T)∧T≠e∧h.get? T=some oT∧oT.data = .fields ts∧ts[3]? = some fl
section
variable {M:Model}{A:Around}{E:Value→Shared→Prop}{s:Shared}
theorem zdS (f:Array Value→Array Value)(o:Obj):(Obj.mapFields f o).dict=o.dict:=by
 obtain ⟨c,d,dt,sl⟩:=o
 cases dt <;> rfl
theorem zgK {base:Heap}{env:Env}{outer:List Env}{L e:Addr}{oe:Obj}{vs:Array Value}{head:Value}{hadNext:Bool}{Q:Unit→Shared→Prop}
  (hfr:A.frames=some (env :: outer)) (hl:s.heap.FunFrames base (env :: outer)) (hf:env.frame=some L)
  (he:s.heap.get? e=some oe) (hd:oe.data = .fields vs) (hsz:1<vs.size)
  (h:∀ h' T,s.heap.get? T=none→Slid ((env :: outer).filterMap (·.frame)) [e] s.heap h'→XAt h' e T oe.cls (rawInt L) oe.dict→Q () { s with heap:=h' }) :
  wpAny M A (do let a ← frameOf env;let pl ← entryPlaceOf L hadNext;let b ← EntryCells.newEntry head a .none (rawInt L) .none pl;setField (.ref e) 1 b) Q E s:=by
 have hene:e ∉ (env :: outer).filterMap (·.frame):=fun hm=>by
  obtain ⟨_,o,ho,hnf⟩:=hl.mem hm
  rw [he] at ho;injection ho with ho;subst ho;exact hnf vs hd
 refine Xaa (wpAny_frameOf_fun hfr hl hf fun h₁ hs₁=>?_)
 refine Xaa (wpAny_entryPlaceOf fun pl hpl=>?_)
 unfold EntryCells.newEntry newFields
 refine Xaa (XaJ ?_ (hpl.sizeOk5 _ _ _ _ _))
 have he₁:h₁.get? e=some oe:=(hs₁.2.1 e hene).trans he
 have he₂:=Xab (h:=h₁) { cls:=.type "traceback",dict:=none,data:=.fields ([head,.ref L,.none,rawInt L,.none] ++ (if pl.isEmpty then List.replicate 6 Value.none else pl)).toArray } he₁
 refine XaS he₂ hd hsz (h _ h₁.objs.size ?_ ?_ ?_)
 ·rw [hs₁.1];exact Xbl (Xae _)
 ·intro b o hb hc
  have hbe:b≠e:=fun z=>hc (by rw [z];exact List.mem_singleton_self _)
  have keep:∀ o',h₁.get? b=some o' →
    ((h₁.push { cls:=.type "traceback",dict:=none,data:=.fields ([head,.ref L,.none,rawInt L,.none] ++ (if pl.isEmpty then List.replicate 6 Value.none else pl)).toArray }).update e (Obj.mapFields (·.setIfInBounds 1 (Value.ref h₁.objs.size)))).get? b=some o':=fun o' hb=>by
   rw [XaF _ _ (Ne.symm hbe)]
   exact Xab _ hb
  refine ⟨fun hn=>keep o ((hs₁.2.1 b hn).trans hb),?_⟩
  obtain ⟨sl,hs⟩:=hs₁.2.2 b o hb
  exact ⟨sl,keep _ hs⟩
 ·have hTe:h₁.objs.size≠e:=Xbf (Xah he₁)
  have hd₃:=Obj.data_mapFields hd (·.setIfInBounds 1 (Value.ref h₁.objs.size))
  have he₃:=XaD (Obj.mapFields (·.setIfInBounds 1 (Value.ref h₁.objs.size))) he₂ (Obj.isFreed_of_fields hd₃)
  have hT₃:=(XaF (h₁.push { cls:=.type "traceback",dict:=none,data:=.fields ([head,.ref L,.none,rawInt L,.none] ++ (if pl.isEmpty then List.replicate 6 Value.none else pl)).toArray })
   (Obj.mapFields (·.setIfInBounds 1 (Value.ref h₁.objs.size))) (Ne.symm hTe)).trans (Xag h₁ rfl)
  exact ⟨_,_,_,_,he₃,⟨Obj.cls_mapFields _ _,zdS _ _⟩,hd₃,by simp [hsz],hTe,hT₃,rfl,by first | (simp;done) | (rcases hpl with rfl | ⟨_,_,_,_,_,_,_,rfl⟩ <;> simp)⟩
theorem zet {base:Heap}{env:Env}{outer:List Env}{L e:Addr}{oe:Obj}{vs:Array Value}{Q:Unit→Shared→Prop}(hfr:A.frames=some (env :: outer))(hl:s.heap.FunFrames base (env :: outer))(hf:env.frame=some L)
  (he:s.heap.get? e=some oe) (hd:oe.data = .fields vs) (h1:vs[1]? = some .none)
  (h:∀ h' T,s.heap.get? T=none→Slid ((env :: outer).filterMap (·.frame)) [e] s.heap h'→XAt h' e T oe.cls (rawInt L) oe.dict→Q () { s with heap:=h' }):wpAny M A (noteFrame (.ref e) env) Q E s:=by
 unfold noteFrame
 simp only [hf]
 refine Xaa (XaI he hd h1 ?_)
 rw [if_neg (by decide)]
 exact zgK hfr hl hf he hd (Xbk.mp h1).1 h
theorem zc5 {base:Heap}{env:Env}{outer:List Env}{L e T:Addr}{cls:Value}{od:Option Addr}{Q:Unit→Shared→Prop}(hfr:A.frames=some (env :: outer))(hl:s.heap.FunFrames base (env :: outer))(hf:env.frame=some L)
  (x:XAt s.heap e T cls .none od)
  (h:∀ h' T',s.heap.get? T'=none→Slid ((env :: outer).filterMap (·.frame)) [e,T] s.heap h'→XAt h' e T' cls (rawInt L) od→Q () { s with heap:=h' }):wpAny M A (noteFrame (.ref e) env) Q E s:=by
 obtain ⟨oe,vs,oT,ts,he,⟨hcls,hdn⟩,hd,h1,hTe,hT,hdT,h3⟩:=x
 subst hcls hdn
 unfold noteFrame
 simp only [hf]
 refine Xaa (XaI he hd h1 ?_)
 rw [if_pos (show (Value.ref T != Value.none)=true from by simp)]
 refine Xaa (XaI hT hdT h3 ?_)
 rw [if_neg (show ¬ ((Value.none == rawInt L)=true) from by simp [rawInt])]
 refine Xaa (XaS hT hdT (Xbk.mp h3).1 ?_)
 have other:∀ b,b≠T→(s.heap.update T (Obj.mapFields (·.setIfInBounds 3 Value.none))).get? b=s.heap.get? b:=fun b hb=>XaF _ _ (Ne.symm hb)
 have noRecord:∀ b o,s.heap.get? b=some o→(∀ vs,o.data≠.fields vs)→b≠T:=fun b o hb hnf q=>by
  rw [q,hT] at hb;injection hb with hb;subst hb;exact hnf ts hdT
 refine zgK hfr (hl.of_keeps fun b o hb hnf=>⟨o,(other b (noRecord b o hb hnf)).trans hb,rfl⟩) hf ((other e (Ne.symm hTe)).trans he) hd (Xbk.mp h1).1 fun h' T' fT sl x'=>h h' T' ?_ ?_ x'
 ·by_cases z:T'=T
  ·have hd':=Obj.data_mapFields hdT (·.setIfInBounds 3 Value.none)
   have q:=XaD (Obj.mapFields (·.setIfInBounds 3 Value.none)) hT (Obj.isFreed_of_fields hd')
   rw [z,q] at fT;cases fT
  ·exact (other T' z).symm.trans fT
 ·refine Slid.trans (Slid.of fun b o e hc=>(other b fun z=>hc (by rw [z];simp)).trans e) (sl.mono (fun _ z=>z) fun b z=>by rw [Xad.mp z];simp)
theorem zc0 {e T:Addr}{cls fl:Value}{od:Option Addr}{Q:Unit→Shared→Prop}(x:XAt s.heap e T cls fl od)(h:∀ h',Slid [] [T] s.heap h'→XAt h' e T cls .none od→Q () { s with heap:=h' }):wpAny M A (setFlight (.ref e) none) Q E s:=by
 obtain ⟨oe,vs,oT,ts,he,hcls,hd,h1,hTe,hT,hdT,h3⟩:=x
 have hsz:=(Xbk.mp h3).1
 refine wpAny_setFlight_none he hd h1 hT hdT hsz (h _ ?_ ?_)
 ·exact Slid.of fun b o e hc=>(XaF _ _ fun z=>hc (by rw [z];exact List.mem_singleton_self _)).trans e
 ·have hd':=Obj.data_mapFields hdT (·.setIfInBounds 3 Value.none)
  have q:=XaD (Obj.mapFields (·.setIfInBounds 3 Value.none)) hT (Obj.isFreed_of_fields hd')
  exact ⟨oe,vs,_,_,(XaF _ _ hTe).trans he,hcls,hd,h1,hTe,q,hd',by simp [hsz]⟩
theorem zd4 {base:Heap}{env:Env}{outer:List Env}{L e:Addr}{oe:Obj}{vs:Array Value}{Q:Unit→Shared→Prop}(hfr:A.frames=some (env :: outer))(hl:s.heap.FunFrames base (env :: outer))(hf:env.frame=some L)
  (he:s.heap.get? e=some oe) (hd:oe.data = .fields vs) (h1:vs[1]? = some .none)
  (h:∀ h' T,s.heap.get? T=none→Slid ((env :: outer).filterMap (·.frame)) [e] s.heap h'→XAt h' e T oe.cls .none oe.dict→Q () { s with heap:=h' }):wpAny M A (leaving env (.ref e)) Q E s:=by
 unfold leaving
 refine Xaa (zet hfr hl hf he hd h1 fun h' T fT sl x=>zc0 x fun h'' sl2 x2=>h h'' T fT ?_ x2)
 intro b o e hc
 obtain ⟨s1,t1,s2⟩:=sl b o e hc
 have nT:b ∉ [T]:=fun z=>by rw [Xad.mp z,fT] at e;cases e
 refine ⟨fun hn=>(sl2 b o (s1 hn) nT).1 (by simp),?_⟩
 exact (sl2 b _ s2 nT).2
end
end L2
end
section
namespace L2
open PySem PySem.Spec PyProof.Rows HT
section
variable {P:Program}{w:World}{H H':Hp}{h h':Heap}{fs ch:List Addr}
theorem ObjOk.there {a:Addr}{o:HO}(x:ObjOk P w H h a o):∃ u,h.get? a=some u:=by
 cases o with
 | lst xs=>obtain ⟨_,_,_,_,e⟩:=x;exact ⟨_,e⟩
 | tup xs=>obtain ⟨_,_,_,p⟩:=x;obtain ⟨o,e,_⟩:=p;exact ⟨_,e⟩
 | dK kvs=>obtain ⟨_,_,_,_,o,_,_,e,_⟩:=x;exact ⟨_,e⟩
 | dT kvs=>obtain ⟨_,_,_,_,o,_,_,e,_⟩:=x;exact ⟨_,e⟩
 | set S n=>obtain ⟨o,_,_,_,e,_⟩:=x;exact ⟨_,e⟩
 | ins C dx fs=>obtain ⟨_,_,_,e,_⟩:=x;exact ⟨_,e⟩
 | own y=>obtain ⟨_,e⟩:=x;exact ⟨_,e⟩
 | xd fs=>obtain ⟨_,⟨_,_,_,e,_⟩,_⟩:=x;exact ⟨_,e⟩
 | rng lo hi=>obtain ⟨_,_,_,e⟩:=x;exact ⟨_,e⟩
 | frz ob u=>obtain ⟨e,_⟩:=x;exact ⟨_,e⟩
 | tbl ps=>exact ⟨_,x⟩
 | met f y=>exact ⟨_,x⟩
 | ext φ=>obtain ⟨_,⟨_,e⟩,_⟩:=x;exact ⟨_,e⟩
theorem HOk.none_of {a:Addr}(x:HOk P w H h)(e:h.get? a=none):H a=none:=by
 cases q:H a with
 | none=>rfl
 | some o=>obtain ⟨u,z⟩:=(x a o q).there;rw [e] at z;cases z
theorem HOk.slid (x:HOk P w H h)(sl:Slid fs ch h h')(hf:∀ b∈fs,H b=none)(hc:∀ b∈ch,H b=none):HOk P w H h':=fun a o e=>by
 refine (x a o e).stay (fun b u hb q=>?_) (fun _ z=>z) (fun _ _ z=>z)
 have hs:∃ o',H b=some o':=by
  rcases hb with rfl | z
  ·exact ⟨_,e⟩
  ·exact ⟨_,z⟩
 obtain ⟨o',hs⟩:=hs
 exact (sl b u q fun z=>by rw [hc b z] at hs;cases hs).1 fun z=>by rw [hf b z] at hs;cases hs
end
section
variable {X:Cx}{pins:List (Addr×Obj)}{σ:St}{H:Hp}{s:Shared}{h':Heap}{ch:List Addr}
theorem Inv.slid (I:Inv X pins σ H s)(sl:Slid (frs X.stack) ch s.heap h')
  (hc:∀ b∈ch,H b=none∧X.s₀.heap.get? b=none∧b≠X.env.locals∧(∀ x c,X.env.cells.lookup x=some c→c≠b)∧∀ p∈X.pn ++ pins,p.1≠b):Inv X pins σ H { s with heap:=h' }:=by
 have nch:∀ b o,X.s₀.heap.get? b=some o→b ∉ ch:=fun b o e z=>by rw [(hc b z).2.1] at e;cases e
 have nst:∀ b o,X.s₀.heap.get? b=some o→b ∉ X.fs→b ∉ frs X.stack:=fun b o e hb z=>by
  rcases Xaq.mp (I.stkSub b z) with q | q
  ·exact absurd q (Xat (Xaf (Xah e) I.ok.above))
  ·exact hb q
 have slot:∀ b o,s.heap.get? b=some o→b ∉ ch→∃ sl,h'.get? b=some { o with slots:=sl }:=fun b o e n=>(sl b o e n).2
 refine ⟨I.ok,I.os,I.bare,⟨fun b o e n hb hx=>?_,fun b o e n hb hx=>?_,I.base.free,fun b o e hx=>?_,I.base.tups,I.base.frzs,I.base.tbls⟩,?_,fun y c e=>?_,I.free,I.freeC,fun p hp=>?_,I.hok.slid sl (fun b hb=>I.stkFree b hb) (fun b hb=>(hc b hb).1),I.len⟩
 ·exact (sl b o (I.base.keep b o e n hb hx) (nch b o e)).1 (nst b o e hb)
 ·obtain ⟨t,e1⟩:=I.base.slot b o e n hb hx
  obtain ⟨t2,e2⟩:=slot b _ e1 (nch b o e)
  exact ⟨t2,e2⟩
 ·obtain ⟨o',e1⟩:=I.base.there b o e hx
  obtain ⟨t2,e2⟩:=slot b _ e1 (nch b o e)
  exact ⟨_,e2⟩
 ·obtain ⟨m,⟨o,es,ep,ho,hd,r⟩,hl⟩:=I.loc
  obtain ⟨t,e1⟩:=slot _ _ ho fun z=>(hc _ z).2.2.1 rfl
  refine ⟨m,⟨_,es,ep,e1,hd,r⟩,fun i x v e2 e3 e4=>?_⟩
  obtain ⟨u,ru,q⟩:=hl i x v e2 e3 e4
  refine ⟨u,ru,?_⟩
  rcases q with q | ⟨k,c,e,oc,hoc,hod⟩
  ·exact .inl q
  ·obtain ⟨t2,e5⟩:=slot _ _ hoc fun z=>(hc _ z).2.2.2.1 x c e rfl
   exact .inr ⟨k,c,e,_,e5,hod⟩
 ·obtain ⟨v,oc,hoc,hod⟩:=I.cell y c e
  obtain ⟨t2,e5⟩:=slot _ _ hoc fun z=>(hc _ z).2.2.2.1 y c e rfl
  exact ⟨v,_,e5,hod⟩
 ·obtain ⟨e,n,ne,nf,d⟩:=I.pin p hp
  refine ⟨(sl p.1 p.2 e fun z=>(hc _ z).2.2.2.2 p hp rfl).1 fun z=>?_,n,ne,nf,d⟩
  rcases Xaq.mp (I.stkSub _ z) with q | q
  ·exact ne q
  ·exact nf q
theorem Inv.none_ours (I:Inv X pins σ H s){b:Addr}(hb:s.heap.get? b=none)(hx:b ∉ X.ex):X.s₀.heap.get? b=none∧b≠X.env.locals∧(∀ x c,X.env.cells.lookup x=some c→c≠b)∧∀ p∈X.pn ++ pins,p.1≠b:=by
 refine ⟨?_,fun z=>?_,fun x c e z=>?_,fun p hp z=>?_⟩
 ·cases q:X.s₀.heap.get? b with
  | none=>rfl
  | some o=>obtain ⟨o',e⟩:=I.base.there b o q hx;rw [e] at hb;cases hb
 ·obtain ⟨m,⟨o,es,ep,ho,_⟩,_⟩:=I.loc
  rw [← z,hb] at ho;cases ho
 ·obtain ⟨v,oc,hoc,_⟩:=I.cell x c e
  rw [z,hb] at hoc;cases hoc
 ·obtain ⟨e,_⟩:=I.pin p hp
  rw [z,hb] at e;cases e
end
inductive CX1 (P:Program)(w:World)(outer:List Env)(H:Hp)(s:Shared)(E:XK)(e:Value)(s':Shared):Prop
 | mk (ea:_) (T:_) (H':_) (C:_) (od:_) (z0_:e = .ref ea) (z1_:s'.os=s.os) (z2_:AllBare s'.gens) (z3_:Un (frs outer) [] H H' s.heap s'.heap) (z4_:HOk P w H' s'.heap) (z5_:XAt s'.heap ea T (.ref C) .none od) (z6_:s.heap.get? ea=none) (z7_:s.heap.get? T=none) (z8_:H' ea=none) (z9_:H' T=none) (z10_:E (.ref C) od H')
end L2
end
section
namespace L2
open PySem PySem.Spec PyProof.Rows HT
def NsK (K:W.Frag)(N:Addr):Prop:=∃ c d es ep sl,K.lookup N=some ⟨c,d,.dict es ep,sl⟩∧StrKeys es∧nsFind es "__init__" = none
def bmV:List Value:=[.type "ValueError",.type "Exception",.type "BaseException",.type "object"]
inductive TailK (K:W.Frag):List Value→Prop
 | base:TailK K bmV
 | own {A:Addr} {c0:Value} {dd:Option Addr} {cd:ClassData} {sl:Array (Option Value)} {tl:List Value}:K.lookup A=some ⟨c0,dd,.cls cd,sl⟩→NsK K cd.ns→TailK K tl→TailK K (.ref A :: tl)
theorem NsK.ns {K:W.Frag}{N:Addr}{h:Heap}(x:NsK K N)(k:K.In h):∃ m,h.Ns N m∧m "__init__" = none:=by
 obtain ⟨c,d,es,ep,sl,e,hs,hi⟩:=x
 exact ⟨nsFind es,⟨_,es,ep,k _ _ e,rfl,hs,fun _=>rfl⟩,hi⟩
theorem TailK.tail {K:W.Frag}{bm:List Value}{h:Heap}(x:TailK K bm)(k:K.In h):OwnTail h bmV bm:=by
 induction x with
 | base=>exact .base
 | own e n _ ih =>
  obtain ⟨m,hn,hi⟩:=n.ns k
  exact .own (k _ _ e) hn hi ih
section
variable {X:Cx}{x:Str}{C:Addr}{e:Expr}{te:TE}{np cpos pos:Pos}{R:Hp→Prop}
end
end L2
end
section
namespace L2
open PySem PySem.Spec PyProof.Rows HT
theorem PS.nox {X:Cx}{st:Stmt}{t:TS}(h:PS X.nox st t):PS X st t:=fun pins s σ H D I hw =>
 Xaw (h pins s σ H D (I.wish _) hw) (fun _ _ q=>q.unwish) fun _ _ z=>False.elim z
theorem Fun.okX {P:Program}{w:World}{K:W.Frag}{mg:Str→Option Value}{base:Heap}{x qual:Str}{st:Stmt}{f:Addr}{fd:FuncData}{N ps:List Str}{k:Nat}{sp:Sp}(F:Fun K x qual st f fd)(S:FnScope N ps (zai st))(len:∀ vs H Q E,sp vs H Q E→vs.length=ps.length)
  (hbody:∀ (cdv:Value) (A:Around) (outer:List Env) (s:Shared) (H:Hp) (vs:List V) (Q:VK) (E:XK),Room k (A.deeper (envOfC qual (zai st) s.heap.objs.size f cdv))→sp vs H Q E →
   ∃ t,PSs (cxOf (CX1 P w) P w K mg base N qual (zai st) f cdv A outer s H E) (zaO st) t∧t { nx:=fun _ H'=>Q .non H',rt:=Q } (start N vs) H):FnOk P w K mg base (CX1 P w) (k+1) f fd ps sp:=by
 obtain ⟨oc,od,kV,doc,pm,an,cdv,ct,osl,rfl,lk,hcd⟩:=F.ex
 exact ziD lk hcd S len fun A outer s H vs Q E hr hsp=>hbody cdv A outer s H vs Q E hr hsp
abbrev Cx.marked (X:Cx)(e:Value):Cx:={ X with A:=X.A.mark (some e),calm:=false }
theorem Inv.marked {X:Cx}{pins:List (Addr×Obj)}{σ:St}{H:Hp}{s:Shared}(I:Inv X pins σ H s)(e:Value):Inv (X.marked e) pins σ H s:=
 ⟨⟨I.ok.mod,I.ok.kind,I.ok.glob,I.ok.blt,I.ok.above,I.ok.inj,I.ok.has,I.ok.cab,(fun z=>nomatch z),I.ok.frames,I.ok.stk,I.ok.exf,I.ok.bs,I.ok.bsz,I.ok.noex,I.ok.exfs,I.ok.funs,I.ok.frf⟩,I.os,I.bare,I.base,I.loc,I.cell,I.free,I.freeC,I.pin,I.hok,I.len⟩
theorem Inv.unmarked {X:Cx}{pins:List (Addr×Obj)}{σ:St}{H:Hp}{s:Shared}{e:Value}(hd:X.calm=true→X.A.handled=none)(I:Inv (X.marked e) pins σ H s):Inv X pins σ H s:=
 ⟨⟨I.ok.mod,I.ok.kind,I.ok.glob,I.ok.blt,I.ok.above,I.ok.inj,I.ok.has,I.ok.cab,hd,I.ok.frames,I.ok.stk,I.ok.exf,I.ok.bs,I.ok.bsz,I.ok.noex,I.ok.exfs,I.ok.funs,I.ok.frf⟩,I.os,I.bare,I.base,I.loc,I.cell,I.free,I.freeC,I.pin,I.hok,I.len⟩
def xIs (ea:Addr)(cls:Value)(od:Option Addr):Heap→Prop:=fun h=>∃ o vs,h.get? ea=some o∧(o.cls=cls∧o.dict=od)∧o.data = .fields vs
section
variable {X:Cx}{pins:List (Addr×Obj)}{σ:St}{H:Hp}{s:Shared}
theorem Inv.trackX {ea:Addr}{cls:Value}{od:Option Addr}(I:Inv X pins σ H s)(hn:H ea=none)(ho:xIs ea cls od s.heap)(h:X.s₀.heap.get? ea=none∧ea≠X.env.locals∧(∀ x c,X.env.cells.lookup x=some c→c≠ea)∧∀ p∈X.pn ++ pins,p.1≠ea):Inv X pins σ (upd H ea (.ext (xIs ea cls od))) s:=by
 have up:∀ b o,H b=some o→upd H ea (.ext (xIs ea cls od)) b=some o:=fun b o e=>by rw [zah (fun z=>by rw [z,hn] at e;cases e)];exact e
 refine ⟨I.ok,I.os,I.bare,⟨I.base.keep,I.base.slot,fun b o e n hx=>?_,I.base.there,fun b xs e=>up _ _ (I.base.tups b xs e),fun b o u e=>up _ _ (I.base.frzs b o u e),fun b ps e=>?_⟩,I.loc,I.cell,?_,fun x c e=>?_,fun p hp=>?_,fun a o e=>?_,I.len⟩
 ·rw [zah (fun z=>by rw [z,h.1] at e;cases e)];exact I.base.free b o e n hx
 ·obtain ⟨more,q⟩:=I.base.tbls b ps e
  exact ⟨more,up _ _ q⟩
 ·rw [zah (Ne.symm h.2.1)];exact I.free
 ·rw [zah (h.2.2.1 x c e)];exact I.freeC x c e
 ·obtain ⟨e,n,r⟩:=I.pin p hp
  exact ⟨e,by rw [zah (h.2.2.2 p hp)];exact n,r⟩
 ·by_cases z:a=ea
  ·subst z
   rw [zab] at e
   cases e
   obtain ⟨oo,vs,e1,e2,e3⟩:=id ho
   refine ⟨ho,⟨oo,e1⟩,fun h1 h2 ⟨o1,v1,q1,q2,q3⟩ k=>⟨o1,v1,k _ q1,q2,q3⟩⟩
  ·rw [zah z] at e
   exact (I.hok a o e).stay (fun _ _ _ q=>q) (fun b q=>up _ _ q) fun b xs q=>up _ _ q
theorem Inv.unname {h':Heap}{m:Str→Option Value}{j:Nat}{n:Str}{u:Option Value}{t':Nat}(I:Inv X pins σ H s)(hN:X.N.Nodup)(hj:X.N[j]? = some n)(hk:X.env.scope.names.lookup n=some .local)
  (hm:s.heap.Ns X.env.locals m) (hn':h'.Ns X.env.locals (fun x=>if x=n then u else m x)) (hs:Heap.SameBut X.env.locals s.heap h'):Inv X pins (σ.set j none) H { s with heap:=h',toks:=t' }:=by
 have hjσ:j<σ.length:=by rw [I.len];exact (Xar.mp hj).1
 have nl:∀ b o,X.s₀.heap.get? b=some o→b≠X.env.locals:=fun b o e=>Xat (Xaf (Xah e) I.ok.above)
 have cne:=I.cne
 refine ⟨I.ok,I.os,I.bare,⟨fun b o e n hb hx=>(hs.2 b (nl b o e)).trans (I.base.keep b o e n hb hx),fun b o e n hb hx=>?_,I.base.free,fun b o e hx=>?_,I.base.tups,I.base.frzs,I.base.tbls⟩,⟨_,hn',fun i y v' e1 e2 e3=>?_⟩,fun y c e=>?_,I.free,I.freeC,fun p hp=>?_,fun b ob e=>?_,by simpa using I.len⟩
 ·obtain ⟨sl,e1⟩:=I.base.slot b o e n hb hx
  exact ⟨sl,(hs.2 b (nl b o e)).trans e1⟩
 ·obtain ⟨o',e1⟩:=I.base.there b o e hx
  exact ⟨o',(hs.2 b (nl b o e)).trans e1⟩
 ·have hi:i≠j:=fun z=>by rw [z,Xbv hjσ] at e2;cases e2
  rw [List.getElem?_set_ne (Ne.symm hi)] at e2
  obtain ⟨m0,hn0,hl⟩:=I.loc
  obtain ⟨u',r',q⟩:=hl i y v' e1 e2 e3
  refine ⟨u',r',?_⟩
  rcases q with ⟨k,e⟩ | ⟨k,c,e,z⟩
  ·refine .inl ⟨k,?_⟩
   have ny:y≠n:=fun e=>hi (zek hN e1 (e ▸ hj))
   have em:m0=m:=by
    obtain ⟨o1,es1,ep1,g1,d1,_,f1⟩:=hn0
    obtain ⟨o2,es2,ep2,g2,d2,_,f2⟩:=hm
    rw [g1] at g2;cases g2
    rw [d1] at d2;cases d2
    funext x;rw [← f1,← f2]
   show (if y=n then u else m y)=_
   rw [if_neg ny,← em];exact e
  ·exact .inr ⟨k,c,e,z.sameBut hs (cne y c e)⟩
 ·obtain ⟨w',z⟩:=I.cell y c e
  exact ⟨w',z.sameBut hs (cne y c e)⟩
 ·obtain ⟨e,n,ne,nf,d⟩:=I.pin p hp
  exact ⟨(hs.2 p.1 ne).trans e,n,ne,nf,d⟩
 ·refine (I.hok b ob e).stay (fun c w' hc q=>(hs.2 c ?_).trans q) (fun _ q=>q) fun _ _ q=>q
  rintro rfl
  have hf:=I.free
  rcases hc with z | hc
  ·rw [z] at hf;rw [hf] at e;cases e
  ·rw [hf] at hc;cases hc
end
end L2
end
section
namespace L2
open PySem PySem.Spec PyProof.Rows HT
section
variable {X:Cx}{k:Nat}{ps:List Str}{sp:Sp}{x fn cn n y:Str}{i j l:Nat}{Cb:Addr}{e:Expr}{t:TA}{px p1 p2 p3 p4 p5 p6 p7 p8 p9:Pos}
end
end L2
end
section
namespace L2
open PySem PySem.Spec PyProof.Rows HT PySem.W PySem.Calls
section
variable {prog:Program}{w:World}{A:Around}{E:Value→Shared→Prop}{s:Shared}{K:Frag}{x C:Addr}{ox:Obj}{oD:Option Obj}
theorem zjf {Q:Option Value→Shared→Prop}(X:K.In s.heap)(I:InstAt s.heap x ox C oD)(hga:findIn K (.ref C) "__getattribute__" = some (some (.builtin "BaseException.__getattribute__")))(hgr:findIn K (.ref C) "__getattr__" = some none)
  (hf:findObj K C oD "__class__" = some (.bind (.builtin "getset_descriptor.__get__") (.builtin "object.__class__"))) (hsub:subIn K (.ref C) (.type "BaseException")=some true) (hm:mroIn K C (.type "object")=some true)
  (h:Q (some (.ref C)) { s with toks:=s.toks+1 }):wpAny (model prog w) A (getAttr? (.ref x) "__class__") Q E s:=by
 obtain ⟨hh,g,d,t,os⟩:=s
 have L0:=I.type (M:=model prog w)
 have L1:=looks_findIn (M:=model prog w) X hga
 have L2:=looks_findIn (M:=model prog w) X hgr
 unfold getAttr? getAttrBy? getAttrBy
 refine Xaa (wpAny_mkText (Xaa (Xbq (Xaz (Xaa (L0.at (Xaa (L1.at ?_))))))))
 have hx2:(Value.builtin "BaseException.__getattribute__" == Value.builtin "object.__getattribute__")=false:=by decide +kernel
 have hx:(onTheHeap (Value.ref C) && Value.builtin "BaseException.__getattribute__" == Value.builtin "object.__getattribute__")=false:=by rw [hx2];rfl
 show wpAny _ _ (if (onTheHeap (Value.ref C) && Value.builtin "BaseException.__getattribute__" == Value.builtin "object.__getattribute__")=true then _ else _) _ _ _
 rw [hx,if_neg Xak]
 unfold getAttrByItsOwn
 have hb:hookBefore (Value.ref C)=typeLookup (Value.ref C) "__getattr__" := rfl
 rw [hb]
 refine Xaa (L2.at ?_)
 refine Xaa (Xbq (Xaz ?_))
 have hc:callGetattribute (Value.ref x) (Value.str "__class__" t) (Value.builtin "BaseException.__getattribute__") false=boundAndCalled (Value.builtin "BaseException.__getattribute__") (Value.ref x) (Value.str "__class__" t):=rfl
 rw [hc]
 unfold boundAndCalled
 rw [PySem.F.excAttr_ValueError.ga.bind (.ref x)]
 refine Xaa (Xac ?_)
 show wpAny _ _ (call (.builtin "BaseException.__getattribute__") [.ref x,.str "__class__" t]) _ _ _
 refine Xba ?_
 have hk:builtinKind "BaseException.__getattribute__" = some .slot:=by decide +kernel
 have hs:splitId "BaseException.__getattribute__" = some ("BaseException","__getattribute__"):=by decide +kernel
 refine codeAny_call_builtin PySem.F.excAttr_ValueError.ga.plain PySem.F.entry_bexc_ga ?_
 have hi:Looks (model prog w) hh (isInstance (.ref x) (.type "BaseException")) true:=L0.andThen (looks_subIn X hsub)
 have ha:=PySem.F.args_bexc_ga (.ref x) (.str "__class__" t)
 have LF:=looks_find (M:=model prog w) X I hf
 refine @check_slot _ _ _ _ _ _ _ _ _ _ _ hk hs hi ha ?_
 unfold Builtin.«object.__getattribute__»
 refine Xaa (wpAny_of_eq (a:=(Value.ref x,[Value.str (Str.ofString "__class__") t])) rfl ?_)
 dsimp only
 refine Xaa (Xac (Xaa (L0.at (Xaa (LF.at ?_)))))
 show wpAny _ _ (holding [Value.builtin "object.__class__"] (call (.builtin "getset_descriptor.__get__") [.builtin "object.__class__",.ref x,.ref C]) >>= ret) _ _ _
 refine Xaa (Xaz (Xba (class_get (s:={ heap:=hh,gens:=g,drawn:=d,toks:=t+1,os:=os }) X I hm ?_)))
 exact Xac (handed_on rfl (Xac h))
structure XCls (K:Frag)(C:Addr):Prop where
 look:∃ c d cd sl,K.lookup C=some ⟨c,d,.cls cd,sl⟩
 ga:findIn K (.ref C) "__getattribute__" = some (some (.builtin "BaseException.__getattribute__"))
 gr:findIn K (.ref C) "__getattr__" = some none
 cf:∀ oD:Option Obj,findObj K C oD "__class__" = some (.bind (.builtin "getset_descriptor.__get__") (.builtin "object.__class__"))
 sub:subIn K (.ref C) (.type "BaseException")=some true
 mro:mroIn K C (.type "object")=some true
end
section
variable {X:Cx}{K:Frag}
theorem zg7:∀ {Ds:List Addr} {its:List Value},Vals (Ds.map V.ref) its→its=Ds.map Value.ref
 | [],_,r=>by cases r;rfl
 | D :: Ds,_,r=>by
  cases r with
  | cons a b=>rw [zg7 b];rw [show _=Value.ref D from a];rfl
end
end L2
end
section
namespace L2
open PySem PySem.Spec PyProof.Rows HT
theorem FnOk.calm {P:Program}{w:World}{K:W.Frag}{mg:Str→Option Value}{base:Heap}{k:Nat}{f:Addr}{fd:FuncData}{ps:List Str}{sp:Sp}(F:FnOk P w K mg base (CX1 P w) k f fd ps sp) :
  FnOk P w K mg base CX0 k f fd ps (fun vs H Q _=>sp vs H Q fun _ _ _=>False):=
 ⟨fun vs H Q E h=>F.len vs H Q _ h,fun A outer s H args us vs Q E hr he hb hv hs=>Xbb (F.run A outer s H args us vs Q _ hr he hb hv hs) fun r s' h=>by
  cases r with
  | ok fl=>cases fl <;> exact h
  | error e=>obtain ⟨_,_,_,_,_,_,_,_,_,_,_,_,_,_,_,z⟩:=h;exact z.elim⟩
section
variable {X:Cx}{K:W.Frag}
theorem zc6:∀ {xs:List V} {us:List Value},xs.length=us.length→(∀ (j:Nat) (v:Value),us[j]? = some v→∃ x,xs[j]? = some x∧RelV x v)→Vals xs us
 | [],[],_,_=>.nil
 | x :: xs,u :: us,hl,h=>by
  obtain ⟨x',e,r⟩:=h 0 u rfl
  cases e
  exact .cons r (zc6 (by simpa using hl) fun j v hv=>h (j+1) v (by simpa using hv))
 | [],_ :: _,hl,_=>by simp at hl
 | _ :: _,[],hl,_=>by simp at hl
theorem ze4:zbU X (.type "range") (fun xs H Q=>∃ n:Nat,xs=[.int (n:Int)]∧∀ p,H p=none→Q (.ref p) (upd H p (.rng 0 (n:Int)))):=by
 intro pins s σ H xs us Q I r h
 obtain ⟨n,rfl,q⟩:=h
 obtain ⟨u,rfl,t,rfl⟩:=zc8 r
 refine call_range_1 ⟨.ref _,_,I.laid (t':=s.toks+1+1) (o:=.rng 0 (n:Int)) (fun b ob q=>Xab _ q) (Xae _) ?_,rfl,q _ (I.hok.fresh (Xae _))⟩
 exact ⟨_,_,_,Xag _ rfl⟩
theorem zgy (hc:X.calm=true):zbU X (.type "list") (fun xs H Q=>∃ (p:Addr) (n:Nat),xs=[.ref p]∧H p=some (.rng 0 (n:Int))∧n≤1000∧∀ l,H l=none→Q (.ref l) (upd H l (.lst ((List.range n).map fun (b:Nat)=>V.int (b:Int))))):=by
 intro pins s σ H xs us Q I r h
 obtain ⟨p,n,rfl,e,hn,q⟩:=h
 obtain ⟨u,rfl,r1⟩:=zc8 r
 obtain rfl:u=Value.ref p:=r1
 obtain ⟨t,u,v,g⟩:=(show ObjOk X.prog X.w H s.heap p (.rng 0 (n:Int)) from I.hok p _ e)
 have rs:Builtin.Range.rangeSize 0 (n:Int) 1=(n:Int):=by unfold Builtin.Range.rangeSize;simp;omega
 have fits:∀ k:Int,0≤k→k≤1000→Builtin.Range.rangeFitsLong k=true:=fun k h1 h2=>by unfold Builtin.Range.rangeFitsLong;simp;omega
 refine call_list_range (n:=n) (I.ok.hd hc) g ?_ ?_ (Xam hn (by decide)) fun h' tk acc c kp gl it=>?_
 ·unfold Builtin.Range.small;simp [rs,fits 0 (by omega) (by omega),fits 1 (by omega) (by omega),fits (n:Int) (by omega) (by omega)]
 ·exact rs
 refine ⟨.ref _,_,I.laid (t':=tk) (o:=.lst ((List.range n).map fun (b:Nat)=>V.int (b:Int))) kp (Xae _) ?_,rfl,q _ (I.hok.fresh (Xae _))⟩
 refine ⟨?_,acc.toList,c,?_,by simpa using gl⟩
 ·rw [Xal,XaX];exact Xam hn (by decide)
 ·refine zc6 ?_ fun j v hv=>?_
  ·rw [Xal,XaX,Array.length_toList];exact it.1.symm
  ·have hj:j<n:=by rw [← it.1];simpa using (Xar.mp hv).1
   obtain ⟨t,e⟩:=it.2 j v (by simpa using hv)
   refine ⟨V.int (j:Int),by simp [hj],t,?_⟩
   rw [e]
   congr 1
   omega
theorem zaQ {x:Str}{a:Addr}{pos:Pos}(hg:Gl X x)(h:X.mg x=some (.ref a))(hd:(x == ("__debug__" : Str))=false:=by decide):PE X (.Name x pos) (tC (.ref a)):=zee hg h rfl hd
theorem zec:RelV (.ty "ValueError") (.type "ValueError"):=rfl
theorem zeo:bootBuiltins "ValueError" = some (.type "ValueError"):=by decide +kernel
end
end L2
end
section
namespace L2
open PySem PySem.Spec PyProof.Rows HT
theorem zfH {P:Program}{w:World}{K:W.Frag}{mg:Str→Option Value}{base:Heap}{N:List Str}{qual:Str}{scope:Scope}{f:Addr}{cd:Value}{A:Around}{outer:List Env}{s:Shared}{H:Hp}{E:XK} :
  Passes (CX1 P w) (cxOf (CX1 P w) P w K mg base N qual scope f cd A outer s H E) E:=by
 intro pins σ H1 s1 ev s' I hq
 obtain ⟨ea,T,H',C,od,rfl,os,bare,un,hok,xa,f1,f2,n1,n2,hE⟩:=hq
 have J:Inv (cxOf (CX1 P w) P w K mg base N qual scope f cd A outer s H E) pins σ H' s':=I.call' (ch:=[]) os un hok bare (fun b z=>absurd z (by simp))
 have b1:=J.base
 have o1:=I.none_ours f1 (show ea ∉ ([]:List Addr) by simp)
 have o2:=I.none_ours f2 (show T ∉ ([]:List Addr) by simp)
 show wpAny _ _ (leaving _ (.ref ea)) _ _ s'
 unfold leaving
 refine Xaa (zc5 J.ok.frames J.stack (L:=s.heap.objs.size) rfl xa fun h1 T2 fT2 sl x2=>zc0 x2 fun h2 sl2 x3=>?_)
 have oT:s.heap.get? T2=none:=(J.none_ours fT2 (show T2 ∉ ([]:List Addr) by simp)).1
 have o1':s.heap.get? ea=none:=o1.1
 have o2':s.heap.get? T=none:=o2.1
 have nT2:∀ b o,s.heap.get? b=some o→b ∉ [T2]:=fun b o q z=>by rw [Xad.mp z,oT] at q;cases q
 have ne:∀ b o,s.heap.get? b=some o→b ∉ [ea,T]:=fun b o q z=>by
  rcases Xaq.mp z with r | r
  ·rw [r,o1'] at q;cases q
  ·rw [Xad.mp r,o2'] at q;cases q
 have nL:∀ b o,s.heap.get? b=some o→b ∉ frs outer→b ∉ ((envOfC qual scope s.heap.objs.size f cd) :: outer).filterMap (·.frame):=fun b o q hb z=>by
  rcases Xaq.mp (show b∈s.heap.objs.size :: outer.filterMap (·.frame) from z) with r | r
  ·exact absurd r (Xat (Xah q))
  ·exact hb r
 have J1:HOk P w H' h1:=J.hok.slid sl (fun b hb=>J.stkFree b hb) fun b hb=>by
  rcases Xaq.mp hb with rfl | hb
  ·exact n1
  ·rw [Xad.mp hb];exact n2
 have n3:H' T2=none:=J.hok.none_of fT2
 refine ⟨ea,T2,H',C,od,rfl,J.os,J.bare,⟨fun b o q n hb _=>?_,fun b o q n hb _=>?_,fun b o q n _=>b1.free b o q n (by show b ∉ ([]:List Addr);simp),fun b o q _=>?_,b1.tups,b1.frzs,b1.tbls⟩,?_,x3,o1',oT,n1,n3,hE⟩
 ·have q1:=(sl b o (b1.keep b o q n hb (by show b ∉ ([]:List Addr);simp)) (ne b o q)).1 (nL b o q hb)
  exact (sl2 b o q1 (nT2 b o q)).1 (by simp)
 ·obtain ⟨t1,e1⟩:=b1.slot b o q n hb (by show b ∉ ([]:List Addr);simp)
  obtain ⟨t2,e2⟩:=(sl b _ e1 (ne b o q)).2
  exact (sl2 b _ e2 (nT2 b o q)).2.elim fun t3 e3=>⟨t3,e3⟩
 ·obtain ⟨o',e1⟩:=b1.there b o q (by show b ∉ ([]:List Addr);simp)
  obtain ⟨t2,e2⟩:=(sl b _ e1 (ne b o q)).2
  obtain ⟨t3,e3⟩:=(sl2 b _ e2 (nT2 b o q)).2
  exact ⟨_,e3⟩
 ·exact J1.slid sl2 (fun b hb=>nomatch hb) fun b hb=>by rw [Xad.mp hb];exact n3
section
variable {P:Program}{w:World}{K:W.Frag}{mg:Str→Option Value}{base:Heap}{N:List Str}{qual:Str}{scope:Scope}{f:Addr}{cd:Value}{A:Around}{outer:List Env}{s:Shared}{H:Hp}{E:XK}
variable {k:Nat}{ps:List Str}{sp:Sp}{x:Str}{p pos:Pos}{e:Expr}{es:List Expr}{t:TA}
end
end L2
end
section
namespace L2
open PySem PySem.Spec PyProof.Rows HT
section
variable {X:Cx}{k:Nat}{ps:List Str}{sp:Sp}{x fn cn n y:Str}{i j l:Nat}{Cb:Addr}{e:Expr}{es:List Expr}{t:TA}{px p1 p2 p3 p4 p5 p6 p7 p8 p9:Pos}
end
end L2
end
section
namespace L2
open PySem PySem.Spec PyProof.Rows HT
theorem zeY {prog:Program}{w:World}{A:Around}(hh:A.handled=none)(it l:Addr)(hne:l≠it)(items:Array Value) :
  Draws prog w A it [it,l] items.size (fun i v=>items[i]? = some v) (fun i h=>IsIt true h it l i∧IsSq true h l items) where
 live:=fun _ _ st=>let ⟨o,ho,_⟩:=st.1;⟨o,ho⟩
 frame:=fun _ _ _ st hk=>⟨st.1.at fun o e=>hk it (by simp) o e,st.2.at fun o e=>hk l (by simp) o e⟩
 item:=fun i s Q E hi st hQ=>by
  refine zfx st.1 st.2 (x:=items[i]) (by simp [hi]) fun h' hit' hs'=>?_
  exact hQ _ h' s.toks (by simp [hi]) ⟨hit',st.2.at fun o e=>hs'.extBut l o hne e⟩ hs'
 done:=fun s Q E st hE=>zi0 hh st.1 st.2 (by simp) hE
set_option tactic.hygienic true in
theorem zbZ (l:Addr)(items:Array Value)(n:Nat)(dct:Option Addr)(sl:Array (Option Value)) :
  Meets (Builtin.«enumerate.__new__» ⟨[.type "enumerate",.ref l],[]⟩) (fun _ R s=>s.heap.get? l=some { cls:=.type "tuple",dict:=dct,data:=.seq items n,slots:=sl } ∧
   R (.ok (.ret (.ref (s.heap.push { cls:=.type "tuple_iterator",data:=.fields #[.ref l,.int 0 0] }).objs.size)))
    { s with heap:=(s.heap.push { cls:=.type "tuple_iterator",data:=.fields #[.ref l,.int 0 0] }).push { cls:=.type "enumerate",data:=.fields #[.none,.bool false,.ref s.heap.objs.size,rawInt 0,.none,.none] } }):=
 .of_wp fun prog w A R s h=>by
  obtain ⟨hp,g,d,tk,os⟩:=s;obtain ⟨hl,h⟩:=h
  have hsub:=sub_enumerate
  have hL:Heap.IsTuple (Shared.heap ⟨hp,g,d,tk,os⟩) l items:=⟨_,hl,rfl,n,rfl⟩
  wp_walk using wpAny_loadPart' hl
  refine wpAny_stack_any fun st=>Xac ?_
  split
  ·rename_i c _ _ _ _ _
   cases (c == Value.type "enumerate")
   ·wp_walk using wpAny_loadPart' hl,Xbr hL
    exact ⟨_,rfl,h⟩
   ·wp_walk using wpAny_loadPart' hl,Xbr hL
    exact ⟨_,rfl,h⟩
  ·wp_walk using wpAny_loadPart' hl,Xbr hL
   exact ⟨_,rfl,h⟩
theorem zcm {prog:Program}{w:World}{A:Around}{E:Value→Shared→Prop}{s:Shared}{l:Addr}{items:Array Value}{Q:Value→Shared→Prop}(hL:IsSq true s.heap l items)
  (h:∀ h',IsEnum h' (s.heap.objs.size+1) s.heap.objs.size 0 .none→IsIt true h' s.heap.objs.size l 0→h'.objs.size=s.heap.objs.size+2 →
   (∀ b o,s.heap.get? b=some o→h'.get? b=some o)→Q (.ref (s.heap.objs.size+1)) { s with heap:=h' }) :
  wpAny (model prog w) A (call (.type "enumerate") [.ref l]) Q E s:=by
 obtain ⟨⟨c,dct,dt,sl⟩,hl,hc,n,hd⟩:=hL
 replace hc:c = .type "tuple" := hc
 replace hd:dt = .seq items n:=hd
 subst hc hd
 refine callType_new F.called_enumerate (by decide) (F.typeCall_enumerate_1 _) (F.newCall_enumerate_1 _) (fun obj=>F.args_object_init_2 obj _) F.entry_enumerate_new
  (zbZ l items n dct sl) ⟨hl,?_⟩
 have hz:(s.heap.push { cls:=.type "tuple_iterator",data:=.fields #[.ref l,.int 0 0] }).objs.size=s.heap.objs.size+1:=XaC ..
 show _∧_
 rw [hz]
 have he:IsEnum ((s.heap.push { cls:=.type "tuple_iterator",data:=.fields #[.ref l,.int 0 0] }).push
   { cls:=.type "enumerate",data:=.fields #[.none,.bool false,.ref s.heap.objs.size,rawInt 0,.none,.none] }) (s.heap.objs.size+1) s.heap.objs.size 0 .none:=by
  have:=Xag (s.heap.push { cls:=.type "tuple_iterator",data:=.fields #[.ref l,.int 0 0] })
   (o:={ cls:=.type "enumerate",data:=.fields #[.none,.bool false,.ref s.heap.objs.size,rawInt 0,.none,.none] }) rfl
  rw [hz] at this;exact this
 refine ⟨⟨_,he,rfl⟩,h _ he ⟨_,Xab _ (Xag _ rfl),rfl,rfl⟩ (by rw [XaC,hz]) fun b o x=>Xab _ (Xab _ x)⟩
def IteT (K:W.Frag)(a:Addr):It:=
 ⟨fun i H=>∃ xs x,SqT K H a xs∧xs[i]? = some x,
  fun i H v H'=>∃ T x,H T=none∧v = .ref T∧H'=upd H T (.tup [.int i,x])∧∀ xs,SqT K H a xs→xs[i]? = some x,
  fun i H=>∃ xs,SqT K H a xs∧xs.length=i⟩
theorem zf5 {P:Program}{w:World}{K:W.Frag}{elts:List Expr}{kt:Nat}{tp:Pos}(a e it:Addr)(hne:e≠it) :
  Turn P w K (.Tuple elts kt tp) (IteT K a) [e,it] e (fun i h=>(∃ old,IsEnum h e it i old)∧IsIt true h it a i) where
 mem:=by simp
 obj:=fun i h st b hb=>by
  obtain ⟨⟨old,he⟩,hi⟩:=st
  rcases Xaq.mp hb with z | z
  ·subst z
   exact ⟨_,he,fun v z=>by
    have z':Data.fields _=Data.cell v:=z
    cases z'⟩
  ·have z:=Xad.mp z
   subst z
   obtain ⟨o,e1,c,d⟩:=hi
   exact ⟨o,e1,fun v z=>by rw [d] at z;cases z⟩
 keep:=fun i h h' st k=>by
  obtain ⟨⟨old,he⟩,hi⟩:=st
  exact ⟨⟨old,k e (by simp) _ he⟩,hi.at fun o e1=>k it (by simp) o e1⟩
 item:=by
  intro X hP hw hK hc i pins s σ H E I hf st hg
  subst hP hw hK
  obtain ⟨xs,x,hq,hx⟩:=hg
  obtain ⟨its,rv,p,hz⟩:=I.tuple hq
  obtain ⟨u,hu,ru⟩:=rv.get hx
  obtain ⟨⟨old,he⟩,hi⟩:=st
  have hsq:IsSq true s.heap a its.toArray:=p
  have cls:∀ b o,s.heap.get? b=some o→o.cls≠.type "tuple" → a≠b:=fun b o e nc z=>by
   obtain ⟨oa,ea,ca,_⟩:=hsq
   rw [z,e] at ea;cases ea;exact nc ca
  have hai:a≠it:=by
   obtain ⟨o,e1,c,_⟩:=id hi
   exact cls it o e1 (by rw [c];decide)
  have hae:a≠e:=cls e _ he (by show Value.type "enumerate" ≠ Value.type "tuple"; decide)
  have hlt:i<its.toArray.size:=by
   have:=(Xar.mp hu).1
   simpa using this
  refine wpAny_pyNext_enum_itemD (zeY (prog:=X.prog) (w:=X.w) (A:=X.A.in1) (show X.A.in1.handled=none from I.ok.hd hc) it a hai its.toArray) he ⟨hi,hsq⟩ hlt hne (by simp [hne,Ne.symm hae]) fun x' h' tk hx' ho st' ht hsz kk=>⟨_,rfl,?_⟩
  have ex:x'=u:=by
   have e1:its[i]? = some x':=by simpa using hx'
   rw [hu] at e1;cases e1;rfl
  subst ex
  refine wpAny_letOwnedTupleGo_enum ho fun h2 he2 sb=>?_
  have fT:FpOk X pins H s.heap.objs.size:=I.fpOk (Xae _) (I.hok.fresh (Xae _))
  have k2:∀ b o,b ∉ [e,it]→s.heap.get? b=some o→h2.get? b=some o:=fun b o hb e1=>by
   simp only [Xaq,Xbd,or_false,not_or] at hb
   exact (sb.2 b hb.1).trans (kk b o hb.1 hb.2 e1)
  have I1:Inv X pins σ H { s with heap:=h2,toks:=tk+1 }:=I.turnedL (ch:=[e,it]) k2 hf
  have eT:h2.get? s.heap.objs.size=some { cls:=.type "tuple",data:=.seq #[.int i tk,x'] }:=(sb.2 _ (Xbf (Xah he))).trans ht
  have I2:=I1.track (o:=.tup [.int i,x]) fT (Xam I.sz (Xae _)) (zgQ ⟨_,rfl⟩ ru eT)
  refine ⟨.ref s.heap.objs.size,_,I2,rfl,⟨_,x,fT.1,rfl,rfl,fun ys hy=>by rw [I.tuple_inj hy hq];exact hx⟩,⟨⟨x',by exact_mod_cast he2⟩,st'.1.at fun o e1=>sb.extBut it o (Ne.symm hne) e1⟩,fun b hb=>?_⟩
  obtain ⟨o,eb⟩:∃ o,s.heap.get? b=some o:=by
   rcases Xaq.mp hb with z | z
   ·subst z;exact ⟨_,he⟩
   ·have z:=Xad.mp z
    subst z
    obtain ⟨o,e1,_⟩:=hi
    exact ⟨o,e1⟩
  rw [zah (Xat (Xah eb))]
  exact (hf b hb).1
 done:=by
  intro X hP hw hK hc i pins s σ H E I hf st hg
  subst hP hw hK
  obtain ⟨xs,hq,hx⟩:=hg
  obtain ⟨its,rv,p,hz⟩:=I.tuple hq
  obtain ⟨⟨old,he⟩,hi⟩:=st
  have hl:=rv.length
  have hsq:IsSq true s.heap a its.toArray:=p
  have hai:a≠it:=fun z=>by
   obtain ⟨oa,ea,ca,_⟩:=id hsq
   obtain ⟨o,e1,c,_⟩:=id hi
   rw [z,e1] at ea;cases ea
   rw [c] at ca;exact absurd ca (by decide)
  have en:its.toArray.size=i:=by rw [Xaj];omega
  refine wpAny_pyNext_enum_endD (zeY (prog:=X.prog) (w:=X.w) (A:=X.A.in1) (show X.A.in1.handled=none from I.ok.hd hc) it a hai its.toArray) he (by rw [en];exact ⟨hi,hsq⟩) fun h' eb=>⟨rfl,I.turnedL (t':=s.toks) (ch:=[e,it]) (fun b o hb e1=>eb b o (fun z=>hb (by simp [z])) e1) hf⟩
 self:=fun _ _ _ _ _ st h=>by
  obtain ⟨⟨old,he⟩,hi⟩:=st
  exact wpAny_pyIter_enum he h
inductive iEnumT_1 (K:W.Frag)(R:It→Hp→Prop)(vs:List V)(H1:Hp):Prop
 | mk (a:_) (z0_:vs=[.ref a]) (z1_:(∃ xs,SqT K H1 a xs)) (z2_:R (IteT K a) H1)
def iEnumT (K:W.Frag)(ta:TA):TI:=fun σ H R=>ta σ H (iEnumT_1 K R)
theorem zed {X:Cx}{a:Expr}{ta:TA}{p pos:Pos}{elts:List Expr}{kt:Nat}{tp:Pos}(hg:Gl X "enumerate")(hm:X.mg "enumerate" = none)(ha:PA X [a] ta)(hs:starEach [a] X.env=[(false,eval a X.env)]:=by rfl) :
  PI X (.Tuple elts kt tp) (.Call (.Name "enumerate" p) [a] [] pos) (iEnumT X.K ta):=by
 intro pins s σ H R I h
 refine Call_ (zdz I hg hm boot_enumerate (PyProof.Rows.callWith_type1 (thn (ha pos pins s σ H _ I h) fun us s1 hh_=>?_) hs rfl))
 obtain ⟨vs,H1,I1,r1,q1⟩:=hh_
 obtain ⟨l,e,⟨xs,hq⟩,q⟩:=q1
 subst e
 obtain ⟨u,rfl,ru⟩:=zc8 r1
 cases ru
 obtain ⟨its,rv,pl,hz⟩:=I1.tuple hq
 refine zcm (items:=its.toArray) pl fun h' he hi hsz kk=>?_
 refine wpAny_pyIter_enum he ?_
 have I2:Inv X pins σ H1 { s1 with heap:=h',toks:=s1.toks }:=I1.kept kk
 refine ⟨s1.heap.objs.size+1,[s1.heap.objs.size+1,s1.heap.objs.size],_,_,H1,rfl,I2,zf5 l _ _ (Nat.succ_ne_self _),⟨⟨_,he⟩,hi⟩,fun b hb=>?_,q⟩
 rcases Xaq.mp hb with z | z
 ·subst z;exact I1.fpOk (Xbn _) (I1.hok.fresh (Xbn _))
 ·have z:=Xad.mp z
  subst z;exact I1.fpOk (Xae _) (I1.hok.fresh (Xae _))
theorem zdF {K:PySem.W.Frag}{a:Addr}{xs:List V}{g:TG}{tb:TS}{D:Ends}{σ:St}{H:Hp}(Pv:Nat→St→Hp→Prop)(h0:Pv 0 σ H)(hl:∀ i σ H,i≤xs.length→Pv i σ H→SqT K H a xs)
  (hs:∀ i x T σ H,xs[i]? = some x→H T=none→Pv i σ H→g (.ref T) σ (upd H T (.tup [.int i,x])) fun σ2 H2=>tb { D with nx:=Pv (i+1),ct:=Pv (i+1),bk:=D.nx } σ2 H2) (hd:∀ σ H,Pv xs.length σ H→D.nx σ H) :
  ∃ W:Nat→Nat→St→Hp→Prop,(∃ m,W 0 m σ H)∧∀ i m σ H,W i m σ H →
   ((IteT K a).stop i H∧D.nx σ H)∨((IteT K a).go i H∧∃ N:St→Hp→Prop,(∀ σ' H',N σ' H'→∃ m',m'<m∧W (i+1) m' σ' H')∧∀ x H',(IteT K a).yld i H x H'→g x σ H' fun σ2 H2=>tb { D with nx:=N,ct:=N,bk:=D.nx } σ2 H2):=by
 refine ⟨fun i m σ H=>m=xs.length - i∧i≤xs.length∧Pv i σ H,⟨xs.length,by simp,Nat.zero_le _,h0⟩,?_⟩
 rintro i m σ H ⟨rfl,hi,p⟩
 have q:=hl i σ H hi p
 by_cases hlt:i<xs.length
 ·refine .inr ⟨⟨xs,xs[i],q,by simp [hlt]⟩,Pv (i+1),fun σ' H' p'=>⟨xs.length - (i+1),by omega,rfl,hlt,p'⟩,fun v H' y=>?_⟩
  obtain ⟨T,x,hT,rfl,rfl,y⟩:=y
  exact hs i x T σ _ (y xs q) hT p
 ·have e:i=xs.length:=by omega
  subst e
  exact .inl ⟨⟨xs,q,rfl⟩,hd σ H p⟩
end L2
end
section
namespace L2
open PySem PySem.Spec PyProof.Rows HT
section
variable {prog:Program}{w:World}{A:Around}{E:Value→Shared→Prop}{s:Shared}
theorem zgT {r:Addr}{Q:Value→Shared→Prop}(h:wpAny (model prog w) A.in1 (collect (.ref r)) (fun vs s1=>vs.length≤sizeLine∧wpAny (model prog w) A.in1.in1 (Builtin.«list.sort» ⟨[.ref s1.heap.objs.size],[]⟩)
   (fun fin s2=>fin = .done (.ret .none)∧Q (.ref s1.heap.objs.size) s2) E { s1 with heap:=s1.heap.push (seqObj "list" vs.toArray 0) }) E s) :
  wpAny (model prog w) A (call (.builtin "sorted") [.ref r]) Q E s:=by
 refine Calls.call_function_entry kind_sorted plain_sorted entry_sorted (args_sorted1 _) ?_
 unfold Builtin.«sorted»
 refine Xaa (m:=checkCount "sorted" 1 1 _) (Xac ?_)
 refine Xaa (Xaw h (fun vs s1 ⟨hz,h⟩=>?_) fun _ _ e=>e)
 refine Xaa (wpAny_newList ?_ hz)
 refine Xaa (Xaz (XaM slot_list_sort ⟨_,Xag _ rfl,rfl⟩ entry_list_sort (Xaw h (fun fin s2 ⟨e,q⟩=>?_) fun _ _ e=>e) (args_list_sort _)))
 subst e
 exact ⟨_,rfl,Xac ⟨_,rfl,q⟩⟩
end
section
variable {X:Cx}
end
end L2
end
section
namespace L2
open PySem PySem.Spec PyProof.Rows HT
section
variable {prog:Program}{w:World}{A:Around}{E:Value→Shared→Prop}{s:Shared}
end
end L2
end
section
set_option autoImplicit false
namespace L2
open PySem PySem.Spec PyProof.Rows HT Cb
section
variable {prog:Program}{w:World}{A:Around}{E:Value→Shared→Prop}{s:Shared}
end
section
variable {X:Cx}
end
end L2
end
section
set_option autoImplicit false
namespace L2
open PySem PySem.Spec PyProof.Rows HT Cb
section
variable {prog:Program}{w:World}{A:Around}{E:Value→Shared→Prop}
end
section
variable {X:Cx}
end
section
variable {prog:Program}{w:World}{A:Around}{E:Value→Shared→Prop}{s:Shared}
end
end L2
end
section
namespace L2
open PySem PySem.Spec PyProof.Rows PySem.SeqAt
section
variable {X:Cx}{tg:Expr}
end
end L2
end
section
namespace L2
open PySem PySem.Spec PyProof.Rows PySem.SeqAt
section
variable {X:Cx}{K:W.Frag}
inductive rEqL0 (K:W.Frag)(x:V)(y:V)(H:Hp)(Q:VK):Prop
 | mk (a:_) (b:_) (xs:_) (z0_:x = .ref a) (z1_:y = .ref b) (z2_:SqL K H a xs) (z3_:SqL K H b []) (z4_:Q (.bl xs.isEmpty) H)
theorem zjD (hu:X.A.units<cLine)(hK:X.K=K):OpR X (compareOp .Eq) (rEqL0 K):=by
 subst hK
 rintro pins s σ H x y v u Q I rx ry ⟨a,b,xs,rfl,rfl,ha,hb,q⟩
 cases rx;cases ry
 obtain ⟨its,r1,p1,_⟩:=I.list ha
 obtain ⟨its2,r2,p2,_⟩:=I.list hb
 obtain rfl:=r2.nil_iff.mpr rfl
 have e:its.toArray.size=xs.length:=by rw [Xaj];exact r1.length.symm
 cases xs with
 | nil =>
  refine RcAt.lists (e:=fun _=>true) p1.isList p2.isList (by rw [e];rfl) hu (fun j h1 h2=>absurd h2 (by simp)) _ _ _ _ ⟨.bl true,H,I,?_,q⟩
  rw [e];rfl
 | cons z zs=>exact RcAt.lists_lengths p1.isList p2.isList (by rw [e];simp) hu _ _ _ _ ⟨.bl false,H,I,rfl,q⟩
end
end L2
end
section
namespace L2
open PySem PySem.Spec PyProof.Rows PySem.SeqAt
section
variable {X:Cx}
end
end L2
end
section
namespace L2
open PySem PySem.Spec PyProof.Rows PySem.SeqAt
end L2
end
section
namespace L2
open PySem PySem.Spec PyProof.Rows PySem.SeqAt
section
variable {X:Cx}{K:W.Frag}
end
section
variable {X:Cx}{Nc:List Str}{src:List (Option Nat)}{scope:Scope}{elt tg iter:Expr}{ifs:List Expr}{pos:Pos}{wi:TI}{g:TG}{tf:TT}{te:TE}
end
section
variable {X:Cx}{K:W.Frag}{tg l:Expr}{tl:TE}
end
end L2
end
section
namespace L2
open PySem PySem.Spec PyProof.Rows HT
section
variable {X:Cx}{o e:Expr}{es:List Expr}{to:TE}{t:TA}{T:String}{id:String}{name:Str}{apos cpos:Pos}{r:V→List V→Hp→VK→Prop}
end
end L2
end
section
namespace L2
open PySem PySem.Spec PyProof.Rows HT
def zgF (CX:CXT)(X:Cx)(E:St→XK):Prop:=∀ (pins:List (Addr×Obj)) (σ:St) (H:Hp) (s:Shared) (e:Value) (s':Shared),Inv X pins σ H s→CX X.stack H s (E σ) e s'→X.xe e s'
theorem Passes.s {CX:CXT}{X:Cx}{E:XK}(h:Passes CX X E):zgF CX X fun _=>E:=fun pins σ H s e s'=>h pins σ H s e s'
section
variable {X:Cx}{CX:CXT}{k:Nat}{f C:Addr}{fd:FuncData}{ps ks:List Str}{sp:Sp}{E:St→XK}{x m:Str}{p pos apos:Pos}{e o:Expr}{es:List Expr}{kws:List Keyword}{ta:TE}{t tk:TA}{g:List Value→List Value→List Value}{gV:List V→List V→List V}
theorem zjp {pins:List (Addr×Obj)}{σ:St}{H:Hp}{s:Shared}{Q:VK}{us ws:List Value}{vs zs:List V}(F:FnOk X.prog X.w X.K X.mg X.base CX k f fd ps sp)(hr:Room k X.A)(hb:KBinds X.K fd ps ks g gV)(hx:zgF CX X E)
  (I:Inv X pins σ H s) (r:Vals vs us) (rz:Vals zs ws) (h:sp (gV vs zs) H Q (E σ)):wpAny (model X.prog X.w) X.A (call (.ref f) us (ks.zip ws)) (EP X pins σ Q) X.xe s:=by
 have r2:=hb.rel r rz
 have hl:(g us ws).length=ps.length:=by rw [← r2.length];exact F.len _ _ _ _ h
 refine Xba (Xbb (F.run X.A X.stack s H ⟨us,ks.zip ws⟩ (g us ws) (gV vs zs) Q (E σ) hr I.env0 (hb.to s us ws I.kIn hl) r2 h) fun r s' hq=>?_)
 cases r with
 | error e=>exact hx pins σ H s e s' I hq
 | ok fl =>
  cases fl with
  | ret u=>exact I.after hq
  | next=>exact False.elim hq
  | brk=>exact False.elim hq
  | cont=>exact False.elim hq
end
structure MakX (P:Program)(w:World)(K:W.Frag)(mg:Str→Option Value)(base:Heap)(k:Nat)(x:Str)(C:Addr)(ks:List Str)(gV:List V→List V→List V)(sp:Sp):Prop where
 at_:mg x=some (.ref C)
 ex:∃ f fd ps g,Mk K C f∧FnOk P w K mg base (CX1 P w) k f fd ps sp∧KBinds K fd ps ks g gV
theorem MakX.kp {P:Program}{w:World}{K:W.Frag}{mg:Str→Option Value}{base:Heap}{k:Nat}{x:Str}{C:Addr}{ks:List Str}{gV:List V→List V→List V}{sp:Sp}(M:MakX P w K mg base k x C ks gV sp):W.keepIn K (.ref C)=true:=by
 obtain ⟨_,_,_,_,_,M,_⟩:=M
 exact M.kp
def tMakS (C:Addr)(gV:List V→List V→List V)(sp:Sp)(E:St→XK)(t tk:TA):TE:=fun σ H Q=>t σ H fun vs H1=>tk σ H1 fun zs H2=>∀ x dx,H2 x=none→H2 dx=none→dx≠x →
 sp (gV (.ref x :: vs) zs) (upd (upd H2 dx (.own x)) x (.ins C dx [])) (fun v H3=>v = .non∧Q (.ref x) H3) (E σ)
section
variable {X:Cx}{k:Nat}{C:Addr}{ks:List Str}{gV:List V→List V→List V}{sp:Sp}{E:St→XK}{x:Str}{p pos:Pos}{e:Expr}{es:List Expr}{kws:List Keyword}{t tk:TA}
theorem zib {pins:List (Addr×Obj)}{σ:St}{H:Hp}{s:Shared}{Q:VK}{us ws:List Value}{vs zs:List V}(M:MakX X.prog X.w X.K X.mg X.base k x C ks gV sp)(hr:Room (k+1) X.A)(hx:zgF (CX1 X.prog X.w) X E)(I:Inv X pins σ H s)(r:Vals vs us)(rz:Vals zs ws)
  (h:∀ y dy,H y=none→H dy=none→dy≠y→sp (gV (.ref y :: vs) zs) (upd (upd H dy (.own y)) y (.ins C dy [])) (fun v H2=>v = .non∧Q (.ref y) H2) (E σ)) :
  wpAny (model X.prog X.w) X.A (call (.ref C) us (ks.zip ws)) (EP X pins σ Q) X.xe s:=by
 obtain ⟨hm,f,fd,ps,g,M,F,hb⟩:=M
 have hq:=h (s.heap.objs.size+1) s.heap.objs.size (I.hok.fresh (Xbn _)) (I.hok.fresh (Xae _)) (Xat (Xa3 _))
 have I2:=Inv.made (C:=C) I
 have r2:Vals (gV (V.ref (s.heap.objs.size+1) :: vs) zs) (g (Value.ref (s.heap.objs.size+1) :: us) ws):=hb.rel (.cons rfl r) rz
 have hl:(g (Value.ref (s.heap.objs.size+1) :: us) ws).length=ps.length:=by rw [← r2.length];exact F.len _ _ _ _ hq
 refine Xba (zfT (f:=f) I.kIn M.makes M.init (beq_iff_eq.mp M.fn) (Xbb (F.run _ X.stack _ _ ⟨Value.ref (s.heap.objs.size+1) :: us,ks.zip ws⟩ _ _ _ (E σ) (hr.make C us (ks.zip ws))
  (I2.env0.make C us (ks.zip ws)) (hb.to _ (Value.ref (s.heap.objs.size+1) :: us) ws I2.kIn hl) r2 hq) fun r s' hq'=>?_))
 cases r with
 | error e=>exact hx pins σ _ _ e s' I2 hq'
 | ok fl =>
  cases fl with
  | ret u =>
   obtain ⟨v,H',I3,rv,ev,q3⟩:=I2.after hq'
   subst ev
   exact ⟨rv,⟨V.ref (s.heap.objs.size+1),H',I3,rfl,q3⟩⟩
  | next=>exact False.elim hq'
  | brk=>exact False.elim hq'
  | cont=>exact False.elim hq'
theorem zhg (M:MakX X.prog X.w X.K X.mg X.base k x C [] gV sp)(hr:Room (k+1) X.A)(hg:Gl X x)(hx:zgF (CX1 X.prog X.w) X E)(ha:PA X (e :: es) t)(hdb:(x == ("__debug__" : Str))=false:=by decide)
  (he:starEach (e :: es) X.env=(false,eval e X.env) :: starEach es X.env:=by rfl) (hpl:(backTo pos (starEach es X.env)).any (·.1)=false:=by rfl):PE X (.Call (.Name x p) (e :: es) [] pos) (tMakS C gV sp E t tNil):=by
 intro pins s σ H Q I h
 refine Xa7 (zbC I hg M.at_ ?_ hdb)
 refine W.callWith_K (h₀:=X.base) I.ok.mod.kin M.kp (thn (ha pos pins s σ H _ I h) fun us s1 ⟨vs,H1,I1,r,q⟩=>⟨I1.kIn,?_⟩) he hpl
 exact zib (ws:=[]) (zs:=[]) M hr hx I1 r .nil q
end
structure MthX (P:Program)(w:World)(K:W.Frag)(mg:Str→Option Value)(base:Heap)(k:Nat)(C:Addr)(m:Str)(ks:List Str)(gV:List V→List V→List V)(sp:Sp):Prop where
 cls:Cls K C
 ex:∃ f fd ps g,Meth K C m f∧FnOk P w K mg base (CX1 P w) k f fd ps sp∧KBinds K fd ps ks g gV
inductive tMthS_1 (P:Program)(w:World)(K:W.Frag)(mg:Str→Option Value)(base:Heap)(k:Nat)(m:Str)(ks:List Str)(E:St→XK)(t:TA)(tk:TA)(σ:St)(Q:VK)(x:V)(H1:Hp):Prop
 | mk (a:_) (C:_) (dx:_) (fs:_) (gV:_) (sp:_) (z0_:x = .ref a) (z1_:H1 a=some (.ins C dx fs)) (z2_:MthX P w K mg base k C m ks gV sp) (z3_:fs.lookup m=none) (z4_:t σ H1 fun vs H2=>tk σ H2 fun zs H3=>sp (gV (x :: vs) zs) H3 Q (E σ))
def tMthS (P:Program)(w:World)(K:W.Frag)(mg:Str→Option Value)(base:Heap)(k:Nat)(m:Str)(ks:List Str)(E:St→XK)(ta:TE)(t tk:TA):TE:=fun σ H Q=>ta σ H (tMthS_1 P w K mg base k m ks E t tk σ Q)
section
variable {X:Cx}{k:Nat}{C:Addr}{ks:List Str}{E:St→XK}{x m:Str}{p pos apos:Pos}{e o:Expr}{es:List Expr}{kws:List Keyword}{ta:TE}{t tk:TA}
theorem zhf {P:Program}{w:World}{K:W.Frag}{mg:Str→Option Value}{base:Heap}(k:Nat)(hX:X.prog=P∧X.w=w∧X.K=K∧X.mg=mg∧X.base=base)(hr:Room k X.A)(hx:zgF (CX1 X.prog X.w) X E){pl:Sem Bool}(he:PE X o ta)(ha:PA X (e :: es) t)
  (hst:starEach (e :: es) X.env=(false,eval e X.env) :: starEach es X.env:=by rfl) (hpl:(backTo pos (starEach es X.env)).any (·.1)=false:=by rfl)
  (ht:eval (.Call (.Attribute o m apos) (e :: es) [] pos) X.env=(do
   let ov ← eval o X.env
   standAt apos.atName
   let (f,first) ← holding [ov] (getMethod ov m pl)
   callWith pos f first (backTo pos (starEach (e :: es) X.env)) (backToKw pos (keywordEach [] X.env))):=by rfl) :
  PE X (.Call (.Attribute o m apos) (e :: es) [] pos) (tMthS P w K mg base k m [] E ta t tNil):=by
 obtain ⟨rfl,rfl,rfl,rfl,rfl⟩:=hX
 intro pins s σ H Q I h
 refine W.methodCall_KW (pl:=pl) (thn (he pins s σ H _ I h) fun u s1 hh_=>?_) ht
 obtain ⟨x,H1,I1,rx,a,C,dx,fs,gV,sp,ex,ea,M,l,q⟩:=hh_
 obtain ⟨c,f,fd,ps,g,hm,F,hb⟩:=M
 subst ex
 obtain rfl:u=Value.ref a:=rx
 refine zcC I1 ea c hm l ?_
 refine W.callWith_K (first:=[.ref a]) (h₀:=X.base) I.ok.mod.kin hm.kp (thn (ha pos pins s1 σ H1 _ I1 q) fun us s2 ⟨vs,H2,I2,r,q2⟩=>⟨I2.kIn,?_⟩) hst hpl
 exact zjp (us:=.ref a :: us) (vs:=.ref a :: vs) (ws:=[]) (zs:=[]) F hr hb hx I2 (.cons rfl r) .nil q2
end
abbrev zfG (X:Cx)(pins:List (Addr×Obj))(b:Addr):Prop:=X.s₀.heap.get? b=none∧b≠X.env.locals∧(∀ x c,X.env.cells.lookup x=some c→c≠b)∧∀ p∈X.pn ++ pins,p.1≠b
abbrev Cx.tried (X:Cx)(pins:List (Addr×Obj))(E:St→XK):Cx:={ X with pn:=X.pn ++ pins,xe:=fun e s'=>∃ σ ea T H' C od,e = .ref ea∧Inv X pins σ H' s'∧XAt s'.heap ea T (.ref C) .none od∧H' ea=none∧H' T=none∧zfG X pins ea∧zfG X pins T∧E σ (.ref C) od H' }
section
variable {X:Cx}{pins pins2:List (Addr×Obj)}{σ:St}{H:Hp}{s:Shared}{E:St→XK}
theorem Cx.Ok.tried (ok:X.Ok):(X.tried pins E).Ok:=⟨ok.mod,ok.kind,ok.glob,ok.blt,ok.above,ok.inj,ok.has,ok.cab,ok.hd,ok.frames,ok.stk,ok.exf,ok.bs,ok.bsz,ok.noex,ok.exfs,ok.funs,ok.frf⟩
theorem Cx.Ok.untried (ok:(X.tried pins E).Ok):X.Ok:=⟨ok.mod,ok.kind,ok.glob,ok.blt,ok.above,ok.inj,ok.has,ok.cab,ok.hd,ok.frames,ok.stk,ok.exf,ok.bs,ok.bsz,ok.noex,ok.exfs,ok.funs,ok.frf⟩
theorem Inv.tried (I:Inv X pins σ H s)(E:St→XK):Inv (X.tried pins E) [] σ H s:=⟨I.ok.tried,I.os,I.bare,I.base,I.loc,I.cell,I.free,I.freeC,by
 intro p hp
 rw [Xbs] at hp
 exact I.pin p hp,I.hok,I.len⟩
theorem Inv.untried (I:Inv (X.tried pins E) pins2 σ H s):Inv X pins σ H s:=⟨I.ok.untried,I.os,I.bare,I.base,I.loc,I.cell,I.free,I.freeC,fun p hp=>I.pin p (XaA _ hp),I.hok,I.len⟩
theorem SP.untried {D:Ends}{f:Flow}{s':Shared}(h:SP (X.tried pins E) pins2 D f s'):SP X pins D f s':=by
 cases f with
 | next=>obtain ⟨σ',H',I,q⟩:=h;exact ⟨σ',H',I.untried,q⟩
 | brk=>obtain ⟨σ',H',I,q⟩:=h;exact ⟨σ',H',I.untried,q⟩
 | cont=>obtain ⟨σ',H',I,q⟩:=h;exact ⟨σ',H',I.untried,q⟩
 | ret u=>obtain ⟨v,σ',H',I,r,q⟩:=h;exact ⟨v,σ',H',I.untried,r,q⟩
theorem zdZ (hex:X.ex=[]):zgF (CX1 X.prog X.w) (X.tried pins E) E:=by
 intro pins2 σ H1 s1 ev s' I hq
 obtain ⟨ea,T,H',C',od',rfl,os,bare,un,hok,xa,f1,f2,n1,n2,hE⟩:=hq
 have J:Inv (X.tried pins E) pins2 σ H' s':=I.call' (ch:=[]) os un hok bare (fun b z=>absurd z (by simp))
 have nex:∀ b:Addr,b ∉ (X.tried pins E).ex:=fun b z=>by
  have z:b∈X.ex:=z
  rw [hex] at z;cases z
 have o1:=I.untried.none_ours f1 (nex ea)
 have o2:=I.untried.none_ours f2 (nex T)
 exact ⟨σ,ea,T,H',C',od',rfl,J.untried,xa,n1,n2,o1,o2,hE⟩
end
def tTry1 (K:W.Frag)(tb:(St→XK)→TS)(j:Nat)(Cb:Addr)(th:TS):TS:=fun D σ H =>
 tb (fun σ' cls od H2=>W.exmOne K cls (.ref Cb)=some true∧∀ ea,H2 ea=none→th { nx:=fun σ2 H3=>D.nx ((σ2.set j (some .non)).set j none) H3,rt:=fun _ _=>False } (σ'.set j (some (.ref ea))) (upd H2 ea (.ext (xIs ea cls od)))) D σ H
section
variable {X:Cx}{cn n:Str}{j:Nat}{Cb:Addr}{body hbody:List Stmt}{b₀:Stmt}{tb:(St→XK)→TS}{th:TS}{p4 p8 p9:Pos}
theorem zjr (hb:∀ (pins:List (Addr×Obj)) (E:St→XK),PSs (X.tried pins E) body (tb E))(hD:∀ ea,PSs (X.marked (.ref ea)).nox (b₀ :: hbody) th)(hc:X.calm=true)(hN:X.N.Nodup)(hj:X.N[j]? = some n)(kn:X.env.scope.names.lookup n=some .local)
  (hmc:X.mg cn=some (.ref Cb)) (hst:X.stack=X.env :: X.outer∧X.env.frame=some X.env.locals) (hex:X.ex=[]) (hgm:∀ ea,Gl (X.marked (.ref ea)) cn) (hdc:(cn == ("__debug__" : Str))=false:=by decide) :
  PS X (.Try body [.ExceptHandler (some (.Name cn p4)) (some n) (b₀ :: hbody) p8] [] [] p9) (tTry1 X.K tb j Cb th):=by
 intro pins s σ H D I h
 refine wpAny_Try_except (Xaw (hb pins _ [] s σ H D (I.tried _) h) (fun fl s' q=>?_) fun e s' q=>?_)
 ·have q:=q.untried
  cases fl with
  | next=>exact wpAny_execs_nil q
  | brk=>exact q
  | cont=>exact q
  | ret u=>exact q
 ·obtain ⟨σ',ea,T,H',C',od',rfl,J,xa,n1,n2,o1,o2,hm2,k2⟩:=q
  have fr:X.A.frames=some (X.env :: X.outer):=by rw [← hst.1];exact J.ok.frames
  have fl:s'.heap.FunFrames X.base (X.env :: X.outer):=by rw [← hst.1];exact J.stack
  refine zc5 fr fl hst.2 xa fun h1 T2 fT2 sl x2=>?_
  have sl':Slid (frs X.stack) [ea,T] s'.heap h1:=by rw [hst.1];exact sl
  have J1:Inv X pins σ' H' { s' with heap:=h1 }:=J.slid sl' fun b hb=>by
   rcases Xaq.mp hb with rfl | hb
   ·exact ⟨n1,o1⟩
   ·rw [Xad.mp hb];exact ⟨n2,o2⟩
  have n3:H' T2=none:=J.hok.none_of fT2
  have nex:∀ b:Addr,b ∉ X.ex:=fun b z=>by rw [hex] at z;cases z
  have o3:=J.none_ours fT2 (nex T2)
  have cT2:∀ b∈[T2],H' b=none∧X.s₀.heap.get? b=none∧b≠X.env.locals∧(∀ x c,X.env.cells.lookup x=some c→c≠b)∧∀ p∈X.pn ++ pins,p.1≠b:=fun b hb=>by rw [Xad.mp hb];exact ⟨n3,o3⟩
  refine zc0 x2 fun h2 sl2 x3=>?_
  have J2:Inv X pins σ' H' { s' with heap:=h2 }:=J1.slid (sl2.mono (fun b z=>nomatch z) fun _ z=>z) cT2
  have ty:W.Looks (model X.prog X.w) h2 (typeOf (.ref ea)) (.ref C'):=by
   obtain ⟨oe,vs,oT,ts,g1,⟨g2,_⟩,_⟩:=x3
   rw [← g2]
   exact (W.Looks.ld g1).andThen .now
  have Jm:=J2.marked (.ref ea)
  refine wpAny_handleBy_cons (codeAny_handlers_test (zbC Jm (hgm ea) hmc ?_ hdc)) (by intro z;cases z)
  refine (W.exm_one Jm.kIn ty hm2).here ?_
  refine codeAny_handlers_suite_as (zc0 x3 fun h3 sl3 x4=>?_)
  have J3:Inv X pins σ' H' { s' with heap:=h3 }:=J2.slid (sl3.mono (fun b z=>nomatch z) fun _ z=>z) cT2
  have xo:xIs ea (.ref C') od' h3:=by
   obtain ⟨oe,vs,oT,ts,g1,g2,g3,_⟩:=x4
   exact ⟨oe,vs,g1,g2,g3⟩
  have J4:Inv X pins σ' (upd H' ea (.ext (xIs ea (.ref C') od'))) { s' with heap:=h3 }:=J3.trackX n1 xo o1
  have k3:=k2 ea n1
  clear k2
  generalize upd H' ea (.ext (xIs ea (.ref C') od'))=H3 at J4 k3
  refine zcd (v:=.ref ea) J4 hN hj (.inl kn) rfl (fun s4 J5=>?_) (.inr kn)
  refine Xaw (hD ea pins s4 _ H3 _ ((J5.marked (.ref ea)).wish _) k3) (fun fl s5 hq=>?_) fun _ _ z=>False.elim z
  cases fl with
  | ret u=>obtain ⟨_,_,_,_,_,z⟩:=hq;exact False.elim z
  | brk=>obtain ⟨_,_,_,z⟩:=hq;exact False.elim z
  | cont=>obtain ⟨_,_,_,z⟩:=hq;exact False.elim z
  | next =>
   obtain ⟨σ6,H6,J6,q6⟩:=hq
   have J7:Inv X pins σ6 H6 s5:=J6.unwish.unmarked I.ok.hd
   have hjσ:j<σ6.length:=by rw [J7.len];exact (Xar.mp hj).1
   show wpAny (model X.prog X.w) X.A (do bindName X.env n .none;unbindBehindTheSuite X.env n p8) (fun _ s₃=>SP X pins D .next s₃) X.xe s5
   refine Xaa (wpAny_bindName (zcd (v:=.non) J7 hN hj (.inl kn) rfl (fun s8 J8=>?_) (.inr kn)))
   unfold unbindBehindTheSuite
   refine wpAny_onRaise ?_
   obtain ⟨m,hm8,hl8⟩:=id J8.loc
   have hb8:∃ v,m n=some v:=by
    obtain ⟨u,ru,q⟩:=hl8 j n .non hj (by rw [Xbv hjσ]) (.inl kn)
    rcases q with ⟨_,q⟩ | ⟨z,_⟩
    ·exact ⟨_,q⟩
    ·rcases z with z | z
     ·have z:X.env.scope.names.lookup n=some .cell:=z
      rw [kn] at z;cases z
     ·have z:X.env.scope.names.lookup n=some .free:=z
      rw [kn] at z;cases z
   obtain ⟨vn,hvn8⟩:=hb8
   refine wpAny_unbindName_local kn hm8 hvn8 (by rw [J8.ok.kind];rfl) fun h9 u9 hn9 hs9=>?_
   exact ⟨_,H6,J8.unname (t':=s8.toks) hN hj kn hm8 hn9 hs9,q6⟩
end
end L2
end
section
namespace L2
open PySem PySem.Spec PyProof.Rows HT
abbrev TJ:=St→Hp→(Hp→Prop)→Prop
def PJ (X:Cx)(es:List Expr)(t:TJ):Prop:=∀ (out:Str) (pins:List (Addr×Obj)) (s:Shared) (σ:St) (H:Hp) (R:Hp→Prop),out.length+2000 * es.length≤100000→Inv X pins σ H s→t σ H R →
 wpAny (model X.prog X.w) X.A (joinParts out (evalEach es X.env)) (fun u s'=>∃ (z:Str) (tk:Tok) (H':Hp),u = .str z tk∧Inv X pins σ H' s'∧R H') X.xe s
def jNil:TJ:=fun _ H R=>R H
inductive jStr_1 (t:TJ)(σ:St)(R:Hp→Prop)(x:V)(H1:Hp):Prop
 | mk (a:Str) (z0_:x = .str a) (z1_:a.length≤1000) (z2_:t σ H1 R)
def jStr (ta:TE)(t:TJ):TJ:=fun σ H R=>ta σ H (jStr_1 t σ R)
inductive jInt_1 (t:TJ)(σ:St)(R:Hp→Prop)(x:V)(H1:Hp):Prop
 | mk (i:Int) (z0_:x = .int i) (z1_:i.natAbs<2 ^ 1000) (z2_:t σ H1 R)
def jInt (ta:TE)(t:TJ):TJ:=fun σ H R=>ta σ H (jInt_1 t σ R)
def tFsN (t:TJ):TE:=fun σ H Q=>t σ H fun H1=>∀ z:Str,Q (.str z) H1
section
variable {X:Cx}{e v:Expr}{es:List Expr}{pos p2:Pos}{ta:TE}{t:TJ}
theorem pj_nil:PJ X [] jNil:=fun out pins s σ H R hl I h=>by
 refine joinParts_nilE (joinParts_nil ⟨out,_,H,rfl,I.tok _,h⟩ ?_)
 have hz:(100000:Nat)≤sizeLine:=by decide
 simp only [XaU] at hl
 omega
theorem pj_str (he:PE X e ta)(hs:PJ X es t):PJ X (e :: es) (jStr ta t):=fun out pins s σ H R hl I h=>by
 refine joinParts_consE (joinParts_cons (thn (he pins s σ H _ I h) fun u s1 hh_=>?_))
 obtain ⟨x,H1,I1,rx,a,ex,la,q⟩:=hh_
 subst ex
 obtain ⟨t,rfl⟩:=(show ∃ t,u=Value.str a t from rx)
 have hz:(100000:Nat)≤sizeLine:=by decide
 simp only [Xau] at hl
 exact ⟨by rw [strLen_append];omega,hs _ pins s1 σ H1 R (by rw [strLen_append];omega) I1 q⟩
theorem pj_int (hv:PE X v ta)(hs:PJ X es t):PJ X (.FormattedValue v (-1) none p2 :: es) (jInt ta t):=fun out pins s σ H R hl I h=>by
 refine joinParts_consE (joinParts_cons (FormattedValue_plain (thn (hv pins s σ H _ I h) fun u s1 hh_=>?_)))
 obtain ⟨x,H1,I1,rx,i,ex,hi,q⟩:=hh_
 subst ex
 obtain ⟨t,rfl⟩:=(show ∃ t,u=Value.int i t from rx)
 have hz:(100000:Nat)≤sizeLine:=by decide
 simp only [Xau] at hl
 have hlog:i.natAbs.log2<1000:=by
  by_cases z:i.natAbs=0
  ·rw [z];decide
  ·exact (Nat.log2_lt z).mpr hi
 have hlen:(Str.ofString (toString i)).length≤1001:=by
  rw [PySem.ofString_length]
  exact int_text_length_le (by decide) hlog
 refine formatField_int_small (Nat.lt_trans hlog (by decide)) ⟨by rw [strLen_append];omega,?_⟩
 exact hs _ pins _ σ H1 R (by rw [strLen_append];omega) ((I1.tok _).tok _) q
theorem pe_fsN (h2:∃ a b r,es=a :: b :: r)(hs:PJ X es t)(hz:es.length≤40:=by decide):PE X (.JoinedStr es pos) (tFsN t):=by
 obtain ⟨a,b,r,rfl⟩:=h2
 intro pins s σ H Q I h
 refine JoinedStr_many ?_
 refine thn (hs Str.empty pins s σ H _ ?_ I h) fun u s' ⟨z,tk,H',eu,I',q⟩=>⟨.str z,H',I',⟨tk,eu⟩,q z⟩
 have l0:Str.empty.length=0:=rfl
 omega
end
theorem FunD.okX {P:Program}{w:World}{K:W.Frag}{mg:Str→Option Value}{base:Heap}{x qual:Str}{st:Stmt}{dV:Value}{f:Addr}{fd:FuncData}{N ps:List Str}{k:Nat}{sp:Sp}(F:FunD K x qual st dV f fd)(S:FnScope N ps (zai st))(len:∀ vs H Q E,sp vs H Q E→vs.length=ps.length)
  (hbody:∀ (cdv:Value) (A:Around) (outer:List Env) (s:Shared) (H:Hp) (vs:List V) (Q:VK) (E:XK),Room k (A.deeper (envOfC qual (zai st) s.heap.objs.size f cdv))→sp vs H Q E →
   ∃ t,PSs (cxOf (CX1 P w) P w K mg base N qual (zai st) f cdv A outer s H E) (zaO st) t∧t { nx:=fun _ H'=>Q .non H',rt:=Q } (start N vs) H):FnOk P w K mg base (CX1 P w) (k+1) f fd ps sp:=by
 obtain ⟨oc,od,kV,doc,pm,an,cdv,ct,osl,rfl,lk,hcd⟩:=F.ex
 refine ziD lk hcd S len fun A outer s H vs Q E hr hsp=>?_
 obtain ⟨t,h,q⟩:=hbody cdv A outer s H vs Q E hr hsp
 exact ⟨t,h,q⟩
end L2
end
section
namespace L2
open PySem PySem.Spec PyProof.Rows HT
section
variable {prog:Program}{w:World}{A:Around}{E:Value→Shared→Prop}{h:Heap}{g:Array GenState}{d:Drawn}{t:Nat}{os:OsState}
variable {nm q:Str}{C N:Addr}{bs bm:List Value}{hdct:Bool}{sn:List Str}{sub:List Value}{ab:Bool}{col:Option Bool}{dd:Option Addr}{k0 k1 k2 k3 k5:Option Value}{mN:Str→Option Value}{rest:List Value}{fI:Addr}{oI:Obj}
theorem zfc {Q:Fin→Shared→Prop}(T:OwnTail h bmV bm)(hC:h.get? C=some (excClassObj nm q C N bs bm hdct sn sub ab col dd k0 k1 k2 k3 k5 "ValueError.__new__"))(hn:h.Ns N mN)(hi:mN "__init__" = some (.ref fI))
  (hfI:h.get? fI=some oI) (hfc:oI.cls = .type "function") (hrest:rest.length≤sizeLine)
  (hq:∀ h' e,Heap.MadeExcOf h h' e (.ref C) rest→wpAny (model prog w) A (call (.ref fI) (.ref e :: rest)) (fun r s'=>r = .none∧Q (.done (.ret (.ref e))) s') E ⟨h',g,d,t,os⟩) :
  wpAny (model prog w) A (Builtin.«type.__call__» ⟨.ref C :: rest,[]⟩) Q E ⟨h,g,d,t,os⟩:=by
 have F:=PySem.F.excBase_ValueError
 repeat (first | with_reducible refine wpAny_loadPart_at hC ?_ | with_reducible refine wpAny_madeBy_exc hC ?_ | wp_step)
 refine codeAny_call_builtin_code (Code.quiet_builtin _ F.quiet) (wpAny_check_new_subT F T hC ?_)
 refine codeAny_exc_new_subT F T hC ?_ hrest
 show wpAny _ _ _ _ _ _
 have kp:∀ b o,h.get? b=some o→((h.push { cls:=.type "tuple",data:=.seq rest.toArray }).push { cls:=.ref C,data:=.fields #[.ref h.objs.size,.none,.none,.none,.bool false,.none] }).get? b=some o:=
  fun b o e=>Xab _ (Xab _ e)
 have hC₁:=kp _ _ hC
 have hf₁:=kp _ _ hfI
 have hn₁:((h.push { cls:=.type "tuple",data:=.seq rest.toArray }).push { cls:=.ref C,data:=.fields #[.ref h.objs.size,.none,.none,.none,.bool false,.none] }).Ns N mN:=
  let ⟨o,es,ep,e,r⟩:=hn;⟨o,es,ep,kp _ _ e,r⟩
 have hget:((h.push { cls:=.type "tuple",data:=.seq rest.toArray }).push { cls:=.ref C,data:=.fields #[.ref h.objs.size,.none,.none,.none,.bool false,.none] }).get? (h.objs.size+1)=some
   { cls:=.ref C,data:=.fields #[.ref h.objs.size,.none,.none,.none,.bool false,.none] }:=by heap_get
 have hcC:(Value.ref C :: bm).contains (.ref C)=true:=by simp
 have T₁:=T.keeps kp
 unfold isInstance
 repeat (first | with_reducible refine wpAny_loadPart_at hget ?_ | (with_reducible refine wpAny_isSubtype_exc hC₁ ?_;rw [hcC]) | wp_step)
 show wpAny _ _ (typeLookup (.ref C) _) _ _ _
 refine wpAny_typeLookup_tail hC₁ hn₁ T₁ F.mroIs F.init.lookup ?_
 rw [hi]
 refine Xaz (Xaa ?_)
 unfold bindSpecial
 refine Xaa (Xbo (T := "function") ⟨_,hf₁,hfc⟩ ?_)
 rw [if_pos (by decide)]
 refine Xac (Xaa (Xaw (hq _ (h.objs.size+1) ⟨kp,Xbl (Xbn _),h.objs.size,hget,Xbl (Xae _),Xab _ (Heap.get?_push_at rfl rfl)⟩) (fun r s' hr=>?_) fun _ _ x=>x))
 obtain ⟨rfl,hQ⟩:=hr
 wp_walk
 exact hQ
theorem zje {Q:Value→Shared→Prop}(T:OwnTail h bmV bm)(hC:h.get? C=some (excClassObj nm q C N bs bm hdct sn sub ab col dd k0 k1 k2 k3 k5 "ValueError.__new__"))(hn:h.Ns N mN)(hi:mN "__init__" = some (.ref fI))
  (hfI:h.get? fI=some oI) (hfc:oI.cls = .type "function") (hrest:rest.length≤sizeLine)
  (hq:∀ h' e,Heap.MadeExcOf h h' e (.ref C) rest→wpAny (model prog w) (A.under (.builtin "type.__call__" ⟨.ref C :: rest,[]⟩)) (call (.ref fI) (.ref e :: rest)) (fun r s'=>r = .none∧Q (.ref e) s') E ⟨h',g,d,t,os⟩) :
  wpAny (model prog w) A (call (.ref C) rest) Q E ⟨h,g,d,t,os⟩:=by
 have f1:=tc_lookup
 have f2:=tc_bind (.ref C)
 have hT:(⟨h,g,d,t,os⟩:Shared).TypeIs (.ref C) "type" := ⟨_,hC,rfl⟩
 refine Xba (codeAny_of_tree ?_)
 show wpAny _ _ (callAny (.ref C) _) _ _ _
 repeat (any_goals (first | assumption | with_reducible refine wpAny_loadPart_at hC ?_ | wp_step))
 refine ⟨rfl,?_⟩
 exact codeAny_call_builtin_at (Code.quiet_builtin _ (by decide +kernel)) entry_typeCall (wpAny_check_type_call_sub hC (zfc T hC hn hi hfI hfc hrest fun h' e hm=>hq h' e hm))
end
section
variable {M:Model}{A:Around}{E:Value→Shared→Prop}{s:Shared}{env:Env}
variable {nm q:Str}{C N:Addr}{bs bm:List Value}{hdct:Bool}{sn:List Str}{sub:List Value}{ab:Bool}{col:Option Bool}{dd:Option Addr}{k0 k1 k2 k3 k5:Option Value}
theorem zh2 {x:Sem Value}{Q:Flow→Shared→Prop}(hbase:bm.contains (.type "BaseException")=true)(hh:A.handled=none)
  (h:wpAny M A x (fun v s₁=>∃ e t od,v = .ref e∧s₁.heap.get? C=some (excClassObj nm q C N bs bm hdct sn sub ab col dd k0 k1 k2 k3 k5 "ValueError.__new__") ∧
   s₁.heap.get? e=some { cls:=.ref C,dict:=od,data:=.fields #[.ref t,.none,.none,.none,.bool false,.none] }∧E (.ref e) s₁) E s) :
  wpAny M A (raiseStmt env (some x) none) Q E s:=by
 have hcB:(Value.ref C :: bm).contains (.type "BaseException")=true:=by rw [List.contains_cons,hbase,Bool.or_true]
 unfold raiseStmt
 refine Xaa (Xaw h (fun v s₁ h₁=>?_) fun _ _ x=>x)
 obtain ⟨e,t,od,rfl,hC,he,hE⟩:=h₁
 obtain ⟨hp,g,d,tk,os⟩:=s₁
 repeat (first | with_reducible refine wpAny_loadPart_at he ?_ | with_reducible refine wpAny_loadPart_at hC ?_ | (with_reducible refine wpAny_isSubtype_exc hC ?_;rw [hcB]) | wp_step)
 exact wpAny_raiseNew_none hh hE
end
section
variable {prog:Program}{w:World}{A:Around}{E:Value→Shared→Prop}{s:Shared}{env:Env}
variable {nm q:Str}{C N:Addr}{bs bm:List Value}{hdct:Bool}{sn:List Str}{sub:List Value}{ab:Bool}{col:Option Bool}{dd:Option Addr}{k0 k1 k2 k3 k5:Option Value}{mN:Str→Option Value}{fI:Addr}{oI:Obj}
theorem zjd {x:Str}{np cpos pos:Pos}{args:List Expr}{Q:Flow→Shared→Prop}(hbase:bm.contains (.type "BaseException")=true)(hh:A.handled=none)(hplain:(backTo cpos (starEach args env)).any (·.1)=false)(hi:mN "__init__" = some (.ref fI))(hfc:oI.cls = .type "function")
  (h:wpAny (model prog w) A (eval (.Name x np) env) (fun f s₁=>f = .ref C∧wpAny (model prog w) A (evalArgs (.ref C) true (backTo cpos (starEach args env)) [])
   (fun a s₂=>a.kw=[]∧a.pos.length≤sizeLine∧s₂.heap.get? C=some (excClassObj nm q C N bs bm hdct sn sub ab col dd k0 k1 k2 k3 k5 "ValueError.__new__")∧s₂.heap.Ns N mN∧OwnTail s₂.heap bmV bm∧s₂.heap.get? fI=some oI ∧
    ∀ h' e,Heap.MadeExcOf s₂.heap h' e (.ref C) a.pos→wpAny (model prog w) (A.under (.builtin "type.__call__" ⟨.ref C :: a.pos,[]⟩)) (call (.ref fI) (.ref e :: a.pos))
     (fun r s'=>r = .none∧∃ t od,s'.heap.get? C=some (excClassObj nm q C N bs bm hdct sn sub ab col dd k0 k1 k2 k3 k5 "ValueError.__new__")∧s'.heap.get? e=some { cls:=.ref C,dict:=od,data:=.fields #[.ref t,.none,.none,.none,.bool false,.none] }∧E (.ref e) s') E { s₂ with heap:=h' }) E s₁) E s) :
  wpAny (model prog w) A (exec (.Raise (some (.Call (.Name x np) args [] cpos)) none pos) env) Q E s:=by
 rw [arm_exec_Raise]
 simp only [evalOpt,Option.map]
 refine Xaa (Xa4 (zh2 (C:=C) (nm:=nm) (q:=q) (N:=N) (bs:=bs) (bm:=bm) (hdct:=hdct) (sn:=sn) (sub:=sub) (ab:=ab) (col:=col) (dd:=dd) (k0:=k0) (k1:=k1) (k2:=k2) (k3:=k3) (k5:=k5) hbase hh (Xaa (Xaw (wpAny_Call_ofName (Xaw h (fun f s₁ h₁=>?_) fun _ _ x=>x)) (fun v s₃ h₃=>Xaa (Xa4 (Xac h₃))) fun _ _ x=>x))))
 obtain ⟨rfl,h₁⟩:=h₁
 unfold callWith
 refine Xaa (Xaz (Xaw h₁ (fun a s₂ h₂=>Xaa (Xa4 ?_)) fun _ _ x=>x))
 obtain ⟨apos,akw⟩:=a
 obtain ⟨hkw,hlen,hC,hn,T,hfI,h₂⟩:=h₂
 obtain rfl:akw=[]:=hkw
 obtain ⟨hp,g,d,tk,os⟩:=s₂
 simp only [hplain]
 refine Xaa (wpAny_keeperOf_exc hC ?_)
 refine Xaa (zje T hC hn hi hfI hfc hlen fun h' e hm=>Xaw (h₂ h' e hm) (fun r s' hr=>?_) fun _ _ x=>x)
 obtain ⟨rfl,t,od,hC',he,hE⟩:=hr
 exact ⟨rfl,Xaa (Xaz (wpAny_point (Xac ⟨e,t,od,rfl,hC',he,hE⟩)))⟩
end
end L2
end
section
namespace L2
open PySem PySem.Spec PyProof.Rows HT
end L2
end
section
namespace L2
open PySem PySem.Spec PyProof.Rows HT PySem.W PySem.Calls PySem.NumText
end L2
end
section
namespace L2
open PySem PySem.Spec PyProof.Rows HT
end L2
end
section
namespace L2
open PySem PySem.Spec PyProof.Rows HT
section
variable {X:Cx}{x:Str}{p pos:Pos}{e:Expr}{es:List Expr}{tv:TE}{t:TA}
end
end L2
end
section
namespace L2
open PySem PySem.Spec PyProof.Rows HT PySem.W PySem.Calls
end L2
end
section
namespace L2
open PySem PySem.Spec PyProof.Rows HT
section
variable {X:Cx}{x:Str}{a:Addr}{e:Expr}{p apos cpos:Pos}{ty:TE}{kvs:List (Key×V)}
end
end L2
end
section
namespace L2
open PySem PySem.Spec PyProof.Rows HT
end L2
end
section
namespace L2
open PySem PySem.Spec PyProof.Rows PySem.SeqAt
section
variable {X:Cx}{K:W.Frag}
end
section
variable {X:Cx}
end
end L2
end
section
namespace L2
open PySem PySem.Spec PyProof.Rows Builtin
section
variable {prog:Program}{w:World}{A:Around}{E:Value→Shared→Prop}{s:Shared}{K:W.Frag}{x y C D f:Addr}{ox oy:Obj}{od oe:Option Obj}
end
section
variable {X:Cx}
end
section
variable {prog:Program}{w:World}{A:Around}{E:Value→Shared→Prop}{s:Shared}
end
structure Tab (L:Bool)(t:SetTable)(n:Nat):Prop where
 fits:t.fits n=true
 ris:t.place.toList.Pairwise (· < ·)
 led:t.led=L
theorem zjR {xs:Array Nat}{i j:Nat}(h:i<xs.size):xs.getD i j=xs.toList[i]'(by simpa using h):=by
 rw [Array.getD_eq_getD_getElem?,XaE h];simp
theorem zie {l:List Nat}(h:l.Pairwise (· < ·)){i k:Nat}(hk:k<l.length)(hik:i<k):l[i]'(by omega)<l[k]:=(List.pairwise_iff_getElem.mp h) i k (by omega) hk hik
theorem zer {xs:Array Nat}{j:Nat}(hr:xs.toList.Pairwise (· < ·)):∀ (fuel lo hi:Nat),hi≤xs.size→lo≤hi→hi - lo≤fuel→(∀ i (h:i<xs.toList.length),i<lo→xs.toList[i]<j)→(∀ i (h:i<xs.toList.length),hi≤i→j≤xs.toList[i]) →
  SetTable.below.go xs j fuel lo hi≤xs.size∧(∀ i (h:i<xs.toList.length),i<SetTable.below.go xs j fuel lo hi→xs.toList[i]<j)∧∀ i (h:i<xs.toList.length),SetTable.below.go xs j fuel lo hi≤i→j≤xs.toList[i]
 | 0,lo,hi,h1,h2,h3,a,b=>by
  obtain rfl:lo=hi:=by omega
  exact ⟨h1,a,b⟩
 | fuel+1,lo,hi,h1,h2,h3,a,b=>by
  unfold SetTable.below.go
  by_cases hlt:lo<hi
  ·rw [if_pos hlt]
   have hm:(lo+hi) / 2<xs.size:=by omega
   have hml:(lo+hi) / 2<xs.toList.length:=by simpa using hm
   dsimp only
   rw [zjR hm]
   by_cases hc:xs.toList[(lo+hi) / 2]<j
   ·rw [if_pos hc]
    refine zer hr fuel _ hi h1 (by omega) (by omega) (fun i h hi'=>?_) b
    rcases (show i<(lo+hi) / 2∨i=(lo+hi) / 2 by omega) with e | e
    ·exact Nat.lt_trans (zie hr hml e) hc
    ·subst e;exact hc
   ·rw [if_neg hc]
    refine zer hr fuel lo _ (by omega) (by omega) (by omega) a (fun i h hi'=>?_)
    rcases (show (lo+hi) / 2<i∨i=(lo+hi) / 2 by omega) with e | e
    ·exact Nat.le_of_lt (Xa9 (Nat.not_lt.mp hc) (zie hr h e))
    ·subst e;exact Nat.not_lt.mp hc
  ·rw [if_neg hlt]
   obtain rfl:lo=hi:=by omega
   exact ⟨h1,a,b⟩
theorem zc4 {xs:Array Nat}{j:Nat}(hr:xs.toList.Pairwise (· < ·)):SetTable.below xs j≤xs.size∧(∀ i (h:i<xs.toList.length),i<SetTable.below xs j→xs.toList[i]<j)∧∀ i (h:i<xs.toList.length),SetTable.below xs j≤i→j≤xs.toList[i]:=
 zer hr xs.size 0 xs.size (Xae _) (Nat.zero_le _) (Xae _) (fun i h z=>absurd z (Nat.not_lt_zero _)) fun i h z=>absurd (show i<xs.size by simpa using h) (Nat.not_lt.mpr z)
theorem ziN {xs:Array Nat}(hr:xs.toList.Pairwise (· < ·)){i:Nat}(h:i<xs.size):SetTable.below xs xs[i]=i:=by
 obtain ⟨b1,b2,b3⟩:=zc4 (j:=xs[i]) hr
 have hl:i<xs.toList.length:=by simpa using h
 have e:xs.toList[i]=xs[i]:=by simp
 rcases Nat.lt_trichotomy (SetTable.below xs xs[i]) i with z | z | z
 ·have h2:SetTable.below xs xs[i]<xs.toList.length:=by omega
  have q1:=b3 _ h2 (Xae _)
  have q2:=zie hr hl z
  rw [e] at q2
  exact absurd q1 (Nat.not_le.mpr q2)
 ·exact z
 ·have q1:=b2 i hl z
  rw [e] at q1
  exact absurd q1 (XaL _)
theorem zgB {xs:Array Nat}(hr:xs.toList.Pairwise (· < ·)){i:Nat}(h:i<xs.size):SetTable.below xs (xs[i]+1)=i+1:=by
 obtain ⟨b1,b2,b3⟩:=zc4 (j:=xs[i]+1) hr
 have hl:i<xs.toList.length:=by simpa using h
 have e:xs.toList[i]=xs[i]:=by simp
 rcases Nat.lt_trichotomy (SetTable.below xs (xs[i]+1)) (i+1) with z | z | z
 ·have q1:=b3 i hl (by omega)
  rw [e] at q1;omega
 ·exact z
 ·have hls:xs.toList.length=xs.size:=by simp
  have h2:i+1<xs.toList.length:=by omega
  have q1:=b2 (i+1) h2 z
  have q2:=zie hr h2 (Xa3 i)
  rw [e] at q2;omega
theorem zgA {xs:Array Nat}(hr:xs.toList.Pairwise (· < ·)):SetTable.below xs 0=0:=by
 obtain ⟨b1,b2,b3⟩:=zc4 (j:=0) hr
 rcases Nat.eq_zero_or_pos (SetTable.below xs 0) with z | z
 ·exact z
 ·have hls:xs.toList.length=xs.size:=by simp
  have h2:0<xs.toList.length:=by omega
  exact absurd (b2 0 h2 z) (Nat.not_lt_zero _)
theorem zi1 {t:SetTable}(hr:t.place.toList.Pairwise (· < ·)){j:Nat}(h:∀ i,t.slot j≠.live i):j ∉ t.place.toList:=fun hm=>by
 obtain ⟨i,hi,e⟩:=List.getElem_of_mem hm
 have hi':i<t.place.size:=by simpa using hi
 have e':t.place[i]=j:=by simpa using e
 refine h (SetTable.below t.place j) ?_
 unfold SetTable.slot
 dsimp only
 rw [if_pos]
 rw [← e',ziN hr hi',XaE hi',beq_self_eq_true]
theorem zcx {t:SetTable}{hs:Nat→Int}{h:Int}:∀ (fuel:Nat) (p:SetTable.Probe) (j:Nat) (d:Option Nat),(∀ x,p.dummy=some x→∀ i,t.slot x≠.live i)→SetTable.probe.go t hs h fuel p=some (.empty j d)→(∀ i,t.slot j≠.live i)∧∀ x,d=some x→∀ i,t.slot x≠.live i
 | 0,p,j,d,_,e=>by cases e
 | fuel+1,p,j,d,hd,e=>by
  have adv:∀ q:SetTable.Probe,(t.advance q).dummy=q.dummy:=fun q=>by unfold SetTable.advance;split <;> rfl
  unfold SetTable.probe.go at e
  cases hq:t.slot p.j with
  | empty =>
   rw [hq] at e
   have e:=Option.some.inj e
   injection e with e1 e2
   subst e1 e2
   exact ⟨fun i z=>(by rw [hq] at z;cases z),hd⟩
  | dummy =>
   rw [hq] at e
   refine zcx fuel _ j d (fun x hx i z=>?_) e
   rw [adv] at hx
   have hx:p.j=x:=Option.some.inj hx
   subst hx
   rw [hq] at z;cases z
  | live i =>
   rw [hq] at e
   dsimp only at e
   split at e
   ·cases e
   ·exact zcx fuel _ j d (fun x hx=>hd x (by rw [adv] at hx;exact hx)) e
set_option tactic.hygienic true in
theorem zeV {t:SetTable}(hr:t.place.toList.Pairwise (· < ·)){h:Int}{j:Nat}{b:Bool}(e:t.freeSlot h=some (j,b)):j ∉ t.place.toList:=by
 unfold SetTable.freeSlot at e
 split at e
 ·rename_i j' d hp
  have e:=Option.some.inj e
  injection e with e1 _
  obtain ⟨a1,a2⟩:=zcx _ _ _ _ (fun x hx=>by cases hx) hp
  cases d with
  | none=>rw [← e1];exact zi1 hr a1
  | some x=>rw [← e1];exact zi1 hr (a2 x rfl)
 ·cases e
theorem zgt {xs:Array Nat}(hr:xs.toList.Pairwise (· < ·)){j:Nat}(hj:j ∉ xs.toList):(SetTable.insertAt xs (SetTable.below xs j) j).toList.Pairwise (· < ·):=by
 obtain ⟨b1,b2,b3⟩:=zc4 (j:=j) hr
 rw [SetTable.toList_insertAt,List.pairwise_append]
 refine ⟨hr.sublist (List.take_sublist _ _),List.pairwise_cons.mpr ⟨fun x hx=>?_,hr.sublist (List.drop_sublist _ _)⟩,fun x hx y hy=>?_⟩
 ·obtain ⟨i,hi,rfl⟩:=List.getElem_of_mem hx
  rw [List.getElem_drop]
  rw [List.length_drop] at hi
  have q:=b3 (SetTable.below xs j+i) (by omega) (by omega)
  exact Nat.lt_of_le_of_ne q fun z=>hj (by rw [z];exact Xbe _)
 ·obtain ⟨i,hi,rfl⟩:=List.getElem_of_mem hx
  rw [List.getElem_take]
  rw [Xa6] at hi
  have q:=b2 i (by omega) (by omega)
  rcases Xaq.mp hy with rfl | hy
  ·exact q
  ·obtain ⟨k,hk,rfl⟩:=List.getElem_of_mem hy
   rw [List.getElem_drop]
   rw [List.length_drop] at hk
   exact Xaf q (b3 _ (by omega) (by omega))
theorem zbf (n:Nat):(Array.range n).toList.Pairwise (· < ·):=by
 rw [Array.toList_range]
 exact List.pairwise_lt_range
theorem or_tab {L:Bool}{t:SetTable}(hr:t.place.toList.Pairwise (· < ·))(hl:t.led=L)(n:Nat):(t.orStandIn n).place.toList.Pairwise (· < ·)∧(t.orStandIn n).led=L:=by
 unfold SetTable.orStandIn
 by_cases h:t.fits n=true
 ·rw [if_pos h];exact ⟨hr,hl⟩
 ·rw [if_neg h];exact ⟨zbf n,hl⟩
set_option tactic.hygienic true in
theorem zgp {L:Bool}{t:SetTable}{es:Array (Int×Value)}(T:Tab L t es.size)(h:Int)(x:Value):Tab L (layNew t es h x).2.1 (layNew t es h x).1.size:=by
 have ft:=layNew_fits t es h x
 have q:(layNew t es h x).2.1.place.toList.Pairwise (· < ·)∧(layNew t es h x).2.1.led=L:=by
  unfold layNew
  split
  ·rename_i j b e
   exact or_tab (t:=(t.put j).1) (zgt T.ris (zeV T.ris e)) T.led _
  ·exact ⟨zbf _,T.led⟩
 exact ⟨ft,q.1,q.2⟩
theorem zdA {mask finger moves:Nat}{led plain:Bool}{hashes:Array Int}{t:SetTable}{o:Array Nat}(e:SetTable.laid mask finger moves led plain hashes=some (t,o)):t.place.toList.Pairwise (· < ·)∧t.led=led:=by
 unfold SetTable.laid at e
 obtain ⟨owner,_,e⟩:=Option.bind_eq_some_iff.mp e
 have e:=Option.some.inj e
 injection e with e1 _
 subst e1
 refine ⟨?_,rfl⟩
 show ((((List.range (mask+1)).filterMap fun j=>(owner.getD j none).map (j,·)).map (·.1)).toArray).toList.Pairwise (· < ·)
 rw [List.map_filterMap,List.toList_toArray]
 refine List.Pairwise.filterMap _ (R:=(· < ·)) (S:=(· < ·)) (fun a a' hl b hb b' hb'=>?_) List.pairwise_lt_range
 ·cases h1:owner.getD a none with
  | none=>rw [h1] at hb;cases hb
  | some u =>
   rw [h1] at hb
   cases h2:owner.getD a' none with
   | none=>rw [h2] at hb';cases hb'
   | some v =>
    rw [h2] at hb'
    have q1:a=b:=Option.some.inj hb
    have q2:a'=b':=Option.some.inj hb'
    omega
set_option tactic.hygienic true in
theorem zg5 {L:Bool}{t:SetTable}{es:Array (Int×Value)}(T:t.led=L)(n:Nat):Tab L (relayAll t es n).2.1 (relayAll t es n).1.size:=by
 refine ⟨relayAll_fits t es n,?_,?_⟩
 ·unfold relayAll
  split
  ·rename_i t' o e
   dsimp only
   split
   ·exact (zdA e).1
   ·exact zbf _
  ·exact zbf _
 ·unfold relayAll
  split
  ·rename_i t' o e
   dsimp only
   split
   ·exact (zdA e).2.trans T
   ·exact T
  ·exact T
def sObj (es:Array (Int×Value))(ep:Nat)(t:SetTable):Obj:={ cls:=.type "set",data:=.set es ep t }
def EOk (e:Int×Value):Prop:=∃ (n:Int) (t:Tok),e=(hashInt n,.int n t)
def eInt (e:Int×Value):Int:=match e.2 with
 | .int n _=>n
 | _=>0
def zhE (l:List (Int×Value)):List Int:=l.map eInt
def SetI (L:Bool)(h:Heap)(a:Addr)(S:List Int):Prop:=∃ es ep t,h.get? a=some (sObj es ep t)∧(∀ e∈es.toList,EOk e)∧(zhE es.toList).Perm S∧S.Nodup∧Tab L t es.size
theorem SetI.at {L:Bool}{h h':Heap}{a:Addr}{S:List Int}(x:SetI L h a S)(e:∀ o,h.get? a=some o→h'.get? a=some o):SetI L h' a S:=by
 obtain ⟨es,ep,t,g,r⟩:=x
 exact ⟨es,ep,t,e _ g,r⟩
theorem zhD {prog:Program}{w:World}{l:List (Int×Value)}(h:∀ e∈l,EOk e):ElemsOf (intKind prog w) l:=fun e he=>by
 obtain ⟨n,t,rfl⟩:=h e he
 exact ⟨⟨n,intKind_is _ _ _ _,rfl⟩,rfl⟩
theorem zi4 {prog:Program}{w:World}{e:Int×Value}(h:EOk e)(n:Int):(intKind prog w).is n e.2=decide (n=eInt e):=by
 obtain ⟨m,t,rfl⟩:=h
 show Value.isInt n (.int m t)=decide (n=m)
 unfold Value.isInt
 by_cases e:n=m
 ·subst e;simp
 ·rw [Xao e];simpa using fun z=>e z.symm
section
variable {prog:Program}{w:World}{A:Around}{E:Value→Shared→Prop}{s:Shared}
theorem ziU {h:Heap}{a:Addr}{es es':Array (Int×Value)}{ep:Nat}{t t':SetTable}(g:h.get? a=some (sObj es ep t)):(h.update a (Obj.putSet es' t')).get? a=some (sObj es' (ep+1) t'):=by
 have e:=putSet_of es' t' (show (sObj es ep t).data = .set es ep t from rfl)
 have:=XaD (Obj.putSet es' t') g (by rw [e];rfl)
 rw [e] at this;exact this
theorem zfZ {L:Bool}{g:Bool→Sem Unit}(hg:∀ (b:Bool) (s₁:Shared) (Q':Unit→Shared→Prop),Q' () s₁→wpAny (model prog w) A (g b) Q' E s₁){a:Addr}{es es1:Array (Int×Value)}{ep:Nat}{t t2:SetTable}(ho:s.heap.get? a=some (sObj es ep t))
  (hz:es1.size<scanBound) (T2:Tab L t2 es1.size) {wd:Bool} {R:Option Bool→Shared→Prop}
  (h:∀ h' es' ep' t',Heap.SameBut a s.heap h'→h'.get? a=some (sObj es' ep' t')→es'.toList.Perm es1.toList→Tab L t' es'.size→R (some true) { s with heap:=h' }) :
  wpAny (model prog w) A (do
   storeSet a es1 t2
   if (!wd && t2.tooFull)=true then do
    g (relayAll t2 es1 (SetTable.grown es1.size)).2.2
    storeSet a (relayAll t2 es1 (SetTable.grown es1.size)).1 (relayAll t2 es1 (SetTable.grown es1.size)).2.1
    pure (some true)
   else pure (some true)) R E s:=by
 refine Xaa (wpAny_storeSet_of ho rfl ?_ (fits_of_scanBound hz))
 have g1:=ziU (es':=es1) (t':=t2) ho
 have b1:=Heap.SameBut.update s.heap a (Obj.putSet es1 t2)
 split
 ·have pm:=relayAll_perm t2 es1 (SetTable.grown es1.size)
  have T3:=zg5 (es:=es1) T2.led (SetTable.grown es1.size)
  generalize relayAll t2 es1 (SetTable.grown es1.size)=Y at pm T3 ⊢
  obtain ⟨es2,t3,gv⟩:=Y
  have sz:es2.size=es1.size:=by rw [← Array.length_toList,pm.length_eq,Array.length_toList]
  refine Xaa (hg _ _ _ (Xaa (wpAny_storeSet_of g1 rfl ?_ (fits_of_scanBound (by rw [sz];exact hz)))))
  exact Xac (h _ es2 _ t3 (b1.trans (Heap.SameBut.update _ a _)) (ziU g1) pm T3)
 ·exact Xac (h _ es1 _ t2 b1 g1 .rfl T2)
theorem zjn {L:Bool}{a:Addr}{S:List Int}{n:Int}{tok:Tok}{Q:Value→Shared→Prop}(hS:SetI L s.heap a S)(hz:S.length<1000)
  (h:∀ h',Heap.SameBut a s.heap h'→SetI L h' a (if n∈S then S else S ++ [n])→Q .none { s with heap:=h',toks:=s.toks+1 }) :
  wpAny (model prog w) A (call (.builtin "set.add") [.ref a,.int n tok]) Q E s:=by
 obtain ⟨es,ep,t,ho,hE,hP,hN,T⟩:=hS
 have hel:=zhD (prog:=prog) (w:=w) hE
 have hsz:es.size=S.length:=by rw [← Array.length_toList,← hP.length_eq];unfold zhE;rw [Xal]
 have hb:es.size<scanBound:=Nat.lt_trans (show es.size<1000 by omega) (by decide)
 have hk:(intKind prog w).is n (.int n tok)=true:=intKind_is _ _ _ _
 have hsc:(Value.int n tok).scannable=true:=rfl
 refine XaM F.slot_set_add (show s.TypeIs (.ref a) "set" from ⟨_,ho,rfl⟩) F.entry_set_add ?_ (F.args_set_add_2 _ _)
 unfold Builtin.«set.add» Builtin.Frozenset.oneOther;simp only [List.isEmpty_nil,bind_assoc]
 unfold Builtin.Frozenset.addrOf setAdd;refine Xaa (Xac ?_)
 try dsimp only
 refine Xaa (Xac (Xaa (Xaz (Xaa ((intKind prog w).pyHash hk ?_)))))
 generalize hs1:({ s with toks:=s.toks+1 }:Shared)=s1
 have ho1:s1.heap.get? a=some (sObj es ep t):=by rw [← hs1];exact ho
 have fin:∀ (b:Bool) h',Heap.SameBut a s.heap h'→SetI L h' a (if n∈S then S else S ++ [n])→(fun (_:Bool) s'=>wpAny (model prog w) A.in1 (ret Value.none) (fun fin s'=>∃ v,fin = .done (.ret v)∧Q v s') E s') b { s1 with heap:=h' }:=fun b h' hb' x=>by
  have:=h h' hb' x
  rw [← hs1]
  exact Xac ⟨_,rfl,this⟩
 show wpAny (model prog w) A.in1 (setAddHashed a (.int n tok) ((intKind prog w).hash n)) (fun _ s'=>wpAny (model prog w) A.in1 (ret Value.none) (fun fin s'=>∃ v,fin = .done (.ret v)∧Q v s') E s') E s1
 unfold setAddHashed setAddHashedIn;refine Xaz (Xaa (Xa1 ho1 rfl T.fits ?_))
 dsimp only
 rw [byScan_of hsc hb hel,if_pos rfl]
 unfold setAddByScan;refine Xaa (Xaa (Xbm (Xaa (wpAny_setScan_of hk ho1 rfl T.fits hel ?_))))
 have s1h:s1.heap=s.heap:=by rw [← hs1]
 have mem:n∈S↔∃ e∈es.toList,(intKind prog w).is n e.2=true:=by
  rw [← hP.mem_iff]
  constructor
  ·intro hm
   obtain ⟨e,he,z⟩:=Xbg.mp hm
   exact ⟨e,he,by rw [zi4 (hE e he)];exact Xas z.symm⟩
  ·rintro ⟨e,he,z⟩
   rw [zi4 (hE e he)] at z
   rw [XaN z]
   exact Xbg.mpr ⟨e,he,rfl⟩
 cases hr:List.findIdx? (fun e=>(intKind prog w).is n e.2) es.toList with
 | some j =>
  obtain ⟨hj,pj,_⟩:=List.findIdx?_eq_some_iff_getElem.mp hr
  have hm:n∈S:=mem.mpr ⟨_,Xbe hj,pj⟩
  refine Xac (Xac ?_)
  have:=fin false s.heap (Heap.SameBut.refl a s.heap) (by rw [if_pos hm];exact ⟨es,ep,t,ho,hE,hP,hN,T⟩)
  rw [← hs1] at this ⊢
  exact this
 | none =>
  have hm:n ∉ S:=fun z=>by
   obtain ⟨e,he,p⟩:=mem.mp z
   have:=List.findIdx?_eq_none_iff.mp hr e he
   rw [p] at this;cases this
  rw [if_neg hm] at fin
  have pm:=layNew_perm t es ((intKind prog w).hash n) (.int n tok)
  have T1:=zgp T ((intKind prog w).hash n) (.int n tok)
  generalize layNew t es ((intKind prog w).hash n) (.int n tok)=Y at pm T1 ⊢
  obtain ⟨es1,t1,wd,gv⟩:=Y
  dsimp only at pm T1 ⊢
  rw [Array.toList_push] at pm
  have sz1:es1.size=es.size+1:=by rw [← Array.length_toList,pm.length_eq,Xan,Array.length_toList];rfl
  have hz1:es1.size<scanBound:=Nat.lt_trans (show es1.size<1001 by omega) (by decide)
  have last:∀ h' es' ep' t',Heap.SameBut a s1.heap h'→h'.get? a=some (sObj es' ep' t')→es'.toList.Perm es1.toList→Tab L t' es'.size→SetI L h' a (S ++ [n]):=fun h' es' ep' t' hb' g' p' T'=>by
   have p2:=p'.trans pm
   refine ⟨es',ep',t',g',fun e he=>?_,?_,?_,T'⟩
   ·rcases XaP.mp (p2.mem_iff.mp he) with z | z
    ·exact hE e z
    ·rw [Xad.mp z];exact ⟨n,tok,rfl⟩
   ·have q:=p2.map eInt
    rw [Xa2] at q
    exact q.trans (hP.append_right _)
   ·exact XaR.mpr ⟨hN,Xbi.mpr ⟨(fun z=>nomatch z),List.nodup_nil⟩,fun x hx y hy z=>hm (by rw [← Xad.mp hy,← z];exact hx)⟩
  refine Xaa (m:=(match gv with | true=>rule "set.scan.the-table-gave-way" | false=>pure ())) ?_
  have hgw:∀ (b:Bool) (s₁:Shared) (Q':Unit→Shared→Prop),Q' () s₁→wpAny (model prog w) A.in1 (match b with | true=>rule "set.scan.the-table-gave-way" | false=>pure ()) Q' E s₁:=fun b s₁ Q' q=>by
   cases b
   ·exact Xac q
   ·exact Xbm q
  refine hgw gv _ _ ?_
  have off:Tab L { t1 with plain:=false } es1.size:=⟨SetTable.fits_plain_off T1.fits,T1.ris,T1.led⟩
  split
  ·refine Xaa ?_
   rw [hashByValue_scannable 8 hsc]
   refine Xac (zfZ (L:=L) hgw ho1 hz1 ?_ fun h' es' ep' t' hb' g' p' T'=>Xac (fin true h' (by rw [← s1h];exact hb') (last h' es' ep' t' hb' g' p' T')))
   split
   ·exact T1
   ·exact off
  ·refine Xaa (Xac ?_)
   rw [if_pos rfl]
   exact zfZ (L:=L) hgw ho1 hz1 T1 fun h' es' ep' t' hb' g' p' T'=>Xac (fin true h' (by rw [← s1h];exact hb') (last h' es' ep' t' hb' g' p' T'))
end
theorem slot_si_next:Slot "set_iterator" "__next__" "set_iterator.__next__" :=
 .of (owner := "set_iterator") (n := "__next__") (by rw [typeLookup_type,builtinLookup_eq_fast];kernel_rfl) (by decide +kernel) (by decide +kernel) (by decide +kernel) (by first | exact .inl (by decide +kernel) | exact .inr (by decide +kernel)) (by rw [isSubtype_type];kernel_rfl)
theorem zcl:entryFor table "set_iterator.__next__" = some Builtin.«set_iterator.__next__»:=entryFor_of_tree (by kernel_rfl)
theorem zfQ:Manifest.owners.lookup (String.ofList ['r','o','t','a','r','e','t','i','_','t','e','s'].reverse)=some Manifest.sig_set_iterator:=by kernel_rfl
theorem zcL (a:Value):argsOk "set_iterator.__next__" ⟨[a],[]⟩:=by
 unfold argsOk;rw [signature?_of (id := "set_iterator.__next__") (n:=['_','_','t','x','e','n','_','_']) (o:=['r','o','t','a','r','e','t','i','_','t','e','s']) (by kernel_rfl) zfQ];kernel_rfl
theorem zeX:entryFor table "set.__iter__" = some Builtin.«frozenset.__iter__»:=entryFor_alias (id' := "frozenset.__iter__") (by kernel_rfl) rfl (by decide +kernel) (by kernel_rfl)
theorem erase_perm {α:Type}:∀ {l:List α} {i:Nat} (h:i<l.length),(l[i] :: l.eraseIdx i).Perm l
 | a :: l,0,h=>.rfl
 | a :: l,i+1,h=>(List.Perm.swap _ _ _).trans ((erase_perm (l:=l) (i:=i) (by simpa using h)).cons a)
theorem zhc {α:Type}(next:Nat→Nat):∀ (fuel k:Nat) (left:List α) (out:Array α),left.length=fuel→(pickOrder.go next fuel k left out).toList.Perm (out.toList ++ left)
 | 0,k,left,out,h=>by rw [List.eq_nil_of_length_eq_zero h,Xbs];exact .rfl
 | fuel+1,k,left,out,h=>by
  have hl:next k % left.length<left.length:=Nat.mod_lt _ (by omega)
  unfold pickOrder.go
  rw [Xax hl]
  dsimp only
  refine (zhc next fuel (k+1) _ _ (by rw [List.length_eraseIdx_of_lt hl];omega)).trans ?_
  rw [Array.toList_push,List.append_assoc]
  exact (List.Perm.refl _).append (erase_perm hl)
theorem zhb {α:Type}(next:Nat→Nat)(xs:Array α):(pickOrder next xs).toList.Perm xs.toList:=by
 have:=zhc next xs.size 0 xs.toList #[] (by simp)
 simpa [pickOrder] using this
section
variable {prog:Program}{w:World}{A:Around}{E:Value→Shared→Prop}{s:Shared}
theorem zgC {src:Source}{n:Nat}{Q:Nat→Shared→Prop}(hn:n≠0)(h:∀ i d,i<n→Q i { s with drawn:=d }):wpAny (model prog w) A (choose src n) Q E s:=fun Γ p _ =>
 ⟨hn,h _ _ (Nat.mod_lt _ (Nat.pos_of_ne_zero hn))⟩
theorem zd2 {α:Type}:∀ (n:Nat) (xs:List α) (s:Shared) (Q:List α→Shared→Prop),xs.length=n→(∀ ys d,ys.Perm xs→Q ys { s with drawn:=d })→wpAny (model prog w) A (drawOrder n xs) Q E s
 | 0,xs,s,Q,h,q=>by
  unfold drawOrder
  exact Xac (by have:=q [] s.drawn (by rw [List.eq_nil_of_length_eq_zero h]);exact this)
 | n+1,[],s,Q,h,q=>by cases h
 | n+1,x :: xs,s,Q,h,q=>by
  unfold drawOrder
  refine Xaa (zgC (by simp) fun i d hi=>?_)
  rw [Xax hi]
  dsimp only
  refine Xaa (zd2 n _ _ _ (by rw [List.length_eraseIdx_of_lt hi];simp at h ⊢;exact h) fun ys d' p=>Xac (q _ d' ?_))
  exact (List.Perm.cons _ p).trans (erase_perm hi)
def zgE (w:World)(a:Addr)(es:Array (Int×Value))(ep:Nat)(t:SetTable)(vs:List Value)(h:Heap)(i:Nat)(first:Value):Prop:=
 (w.params.followText "set-order" = true∧(∃ k:Nat,first = .int (k:Int) 0)∧vs=(pickOrder (w.params.setOrder a ep) es).toList.map (·.2)) ∨
 (w.params.followText "set-order" = false∧(!t.plain && decide (es.size > 1))=false∧t.led=true∧(∃ k:Nat,first = .int (k:Int) 0∧SetTable.below t.place k=i)∧vs=es.toList.map (·.2)) ∨
 (w.params.followText "set-order" = false∧∃ (T:Addr) (ps:List Nat),first = .ref T∧h.get? T=some { cls:=.type "tuple",data:=.seq (ps.map fun (p:Nat)=>Value.int (p:Int) 0).toArray }∧ps.length=es.size∧(∀ p∈ps,p<es.size)∧vs=ps.map fun p=>((es[p]?).getD (0,.none)).2)
end
def siO (first:Value)(i:Int)(a:Value)(n:Int)(ep:Int):Obj:={ cls:=.type "set_iterator",data:=.fields #[first,.int i 0,a,.int n 0,.int ep 0] }
section
variable {prog:Program}{w:World}{A:Around}{E:Value→Shared→Prop}{s:Shared}
theorem zdV {h:Heap}{I:Addr}{vs:Array Value}{j:Nat}{x:Value}(hI:h.get? I=some { cls:=.type "set_iterator",data:=.fields vs }):(h.update I (Obj.mapFields (·.setIfInBounds j x))).get? I=some { cls:=.type "set_iterator",data:=.fields (vs.setIfInBounds j x) }:=by
 have:=XaD (Obj.mapFields (·.setIfInBounds j x)) hI rfl
 exact this
theorem zjj {I a:Addr}{es:Array (Int×Value)}{ep i:Nat}{t:SetTable}{vs:List Value}{first x:Value}{Q:Option Value→Shared→Prop}(hI:s.heap.get? I=some (siO first (i:Int) (.ref a) (es.size:Int) (ep:Int)))(ha:s.heap.get? a=some (sObj es ep t))(hf:t.fits es.size=true)(hr:t.place.toList.Pairwise (· < ·))
  (m:zgE w a es ep t vs s.heap i first) (hx:vs[i]? = some x)
  (hq:∀ h' first',Heap.SameBut I s.heap h'→h'.get? I=some (siO first' ((i+1:Nat):Int) (.ref a) (es.size:Int) (ep:Int))→zgE w a es ep t vs h' (i+1) first'→(∀ T:Addr,first' = .ref T→first = .ref T)→Q (some x) { s with heap:=h' }):wpAny (model prog w) A (pyNext (.ref I)) Q E s:=by
 have hT:s.TypeIs (.ref I) "set_iterator" := ⟨_,hI,rfl⟩
 have ps:t.place.size=es.size:=by
  have:=hf;unfold SetTable.fits at this
  exact beq_iff_eq.mp (Bool.and_eq_true_iff.mp this).1
 unfold pyNext
 refine Xaa (Xbq (wpAny_callSpecial?_slot (name:=Str.ofString "__next__") hT slot_si_next (XaM slot_si_next hT zcl ?_ (zcL _))))
 delta Builtin.«set_iterator.__next__»
 refine Xaa (m:=slotArgs "__next__" 0 _) (Xac ?_)
 dsimp only
 refine Xaa (wpAny_fieldsOf hI rfl ?_)
 show wpAny _ _ (setEntries a >>= _) _ _ s
 refine Xaa (wpAny_setEntries_of ha rfl hf ?_)
 rw [if_neg (by simp)]
 have far:∀ {T:Addr} {o:Obj},s.heap.get? T=some o→o.cls = .type "tuple" → T≠I:=fun {T o} e c z=>by rw [z,hI] at e;cases e;exact absurd (show ("set_iterator" : String) = "tuple" by injection c) (by decide)
 rcases m with ⟨bt,⟨k,rfl⟩,ev⟩ | ⟨bt,dr,led,⟨k,rfl,bk⟩,ev⟩ | ⟨bt,T,pl,rfl,eT,hl,hp,ev⟩
 ·
  show wpAny _ _ (setNext a (k:Int).toNat (i:Int).toNat (ep:Int).toNat >>= _) _ _ s
  rw [Xai,Xai,Xai]
  unfold setNext setsByText setWalk
  refine Xaa (Xaa (Xa1 ha rfl hf ?_))
  refine Xaa (Xaa (XaV (Xac ?_)))
  rw [show (model prog w).w.params.followText "set-order" = true from bt,if_pos rfl,show (ep != ep)=false by simp,if_neg Xak]
  refine Xaa (Xaa (Xa1 ha rfl hf ?_))
  unfold setsByText
  refine Xaa (Xaa (XaV (Xac ?_)))
  rw [show (model prog w).w.params.followText "set-order" = true from bt,if_pos rfl]
  refine Xaa (XaV (Xac (Xac ?_)))
  have e1:(pickOrder ((model prog w).w.params.setOrder a ep) es)[i]?.map (fun e=>(e.2,k))=some (x,k):=by
   rw [ev,Xav,Xa8] at hx
   obtain ⟨e,h1,h2⟩:=XaO.mp hx
   show (pickOrder (w.params.setOrder a ep) es)[i]?.map _=_
   rw [h1,← h2];rfl
  rw [e1]
  refine Xaa (XaS hI rfl (by simp) ?_)
  have h1:=zdV (j:=0) (x:=.int (k:Int) 0) hI
  refine Xaa (XaS h1 rfl (by simp) ?_)
  have h2:=zdV (j:=1) (x:=.int ((i:Int)+1) 0) h1
  refine Xac ⟨_,rfl,?_⟩
  refine Xac (hq _ (.int (k:Int) 0) ((Heap.SameBut.update _ _ _).trans (Heap.SameBut.update _ _ _)) h2 (.inl ⟨bt,⟨k,rfl⟩,ev⟩) fun T z=>by cases z)
 ·
  have hi:i<es.size:=by
   have:=(Xar.mp hx).1
   rw [ev,Xal] at this;simpa using this
  have hip:i<t.place.size:=by omega
  show wpAny _ _ (setNext a (k:Int).toNat (i:Int).toNat (ep:Int).toNat >>= _) _ _ s
  rw [Xai,Xai,Xai]
  unfold setNext setsByText
  refine Xaa (Xaa (Xa1 ha rfl hf ?_))
  refine Xaa (Xaa (XaV (Xac ?_)))
  rw [show (model prog w).w.params.followText "set-order" = false from bt,if_neg Xak]
  rw (transparency:=.default) [if_neg (fun z=>Xak (dr.symm.trans z))]
  refine Xaa ?_
  show wpAny _ _ (if (!t.led && !es.isEmpty)=true then (unsupported "set:maker-not-led" : Sem Unit) else pure ()) _ _ s
  rw [if_neg (by rw [led];exact Xak)]
  refine Xac (Xac ?_)
  have e1:es[i]? = some (es[i].1,x):=by
   rw [ev,Xav,Xa8,XaE hi] at hx
   rw [XaE hi,← Option.some.inj hx]
  rw [bk,e1,XaE hip]
  refine Xaa (XaS hI rfl (by simp) ?_)
  have h1:=zdV (j:=0) (x:=.int ((t.place[i]+1:Nat):Int) 0) hI
  refine Xaa (XaS h1 rfl (by simp) ?_)
  have h2:=zdV (j:=1) (x:=.int ((i:Int)+1) 0) h1
  refine Xac ⟨_,rfl,?_⟩
  refine Xac (hq _ (.int ((t.place[i]+1:Nat):Int) 0) ((Heap.SameBut.update _ _ _).trans (Heap.SameBut.update _ _ _)) h2 (.inr (.inl ⟨bt,dr,led,⟨t.place[i]+1,rfl,zgB hr hip⟩,ev⟩)) fun T z=>by cases z)
 ·
  have hip:i<pl.length:=by
   have:=(Xar.mp hx).1
   rw [ev,Xal] at this;exact this
  have hpi:pl[i]<es.size:=hp _ (Xbe hip)
  show wpAny _ _ (seqItems? (.ref T) >>= _) _ _ s
  refine Xaa (Xa0 eT rfl ?_)
  dsimp only
  rw [Xai,List.getElem?_toArray,Xav,Xax hip]
  show wpAny _ _ (setNextDrawn a ((pl[i]:Nat):Int).toNat (ep:Int).toNat >>= _) _ _ s
  rw [Xai,Xai]
  unfold setNextDrawn
  refine Xaa (Xaa (Xa1 ha rfl hf ?_))
  dsimp only
  rw [show (ep != ep)=false by simp,if_neg Xak]
  have e1:es[pl[i]]? = some (es[pl[i]].1,x):=by
   rw [ev,Xav,Xax hip,Option.map_some,XaE hpi] at hx
   rw [XaE hpi,← Option.some.inj hx];rfl
  rw [e1]
  refine Xac ?_
  refine Xaa (XaS hI rfl (by simp) ?_)
  have h1:=zdV (j:=1) (x:=.int ((i:Int)+1) 0) hI
  refine Xac ⟨_,rfl,?_⟩
  refine Xac (hq _ (.ref T) (Heap.SameBut.update _ _ _) h1 (.inr (.inr ⟨bt,T,pl,rfl,?_,hl,hp,ev⟩)) fun T' z=>z)
  exact (Heap.SameBut.update s.heap I _).extBut T _ (far eT rfl) eT
end
theorem zcF:Slot "set_iterator" "__iter__" "set_iterator.__iter__" :=
 .of (owner := "set_iterator") (n := "__iter__") (by rw [typeLookup_type,builtinLookup_eq_fast];kernel_rfl) (by decide +kernel) (by decide +kernel) (by decide +kernel) (by first | exact .inl (by decide +kernel) | exact .inr (by decide +kernel)) (by rw [isSubtype_type];kernel_rfl)
theorem zem:entryFor table "set_iterator.__iter__" = some Builtin.«dict_keyiterator.__iter__»:=entryFor_alias (id' := "dict_keyiterator.__iter__") (by kernel_rfl) rfl (by decide +kernel) (by kernel_rfl)
theorem zfb (a:Value):argsOk "set_iterator.__iter__" ⟨[a],[]⟩:=by
 unfold argsOk;rw [signature?_of (id := "set_iterator.__iter__") (n:=['_','_','r','e','t','i','_','_']) (o:=['r','o','t','a','r','e','t','i','_','t','e','s']) (by kernel_rfl) zfQ];kernel_rfl
section
variable {prog:Program}{w:World}{A:Around}{E:Value→Shared→Prop}{s:Shared}
theorem zfe {α:Type}{Q:α→Shared→Prop}(hh:A.handled=none)(q:∀ e,(∃ o,(s.heap.push (seqObj "tuple" #[] 0)).push o=(s.heap.push (seqObj "tuple" #[] 0)).push o)→∀ h',Heap.ExtBut s.heap.objs.size s.heap h'→(∀ b o,s.heap.get? b=some o→h'.get? b=some o)→(∃ o,h'.get? e=some o∧o.cls = .type "StopIteration")→E (.ref e) { s with heap:=h' }) :
  wpAny (model prog w) A (do raiseNew (← newExc (.type "StopIteration") [])) Q E s:=by
 refine Xaa ?_;simp only [newExc,newTuple];refine Xaa (XaJ ?_ (by size_fits))
 refine Xaa (m:=firstArgMember _ _) (wpAny_of_eq (a:=Value.none) (by first | rfl | (simp only [firstArgMember];rfl)) ?_);refine XaJ ?_ (by size_fits)
 simp only [raiseNew];refine Xaa (wpAny_handled ?_);rw [hh];refine Xaa (Xac (wpAny_throw ?_))
 refine q _ ⟨default,rfl⟩ _ (fun b o _ e=>Xab _ (Xab _ e)) (fun b o e=>Xab _ (Xab _ e)) ⟨_,Xag _ rfl,rfl⟩
theorem zjk {I a:Addr}{es:Array (Int×Value)}{ep:Nat}{t:SetTable}{vs:List Value}{first:Value}{Q:Option Value→Shared→Prop}(hh:A.handled=none)(hI:s.heap.get? I=some (siO first (vs.length:Int) (.ref a) (es.size:Int) (ep:Int)))(ha:s.heap.get? a=some (sObj es ep t))(hf:t.fits es.size=true)(hr:t.place.toList.Pairwise (· < ·))
  (m:zgE w a es ep t vs s.heap vs.length first)
  (hq:∀ h',Heap.ExtBut I s.heap h'→Q none { s with heap:=h' }):wpAny (model prog w) A (pyNext (.ref I)) Q E s:=by
 have hT:s.TypeIs (.ref I) "set_iterator" := ⟨_,hI,rfl⟩
 unfold pyNext
 refine Xaa (Xbq (wpAny_callSpecial?_slot (name:=Str.ofString "__next__") hT slot_si_next (XaM slot_si_next hT zcl ?_ (zcL _))))
 delta Builtin.«set_iterator.__next__»
 refine Xaa (m:=slotArgs "__next__" 0 _) (Xac ?_)
 dsimp only
 refine Xaa (wpAny_fieldsOf hI rfl ?_)
 show wpAny _ _ (setEntries a >>= _) _ _ s
 refine Xaa (wpAny_setEntries_of ha rfl hf ?_)
 rw [if_neg (by simp)]
 
 have last:∀ {Q':PySem.Fin→Shared→Prop} (h1:Heap),Heap.SameBut I s.heap h1→wpAny (model prog w) A.in1 (do raiseNew (← newExc (.type "StopIteration") [])) Q' (fun e s'=>wpAny (model prog w) A (do let __do_lift ← isInstance e (Value.type "StopIteration");if __do_lift=true then pure none else throw e) Q E s') { s with heap:=h1 }:=fun {Q'} h1 b1=>by
  refine zfe hh fun e _ h' _ k he=>?_
  obtain ⟨o,ho,hcl⟩:=he
  refine Xaa (wpAny_isInstance (T := "StopIteration") (b:=true) ⟨o,ho,hcl⟩ isSubtype_stop ?_)
  exact Xac (hq h' fun b o hb e=>k b o (b1.extBut b o hb e))
 rcases m with ⟨bt,⟨k,rfl⟩,ev⟩ | ⟨bt,dr,led,⟨k,rfl,bk⟩,ev⟩ | ⟨bt,T,pl,rfl,eT,hl,hp,ev⟩
 ·show wpAny _ _ (setNext a (k:Int).toNat (vs.length:Int).toNat (ep:Int).toNat >>= _) _ _ s
  rw [Xai,Xai,Xai]
  unfold setNext setsByText setWalk
  refine Xaa (Xaa (Xa1 ha rfl hf ?_))
  refine Xaa (Xaa (XaV (Xac ?_)))
  rw [show (model prog w).w.params.followText "set-order" = true from bt,if_pos rfl,show (ep != ep)=false by simp,if_neg Xak]
  refine Xaa (Xaa (Xa1 ha rfl hf ?_))
  unfold setsByText
  refine Xaa (Xaa (XaV (Xac ?_)))
  rw [show (model prog w).w.params.followText "set-order" = true from bt,if_pos rfl]
  refine Xaa (XaV (Xac (Xac ?_)))
  have e1:(pickOrder ((model prog w).w.params.setOrder a ep) es)[vs.length]? = none:=by
   rw [← Xa8,XaB]
   rw [ev,Xal];exact Xae _
  rw [e1]
  refine Xaa (XaS hI rfl (by simp) ?_)
  exact last _ (Heap.SameBut.update _ _ _)
 ·show wpAny _ _ (setNext a (k:Int).toNat (vs.length:Int).toNat (ep:Int).toNat >>= _) _ _ s
  rw [Xai,Xai,Xai]
  unfold setNext setsByText
  refine Xaa (Xaa (Xa1 ha rfl hf ?_))
  refine Xaa (Xaa (XaV (Xac ?_)))
  rw [show (model prog w).w.params.followText "set-order" = false from bt,if_neg Xak]
  rw (transparency:=.default) [if_neg (fun z=>Xak (dr.symm.trans z))]
  refine Xaa ?_
  show wpAny _ _ (if (!t.led && !es.isEmpty)=true then (unsupported "set:maker-not-led" : Sem Unit) else pure ()) _ _ s
  rw [if_neg (by rw [led];exact Xak)]
  refine Xac (Xac ?_)
  have e1:es[vs.length]? = none:=by
   rw [← Xa8,XaB]
   rw [ev,Xal];exact Xae _
  rw [bk,e1]
  refine Xaa (XaS hI rfl (by simp) ?_)
  exact last _ (Heap.SameBut.update _ _ _)
 ·show wpAny _ _ (seqItems? (.ref T) >>= _) _ _ s
  refine Xaa (Xa0 eT rfl ?_)
  dsimp only
  have e1:(pl.map fun (p:Nat)=>Value.int (p:Int) 0).toArray[vs.length]? = none:=by
   rw [List.getElem?_toArray,XaB]
   rw [ev,Xal,Xal];exact Xae _
  rw [Xai,e1]
  refine Xaa (XaS hI rfl (by simp) ?_)
  have h1:=zdV (j:=0) (x:=.int 0 0) hI
  refine Xaa (XaS h1 rfl (by simp) ?_)
  exact last _ ((Heap.SameBut.update _ _ _).trans (Heap.SameBut.update _ _ _))
theorem zh5 {I a:Addr}{es:Array (Int×Value)}{ep:Nat}{t:SetTable}{vs:List Value}{fp:List Addr}(hh:A.handled=none)(hf:t.fits es.size=true)(hr:t.place.toList.Pairwise (· < ·))(hIa:I≠a)(hI:I∈fp)(ha:a∈fp) :
  Walks prog w A I fp [I] vs.length (fun i v=>vs[i]? = some v) (fun i h=>∃ first,h.get? I=some (siO first (i:Int) (.ref a) (es.size:Int) (ep:Int))∧h.get? a=some (sObj es ep t)∧zgE w a es ep t vs h i first∧∀ T:Addr,first = .ref T→T∈fp) where
 sub:=fun b hb=>by rw [Xad.mp hb];exact hI
 frame:=fun i h h' ⟨first,e1,e2,m,m2⟩ k=>by
  refine ⟨first,k I hI _ e1,k a ha _ e2,?_,m2⟩
  rcases m with z | z | ⟨bt,T,pl,ef,eT,r⟩
  ·exact .inl z
  ·exact .inr (.inl z)
  ·exact .inr (.inr ⟨bt,T,pl,ef,k T (m2 T ef) _ eT,r⟩)
 item:=fun i s Q E hi ⟨first,e1,e2,m,m2⟩ q=>by
  have hx:vs[i]? = some vs[i]:=Xax hi
  refine zjj e1 e2 hf hr m hx fun h' first' b g m' mt=>?_
  have:=q vs[i] h' s.toks hx ⟨first',g,b.extBut a _ (Ne.symm hIa) e2,m',?_⟩ fun b' o hb' e=>b.extBut b' o (fun z=>hb' (by rw [z];exact Xad.mpr rfl)) e
  ·exact this
  ·exact fun T z=>m2 T (mt T z)
 done:=fun s Q E ⟨first,e1,e2,m,m2⟩ q=>zjk hh e1 e2 hf hr m fun h' k=>q h' s.toks fun b o hb e=>k b o (fun z=>hb (by rw [z];exact Xad.mpr rfl)) e
 self:=fun i s Q E ⟨first,e1,e2,m,m2⟩ q=>by
  have hT:s.TypeIs (.ref I) "set_iterator" := ⟨_,e1,rfl⟩
  refine wpAny_pyIter_slot hT zcF (XaM zcF hT zem ?_ (zfb _))
  delta Builtin.«dict_keyiterator.__iter__»
  refine Xaa (m:=slotArgs "__iter__" 0 _) (Xac ?_)
  exact Xac ⟨_,rfl,"set_iterator",_,hT,slot_si_next.lookup,q⟩
end
section
variable {prog:Program}{w:World}{A:Around}{E:Value→Shared→Prop}{s:Shared}
theorem zf9 (es:Array (Int×Value)):(List.range es.size).map (fun p=>((es[p]?).getD (0,.none)).2)=es.toList.map (·.2):=by
 apply List.ext_getElem
 ·simp
 ·intro i h1 h2
  have hi:i<es.size:=by simpa using h1
  simp [XaE hi]
theorem zh8 {a:Addr}{es:Array (Int×Value)}{ep:Nat}{t:SetTable}{Q:Value→Shared→Prop}(ha:s.heap.get? a=some (sObj es ep t))(Tb:Tab (!w.params.followText "set-order") t es.size)(hz:es.size≤sizeLine)
  (q:∀ (h':Heap) (d:Drawn) (I:Addr) (first:Value) (vs:List Value),(∀ b o,s.heap.get? b=some o→h'.get? b=some o)→h'.get? I=some (siO first 0 (.ref a) (es.size:Int) (ep:Int))→zgE w a es ep t vs h' 0 first→vs.Perm (es.toList.map (·.2))→s.heap.objs.size≤I→I<h'.objs.size→(∀ T:Addr,first = .ref T→s.heap.objs.size≤T∧T<h'.objs.size)→Q (.ref I) { s with heap:=h',drawn:=d }) :
  wpAny (model prog w) A (pyIter (.ref a)) Q E s:=by
 have hT:s.TypeIs (.ref a) "set" := ⟨_,ha,rfl⟩
 refine wpAny_pyIter_slot hT F.slot_set_iter (XaM F.slot_set_iter hT zeX ?_ (F.args_set_iter_1 _))
 delta Builtin.«frozenset.__iter__»
 unfold Builtin.Frozenset.slot0
 refine Xaa (Xaa (m:=slotArgs "__iter__" 0 _) (Xac ?_))
 unfold Builtin.Frozenset.addrOf
 refine Xac ?_
 dsimp only
 unfold Builtin.Frozenset.sizeOf
 refine Xaa (Xaa (wpAny_setEntries_of ha rfl Tb.fits (Xac ?_)))
 unfold setDrawn setsByText
 refine Xaa (Xaa (Xa1 ha rfl Tb.fits ?_))
 refine Xaa (Xaa (XaV (Xac (Xac ?_))))
 rw [show (model prog w).w.params.followText "set-order" = w.params.followText "set-order" from rfl]
 have fin:∀ (s1:Shared) (first:Value),s1.heap.get? a=some (sObj es ep t)→(Q (.ref s1.heap.objs.size) { s1 with heap:=s1.heap.push (siO first 0 (.ref a) (es.size:Int) (ep:Int)) }) →
   wpAny (model prog w) A.in1 (do let __do_lift ← setEpoch a;let __do_lift ← newFields "set_iterator" [first,rawInt 0,.ref a,rawInt (es.size:Int),rawInt (__do_lift:Int)];ret __do_lift) (fun fin s'=>∃ v,fin = .done (.ret v)∧∃ T' r,s'.TypeIs v T'∧typeLookup (.type T') (Str.ofString "__next__")=pure (some r)∧Q v s') E s1:=fun s1 first h1 hq=>by
  refine Xaa (wpAny_setEpoch_of h1 rfl Tb.fits ?_)
  refine Xaa (XaJ ?_)
  exact Xac ⟨_,rfl,"set_iterator",_,⟨_,Xag _ rfl,rfl⟩,slot_si_next.lookup,hq⟩
 have plain:∀ vs:List Value,zgE w a es ep t vs (s.heap.push (siO (.int 0 0) 0 (.ref a) (es.size:Int) (ep:Int))) 0 (.int 0 0)→vs.Perm (es.toList.map (·.2))→Q (.ref s.heap.objs.size) { s with heap:=s.heap.push (siO (.int 0 0) 0 (.ref a) (es.size:Int) (ep:Int)) }:=fun vs m p =>
  q _ s.drawn s.heap.objs.size (.int 0 0) vs (fun b o e=>Xab _ e) (Xag _ rfl) m p (Xae _) (by rw [XaC];exact Xa3 _) (fun T z=>by cases z)
 cases bt:w.params.followText "set-order" with
 | true =>
  rw (transparency:=.default) [if_neg (show ¬ (!true && (!t.plain && decide (es.size > 1)))=true from Xak)]
  refine Xaa (Xac (fin s (rawInt 0) ha (plain _ (.inl ⟨bt,⟨0,rfl⟩,rfl⟩) ((zhb _ es).map _))))
 | false =>
  have led:t.led=true:=by have:=Tb.led;rw [bt] at this;exact this
  cases hd:(!t.plain && decide (es.size > 1)) with
  | false =>
   rw (transparency:=.default) [if_neg (show ¬ (!false && (!t.plain && decide (es.size > 1)))=true by rw [hd];exact Xak)]
   refine Xaa (Xac (fin s (rawInt 0) ha (plain _ (.inr (.inl ⟨bt,hd,led,⟨0,rfl,zgA Tb.ris⟩,rfl⟩)) .rfl)))
  | true =>
   rw (transparency:=.default) [if_pos (show (!false && (!t.plain && decide (es.size > 1)))=true by rw [hd];rfl)]
   refine Xaa (zd2 es.size (List.range es.size) s _ (by simp) fun ps d pp=>?_)
   refine Xaa (wpAny_newTuple ?_ ?_)
   ·refine fin { s with heap:=s.heap.push { cls:=.type "tuple",data:=.seq (ps.map fun (i:Nat)=>rawInt (i:Int)).toArray },drawn:=d } (.ref s.heap.objs.size) (Xab _ ha) ?_
    have hps:∀ p∈ps,p<es.size:=fun p hp=>List.mem_range.mp (pp.mem_iff.mp hp)
    refine q _ d _ (.ref s.heap.objs.size) (ps.map fun p=>((es[p]?).getD (0,.none)).2) (fun b o e=>Xab _ (Xab _ e)) (Xag _ rfl) (.inr (.inr ⟨bt,s.heap.objs.size,ps,rfl,Xab _ (Xag _ rfl),by rw [pp.length_eq,XaX],hps,rfl⟩)) ?_ ?_ ?_ ?_
    ·rw [← zf9];exact pp.map _
    ·show s.heap.objs.size≤(s.heap.push _).objs.size
     rw [XaC];exact Xbn _
    ·show (s.heap.push _).objs.size<((s.heap.push _).push _).objs.size
     simp only [XaC];exact Xa3 _
    ·intro T z
     cases z
     refine ⟨Xae _,?_⟩
     show s.heap.objs.size<((s.heap.push _).push _).objs.size
     simp only [XaC];exact Nat.lt_succ_of_lt (Xa3 _)
   ·rw [Xal,pp.length_eq,XaX];exact hz
def fpOf:Value→List Addr
 | .ref T=>[T]
 | _=>[]
theorem zd8:typeLookup (.type "set") (Str.ofString "__len__")=pure (some (.builtin "set.__len__")):=F.slot_set_len.lookup
theorem zh9 {a:Addr}(hT:s.TypeIs (.ref a) "set"){Q:Bool→Shared→Prop}(h:Q false s):wpAny (model prog w) A (Builtin.List.listLengthHint (.ref a)) Q E s:=by
 unfold Builtin.List.listLengthHint;refine Xaa (wpAny_specialOf hT zd8 ?_)
 generalize hid:("set.__len__" : String)=id1;wp_delta
 rw [show splitId id1=some ("set","__len__") from by subst hid;decide +kernel];subst hid
 refine Xaa (wpAny_isInstance (T := "set") (b:=true) hT (by rw [isSubtype_type];kernel_rfl) ?_);refine wpAny_ite_split (fun z=>absurd z (by decide)) (fun _=>?_)
 refine wpAny_ite_split (fun _=>?_) (fun z=>absurd (by decide +kernel) z);exact Xaa (Xbo hT (Xac h))
theorem zjg {es:List (Int×Value)}(h:∀ e∈es,EOk e):∀ {vs:List Value},vs.Perm (es.map (·.2))→∃ ns,IntsAre vs ns∧ns.Perm (zhE es):=fun {vs} p=>by
 have vI:∀ v∈vs,∃ n t,v=Value.int n t:=fun v hv=>by
  obtain ⟨e,he,rfl⟩:=Xbg.mp (p.mem_iff.mp hv)
  obtain ⟨n,t,rfl⟩:=h e he
  exact ⟨n,t,rfl⟩
 have g:∀ l:List Value,(∀ v∈l,∃ n t,v=Value.int n t)→IntsAre l (l.map fun v=>eInt (0,v)):=fun l=>by
  induction l with
  | nil=>exact fun _=>.nil
  | cons v l ih =>
   intro hl
   obtain ⟨n,t,rfl⟩:=hl v (XaT ..)
   exact .cons _ _ (ih fun v hv=>hl v (Xay _ hv))
 refine ⟨vs.map fun v=>eInt (0,v),g vs vI,?_⟩
 have q:=p.map fun v=>eInt (0,v)
 rw [List.map_map] at q
 exact q
theorem zfi {a:Addr}{S:List Int}{R:List Value→Shared→Prop}(hh:A.handled=none)(hS:SetI (!w.params.followText "set-order") s.heap a S)(hz:S.length<1000)
  (h:∀ (h':Heap) (tk:Nat) (d:Drawn) (ns:List Int) (vs:List Value),(∀ b o,s.heap.get? b=some o→h'.get? b=some o)→IntsAre vs ns→ns.Perm S→R vs { s with heap:=h',toks:=tk,drawn:=d }) :
  wpAny (model prog w) A (collect (.ref a)) R E s:=by
 obtain ⟨es,ep,t,ha,hE,hP,hN,Tb⟩:=hS
 have hsz:es.size=S.length:=by rw [← Array.length_toList,← hP.length_eq];unfold zhE;rw [Xal]
 have hzl:es.size≤sizeLine:=Xam (show es.size≤1000 by omega) (by decide)
 have hal:a<s.heap.objs.size:=Xah ha
 unfold collect
 refine Xaa (wpAny_runValue (codeAny_builtin F.entry_proto_collect ?_));rw [Around.under_plainId F.plain_proto_collect _]
 show wpAny _ A.in1 (newList [] >>= fun l=>again (.builtin "list.__iadd__" ⟨[l,.ref a],[]⟩)) _ _ s;refine Xaa (XaJ ?_)
 refine Xac ⟨plainId_quiet F.plain_list_iadd _,codeAny_builtin F.entry_list_iadd ?_⟩;rw [Around.under_plainId F.plain_list_iadd _]
 generalize hD:s.heap.objs.size=D
 have hg:s.heap.push { cls:=.type "list",data:=.seq ([]:List Value).toArray }=s.heap.push (seqObj "list" #[] 0):=rfl
 generalize hh1:s.heap.push { cls:=.type "list",dict:=none,data:=.seq ([]:List Value).toArray }=h1
 have k1:∀ b o,s.heap.get? b=some o→h1.get? b=some o:=fun b o e=>by rw [← hh1];exact Xab _ e
 have eD:h1.get? D=some { cls:=.type "list",data:=.seq #[] }:=by rw [← hh1,← hD];exact Xag _ rfl
 have sz1:h1.objs.size=D+1:=by rw [← hh1,XaC,hD]
 have ha1:=k1 _ _ ha
 show wpAny _ A.in1 (Builtin.List.listExtendWith (.ref D) (.ref a) (.ref D)) _ _ { s with heap:=h1 }
 unfold Builtin.List.listExtendWith
 refine Xaa (Xbo (show Shared.TypeIs { s with heap:=h1 } (.ref a) "set" from ⟨_,ha1,rfl⟩) ?_)
 have ns:Builtin.List.listSameRef (.ref D) (.ref a)=false:=by
  have hne:D≠a:=by rw [← hD];exact Xbf hal
  simp [Builtin.List.listSameRef,hne]
 rw [if_neg (by rw [ns];decide)]
 refine Xaa (zh8 (s:={ s with heap:=h1 }) ha1 Tb hzl fun h2 d I first vs k2 eI m pv hI hI2 hT=>?_)
 have k12:∀ b o,s.heap.get? b=some o→h2.get? b=some o:=fun b o e=>k2 b o (k1 b o e)
 have ha2:=k12 _ _ ha
 refine Xaa (Xaz ?_)
 refine zh9 (show Shared.TypeIs { s with heap:=h2,drawn:=d } (.ref a) "set" from ⟨_,ha2,rfl⟩) ?_
 have eD2:=k2 _ _ eD
 refine wpAny_ite_split (fun _=>?_) (fun z=>absurd (by decide +kernel) z)
 refine Xaa (Xbm (Xaa ?_))
 show wpAny _ A.in1 (updateSeq D (·.push .none) >>= fun _=>updateSeq D (·.pop)) _ _ { s with heap:=h2,drawn:=d }
 refine Xaa (wpAny_updateSeq eD2 rfl ?_)
 have eD3:=XaD (Obj.mapSeq (·.push Value.none)) eD2 rfl
 refine wpAny_updateSeq eD3 rfl ?_
 have eD4:=XaD (Obj.mapSeq (·.pop)) eD3 rfl
 generalize hh4:(h2.update D (Obj.mapSeq (·.push Value.none))).update D (Obj.mapSeq (·.pop))=h4 at eD4
 have k24:∀ b o,b≠D→h2.get? b=some o→h4.get? b=some o:=fun b o hb e=>by
  rw [← hh4]
  exact (XaF _ _ (Ne.symm hb)).trans ((XaF _ _ (Ne.symm hb)).trans e)
 have naD:a≠D:=by rw [← hD];exact Xat hal
 have hI':h1.objs.size≤I:=hI
 have hT':∀ T:Addr,first = .ref T→h1.objs.size≤T:=fun T z=>(hT T z).1
 have nID:I≠D:=fun z=>by rw [z,sz1] at hI';exact absurd hI' (Nat.not_succ_le_self D)
 have nTD:∀ T:Addr,first = .ref T→T≠D:=fun T z z2=>by have q:=hT' T z;rw [z2,sz1] at q;exact absurd q (Nat.not_succ_le_self D)
 have hIa:I≠a:=fun z=>by rw [z,sz1,← hD] at hI';exact absurd (Xaf hal (Xam (Xbn _) hI')) (XaL _)
 have W:Walks prog w A.in1 I (I :: a :: fpOf first) [I] vs.length (fun i v=>vs[i]? = some v) _:=zh5 (es:=es) (ep:=ep) (t:=t) (vs:=vs) hh Tb.fits Tb.ris hIa (XaT ..) (Xay _ (XaT ..))
 have hSf:D ∉ I :: a :: fpOf first:=fun z=>by
  rcases Xaq.mp z with z | z
  ·exact nID z.symm
  ·rcases Xaq.mp z with z | z
   ·exact naD z.symm
   ·cases first with
    | ref T=>exact nTD T rfl (Xad.mp z).symm
    | _=>cases z
 refine Xac ⟨plainId_quiet F.plain_extend_loop _,codeAny_extend_loopS W.toS (by rw [pv.length_eq,Xal,Array.length_toList];exact hzl) D hSf (.ref D) vs.length 0 { s with heap:=h4,drawn:=d } _ _ rfl (Nat.zero_le _) ?_ eD4 (ItemsOf.nil _) fun s' acc' c' hm hS' hacc=>?_⟩
 ·refine ⟨first,k24 _ _ nID eI,k24 _ _ naD ha2,?_,fun T z=>?_⟩
  ·rcases m with z | z | ⟨bt,T,pl,ef,eT,r⟩
   ·exact .inl z
   ·exact .inr (.inl z)
   ·exact .inr (.inr ⟨bt,T,pl,ef,k24 _ _ (nTD T ef) eT,r⟩)
  ·subst z;exact Xay _ (Xay _ (Xad.mpr rfl))
 ·show wpAny _ A (load D >>= _) _ _ s'
  refine Xaa (wpAny_load hS' (Xac ?_))
  have ev:acc'.toList=vs:=by
   obtain ⟨z1,z2⟩:=hacc
   apply List.ext_getElem?
   intro j
   by_cases hj:j<acc'.size
   ·have e1:acc'.toList[j]? = some acc'[j]:=by rw [Xa8,XaE hj]
    rw [e1,z2 j acc'[j] (XaE hj)]
   ·rw [XaB (by rw [Array.length_toList];exact Nat.not_lt.mp hj),XaB (by rw [← z1];exact Nat.not_lt.mp hj)]
  rw [ev]
  obtain ⟨nn,hi,hp⟩:=zjg (es:=es.toList) hE pv
  have kk:∀ b o,s.heap.get? b=some o→s'.heap.get? b=some o:=fun b o e=>by
   have hb:=Xah e
   have nb:b≠D:=fun z=>by rw [z,hD] at hb;exact absurd hb (XaL _)
   refine hm.heap b o (fun z=>?_) (k24 b o nb (k12 b o e))
   rcases Xaq.mp z with z | z
   ·exact nb z
   ·rw [Xad.mp z] at hb
    rw [sz1,← hD] at hI'
    exact absurd (Xaf hb (Xam (Xbn _) hI')) (XaL _)
  have fin:=h s'.heap s'.toks d nn vs kk hi (hp.trans hP)
  have g:s'.gens=s.gens:=hm.gens
  have dd:s'.drawn=d:=hm.drawn
  have oo:s'.os=s.os:=hm.os
  have e':s'={ s with heap:=s'.heap,toks:=s'.toks,drawn:=d }:=by
   rw [← g,← dd,← oo]
  rw [e'];exact fin
end
end L2
end
section
namespace L2
open PySem PySem.Spec PyProof.Rows HT
theorem Inv.draw {X:Cx}{pins:List (Addr×Obj)}{σ:St}{H:Hp}{s:Shared}(I:Inv X pins σ H s)(d:Drawn):Inv X pins σ H { s with drawn:=d }:=⟨I.ok,I.os,I.bare,I.base,I.loc,I.cell,I.free,I.freeC,I.pin,I.hok,I.len⟩
def stI (w:World)(a:Addr)(S:List Int):Heap→Prop:=fun h=>SetI (!w.params.followText "set-order") h a S
theorem stI_ok {P:Program}{w:World}{H:Hp}{h:Heap}{a:Addr}{S:List Int}(x:stI w a S h):ObjOk P w H h a (.ext (stI w a S)):=by
 refine ⟨x,?_,fun h1 h2 y k=>y.at k⟩
 obtain ⟨es,ep,t,g,_⟩:=x
 exact ⟨_,g⟩
theorem ze3 {X:Cx}(hc:X.calm=true):zbU X (.builtin "sorted") (fun xs H Q=>∃ (a:Addr) (S:List Int),xs=[.ref a]∧H a=some (.ext (stI X.w a S))∧S.length<64 ∧
  ∀ (l:Addr) (ns:List Int),H l=none→ns.Perm S→ns.Pairwise (·≤·)→Q (.ref l) (upd H l (.lst (ns.map V.int)))):=by
 intro pins s σ H xs us Q I r h
 obtain ⟨a,S,rfl,ea,h64,q⟩:=h
 obtain ⟨u,rfl,r1⟩:=zc8 r
 obtain rfl:u=Value.ref a:=r1
 obtain ⟨hS,_,_⟩:=(show ObjOk X.prog X.w H s.heap a (.ext (stI X.w a S)) from I.hok a _ ea)
 refine zgT (zfi (I.ok.hd hc) hS (by omega) fun h' tk d ks vs kp hI hP=>?_)
 have hl:vs.length=ks.length:=hI.length
 have hk:ks.length<64:=by rw [hP.length_eq];exact h64
 refine ⟨Xam (show vs.length≤64 by omega) (by decide),?_⟩
 refine list_sort_tree (s:={ s with heap:=h'.push (seqObj "list" vs.toArray 0),toks:=tk,drawn:=d }) (Xag _ rfl) hI (by omega) fun out ns a1 a2 a3=>⟨rfl,?_⟩
 have hsz:h'.objs.size<(h'.push (seqObj "list" vs.toArray 0)).objs.size:=by rw [XaC];exact Xa3 _
 have I2:Inv X pins σ H { s with heap:=h',toks:=tk,drawn:=d }:=(I.kept (t':=tk) kp).draw d
 obtain ⟨c,hc'⟩:=sortedHeap_at (a:=h'.objs.size) (vs:=vs) (out:=out) (Xag (h:=h') (o:=seqObj "list" vs.toArray 0) rfl)
 refine ⟨.ref _,_,I2.laid (t':=tk) (o:=.lst (ns.map V.int)) (fun b o eb=>?_) (Xae _) ?_,rfl,q _ ns (I2.hok.fresh (Xae _)) (a2.trans hP) a3⟩
 ·have hb:=Xah eb
  rw [sortedHeap_old (Xat hb) (Nat.lt_trans hb hsz)];exact Xab _ eb
 ·refine ⟨?_,out.toList,_,zc7 a1,by simpa [seqObj] using hc'⟩
  rw [Xal,a2.length_eq];exact Xam (Nat.le_of_lt hk) (by decide)
abbrev TEm (α:Type):=St→Hp→(α→Hp→Prop)→Prop
def PEm {α:Type}(B:Nat)(Y:Cx)(EM:Env→Addr→(Shared→Prop)→Shared→Prop)(AO:List α→Obj→Prop)(em:TEm α):Prop:=
 ∀ (D:Addr) (pins:List (Addr×Obj)) (s:Shared) (σ:St) (H:Hp) (Q:α→Hp→Prop) (ys:List α) (o:Obj),Inv Y pins σ H s→(D,o)∈pins→AO ys o→ys.length<B→em σ H Q →
  EM Y.env D (fun s'=>∃ y H8 s8 h' o' tk,Inv Y pins σ H8 s8∧AO (ys ++ [y]) o'∧Heap.SameBut D s8.heap h'∧h'.get? D=some o'∧s'={ s8 with heap:=h',toks:=tk }∧Q y H8) s
def zhZ {α:Type}(B:Nat)(J:It)(g:TG)(tf:TT)(em:TEm α)(Q:List α→Hp→Prop)(σ0:St)(H1:Hp):Prop:=
 ∃ W:Nat→Nat→List α→St→Hp→Prop,(∃ m,W 0 m [] σ0 H1)∧∀ i m ys σc Hc,W i m ys σc Hc →
  (J.stop i Hc∧ys.length≤B∧Q ys Hc) ∨
  (J.go i Hc∧ys.length<B∧∃ N:List α→St→Hp→Prop,(∀ ys' σ' H',N ys' σ' H'→∃ m',m'<m∧W (i+1) m' ys' σ' H') ∧
   ∀ x H',J.yld i Hc x H'→g x σc H' fun σ2 H2=>tf σ2 H2 fun b H3=>if b=true then em σ2 H3 fun y H4=>N (ys ++ [y]) σ2 H4 else N ys σ2 H3)
structure CLoop (prog:Program)(w:World)(A:Around)(tg:Expr)(ifs:List Expr)(ce:Expr)(it:Value)(EM:Env→Addr→(Shared→Prop)→Shared→Prop):Prop where
 mono:∀ (env:Env) (D:Addr) (p q:Shared→Prop) (s:Shared),EM env D p s→(∀ s',p s'→q s')→EM env D q s
 loop:∀ (env:Env) (D:Addr) (I:Nat→Shared→Prop) {R:Result→Shared→Prop} (turn:∀ n s,I n s→wpAny (model prog w) A (pyNext it) (fun r s1=>match r with
   | none=>R (.ok .next) s1
   | some v=>wpAny (model prog w) A (letOwnedTupleGo tg it v) (fun _ s2=>wpAny (model prog w) A (assign tg env v) (fun _ s3 =>
     wpAny (model prog w) A (forIn ifs true fun c r=>if r=true then do let ok ← isTrue c env (eval c env);pure (ForInStep.yield ok) else pure (ForInStep.yield r)) (fun ok s4 =>
      if ok=true then EM env D (fun s6=>∃ m,m<n∧I m s6) s4 else ∃ m,m<n∧I m s4) (fun _ _=>False) s3) (fun _ _=>False) s2) (fun _ _=>False) s1) (fun _ _=>False) s)
  (n:Nat) (s:Shared) (h:I n s),codeAny (model prog w) A (.compLoop ce 0 it (.ref D) env) R s
 start:∀ (env:Env) (D:Addr) (R:Result→Shared→Prop) (s:Shared),codeAny (model prog w) A (.compLoop ce 0 it (.ref D) env) R s →
  wpAny (model prog w) A (pyIter it) (fun it' s'=>codeAny (model prog w) A (.compLoop ce 0 it' (.ref D) env) R s') (notedBy (model prog w) A env fun x s'=>R (.error x) s') s→codeAny (model prog w) A (.compStart ce 0 it (.ref D) env) R s
theorem zgv {α:Type}{X:Cx}{pins:List (Addr×Obj)}{σ:St}{H2:Hp}{s2:Shared}{Nc:List Str}{src:List (Option Nat)}{scope:Scope}{cl:List (Str×Addr)}{fp:List Addr}{tg ce:Expr}{ifs:List Expr}
  {it:Addr} {tn:Nat→Heap→Prop} {J:It} {g:TG} {tf:TT} {em:TEm α} {Qf:List α→Hp→Prop} {E:Value→Shared→Prop} {RR:Value→Addr→Result→Shared→Prop} {mk:Sem Value} {o0:Obj} {AO:List α→Obj→Prop} {ho:Addr→List α→HO} {B:Nat} {EM:Env→Addr→(Shared→Prop)→Shared→Prop}
  (hc:X.calm=true) (I2:Inv X pins σ H2 s2) (S:CompOk X.N X.env.scope Nc src scope)
  (hcl1:∀ (x:Str) (c:Addr),cl.lookup x=some c→X.env.cells.lookup x=some c) (hcl2:∀ x∈scope.names,x.2 = .free→∃ c,cl.lookup x.1=some c)
  (T:Turn X.prog X.w X.K tg J fp it tn) (st2:tn 0 s2.heap) (f2:∀ b∈fp,FpOk X pins H2 b)
  (hg:∀ cl C fp s2 H2,PG (cxC X Nc scope cl C fp s2 H2) tg g) (hf:∀ cl C fp s2 H2,PF (cxC X Nc scope cl C fp s2 H2) ifs tf) (he:∀ cl C fp s2 H2,PEm B (cxC X Nc scope cl C fp s2 H2) EM AO em)
  (hmk:∀ (Q:Value→Shared→Prop) (s:Shared),Q (.ref s.heap.objs.size) { s with heap:=s.heap.push o0 }→wpAny (model X.prog X.w) X.A mk Q E s) (hfr:o0.isFreed=false) (h0:AO [] o0) (hcell:∀ ys o v,AO ys o→o.data≠.cell v)
  (hho:∀ ys o H h D,AO ys o→ys.length≤B→s2.heap.objs.size≤D→h.get? D=some o→ObjOk X.prog X.w (upd H D (ho D ys)) h D (ho D ys))
  (hlp:CLoop X.prog X.w X.A tg ifs ce (.ref it) EM)
  (hw:zhZ B J g tf em Qf (za3 src σ) H2)
  (fin:∀ (H4:Hp) (s4:Shared) (ys:List α) (m:Str→Option Value) (C:Addr),s2.heap.objs.size≤C→H4 s2.heap.objs.size=none→Inv X pins σ (upd H4 s2.heap.objs.size (ho s2.heap.objs.size ys)) s4→s4.heap.Ns C m→upd H4 s2.heap.objs.size (ho s2.heap.objs.size ys) C=none→Qf ys H4→RR (.ref s2.heap.objs.size) C (.ok .next) s4) :
  wpAny (model X.prog X.w) X.A mk (fun acc s3=>wpAny (model X.prog X.w) X.A (newFunctionEnv scope X.env.globals cl [] X.env.qual none .none (some X.env)) (fun cenv s4 =>
   codeAny (model X.prog X.w) X.A (.compStart ce 0 (.ref it) acc { cenv with scope:=relabel scope X.env }) (RR acc cenv.locals) s4) E s3) E s2:=by
 refine hmk _ s2 (wpAny_newFunctionEnv S.nocell (by intro y hy;simp at hy) (fun h1 hns1 hsb1=>?_) S.kind)
 dsimp only at hns1 hsb1 ⊢
 generalize hH2:s2.heap.push o0=G2 at hns1 hsb1 ⊢
 have hCz:G2.objs.size=s2.heap.objs.size+1:=by rw [← hH2,XaC]
 generalize hCe:G2.objs.size=C at hns1 hsb1 hCz ⊢
 generalize hDe:s2.heap.objs.size=D at fin hCz ⊢
 have hDC:D≠C:=by omega
 have hCle:s2.heap.objs.size≤C:=by omega
 have hDle:s2.heap.objs.size≤D:=by omega
 have old:∀ b o,s2.heap.get? b=some o→h1.get? b=some o:=fun b o e=>hsb1.extBut b o (Xat (Xaf (Xah e) hCle)) (Xab _ (hH2 ▸ Xab _ e))
 have hacc:h1.get? D=some o0:=by
  refine hsb1.extBut _ _ hDC (Xab _ ?_)
  rw [← hH2,← hDe]
  exact Xag _ hfr
 have hfp:∀ b∈fp,b<s2.heap.objs.size:=fun b hb=>by
  obtain ⟨o,e,_⟩:=T.obj 0 _ st2 b hb
  exact Xah e
 have ok:=zja (Nc:=Nc) (src:=src) (scope:=scope) (cl:=cl) (C:=C) (fp:=fp) I2 S hcl1 hcl2 hCle hfp f2
 generalize hXC:cxC X Nc scope cl C fp s2 H2=Y at ok
 have hYN:Y.N=Nc:=by rw [← hXC];rfl
 
 have I0:Inv (cxC X Nc scope cl C fp s2 H2) [] (za3 src σ) H2 { s2 with heap:=h1,toks:=s2.toks+([]:List (Str×Value)).length }:=by
  rw [← hXC] at ok
  refine ⟨ok,rfl,I2.bare,Un.kept old,⟨_,hns1,fun j x v e1 e2 _=>?_⟩,fun x c e=>?_,I2.hok.fresh hCle,fun x c e=>I2.freeC x c (hcl1 _ _ e),(fun p hp=>nomatch hp),I2.hok.kept old,?_⟩
  ·
   have e2':(za3 src σ)[j]? = some (some v):=e2
   have e1':Nc[j]? = some x:=e1
   unfold za3 at e2'
   rw [Xav] at e2'
   cases hs:src[j]? with
   | none=>rw [hs] at e2';cases e2'
   | some o =>
    rw [hs] at e2'
    cases o with
    | none=>cases e2'
    | some i =>
     simp only [Option.map_some,Option.some.injEq] at e2'
     obtain ⟨y,hy1,hy2,hy3⟩:=S.src j i hs
     rw [e1'] at hy1;cases hy1
     have hσ:σ[i]? = some (some v):=by
      cases hq:σ[i]? with
      | none=>rw [hq] at e2';cases e2'
      | some z=>rw [hq] at e2';simp only [Option.getD_some] at e2';rw [e2']
     have hm:=zbW hy3
     have hfr:=S.free _ hm rfl
     obtain ⟨m0,hn0,hl0⟩:=I2.loc
     obtain ⟨u,r,l⟩:=hl0 i x v hy2 hσ (Or.inr hfr)
     refine ⟨u,r,.inr ⟨?_,?_⟩⟩
     ·show (relabel scope X.env).names.lookup x=some .cell∨(relabel scope X.env).names.lookup x=some .free
      rw [zbq,hy3]
      simp only [Option.map_some]
      split
      ·exact .inl rfl
      ·exact .inr rfl
     ·rcases l with ⟨k,_⟩ | ⟨_,c,hc1,hc2⟩
      ·have k':X.env.scope.names.lookup x=some .local:=k
       rw [k'] at hfr;rcases hfr with z | z <;> cases z
      ·obtain ⟨c',hc'⟩:=hcl2 _ hm rfl
       have:=hcl1 _ _ hc'
       rw [hc1] at this;cases this
       exact ⟨c,hc',hc2.keeps old⟩
  ·obtain ⟨v,z⟩:=I2.cell x c (hcl1 _ _ e)
   exact ⟨v,z.keeps old⟩
  ·show (za3 src σ).length=Nc.length
   unfold za3;rw [Xal];exact S.len
 obtain ⟨W,⟨m0,w0⟩,turn⟩:=hw
 have loop:codeAny (model X.prog X.w) X.A (.compLoop ce 0 (.ref it) (.ref D) (compEnvC scope cl C X.env)) (RR (.ref D) C) { s2 with heap:=h1,toks:=s2.toks+([]:List (Str×Value)).length }:=by
  have fpk:∀ {H':Hp} {ob:Obj},(∀ b∈fp,H' b=none)→∀ b∈fp,FpOk (cxC X Nc scope cl C fp s2 H2) [(D,ob)] H' b:=fun {H' ob} hn b hb =>
   ⟨hn b hb,(I0.ok.exf b hb).1,I0.ok.exfs b hb,.inl hb,(I0.ok.exf b hb).2,fun p hp=>by
    have e:p=(D,ob):=Xad.mp hp
    subst e
    exact Xbf (Xaf (hfp b hb) hDle)⟩
  have hDfs:D ∉ frs X.stack:=fun hs=>by
   rcases Xaq.mp (I2.stkSub D hs) with z | z
   ·exact absurd (Xaf I2.lt hDle) (by rw [z];exact XaL _)
   ·exact I2.nofs hDle z
  refine hlp.loop (compEnvC scope cl C X.env) D (fun n s'=>∃ i ys σ' H' ob,Inv (cxC X Nc scope cl C fp s2 H2) [] σ' H' s'∧tn i s'.heap∧(∀ b∈fp,H' b=none)∧H' D=none∧s'.heap.get? D=some ob∧AO ys ob∧W i n ys σ' H') ?_ m0 _
   ⟨0,[],za3 src σ,H2,o0,I0,T.keep _ _ _ st2 fun b hb o e=>old b o e,fun b hb=>(f2 b hb).1,I2.hok.fresh hDle,hacc,h0,w0⟩
  rintro n s3 ⟨i,ys,σ3,H3,ob,I3,st3,fr3,hD3,hO3,vs3,w3⟩
  have I3':Inv (cxC X Nc scope cl C fp s2 H2) [(D,ob)] σ3 H3 s3:=I3.pins_of fun p hp=>by
   have e:=Xad.mp hp
   subst e
   exact ⟨hO3,hD3,hDC,hDfs,fun v z=>hcell ys ob v vs3 z⟩
  rcases turn i n ys σ3 H3 w3 with ⟨stop,hlen,qn⟩ | ⟨go,hlen,N,hN,step⟩
  ·refine thn (T.done (cxC X Nc scope cl C fp s2 H2) rfl rfl rfl hc i _ s3 σ3 H3 _ I3' (fpk fr3) st3 stop) fun r s4 ⟨hr,I4⟩=>?_
   subst hr
   have hO4:=(I4.pin (D,_) (Xap _ (Xad.mpr rfl))).1
   obtain ⟨m4,hn4,_⟩:=I4.loc
   have fC:H3 C=none:=I4.free
   have uD:upd H3 D (ho D ys) C=none:=by rw [zah hDC.symm];exact fC
   have hl2:∀ b v,H2 b=some v→b<s2.heap.objs.size:=fun b v e=>I2.hok.lt e
   have Iout:Inv X pins σ (upd H3 D (ho D ys)) s4:=by
    refine I2.call' (ch:=fp) I4.os (Un.track I4.base hDle hl2) (HOk.track I4.hok hD3 (hho ys ob H3 s4.heap D vs3 hlen hDle hO4)) I4.bare fun b hb=>?_
    obtain ⟨_,a1,_,a3,a4,a5⟩:=f2 b hb
    exact ⟨a3,a1,a4,a5⟩
   exact fin H3 s4 ys m4 C (by omega) hD3 Iout hn4 uD qn
  ·refine thn (T.item (cxC X Nc scope cl C fp s2 H2) rfl rfl rfl hc i _ s3 σ3 H3 _ I3' (fpk fr3) st3 go) fun r s4 ⟨u,hr,h4⟩=>?_
   subst hr
   refine thn h4 fun _ s5 hh_=>?_
   obtain ⟨x,H5,I5,r5,y5,st5,fr5⟩:=hh_
   have I5':=I5.pinned (fpk fr5) (T.obj _ _ st5)
   refine thn (hg cl C fp s2 H2 _ s5 σ3 H5 x u _ I5' r5 (step x H5 y5)) fun _ s6 ⟨σ6,H6,I6,q6⟩=>?_
   refine thn (hf cl C fp s2 H2 _ s6 σ6 H6 _ I6 q6) fun ok s7 ⟨H7,I7,q7⟩=>?_
   have back:∀ {s8:Shared} {σ8:St} {H8:Hp},Inv (cxC X Nc scope cl C fp s2 H2) ([(D,ob)] ++ zdX fp s5.heap) σ8 H8 s8 →
     tn (i+1) s8.heap∧(∀ b∈fp,H8 b=none)∧H8 D=none∧s8.heap.get? D=some ob:=fun {s8 σ8 H8} I8=>by
    refine ⟨T.keep _ _ _ st5 fun b hb o e=>(I8.pin (b,o) (Xap _ (Xap _ (za4 hb e)))).1,fun b hb=>?_,?_,?_⟩
    ·obtain ⟨o,e,d⟩:=T.obj _ _ st5 b hb
     exact (I8.pin (b,o) (Xap _ (Xap _ (za4 hb e)))).2.1
    ·exact (I8.pin (D,_) (Xap _ (XaA _ (Xad.mpr rfl)))).2.1
    ·exact (I8.pin (D,_) (Xap _ (XaA _ (Xad.mpr rfl)))).1
   cases ok with
   | false =>
    obtain ⟨m',hm',w7⟩:=hN _ _ _ q7
    obtain ⟨b1,b2,b3,b4⟩:=back I7
    exact ⟨m',hm',i+1,ys,σ6,H7,ob,I7.pins_of (fun p hp=>nomatch hp),b1,b2,b3,b4,vs3,w7⟩
   | true =>
    refine hlp.mono _ _ _ _ _ (he cl C fp s2 H2 D _ s7 σ6 H7 _ ys ob I7 (XaA _ (Xad.mpr rfl)) vs3 hlen q7) fun s9 hh_=>?_
    obtain ⟨y,H8,s8,h9,o9,tk9,I8,a9,sb9,g9,e9,q8⟩:=hh_
    subst e9
    obtain ⟨m',hm',w8⟩:=hN _ _ _ q8
    obtain ⟨b1,b2,b3,b4⟩:=back I8
    have I8n:Inv (cxC X Nc scope cl C fp s2 H2) [] σ6 H8 s8:=I8.pins_of fun p hp=>nomatch hp
    have I9:Inv (cxC X Nc scope cl C fp s2 H2) [] σ6 H8 { s8 with heap:=h9,toks:=tk9 }:=
     I8n.turned (it:=D) (fun b o hb e=>sb9.extBut b o hb e) b3 hDC (.inr hDle) (fun x c e z=>by
      obtain ⟨w',z'⟩:=I2.cell x c (hcl1 _ _ e)
      exact absurd (Xaf z'.lt hDle) (by rw [z];exact XaL _)) (fun p hp=>nomatch hp)
    refine ⟨m',hm',i+1,ys ++ [y],σ6,H8,o9,I9,T.keep _ _ _ b1 fun b hb o e=>sb9.extBut b o (Xat (Xaf (hfp b hb) hDle)) e,b2,b3,g9,a9,w8⟩
 exact hlp.start _ D _ _ loop (T.self X.A 0 _ _ _ (T.keep _ _ _ st2 fun b hb o e=>old b o e) loop)
theorem zh3 (elt target iter:Expr)(ifs:List Expr)(scope:Scope)(pos:Pos)(it acc:Value)(env:Env):compTurn (.SetComp elt [⟨target,iter,ifs,0⟩] scope pos) 0 it acc env=(do
   standAt iter.pos;match ← pyNext it with
   | none=>pure (.done .next)
   | some v=>do
    letOwnedTupleGo target it v;assign target env v;let mut ok:=true
    for c in ifs do if ok then ok ← isTrue c env (eval c env)
    if ok then (do let v ← eval elt env;standAt elt.pos;let _ ← call (.builtin "set.add") [acc,v])
    again (.compLoop (.SetComp elt [⟨target,iter,ifs,0⟩] scope pos) 0 it acc env)):=by rfl
section
variable {prog:Program}{w:World}{A:Around}{E:Value→Shared→Prop}{R:Result→Shared→Prop}{s:Shared}
theorem zgR {elt target iter ifs rest scope pos it acc env}
  (h0:codeAny (model prog w) A (.compLoop (.SetComp elt (⟨target,iter,ifs,0⟩ :: rest) scope pos) 0 it acc env) R s)
  (h:wpAny (model prog w) A (pyIter it) (fun it' s'=>codeAny (model prog w) A (.compLoop (.SetComp elt (⟨target,iter,ifs,0⟩ :: rest) scope pos) 0 it' acc env) R s') (notedBy (model prog w) A env fun x s'=>R (.error x) s') s) :
  codeAny (model prog w) A (.compStart (.SetComp elt (⟨target,iter,ifs,0⟩ :: rest) scope pos) 0 it acc env) R s:=by
 refine codeAny_of_tree ?_
 show wpAny _ A ((compStart (.SetComp elt (⟨target,iter,ifs,0⟩ :: rest) scope pos) 0 it acc env).onRaise (fun x=>do noteFrame x env;standAt theWindowsPlace)) _ _ s
 refine wpAny_notedAt ?_;unfold compStart;show wpAny _ A (ask >>= _) _ _ s;refine Xaa (XaV (wpAny_ite ?_))
 split
 ·first | exact Xaa (Xac (Xac (And.intro rfl h0))) | exact Xac (And.intro rfl h0)
 ·first | exact Xaa (Xbm (Xaa (Xa4 (Xaa (Xaw h (fun it' s' h'=>Xac (And.intro rfl h')) fun _ _ x=>x))))) | (refine Xaa (Xbm ?_);show wpAny _ _ (standAt iter.pos >>= _) _ _ s;exact Xaa (Xa4 (Xaa (Xaw h (fun it' s' h'=>Xac (And.intro rfl h')) fun _ _ x=>x))))
def EMs (prog:Program)(w:World)(A:Around)(elt:Expr)(env:Env)(D:Addr)(p:Shared→Prop)(s:Shared):Prop:=
 wpAny (model prog w) A (eval elt env) (fun v s5=>wpAny (model prog w) A (call (.builtin "set.add") [.ref D,v]) (fun _ s6=>p s6) (fun _ _=>False) s5) (fun _ _=>False) s
theorem ziu {elt target iter:Expr}{ifs:List Expr}{scope:Scope}{pos:Pos}{it:Value}:CLoop prog w A target ifs (.SetComp elt [⟨target,iter,ifs,0⟩] scope pos) it (EMs prog w A elt) where
 mono:=fun env D p q s h k=>Xaw h (fun v s5 h5=>Xaw h5 (fun _ s6 h6=>k s6 h6) fun _ _ e=>e) fun _ _ e=>e
 loop:=fun env D I {R} turn n s h=>by
  refine codeAny_loop rfl I (fun n s hI=>?_) n h
  show wpAny _ A ((compTurn (.SetComp elt [⟨target,iter,ifs,0⟩] scope pos) 0 it (.ref D) env).onRaise (fun x=>do noteFrame x env;theTreesLotGoes x)) _ _ s
  refine wpAny_noted ?_
  rw [zh3]
  refine Xaa (Xa4 (Xaa (Xaw (turn n s hI) (fun r s1 h1=>?_) fun _ _ h'=>h'.elim)))
  cases r with
  | none=>exact Xac h1
  | some v =>
   refine Xaa (Xaw h1 (fun _ s2 h2=>?_) fun _ _ h'=>h'.elim)
   refine Xaa (Xaw h2 (fun _ s3 h3=>Xaa (Xaw h3 (fun ok s4 h4=>?_) fun _ _ h'=>h'.elim)) fun _ _ h'=>h'.elim)
   cases ok with
   | false=>exact Xac ⟨rfl,h4⟩
   | true =>
    exact Xaa (Xaa (Xaw h4 (fun x s5 h5=>Xaa (Xa4 (Xaa (Xaw h5 (fun _ s6 h6=>Xac (Xac ⟨rfl,h6⟩)) fun _ _ h'=>h'.elim)))) fun _ _ h'=>h'.elim))
 start:=fun env D R s h0 h=>zgR h0 h
end
def dd (ys:List Int):List Int:=ys.foldl (fun S n=>if n∈S then S else S ++ [n]) []
theorem zjU (ys:List Int)(n:Int):dd (ys ++ [n])=if n∈dd ys then dd ys else dd ys ++ [n]:=by unfold dd;rw [List.foldl_append];rfl
theorem zi9 (ys:List Int):(dd ys).length≤ys.length:=by
 have g:∀ (l:List Int) (S:List Int),(l.foldl (fun S n=>if n∈S then S else S ++ [n]) S).length≤S.length+l.length:=by
  intro l
  induction l with
  | nil=>intro S;exact Xae _
  | cons a l ih =>
   intro S
   refine Xam (ih _) ?_
   dsimp only
   split
   ·rw [Xau];omega
   ·have e1:(S ++ [a]).length=S.length+1:=by rw [Xan];rfl
    have e2:(a :: l).length=l.length+1:=rfl
    omega
 have:=g ys []
 simpa [dd] using this
theorem mem_dd {ys:List Int}{n:Int}:n∈dd ys↔n∈ys:=by
 have g:∀ (l:List Int) (S:List Int),n∈(l.foldl (fun S n=>if n∈S then S else S ++ [n]) S)↔n∈S∨n∈l:=by
  intro l
  induction l with
  | nil=>intro S;simp
  | cons a l ih =>
   intro S
   rw [List.foldl_cons,ih]
   by_cases h:a∈S
   ·rw [if_pos h]
    constructor
    ·rintro (z | z)
     ·exact .inl z
     ·exact .inr (Xay _ z)
    ·rintro (z | z)
     ·exact .inl z
     ·rcases Xaq.mp z with rfl | z
      ·exact .inl h
      ·exact .inr z
   ·rw [if_neg h];simp [or_assoc]
 have:=g ys []
 simpa [dd] using this
def AOs (w:World)(ys:List Int)(o:Obj):Prop:=∃ es ep t,o=sObj es ep t∧(∀ e∈es.toList,EOk e)∧(zhE es.toList).Perm (dd ys)∧(dd ys).Nodup∧Tab (!w.params.followText "set-order") t es.size
theorem AOs.at {w:World}{ys:List Int}{o:Obj}(x:AOs w ys o){h:Heap}{a:Addr}(e:h.get? a=some o):SetI (!w.params.followText "set-order") h a (dd ys):=by
 obtain ⟨es,ep,t,rfl,r⟩:=x
 exact ⟨es,ep,t,e,r⟩
def emS (te:TE):TEm Int:=fun σ H Q=>te σ H fun v H1=>∃ i,v = .int i∧Q i H1
theorem zjv {Y:Cx}{elt:Expr}{te:TE}(he:PE Y elt te)(hxe:Y.xe=fun _ _=>False):PEm 500 Y (EMs Y.prog Y.w Y.A elt) (AOs Y.w) (emS te):=by
 intro D pins s σ H Q ys o I hp ao hl h
 refine Xaw (he pins s σ H _ I h) (fun v s5 hh_=>?_) fun e s' z=>by rw [hxe] at z;exact z
 obtain ⟨x,H5,I5,rx,i,ex,q⟩:=hh_
 subst ex
 obtain ⟨t,rfl⟩:=(show ∃ t,v=Value.int i t from rx)
 have g5:=(I5.pin (D,o) (Xap _ hp)).1
 refine zjn (ao.at g5) (Xa9 (zi9 ys) (by omega)) fun h' sb x=>?_
 rw [← zjU] at x
 obtain ⟨es,ep,t',g',r'⟩:=x
 exact ⟨i,H5,s5,h',_,_,I5,⟨es,ep,t',rfl,r'⟩,sb,g',rfl,q⟩
section
variable {X:Cx}{Nc:List Str}{src:List (Option Nat)}{scope:Scope}{elt tg iter:Expr}{ifs:List Expr}{pos:Pos}{wi:TI}{g:TG}{tf:TT}{te:TE}
theorem cxC_xe (cl:List (Str×Addr))(C:Addr)(fp:List Addr)(s2:Shared)(H2:Hp):(cxC X Nc scope cl C fp s2 H2).xe=fun _ _=>False:=rfl
def tSetC (w:World)(src:List (Option Nat))(wi:TI)(g:TG)(tf:TT)(te:TE):TE:=fun σ H Q=>wi σ H fun J H1 =>
 zhZ 500 J g tf (emS te) (fun ys H2=>∀ D,H2 D=none→Q (.ref D) (upd H2 D (.ext (stI w D (dd ys))))) (za3 src σ) H1
theorem mk_set {prog:Program}{w:World}{A:Around}{E:Value→Shared→Prop}(Q:Value→Shared→Prop)(s:Shared)(q:Q (.ref s.heap.objs.size) { s with heap:=s.heap.push (sObj #[] 0 (.fresh 0 0 (!w.params.followText "set-order"))) }):wpAny (model prog w) A (newSet (.type "set")) Q E s:=by
 unfold newSet setsByText
 exact Xaa (Xaa (XaV (Xac (XaJ q))))
theorem ev_set (elt:Expr)(gens:List Comprehension)(scope:Scope)(pos:Pos)(env:Env):eval (.SetComp elt gens scope pos) env=comprehension (.SetComp elt gens scope pos) scope env (firstIterPos gens pos) (newSet (.type "set")) (firstAsync gens) (firstIter gens env):=rfl
theorem zgc (src:List (Option Nat))(hc:X.calm=true)(S:CompOk X.N X.env.scope Nc src scope)(hi:PI X tg iter wi)
  (hg:∀ cl C fp s2 H2,PG (cxC X Nc scope cl C fp s2 H2) tg g) (hf:∀ cl C fp s2 H2,PF (cxC X Nc scope cl C fp s2 H2) ifs tf) (he:∀ cl C fp s2 H2,PE (cxC X Nc scope cl C fp s2 H2) elt te)
  (hs:∀ x,foldedSetIterable iter X.env x=pure x:=by intro _;rfl):PE X (.SetComp elt [⟨tg,iter,ifs,0⟩] scope pos) (tSetC X.w src wi g tf te):=by
 intro pins s σ H Q I h
 obtain ⟨cl,hclos,hcl1,hcl2⟩:=zbD I.ok (scope:=scope) S.free
 rw [ev_set]
 refine wpAny_comprehension_free (use:=none) rfl hs hclos S.kind (fun x hx hl=>by obtain ⟨n,k⟩:=x;cases hl;exact zbB S.nodup hx) (thn (hi pins s σ H _ I h) fun xv s1 h1=>thn h1 fun itv s2 h2=>?_)
 obtain ⟨it,fp,tn,J,H2,e,I2,T,st2,f2,hw⟩:=h2
 subst e
 refine zgv (α:=Int) (B:=500) (ho:=fun D ys=>.ext (stI X.w D (dd ys))) (AO:=AOs X.w) (RR:=fun acc C=>compPost (model X.prog X.w) X.A X.xe none (EP X pins σ Q) acc C) hc I2 S hcl1 hcl2 T st2 f2 hg hf (fun cl C fp s2 H2=>zjv (he cl C fp s2 H2) (cxC_xe cl C fp s2 H2)) mk_set rfl ?_ ?_ ?_ ziu hw ?_
 ·exact ⟨#[],0,_,rfl,(fun e he=>nomatch he),.rfl,List.nodup_nil,⟨rfl,List.Pairwise.nil,rfl⟩⟩
 ·rintro ys o v ⟨es,ep,t,rfl,_⟩ z
  have z':Data.set es ep t=Data.cell v:=z
  cases z'
 ·intro ys o H h D ao _ _ g'
  exact stI_ok (ao.at g')
 intro H4 s4 ys m C hC hD Iout hn hCn q
 refine ⟨m,hn,fun h' sb=>⟨.ref s2.heap.objs.size,_,?_,rfl,q _ hD⟩⟩
 obtain ⟨f0,f1,f3,f4,f5,f6⟩:=I2.fpOk (H':=upd H4 s2.heap.objs.size (.ext (stI X.w s2.heap.objs.size (dd ys)))) hC hCn
 exact Iout.turned (t':=s4.toks) (it:=C) (fun b o hb e=>(sb.2 b hb).trans e) f0 f1 f4 f5 f6
end
section
variable {prog:Program}{w:World}{A:Around}{E:Value→Shared→Prop}{R:Result→Shared→Prop}{s:Shared}
end
section
variable {X:Cx}{Nc:List Str}{src:List (Option Nat)}{scope:Scope}{kx vx tg iter:Expr}{ifs:List Expr}{pos:Pos}{wi:TI}{g:TG}{tf:TT}{tk tv:TE}
end
section
variable {X:Cx}{Nc:List Str}{src:List (Option Nat)}{scope:Scope}{kx vx tg iter:Expr}{ifs:List Expr}{pos:Pos}{wi:TI}{g:TG}{tf:TT}{tk tv:TE}
end
section
variable {X:Cx}
end
section
variable {K:W.Frag}{α:Type}{B:Nat}{g:TG}{tf:TT}{em:TEm α}{Q:List α→Hp→Prop}{σ:St}{H:Hp}
theorem zhJ {a:Addr}{xs:List V}(Pv:Nat→List α→St→Hp→Prop)(hn:xs.length≤B)(h0:Pv 0 [] σ H)(hl:∀ i ys σ H,i≤xs.length→Pv i ys σ H→SqT K H a xs∧ys.length≤i)
  (hs:∀ i x ys σ H,xs[i]? = some x→Pv i ys σ H→g x σ H fun σ2 H2=>tf σ2 H2 fun b H3=>if b=true then em σ2 H3 fun y H4=>Pv (i+1) (ys ++ [y]) σ2 H4 else Pv (i+1) ys σ2 H3)
  (hd:∀ ys σ H,Pv xs.length ys σ H→Q ys H):zhZ B (Itt K a) g tf em Q σ H:=by
 refine ⟨fun i m ys σ H=>m=xs.length - i∧i≤xs.length∧Pv i ys σ H,⟨xs.length,by simp,Nat.zero_le _,h0⟩,?_⟩
 rintro i m ys σ H ⟨rfl,hi,p⟩
 obtain ⟨q,hz⟩:=hl i ys σ H hi p
 by_cases hlt:i<xs.length
 ·refine .inr ⟨⟨xs,xs[i],q,by simp [hlt]⟩,by omega,Pv (i+1),fun ys' σ' H' p'=>⟨xs.length - (i+1),by omega,rfl,hlt,p'⟩,fun x H' y=>?_⟩
  obtain ⟨e,y⟩:=y
  subst e
  exact hs i x ys σ _ (y xs q) p
 ·have e:i=xs.length:=by omega
  subst e
  exact .inl ⟨⟨xs,q,Xae _⟩,by omega,hd ys σ H p⟩
end
theorem ziB {t:Bool}{a b:Addr}{xs ys:List V}{g:TG}{tb:TS}{D:Ends}{σ:St}{H:Hp}(Pv:Nat→St→Hp→Prop)(he:xs.length=ys.length)(h0:Pv 0 σ H)(hl:∀ i σ H,i≤xs.length→Pv i σ H→SqX t H a xs∧SqX t H b ys)
  (hs:∀ i x y T σ H,xs[i]? = some x→ys[i]? = some y→H T=none→Pv i σ H→g (.ref T) σ (upd H T (.tup [x,y])) fun σ2 H2=>tb { D with nx:=Pv (i+1),ct:=Pv (i+1),bk:=D.nx } σ2 H2) (hd:∀ σ H,Pv xs.length σ H→D.nx σ H) :
  ∃ W:Nat→Nat→St→Hp→Prop,(∃ m,W 0 m σ H)∧∀ i m σ H,W i m σ H →
   ((Ity t a b).stop i H∧D.nx σ H)∨((Ity t a b).go i H∧∃ N:St→Hp→Prop,(∀ σ' H',N σ' H'→∃ m',m'<m∧W (i+1) m' σ' H')∧∀ x H',(Ity t a b).yld i H x H'→g x σ H' fun σ2 H2=>tb { D with nx:=N,ct:=N,bk:=D.nx } σ2 H2):=by
 refine ⟨fun i m σ H=>m=xs.length - i∧i≤xs.length∧Pv i σ H,⟨xs.length,by simp,Nat.zero_le _,h0⟩,?_⟩
 rintro i m σ H ⟨rfl,hi,p⟩
 obtain ⟨q,q2⟩:=hl i σ H hi p
 by_cases hlt:i<xs.length
 ·refine .inr ⟨⟨xs,xs[i],ys,ys[i]'(by omega),q,q2,by simp [hlt],by simp [he ▸ hlt]⟩,Pv (i+1),fun σ' H' p'=>⟨xs.length - (i+1),by omega,rfl,hlt,p'⟩,fun v H' y=>?_⟩
  obtain ⟨T,x,y',hT,rfl,rfl,y1,y2⟩:=y
  exact hs i x y' T σ _ (y1 xs q) (y2 ys q2) hT p
 ·have e:i=xs.length:=by omega
  exact .inl ⟨⟨xs,q,by omega⟩,hd σ H (e ▸ p)⟩
section
variable {X:Cx}{k:Nat}{ks:List Str}{m:Str}{pos apos:Pos}{e o:Expr}{es:List Expr}{kws:List Keyword}{ta:TE}{t tk:TA}
end
section
variable {X:Cx}
inductive rIxN (K:W.Frag)(x:V)(y:V)(H:Hp)(Q:VK):Prop
 | mk (p:_) (xs:_) (i:_) (v:_) (z0_:x = .ref p) (z1_:y = .int i) (z2_:0≤i) (z3_:SqL K H p xs) (z4_:atI xs i=some v) (z5_:Q v H)
theorem zhe:PGet X (rIxN X.K):=by
 intro pins s σ H x y v u Q I rx ry h
 obtain ⟨p,xs,i,z,rfl,rfl,h0,hq,he,q⟩:=h
 cases rx
 obtain ⟨t,rfl⟩:=ry
 obtain ⟨its,r,pl,hz⟩:=I.list hq
 obtain ⟨j,h1,h2,h3,h4,h5⟩:=zes he
 obtain ⟨w,ew,rw'⟩:=r.get h2
 have hl:=r.length
 have hn:=zdx
 have hj:i.toNat=j:=by
  rw [seqIndex_of h0 h5] at h1
  exact Option.some.inj h1
 exact wpAny_getItem_list pl.isList h0 (by omega) (by rw [hj];simpa using ew) ⟨z,H,I,rw',q⟩
end
end L2
end
section
namespace L2
open PySem PySem.Spec PyProof.Rows PySem.SeqAt
section
variable {X:Cx}{K:W.Frag}
end
end L2
end
section
namespace L2
open PySem PySem.Spec PyProof.Rows HT PySem.W PySem.Calls
def xFr (e C:Addr)(od:Option Addr):Heap→Prop:=fun h=>∃ t,h.get? e=some { cls:=.ref C,dict:=od,data:=.fields #[.ref t,.none,.none,.none,.bool false,.none] }
def xDc (dx:Addr)(fs:List (Str×V)):Heap→Prop:=fun h=>fs.length≤100∧∃ mA,h.Ns1 dx mA∧(∀ f,RelO (fs.lookup f) (mA f))∧PySem.Within mA (fs.map (·.1))
section
variable {P:Program}{w:World}{H:Hp}{h:Heap}{e C dx:Addr}{od:Option Addr}{fs:List (Str×V)}
theorem zjF (x:xFr e C od h):ObjOk P w H h e (.ext (xFr e C od)):=by
 obtain ⟨t,g⟩:=id x
 exact ⟨x,⟨_,g⟩,fun h1 h2 ⟨t1,q⟩ k=>⟨t1,k _ q⟩⟩
theorem ok_dc (x:xDc dx fs h):ObjOk P w H h dx (.ext (xDc dx fs)):=by
 obtain ⟨l,mA,⟨o,es,ep,e,r⟩,r1,r2⟩:=id x
 exact ⟨x,⟨_,e⟩,fun h1 h2 ⟨l,mA,⟨o,es,ep,e,r⟩,r1,r2⟩ k=>⟨l,mA,⟨o,es,ep,k _ e,r⟩,r1,r2⟩⟩
end
def NsKI (K:W.Frag)(N fI:Addr):Prop:=∃ c d es ep sl,K.lookup N=some ⟨c,d,.dict es ep,sl⟩∧StrKeys es∧nsFind es "__init__" = some (.ref fI)
structure ExcI (K:W.Frag)(C fI:Addr):Prop where
 ex:∃ nm q N bs bm sn sub ab col dd k0 k1 k2 k3 k5,K.lookup C=some (excClassObj nm q C N bs bm true sn sub ab col dd k0 k1 k2 k3 k5 "ValueError.__new__")∧NsKI K N fI∧TailK K bm
 sa:findIn K (.ref C) "__setattr__" = some (some (.builtin "object.__setattr__"))
theorem TailK.pass {K:W.Frag}{bm:List Value}(x:TailK K bm)(self:Value):refuseLoop self "__setattr__" bm=pure ():=by
 induction x with
 | base=>exact PySem.F.store_ValueError.passes self
 | own e n _ ih=>rw [refuseLoop_ref];exact ih
theorem TailK.has {K:W.Frag}{bm:List Value}(x:TailK K bm):bm.contains (.type "object")=true:=by
 induction x with
 | base=>decide +kernel
 | own e n _ ih=>rw [List.contains_cons,ih,Bool.or_true]
section
variable {prog:Program}{w:World}{A:Around}{E:Value→Shared→Prop}{s:Shared}{K:W.Frag}{x dx C fI:Addr}{mA:Str→Option Value}{name:Str}{v:Value}{ox:Obj}{od:Option Obj}
theorem zgI {tk:Tok}{R:Result→Shared→Prop}(X:K.In s.heap)(I:InstAt s.heap x ox C od)(c:ExcI K C fI)(ht:takerIn K C name=some none)
  (h:∀ b,wpAny (model prog w) A.in1 (Builtin.ObjectAttr.storeInOwnDict (.ref x) (.ref C) (.str name tk) name v b)
   (fun fin s'=>match fin with | .done f=>R (.ok f) s' | .again c'=>c'.quiet=true∧codeAny (model prog w) A c' R s') (fun e s'=>R (.error e) s') s) :
  codeAny (model prog w) A (.call (.builtin "object.__setattr__") ⟨[.ref x,.str name tk,v],[]⟩) R s:=by
 have SF:=PySem.F.store_object
 obtain ⟨nm,q,N,bs,bm,sn,sub,ab,col,dd,k0,k1,k2,k3,k5,hC,hN,hT⟩:=c.ex
 have hc:∃ cd,clsIn K C=some cd∧cd.mro = .ref C :: bm:=⟨_,by unfold clsIn;rw [hC],rfl⟩
 obtain ⟨cd,hc,hmr⟩:=hc
 have hcon:cd.mro.contains (.type "object")=true:=by rw [hmr,List.contains_cons,hT.has,Bool.or_true]
 have ne:cd.mro.isEmpty=false:=by rw [hmr];rfl
 have sub:Looks (model prog w) s.heap (isInstance (.ref x) (.type "object")) true:=I.type.andThen (looks_mroIn X (by unfold mroIn;rw [hc,Option.bind_some,if_neg (by rw [ne];decide),hcon]))
 refine codeAny_call_builtin SF.slot.plain SF.entry (@check_slot (model prog w) _ _ s "object.__setattr__" "object" "__setattr__" (.ref x) [.str name tk,v] [] _ SF.kind SF.split sub (SF.args (.ref x) (.str name tk) v) ?_)
 obtain ⟨attr,ha,hr⟩:=Option.bind_eq_some_iff.mp ht
 have hm:Looks (model prog w) s.heap (mroOf (.ref C)) cd.mro:=(looks_clsIn X hc).andThen .now
 have L3:Looks (model prog w) s.heap (Builtin.ObjectAttr.storeTaker? attr) none:=by
  cases attr with
  | none=>exact .now
  | some a =>
   obtain ⟨b,hb,hb2⟩:=XaO.mp hr
   refine (looks_takesIn X hb).andThen ?_
   cases b with
   | true=>cases hb2
   | false=>exact .now
 rw [osa_eq,refuse_eq]
 refine Xaa (Xaa (I.type.here (Xaa (hm.here ?_))))
 rw [hmr,refuseLoop_ref,hT.pass]
 refine Xac (Xaa (I.type.here (Xaa ((looks_findIn X ha).here (Xaa (L3.here ?_))))))
 exact h _
theorem zf1 {vs:Array Value}{Q:Unit→Shared→Prop}(X:K.In s.heap)(hx:s.heap.get? x=some { cls:=.ref C,dict:=none,data:=.fields vs })(c:ExcI K C fI)(ht:takerIn K C name=some none)
  (h:∀ h',(∀ b o,b≠x→s.heap.get? b=some o→h'.get? b=some o)→h'.get? x=some { cls:=.ref C,dict:=some s.heap.objs.size,data:=.fields vs }→h'.Ns1 s.heap.objs.size (fun y=>if y=name then some v else none)→Q () { s with heap:=h',toks:=s.toks+2 }) :
  wpAny (model prog w) A (setAttr (.ref x) name v) Q E s:=by
 have J:InstAt s.heap x { cls:=.ref C,dict:=none,data:=.fields vs } C none:=⟨hx,rfl,rfl,trivial⟩
 refine set_plain X J c.sa (zgI (s:={ s with toks:=s.toks+1 }) X J c ht fun b=>?_)
 obtain ⟨nm,q,N,bs,bm,sn,sub,ab,col,dd,k0,k1,k2,k3,k5,hC,hN,hT⟩:=c.ex
 have hc:∃ cd,clsIn K C=some cd∧cd.hasDict=true:=⟨_,by unfold clsIn;rw [hC],rfl⟩
 obtain ⟨cd,hc,hd'⟩:=hc
 have hxs:x≠s.heap.objs.size:=Xat (Xah hx)
 refine Xaa (Xac (Xaa (Xaa (wpAny_loadPart hx (Xaa (Looks.here (s:={ s with toks:=s.toks+1 }) (looks_clsIn X hc) ?_))))))
 rw [hd']
 have hx₁:(s.heap.push { cls:=.type "dict",data:=.dict #[] }).get? x=some { cls:=.ref C,dict:=none,data:=.fields vs }:=Xab _ hx
 obtain ⟨hp,g,d,t,os⟩:=s
 refine Xaa (wpAny_alloc' ?_)
 refine Xaa (wpAny_update' hx₁ ?_)
 refine Xac ?_
 have hgd:((hp.push { cls:=.type "dict",data:=.dict #[] }).update x fun o=>{ cls:=o.cls,dict:=some hp.objs.size,data:=o.data,slots:=o.slots }).get? hp.objs.size=some { cls:=.type "dict",data:=.dict #[] }:=
  (Heap.get?_update_ne _ _ _ _ hxs.symm).trans (Heap.get?_push_at rfl rfl)
 have hnd:((hp.push { cls:=.type "dict",data:=.dict #[] }).update x fun o=>{ cls:=o.cls,dict:=some hp.objs.size,data:=o.data,slots:=o.slots }).Ns hp.objs.size (fun _=>none):=
  ⟨_,#[],_,hgd,rfl,fun e he=>absurd he (by simp),fun _=>rfl⟩
 show wpAny _ _ (Builtin.ObjectAttr.storeInDict hp.objs.size (.str name t) name v) _ _ _
 unfold Builtin.ObjectAttr.storeInDict Builtin.ObjectAttr.newKeyGuard
 refine Xaa (Xac (Xaa (wpAny_nsSet1 (Heap.Ns1.of_empty hnd) fun h' hn' hs=>?_)))
 obtain ⟨oD,esD,epD,hoD,hdD,hcD⟩:=hn'.count (Within.cons name v Within.nil)
 refine Xaa (wpAny_lookBehind hoD (by rw [hdD];exact pastItsLine_dict (Xam hcD (by rw [Xau,XaU,sizeLine_eq];omega))) ?_)
 refine Xac (h h' (fun b o hb e=>?_) ?_ ?_)
 ·exact (hs.2 b (Xat (Xah e))).trans ((Heap.get?_update_ne _ _ _ _ hb).trans (Xab _ e))
 ·exact (hs.2 x hxs).trans (XaD _ hx₁ rfl)
 ·exact hn'
theorem xget {Q:Value→Shared→Prop}{expr:Bool}(X:K.In s.heap)(I:InstAt s.heap x ox C od)(hga:findIn K (.ref C) "__getattribute__" = some (some (.builtin "BaseException.__getattribute__")))(hgr:findIn K (.ref C) "__getattr__" = some none)
  (hf:findObj K C od name=some (.value v)) (hsub:subIn K (.ref C) (.type "BaseException")=some true) (hv:handedIn v=true)
  (h:Q v { s with toks:=s.toks+1 }):wpAny (model prog w) A (getAttr (.ref x) name expr) Q E s:=by
 obtain ⟨hh,g,d,t,os⟩:=s
 have L0:=I.type (M:=model prog w)
 have L1:=looks_findIn (M:=model prog w) X hga
 have L2:=looks_findIn (M:=model prog w) X hgr
 unfold getAttr getAttrBy
 refine Xaa (wpAny_mkText (Xaz (Xaa (L0.at (Xaa (L1.at ?_))))))
 have hx2:(Value.builtin "BaseException.__getattribute__" == Value.builtin "object.__getattribute__")=false:=by decide +kernel
 have hx:(onTheHeap (Value.ref C) && Value.builtin "BaseException.__getattribute__" == Value.builtin "object.__getattribute__")=false:=by rw [hx2];rfl
 show wpAny _ _ (if (onTheHeap (Value.ref C) && Value.builtin "BaseException.__getattribute__" == Value.builtin "object.__getattribute__")=true then _ else _) _ _ _
 rw [hx,if_neg Xak]
 unfold getAttrByItsOwn
 have hb:hookBefore (Value.ref C)=typeLookup (Value.ref C) "__getattr__" := rfl
 rw [hb]
 refine Xaa (L2.at ?_)
 refine Xaa (Xbq (Xaz ?_))
 have hc:callGetattribute (Value.ref x) (Value.str name t) (Value.builtin "BaseException.__getattribute__") expr=boundAndCalled (Value.builtin "BaseException.__getattribute__") (Value.ref x) (Value.str name t):=by
  unfold callGetattribute
  rw [if_neg (by cases expr <;> decide +kernel)]
 rw [hc]
 unfold boundAndCalled
 rw [PySem.F.excAttr_ValueError.ga.bind (.ref x)]
 refine Xaa (Xac ?_)
 show wpAny _ _ (call (.builtin "BaseException.__getattribute__") [.ref x,.str name t]) _ _ _
 refine Xba ?_
 have hk:builtinKind "BaseException.__getattribute__" = some .slot:=by decide +kernel
 have hs:splitId "BaseException.__getattribute__" = some ("BaseException","__getattribute__"):=by decide +kernel
 refine codeAny_call_builtin PySem.F.excAttr_ValueError.ga.plain PySem.F.entry_bexc_ga ?_
 have hi:Looks (model prog w) hh (isInstance (.ref x) (.type "BaseException")) true:=L0.andThen (looks_subIn X hsub)
 have ha:=PySem.F.args_bexc_ga (.ref x) (.str name t)
 have LF:=looks_find (M:=model prog w) X I hf
 refine @check_slot _ _ _ _ _ _ _ _ _ _ _ hk hs hi ha ?_
 unfold Builtin.«object.__getattribute__»
 refine Xaa (wpAny_of_eq (a:=(Value.ref x,[Value.str name t])) rfl ?_)
 dsimp only
 refine Xaa (Xac (Xaa (L0.at (Xaa (LF.at ?_)))))
 refine Xac ?_
 show wpAny _ _ (handedOut v) _ _ _
 rw [handedOut_of hv]
 exact Xac h
end
end L2
end
section
namespace L2
open PySem PySem.Spec PyProof.Rows HT PySem.W PySem.Calls
section
variable {X:Cx}{pins:List (Addr×Obj)}{σ:St}{H:Hp}{s:Shared}
theorem Inv.trackE {ea:Addr}{φ:Heap→Prop}(I:Inv X pins σ H s)(hn:H ea=none)(ho:∀ H',ObjOk X.prog X.w H' s.heap ea (.ext φ))(h:zfG X pins ea):Inv X pins σ (upd H ea (.ext φ)) s:=by
 have up:∀ b o,H b=some o→upd H ea (.ext φ) b=some o:=fun b o e=>by rw [zah (fun z=>by rw [z,hn] at e;cases e)];exact e
 refine ⟨I.ok,I.os,I.bare,⟨I.base.keep,I.base.slot,fun b o e n hx=>?_,I.base.there,fun b xs e=>up _ _ (I.base.tups b xs e),fun b o u e=>up _ _ (I.base.frzs b o u e),fun b ps e=>?_⟩,I.loc,I.cell,?_,fun x c e=>?_,fun p hp=>?_,fun a o e=>?_,I.len⟩
 ·rw [zah (fun z=>by rw [z,h.1] at e;cases e)];exact I.base.free b o e n hx
 ·obtain ⟨more,q⟩:=I.base.tbls b ps e
  exact ⟨more,up _ _ q⟩
 ·rw [zah (Ne.symm h.2.1)];exact I.free
 ·rw [zah (h.2.2.1 x c e)];exact I.freeC x c e
 ·obtain ⟨e,n,r⟩:=I.pin p hp
  exact ⟨e,by rw [zah (h.2.2.2 p hp)];exact n,r⟩
 ·by_cases z:a=ea
  ·subst z
   rw [zab] at e
   cases e
   exact ho _
  ·rw [zah z] at e
   exact (I.hok a o e).stay (fun _ _ _ q=>q) (fun b q=>up _ _ q) fun b xs q=>up _ _ q
end
inductive sFldX0_1 (K:W.Frag)(f:Str)(D:Ends)(σ:St)(y:V)(x:V)(H2:Hp):Prop
 | mk (a:_) (C:_) (fI:_) (z0_:x = .ref a) (z1_:H2 a=some (.ext (xFr a C none))) (z2_:ExcI K C fI) (z3_:takerIn K C f=some none) (z4_:∀ dx,H2 dx=none→dx≠a→D.nx σ (upd (upd H2 a (.ext (xFr a C (some dx)))) dx (.ext (xDc dx [(f,y)]))))
def sFldX0 (K:W.Frag)(ta tv:TE)(f:Str):TS:=fun D σ H=>tv σ H fun y H1=>ta σ H1 (sFldX0_1 K f D σ y)
inductive tFldX_1 (K:W.Frag)(f:Str)(Q:VK)(x:V)(H1:Hp):Prop
 | mk (a:_) (C:_) (dx:_) (fs:_) (v:_) (z0_:x = .ref a) (z1_:H1 a=some (.ext (xIs a (.ref C) (some dx)))) (z2_:H1 dx=some (.ext (xDc dx fs))) (z3_:XCls K C) (z4_:hasDictIn K C=true) (z5_:findIn K (.ref C) f=some none) (z6_:fs.lookup f=some v) (z7_:Q v H1)
def tFldX (K:W.Frag)(ta:TE)(f:Str):TE:=fun σ H Q=>ta σ H (tFldX_1 K f Q)
section
variable {X:Cx}{o e value:Expr}{f:Str}{pos pos':Pos}{ta tv:TE}
theorem zih (hex:X.ex=[])(ha:PE X o ta)(hv:PE X value tv)(hs:swapsWith value (some (.Attribute o f pos')) pos.line X.env=pure false):PS X (.Assign [.Attribute o f pos'] value pos) (sFldX0 X.K ta tv f):=by
 intro pins s σ H D I h
 refine plainObj_wpAny_Assign_Attribute (thn (hv pins s σ H _ I h) fun u s1 ⟨y,H1,I1,ry,q⟩=>thn (ha pins s1 σ H1 _ I1 q) fun ov s2 hh_=>?_) hs
 obtain ⟨x,H2,I2,rx,a,C,fI,ex,ea,c,ht,q2⟩:=hh_
 subst ex
 obtain rfl:ov=Value.ref a:=rx
 obtain ⟨t,g⟩:=(show xFr a C none s2.heap from (I2.hok a _ ea).1)
 have hnew:s2.heap.get? s2.heap.objs.size=none:=Xbl (Xae _)
 have ne:s2.heap.objs.size≠a:=fun z=>by rw [z,g] at hnew;cases hnew
 refine zf1 I2.kIn g c ht fun h' k1 k2 k3=>⟨σ,_,?_,q2 s2.heap.objs.size (I2.hok.fresh (Xae _)) ne⟩
 have J:Inv X pins σ (upd H2 a (.ext (xFr a C (some s2.heap.objs.size)))) { s2 with heap:=h',toks:=s2.toks+2 }:=
  I2.write (x:=a) (e:=a) (by rw [ea];exact True.intro) (.inl rfl) k1 ⟨_,k2⟩ (zjF ⟨t,k2⟩)
 refine J.trackE (by rw [zah ne];exact I2.hok.fresh (Xae _)) (fun H'=>ok_dc ⟨by show 1≤100;decide,_,k3,fun g=>?_,fun g hg=>?_⟩) (I2.none_ours hnew (by rw [hex];simp))
 ·show RelO (List.lookup g [(f,y)]) (if g=f then some u else none)
  by_cases q:g=f
  ·subst q
   rw [if_pos rfl]
   simp only [List.lookup,beq_self_eq_true]
   exact ry
  ·rw [if_neg q]
   have:(g == f)=false:=by simpa using q
   simp only [List.lookup,this]
   exact True.intro
 ·by_cases q:g=f
  ·rw [q];simp
  ·exact absurd (show (if g=f then some u else none)=none by rw [if_neg q]) hg
theorem zjz (he:PE X e ta)(hb:attributeBase e f X.env (eval e X.env)=eval e X.env):PE X (.Attribute e f pos) (tFldX X.K ta f):=by
 intro pins s σ H Q I h
 refine zhU hb (thn (he pins s σ H _ I h) fun u s1 hh_=>?_)
 obtain ⟨x,H1,I1,rx,a,C,dx,fs,v,ex,ea,ed,c,hh,ha,l,q⟩:=hh_
 subst ex
 obtain rfl:u=Value.ref a:=rx
 obtain ⟨oe,vs,g1,⟨g2,g3⟩,g4⟩:=(show xIs a (.ref C) (some dx) s1.heap from (I1.hok a _ ea).1)
 obtain ⟨_,mA,hn,r,wi⟩:=(show xDc dx fs s1.heap from (I1.hok dx _ ed).1)
 obtain ⟨oD,hoD,hl⟩:=zdw hn
 have J:InstAt s1.heap a oe C (some oD):=⟨g1,g2,by unfold notCls;rw [g4],by rw [g3];exact hoD⟩
 obtain ⟨u',hu,ru⟩:=RelO.some_of (v:=v) (o:=mA f) (by rw [← l];exact r f)
 exact xget I1.kIn J c.ga c.gr (findObj_own hh ha rfl (by rw [hl,hu])) c.sub (zeT ru) ⟨v,H1,I1.tok _,ru,q⟩
end
structure SupI (K:W.Frag)(mg:Str→Option Value)(x:Str):Prop where
 ex:∃ B,mg x=some (.ref B)∧specialIn K (.ref B) "__getattribute__" = some (some (.builtin "type.__getattribute__"))∧readsIn K B (.type "type")=true∧findCls K (.ref B) (.type "type") "__init__" = some (.val (.builtin "ValueError.__init__"))
inductive tXini_1 (K:W.Frag)(Q:VK)(vs:List V)(H1:Hp):Prop
 | mk (a:_) (C:_) (fI:_) (od:_) (z:_) (z0_:vs=[.ref a,z]) (z1_:H1 a=some (.ext (xFr a C od))) (z2_:ExcI K C fI) (z3_:Q .non H1)
def tXini (K:W.Frag)(t:TA):TE:=fun σ H Q=>t σ H (tXini_1 K Q)
section
variable {X:Cx}{x:Str}{p pos apos:Pos}{e e2:Expr}{t:TA}
theorem zjw (M:SupI X.K X.mg x)(hg:Gl X x){pl:Sem Bool}(ha:PA X [e,e2] t)(hdb:(x == ("__debug__" : Str))=false:=by decide)
  (hst:starEach [e,e2] X.env=(false,eval e X.env) :: starEach [e2] X.env:=by rfl) (hpl:(backTo pos (starEach [e2] X.env)).any (·.1)=false:=by rfl)
  (ht:eval (.Call (.Attribute (.Name x p) "__init__" apos) [e,e2] [] pos) X.env=(do
   let ov ← eval (.Name x p) X.env
   standAt apos.atName
   let (f,first) ← holding [ov] (getMethod ov "__init__" pl)
   callWith pos f first (backTo pos (starEach [e,e2] X.env)) (backToKw pos (keywordEach [] X.env))):=by rfl) :
  PE X (.Call (.Attribute (.Name x p) "__init__" apos) [e,e2] [] pos) (tXini X.K t):=by
 obtain ⟨B,hm,hs,hrd,hf⟩:=M.ex
 intro pins s σ H Q I h
 refine W.methodCall_KW (pl:=pl) ?_ ht
 refine zbC I hg hm ?_ hdb
 refine W.method_cls I.kIn hs (W.cls_value I.kIn hrd hf rfl ?_)
 have I0:=I.tok (s.toks+1)
 have h2:=ha pos pins _ σ H _ I0 h
 rw [hst] at h2 ⊢
 refine Calls.callWith_builtin (by show (false || (backTo pos (starEach [e2] X.env)).any (·.1))=false;rw [hpl];rfl) (Calls.evalArgs_plain (thn h2 fun us s2 hh_=>?_))
 obtain ⟨vs,H2,I2,r,a,C,fI,od,z,ev,ea,c,q2⟩:=hh_
 subst ev
 obtain ⟨v1,v2,rfl,r1,r2⟩:=zfd r
 obtain rfl:v1=Value.ref a:=r1
 obtain ⟨t,g⟩:=(show xFr a C od s2.heap from (I2.hok a _ ea).1)
 obtain ⟨nm,q,N,bs,bm,sn,sub,ab,col,dd,k0,k1,k2,k3,k5,hC,hN,hT⟩:=c.ex
 have F:=PySem.F.excBase_ValueError
 have T:=hT.tail I2.kIn
 have hC':=I2.kIn _ _ hC
 have I3:=I2
 obtain ⟨hp,gg,dr,tk,os⟩:=s2
 show wpAny _ _ (call (.builtin "ValueError.__init__") [.ref a,v2]) _ _ _
 refine Xba (codeAny_call_builtin F.init.plain F.initEntry (wpAny_check_init_subT F T hC' g rfl ?_))
 wp_walk
 have g1:(hp.push { cls:=.type "tuple",data:=.seq #[v2] }).get? a=some { cls:=.ref C,dict:=od,data:=.fields #[.ref t,.none,.none,.none,.bool false,.none] }:=Xab _ g
 have g2:=XaD (Obj.mapFields fun x=>x.setIfInBounds 0 (Value.ref hp.objs.size)) g1 rfl
 refine ⟨.non,H2,?_,rfl,q2⟩
 have hu:upd H2 a (.ext (xFr a C od))=H2:=by
  funext b
  by_cases hb:b=a
  ·rw [hb,zab,ea]
  ·rw [zah hb]
 have J:=I2.write (x:=a) (e:=a) (o:=.ext (xFr a C od)) (t':=tk) (h':=(hp.push { cls:=.type "tuple",data:=.seq #[v2] }).update a (Obj.mapFields fun x=>x.setIfInBounds 0 (Value.ref hp.objs.size))) (by rw [ea];exact True.intro) (.inl rfl)
  (fun b u hb z=>(XaF _ _ (Ne.symm hb)).trans (Xab _ z)) ⟨_,g2⟩ (zjF ⟨hp.objs.size,g2⟩)
 rw [hu] at J
 exact J
end
theorem PA.nox {X:Cx}{es:List Expr}{t:TA}(h:PA X.nox es t):PA X es t:=fun p pins s σ H Q I hw =>
 Xaw (h p pins s σ H Q (I.wish _) hw) (fun _ _ ⟨vs,H',I',r,q⟩=>⟨vs,H',I'.unwish,r,q⟩) fun _ _ z=>False.elim z
def unt (H:Hp)(e:Addr):Hp:=fun b=>if b=e then none else H b
theorem zfK {H:Hp}{e:Addr}:unt H e e=none:=by unfold unt;rw [if_pos rfl]
theorem zfL {H:Hp}{e b:Addr}(h:b≠e):unt H e b=H b:=by unfold unt;rw [if_neg h]
theorem zgJ {P:Program}{w:World}{K:W.Frag}{mg:Str→Option Value}{base:Heap}{N:List Str}{qual:Str}{scope:Scope}{f:Addr}{cd:Value}{A:Around}{outer:List Env}{s:Shared}{H:Hp}{E:XK}
  {pins:List (Addr×Obj)} {σ:St} {H2:Hp} {s2:Shared} {e C:Addr} {od:Option Addr} (I:Inv (cxOf (CX1 P w) P w K mg base N qual scope f cd A outer s H E) pins σ H2 s2) (ee:H2 e=some (.ext (xFr e C od))) (hn:s.heap.get? e=none) (hE:E (.ref C) od (unt H2 e)) :
  (cxOf (CX1 P w) P w K mg base N qual scope f cd A outer s H E).xe (.ref e) s2:=by
 obtain ⟨t,he⟩:=(show xFr e C od s2.heap from (I.hok e _ ee).1)
 have b1:=I.base
 refine zd4 I.ok.frames I.stack (L:=s.heap.objs.size) rfl he rfl rfl fun h'' T fT sl x=>?_
 have ne:∀ b o,s.heap.get? b=some o→b ∉ [e]:=fun b o q z=>by rw [Xad.mp z,hn] at q;cases q
 have nL:∀ b o,s.heap.get? b=some o→b ∉ frs outer→b ∉ ((envOfC qual scope s.heap.objs.size f cd) :: outer).filterMap (·.frame):=fun b o q hb z=>by
  rcases Xaq.mp (show b∈s.heap.objs.size :: outer.filterMap (·.frame) from z) with r | r
  ·exact absurd r (Xat (Xah q))
  ·exact hb r
 have nex:∀ b,b ∉ (cxOf (CX1 P w) P w K mg base N qual scope f cd A outer s H E).ex:=fun b=>by show b ∉ ([]:List Addr);simp
 have dif:∀ b o,H2 b=some o→o≠.ext (xFr e C od)→unt H2 e b=some o:=fun b o q hne=>by
  rw [zfL fun z=>hne (by rw [z,ee] at q;exact (Option.some.inj q).symm)];exact q
 refine ⟨e,T,unt H2 e,C,od,rfl,I.os,I.bare,⟨fun b o q n hb _=>?_,fun b o q n hb _=>?_,fun b o q n _=>?_,fun b o q _=>?_,fun b xs q=>dif _ _ (b1.tups b xs q) (fun z=>nomatch z),fun b o u q=>dif _ _ (b1.frzs b o u q) (fun z=>nomatch z),fun b ps q=>?_⟩,?_,x,hn,?_,zfK,?_,hE⟩
 ·exact (sl b o (b1.keep b o q n hb (nex b)) (ne b o q)).1 (nL b o q hb)
 ·obtain ⟨t1,e1⟩:=b1.slot b o q n hb (nex b)
  obtain ⟨t2,e2⟩:=(sl b _ e1 (ne b o q)).2
  exact ⟨t2,e2⟩
 ·have:=b1.free b o q n (nex b)
  unfold unt
  split
  ·rfl
  ·exact this
 ·obtain ⟨o',e1⟩:=b1.there b o q (nex b)
  obtain ⟨t2,e2⟩:=(sl b _ e1 (ne b o q)).2
  exact ⟨_,e2⟩
 ·obtain ⟨more,q'⟩:=b1.tbls b ps q
  exact ⟨more,dif _ _ q' (fun z=>nomatch z)⟩
 ·intro a o q
  have hae:a≠e:=fun z=>by rw [z,zfK] at q;cases q
  rw [zfL hae] at q
  refine (I.hok a o q).stay (fun b u hb hu=>?_) (fun b z=>dif _ _ z (fun z=>nomatch z)) fun b xs z=>dif _ _ z (fun z=>nomatch z)
  have hbe:b≠e:=by
   rcases hb with rfl | hb
   ·exact hae
   ·exact fun z=>by rw [z,ee] at hb;cases hb
  refine (sl b u hu fun z=>hbe (Xad.mp z)).1 fun z=>?_
  have hf:H2 b=none:=I.stkFree b z
  rcases hb with rfl | hb
  ·rw [hf] at q;cases q
  ·rw [hf] at hb;cases hb
 ·cases q:s.heap.get? T with
  | none=>rfl
  | some o =>
   obtain ⟨o',q'⟩:=b1.there T o q (nex T)
   rw [fT] at q';cases q'
 ·have:=I.hok.none_of fT
  unfold unt
  split
  ·rfl
  ·exact this
structure XIni (P:Program)(w:World)(K:W.Frag)(mg:Str→Option Value)(base:Heap)(k:Nat)(x:Str)(C:Addr)(sp:Sp):Prop where
 at_:mg x=some (.ref C)
 ex:∃ fI fd ps oI,ExcI K C fI∧(K.lookup fI=some oI∧oI.cls = .type "function")∧FnOk P w K mg base CX0 k fI fd ps sp∧Binds K fd ps []
def zjh (C:Addr)(sp:Sp)(E:XK)(t:TA):TS:=fun _ σ H=>t σ H fun vs H1=>vs.length≤1000∧∀ e,H1 e=none→sp ((.ref e :: vs) ++ []) (upd H1 e (.ext (xFr e C none))) (fun v H2=>v = .non∧∃ od,H2 e=some (.ext (xFr e C od))∧E (.ref C) od (unt H2 e)) E0
section
variable {X:Cx}{x:Str}{C:Addr}{e:Expr}{es:List Expr}{t:TA}{np cpos pos:Pos}{k:Nat}{sp:Sp}{E:XK}
theorem zg9 (M:XIni X.prog X.w X.K X.mg X.base k x C sp)(hr:Room (k+1) X.A)(hg:Gl X x)(hc:X.calm=true)(hex:X.ex=[])(ha:PA X (e :: es) t)
  (hx:∀ (pins:List (Addr×Obj)) (σ:St) (H2:Hp) (s2:Shared) (ea:Addr) (od:Option Addr),Inv X pins σ H2 s2→H2 ea=some (.ext (xFr ea C od))→X.s₀.heap.get? ea=none→E (.ref C) od (unt H2 ea)→X.xe (.ref ea) s2)
  (hd:(x == ("__debug__" : Str))=false:=by decide) (hst:starEach (e :: es) X.env=(false,eval e X.env) :: starEach es X.env:=by rfl) (hpl:(backTo cpos (starEach es X.env)).any (·.1)=false:=by rfl) :
  PS X (.Raise (some (.Call (.Name x np) (e :: es) [] cpos)) none pos) (zjh C sp E t):=by
 intro pins s σ H D I h
 obtain ⟨hm,fI,fd,ps,oI,c,⟨hfI,hfc⟩,F,hb⟩:=M
 obtain ⟨nm,q,N,bs,bm,sn,sub,ab,col,dd,k0,k1,k2,k3,k5,hC,hN,hT⟩:=id c.ex
 obtain ⟨cN,d,es',ep,sl,hNl,hNs,hi⟩:=hN
 have T:=hT.tail I.kIn
 have hbase:bm.contains (.type "BaseException")=true:=T.hasType PySem.F.excBase_ValueError.hasBase
 refine zjd (C:=C) (nm:=nm) (q:=q) (N:=N) (bs:=bs) (bm:=bm) (hdct:=true) (sn:=sn) (sub:=sub) (ab:=ab) (col:=col) (dd:=dd) (k0:=k0) (k1:=k1) (k2:=k2) (k3:=k3) (k5:=k5) (mN:=nsFind es') (fI:=fI) (oI:=oI)
  hbase (I.ok.hd hc) (by rw [hst];show (false || (backTo cpos (starEach es X.env)).any (·.1))=false;rw [hpl];rfl) hi hfc (zbC I hg hm ⟨rfl,?_⟩ hd)
 have h2:=ha cpos pins s σ H _ I h
 rw [hst] at h2 ⊢
 refine Calls.evalArgs_plain (thn h2 fun us s2 h3=>?_)
 obtain ⟨vs,H1,I2,r,hl,q1⟩:=h3
 have hlen:us.length=vs.length:=r.length.symm
 refine ⟨rfl,by show us.length≤sizeLine;rw [hlen,sizeLine_eq];omega,I2.kIn _ _ hC,⟨_,es',ep,I2.kIn _ _ hNl,rfl,hNs,fun _=>rfl⟩,hT.tail I2.kIn,I2.kIn _ _ hfI,fun h' ea hm'=>?_⟩
 have hnone:H1 ea=none:=I2.hok.none_of hm'.new
 have ours:=I2.none_ours hm'.new (by rw [hex];simp)
 have J:Inv X pins σ H1 { s2 with heap:=h' }:=I2.kept (t':=s2.toks) hm'.keeps
 obtain ⟨tt,ht,_⟩:=hm'.there
 have J2:Inv X pins σ (upd H1 ea (.ext (xFr ea C none))) { s2 with heap:=h' }:=J.trackE hnone (fun H'=>zjF ⟨tt,ht⟩) ours
 have q2:=q1 ea hnone
 have r2:Vals ((V.ref ea :: vs) ++ []) ((Value.ref ea :: us) ++ []):=(show Vals (V.ref ea :: vs) (Value.ref ea :: us) from .cons rfl r).append .nil
 have hl2:((Value.ref ea :: us) ++ []).length=ps.length:=by rw [← r2.length];exact F.len _ _ _ _ q2
 refine Xba (Xbb (F.run _ X.stack _ _ ⟨Value.ref ea :: us,[]⟩ _ _ _ E0 (hr.make C us []) (J2.env0.make C us []) (hb _ (Value.ref ea :: us) J2.kIn hl2) r2 q2) fun rr s' hq=>?_)
 cases rr with
 | error ex=>exact False.elim hq
 | ok fl =>
  cases fl with
  | ret u =>
   obtain ⟨v,H',J3,rv,ev,od,e2,hE⟩:=J2.after hq
   subst ev
   obtain ⟨t3,g3⟩:=(show xFr ea C od s'.heap from (J3.hok ea _ e2).1)
   exact ⟨rv,t3,od,J3.kIn _ _ hC,g3,hx pins σ H' s' ea od J3 e2 ours.1 hE⟩
  | next=>exact False.elim hq
  | brk=>exact False.elim hq
  | cont=>exact False.elim hq
end
section
variable {X:Cx}{v:Expr}{es:List Expr}{p2:Pos}{ta:TE}{t:TJ}
end
end L2
end
section
namespace L2
open PySem PySem.Spec PyProof.Rows HT PySem.W PySem.Calls
section
variable {prog:Program}{w:World}{A:Around}
end
section
variable {X:Cx}
end
end L2
end
section
namespace L2
open PySem PySem.Spec PyProof.Rows PySem.SeqAt
section
variable {X:Cx}{tg:Expr}
end
end L2
end
section
namespace L2
open PySem
section
variable {X:Cx}
end
section
variable {P:Program}{w:World}{K:W.Frag}{mg:Str→Option Value}{base:Heap}{k:Nat}{C f:Addr}{fd:FuncData}{m:Str}{ps ks:List Str}{gV:List V→List V→List V}{sp:Sp}
theorem zjI (c:Cls K C)(a:W.findIn K (.ref C) m=some (some (.ref f)))(fn:W.isFn K (.ref f)=true)(kp:W.keepIn K (.ref f)=true)(G:FnOk P w K mg base (CX1 P w) k f fd ps sp)(b:Binds K fd ps []):MthX P w K mg base k C m [] (fun vs _=>vs) sp:=⟨c,f,fd,ps,_,⟨a,fn,kp⟩,G,.pos b⟩
theorem MthX.calm (M:MthX P w K mg base k C m ks gV sp):Mth P w K mg base k C m ks gV (fun vs H Q _=>sp vs H Q fun _ _ _=>False):=by
 obtain ⟨c,f,fd,ps,g,a,F,b⟩:=M
 exact ⟨c,f,fd,ps,g,a,F.calm,b⟩
end
end L2
end
section
namespace L2
open PySem
section
variable {P:Program}{w:World}{K:W.Frag}{mg:Str→Option Value}{base:Heap}{k:Nat}{C f:Addr}{fd:FuncData}{m:Str}{ps ks:List Str}{g:List Value→List Value→List Value}{gV:List V→List V→List V}{sp:Sp}
end
section
variable {X:Cx}{cn n:Str}{j:Nat}{Cb:Addr}{body hbody:List Stmt}{b₀:Stmt}{tb:(St→XK)→TS}{th:TS}{tr t:THd}{p4 p8 p9:Pos}{hs:List ExceptHandler}{h0:ExceptHandler}
end
section
variable {X:Cx}{k:Nat}{ks:List Str}{x:Str}{C:Addr}{gV:List V→List V→List V}{sp:Sp}{p pos:Pos}{e:Expr}{es:List Expr}{kws:List Keyword}{t tk:TA}
end
section
variable {X:Cx}{pins:List (Addr×Obj)}{σ:St}{H:Hp}{s:Shared}{a:Addr}
end
section
variable {X:Cx}{tg:Expr}
end
section
variable {X:Cx}{K:W.Frag}
end
section
variable {X:Cx}{a b e:Expr}{ta tb te:TE}{pos pos':Pos}{x:Str}
theorem pe_x {r:R2}(hr:IxR X r)(ha:PE X a ta)(hb:PE X b tb)(hs:zhX b:=by exact fun _ _=>rfl):PE X (.Subscript a b pos) (tOp r ta tb):=pe_ix hr ha hb hs
theorem ps_L (i:Nat)(hN:X.N.Nodup)(he:PE X e te)(hi:X.N[i]? = some x:=by rfl)(hx:Loc X.env.scope x:=by exact Or.inl rfl)(hs:swapsWith e (some (.Name x pos')) pos.line X.env=pure false:=by rfl)(hf:X.fn x=true∨X.env.scope.names.lookup x=some .local:=by first | exact .inl rfl | exact .inr rfl | assumption):PS X (.Assign [.Name x pos'] e pos) (tAsg te (zaA i)):=zg8 hN hi hx he hs hf
theorem pg_L (i:Nat)(hN:X.N.Nodup)(hi:X.N[i]? = some x:=by rfl)(hx:Loc X.env.scope x:=by exact Or.inl rfl)(hf:X.fn x=true∨X.env.scope.names.lookup x=some .local:=by first | exact .inl rfl | exact .inr rfl | assumption):PG X (.Name x pos) (zaA i):=zju hN hi hx hf
theorem hrm {j k:Nat}{A:Around}(r:Room k A)(h:j≤k:=by first | exact Nat.le_of_ble_eq_true rfl | omega):Room j A:=r.mono h
theorem pe_c {k:Nat}{ps:List Str}{sp:Sp}{p:Pos}{e:Expr}{es:List Expr}{t:TA}(C:Cal X.prog X.w X.K X.mg X.base k x ps sp)(ha:PA X (e :: es) t)(hr:Room k X.A:=by exact hrm (by assumption))(hg:Gl X x:=by rfl)(hdb:(x == ("__debug__" : Str))=false:=by decide)
  (he:starEach (e :: es) X.env=(false,eval e X.env) :: starEach es X.env:=by rfl) (hpl:(backTo pos (starEach es X.env)).any (·.1)=false:=by rfl):PE X (.Call (.Name x p) (e :: es) [] pos) (zh4 sp [] E0 t):=pe_cal C hr hg ha hdb he hpl
theorem sck {N P:List Str}{sc:Scope}(h1:sc.kind = .function)(h2:sc.isCoroutine=false)(h3:sc.isGenerator=false)(h:N.Nodup∧N.take P.length=P∧(∀ x∈P,sc.names.lookup x=some .local∨sc.names.lookup x=some .cell)∧∀ y∈sc.names,y.2≠.free):FnScope N P sc:=⟨h1,h2,h3,h.1,h.2.1,h.2.2.1,h.2.2.2⟩
end
end L2
end
section
namespace L2
open PySem PySem.Spec PyProof.Rows PySem.SeqAt
section
variable {X:Cx}{K:W.Frag}
inductive rEqTI (K:W.Frag)(x:V)(y:V)(H:Hp)(Q:VK):Prop
 | mk (a:_) (b:_) (ns:List Int) (ms:List Int) (z0_:x = .ref a) (z1_:y = .ref b) (z2_:SqT K H a (ns.map V.int)) (z3_:SqT K H b (ms.map V.int)) (zl_:ns.length=ms.length) (z4_:Q (.bl (decide (ns=ms))) H)
theorem zjC (hu:X.A.units<cLine)(hK:X.K=K):OpR X (compareOp .Eq) (rEqTI K):=by
 subst hK
 rintro pins s σ H x y v u Q I rx ry ⟨a,b,ns,ms,rfl,rfl,ha,hb,hl,q⟩
 cases rx;cases ry
 obtain ⟨t1,r1,p1,_⟩:=I.tuple ha
 obtain ⟨t2,r2,p2,_⟩:=I.tuple hb
 have l1:=r1.length
 have l2:=r2.length
 rw [Xal] at l1 l2
 refine RcAt.tuples (e:=fun j=>ns[j]? == ms[j]?) p1 p2 hu (fun j h1 h2=>?_) _ _ _ _ ⟨.bl (decide (ns=ms)),H,I,?_,q⟩
 ·have g1:j<t1.length:=by simpa using h1
  have g2:j<t2.length:=by simpa using h2
  obtain ⟨u1,e1⟩:=zcn r1 j g1 (by omega)
  obtain ⟨u2,e2⟩:=zcn r2 j g2 (by omega)
  have e:(ns[j]? == ms[j]?)=(ns[j]'(by omega) == ms[j]'(by omega)):=by
   rw [Xax (by omega),Xax (by omega)]
   rfl
  rw [e]
  simp only [List.getElem_toArray,e1,e2]
  exact EqAt.int_int _ _ _ _
 ·show _=Value.bool _
  rw [Xaj,Xaj,← l1,← l2,← hl,Nat.min_self,all_eq hl,beq_self_eq_true,Bool.and_true]
end
section
open PySem.W PySem.Calls
variable {K:Frag}{x C:Addr}
def xIsD (x C:Addr)(h:Heap):Prop:=∃ oe vs dx oD,h.get? x=some oe∧(oe.cls = .ref C∧oe.dict=some dx)∧oe.data = .fields vs∧h.get? dx=some oD
theorem zeR (c:XCls K C):KitX K (.ref x) (.ref C) (xIsD x C) where
 ty:=fun M h _ p=>by
  obtain ⟨o,vs,_,_,h1,⟨h2,_⟩,_⟩:=p
  rw [← h2]
  exact (Looks.ld h1).andThen .now
 it:=fun _ _ X _=>by
  obtain ⟨c',d',cd',sl',ho⟩:=c.look
  intro A' Q' E' s' k q
  unfold isType loadHead
  exact Xaa (wpAny_loadPart (k _ _ (X _ _ ho)) (Xac q))
 ne:=fun h tp dd its n sl X htp=>by
  obtain ⟨c',d',cd',sl',ho⟩:=c.look
  refine Bool.eq_false_iff.mpr fun q=>?_
  have e:C=tp:=Value.ref.inj (beq_iff_eq.mp q)
  subst e
  have z:=(X _ _ ho).symm.trans htp
  cases z
 ca:=fun {prog w A E Q s} X p k=>by
  obtain ⟨o,vs,dx,oD,h1,⟨h2,h3⟩,h4,h5⟩:=p
  have I:InstAt s.heap x o C (some oD):=⟨h1,h2,by unfold notCls;rw [h4],by rw [h3];exact h5⟩
  exact zjf X I c.ga c.gr (c.cf _) c.sub c.mro k
variable {X:Cx}
theorem zi5 {pins:List (Addr×Obj)}{s:Shared}{σ:St}{H:Hp}{ea dx:Addr}{fs:List (Str×V)}(I:Inv X pins σ H s)(e:H ea=some (.ext (xIs ea (.ref C) (some dx))))(ed:H dx=some (.ext (xDc dx fs))):xIsD ea C s.heap:=by
 obtain ⟨oe,vs,g1,g2,g4⟩:=(show xIs ea (.ref C) (some dx) s.heap from (I.hok ea _ e).1)
 obtain ⟨_,mA,hn,r,wi⟩:=(show xDc dx fs s.heap from (I.hok dx _ ed).1)
 obtain ⟨oD,hoD,hl⟩:=zdw hn
 exact ⟨oe,vs,dx,oD,g1,g2,g4,hoD⟩
theorem ze6 (hK:X.K=K):zbU X (.builtin "isinstance") (fun xs H Q=>∃ (ea C dx:Addr) (fs:List (Str×V)) (c:V) (u:Value) (b:Bool),xs=[.ref ea,c]∧H ea=some (.ext (xIs ea (.ref C) (some dx)))∧H dx=some (.ext (xDc dx fs))∧XCls K C∧((∃ D,c = .ref D∧u=Value.ref D)∨∃ T,c = .ty T∧u=Value.type T)∧kitOne K (.ref C) u=some b∧Q (.bl b) H):=by
 subst hK
 intro pins s σ H xs us Q I r h
 obtain ⟨ea,C,dx,fs,c,u,b,rfl,e,ed,xc,hc,hk,q⟩:=h
 obtain ⟨v1,v2,rfl,r1,r2⟩:=zfd r
 obtain rfl:v1=Value.ref ea:=r1
 obtain rfl:v2=u:=by
  rcases hc with ⟨D,rfl,rfl⟩ | ⟨T,rfl,rfl⟩
  ·exact r2
  ·exact r2
 exact kia_one (zeR xc) I.kIn (zi5 I e ed) hk (fun z=>nomatch z) fun tk=>⟨.bl b,H,I.tok _,rfl,q⟩
theorem zgz (hK:X.K=K):zbU X (.builtin "isinstance") (fun xs H Q=>∃ (ea C dx tp:Addr) (fs:List (Str×V)) (Ds:List Addr) (b:Bool),xs=[.ref ea,.ref tp]∧H ea=some (.ext (xIs ea (.ref C) (some dx)))∧H dx=some (.ext (xDc dx fs))∧XCls K C∧H tp=some (.tup (Ds.map V.ref))∧kitAny K (.ref C) (Ds.map Value.ref)=some b∧Q (.bl b) H):=by
 subst hK
 intro pins s σ H xs us Q I r h
 obtain ⟨ea,C,dx,tp,fs,Ds,b,rfl,e,ed,xc,ht,hk,q⟩:=h
 obtain ⟨v1,v2,rfl,r1,r2⟩:=zfd r
 obtain rfl:v1=Value.ref ea:=r1
 obtain rfl:v2=Value.ref tp:=r2
 obtain ⟨_,its,rv,⟨c0,d0,dt0,sl0⟩,g1,g2,n,g3⟩:=(show ObjOk X.prog X.w H s.heap tp (.tup (Ds.map V.ref)) from I.hok tp _ ht)
 simp only at g2 g3
 subst g2 g3
 have ei:its=Ds.map Value.ref:=zg7 rv
 subst ei
 exact kia_tup (zeR xc) I.kIn (zi5 I e ed) g1 hk (fun z=>nomatch z) fun tk=>⟨.bl b,H,I.tok _,rfl,q⟩
end
section
variable {P:Program}{w:World}{K:W.Frag}{mg:Str→Option Value}{base:Heap}{k:Nat}{x:Str}{C:Addr}{ks:List Str}{gV:List V→List V→List V}{sp:Sp}
theorem MakX.calm (M:MakX P w K mg base k x C ks gV sp):Mak P w K mg base k x C ks gV (fun vs H Q _=>sp vs H Q fun _ _ _=>False):=by
 obtain ⟨a,f,fd,ps,g,m,F,b⟩:=M
 exact ⟨a,f,fd,ps,g,m,F.calm,b⟩
end
section
variable {prog:Program}{w:World}{A:Around}{E:Value→Shared→Prop}{s:Shared}
theorem zf7 {l sl e:Addr}{its its2:List Value}{n m:Nat}{vu:Value}{Q:Unit→Shared→Prop}(hl:s.heap.get? l=some { cls:=.type "list",data:=.seq its.toArray n })(he:s.heap.get? e=some { cls:=.type "list",data:=.seq its2.toArray m })(hs:s.heap.IsSliceOf sl .none vu .none)(pu:IsPart vu (some 3))(h3:3≤its.length)(hsz2:its2.length≤1000)(hsz:its.length≤100000)(hne:l≠e)
  (q:∀ f:Array Value→Array Value,f its.toArray=(its2 ++ its.drop 3).toArray→Q () { s with heap:=s.heap.update l (Obj.mapSeq f) }):wpAny (model prog w) A (setItem (.ref l) (.ref sl) (.ref e)) Q E s:=by
 obtain ⟨os,hos,hcs,hds⟩:=id hs
 have hT:s.TypeIs (.ref sl) "slice" := ⟨os,hos,hcs⟩
 have hL:s.TypeIs (.ref l) "list" := ⟨_,hl,rfl⟩
 have hE:s.TypeIs (.ref e) "list" := ⟨_,he,rfl⟩
 unfold setItem
 refine Xaz (Xaa (wpAny_sequenceKey hL (by decide) ?_))
 refine Xaa (wpAny_callSpecial?_slot (name:=Str.ofString "__setitem__") hL slot_list_setitem (XaM slot_list_setitem hL entry_list_setitem ?_ (args_list_setitem _ _ _)))
 show wpAny _ _ (Builtin.List.listSubscript? (.ref sl) >>= _) _ _ s;refine Xaa ?_;delta Builtin.List.listSubscript?
 refine Xaa (wpAny_specialOf hT slice_no_index ?_);simp only [Option.isNone_none,if_true];refine Xac ?_
 show wpAny _ _ (typeOf (.ref sl) >>= _) _ _ s;refine Xaa (Xbo hT ?_);rw [if_neg (by decide),listSliceParts_eq]
 refine Xaa (Xaa (XaI hos hds (x:=.none) rfl (Xaa (wpAny_listPart .none ?_))));rw [if_neg (show ¬ ((rawPart none == rawInt 0)=true) from Xak)]
 refine Xaa (XaI hos hds (x:=.none) rfl (Xaa (wpAny_listPart .none ?_)))
 refine Xaa (XaI hos hds (x:=vu) rfl (Xaa (wpAny_listPart pu (Xac ?_))))
 rw [if_neg (show ¬ Builtin.List.listSameRef (.ref l) (.ref e)=true from fun z=>hne (by simpa [Builtin.List.listSameRef] using z))]
 refine Xaa (m:=Builtin.List.listAllItems (.ref e) _) ?_;delta Builtin.List.listAllItems
 refine Xaa (Xbo hE ?_);rw [if_pos (by decide)];delta Builtin.List.listItems
 refine Xaa (Xa0 he rfl (Xac ?_))
 refine Xaa (Xaa (Xa0 hl rfl (Xac (Xaa (wpAny_of_eq (sliceIndices_raw none (some 3) none its.toArray.size (by simp)) ?_)))))
 have hsl:(200000:Nat)≤sizeLine:=by decide
 have e1:sliceBounds none (some 3) none its.toArray.size=(0,max 0 (min 3 (its.toArray.size:Int)),1):=by simp [sliceBounds]
 rw [e1]
 dsimp only
 rw [if_pos (show ((1:Int) == 1)=true from rfl)]
 refine Xaa (Xbm ?_)
 rw [if_neg (show ¬ Builtin.List.listTooLong (its.toArray.size+its2.toArray.size)=true by simp [Builtin.List.listTooLong];omega)]
 have em:(max 0 (max 0 (min 3 (its.toArray.size:Int)))).toNat=3:=by rw [Xaj];omega
 have key:(its.toArray.extract 0 (0:Int).toNat ++ its2.toArray ++ its.toArray.extract (max 0 (max 0 (min 3 (its.toArray.size:Int)))).toNat its.toArray.size)=(its2 ++ its.drop 3).toArray:=by
  rw [em]
  apply Array.ext'
  simp
  exact Xbw (by simp)
 refine Xaa (wpAny_updateSeq hl rfl ?_ (by simp;omega) ?_)
 ·exact Xaa (wpAny_letGo (Xac ⟨_,rfl,Xac (q _ key)⟩))
 ·rw [key];simp;omega
end
section
variable {X:Cx}{o:Expr}{td tv:TE}{pos p1 p2 p3:Pos}{k0:Nat}
inductive gHead3_1 (v:V)(σ:St)(Q:St→Hp→Prop)(x:V)(H1:Hp):Prop
 | mk (a:_) (b:_) (xs:_) (ys:_) (z0_:x = .ref a) (z1_:v = .ref b) (z2_:a≠b) (z3_:H1 a=some (.lst xs)) (z4_:H1 b=some (.lst ys)) (z5_:3≤xs.length) (z6_:xs.length≤1000) (z7_:ys.length≤1000) (z8_:Q σ (upd H1 a (.lst (ys ++ xs.drop 3))))
def gHead3 (td:TE):TG:=fun v σ H Q=>td σ H (gHead3_1 v σ Q)
theorem pg_head3 (ho:PE X o td)
  (ha:∀ v,assign (.Subscript o (.Slice none (some (.Constant (.int 3) k0 p3)) none p2) p1) X.env v=(do
   let ov ← holding [v] (eval o X.env)
   let iv ← holding [v,ov] (eval (.Slice none (some (.Constant (.int 3) k0 p3)) none p2) X.env)
   standAt p1
   holding [v,ov,iv] (setItem ov iv v)
   release [iv,v,ov] []):=by intro _;rfl):PG X (.Subscript o (.Slice none (some (.Constant (.int 3) k0 p3)) none p2) p1) (gHead3 td):=by
 intro pins s σ H v u Q I rv h
 rw [ha]
 refine Xaa (Xaz (thn (ho pins s σ H _ I h) fun ov s1 hh_=>?_))
 obtain ⟨x,H1,I1,rx,a,b,xs,ys,ex,ev,hne,ea,eb,h3,hz,hz2,q⟩:=hh_
 subst ex ev
 obtain rfl:ov=Value.ref a:=rx
 obtain rfl:u=Value.ref b:=rv
 refine Xaa (Xaz (wpAny_Slice ?_))
 rw [evalPart_none]
 refine Xac (thn (zcy (X:=X) (zaf (X:=X) (i:=3) (j:=k0) (pos:=p3)) pins s1 σ H1 (fun v H2=>v=some 3∧H2=H1) I1 ⟨3,rfl,rfl,rfl⟩) fun vu s2 hh_=>?_)
 obtain ⟨l,H2,I2,pu,el,eh⟩:=hh_
 subst el eh
 refine Xac ?_
 have I4:Inv X pins σ H2 { s2 with heap:=s2.heap.push { cls:=.type "slice",data:=.fields #[.none,vu,.none] } }:=I2.kept (t':=s2.toks) fun b ob q=>Xab _ q
 obtain ⟨z,its,n,r,hl,e⟩:=I4.lstM ea
 obtain ⟨z2,its2,n2,r2,hl2,e2⟩:=I4.lstM eb
 have l1:=r.length
 have l2:=r2.length
 have hsl:(200000:Nat)≤sizeLine:=by decide
 refine Xaa (Xa4 (Xaa (Xaz ?_)))
 refine zf7 (s:={ s2 with heap:=s2.heap.push { cls:=.type "slice",data:=.fields #[.none,vu,.none] } }) e e2 (Heap.IsSliceOf.new ..) pu (by omega) (by omega) (by omega) hne fun f hf=>?_
 exact wpAny_release ⟨σ,_,I4.lset (t':=s2.toks) ea e hf (r2.append (r.drop 3)) (by rw [Xan,List.length_drop];omega),q⟩
end
end L2
end
local macro_rules | `(tactic| omega)=>`(tactic| lia)
set_option maxHeartbeats 8000000
namespace Cb
open PySem L2
def top (i:Nat):Stmt:=PySem.Challenge.pw_chipbus_k48_movers_refused.main.body.getD i (.Pass ⟨0,0,0,0⟩)
set_option tactic.hygienic true in
theorem zhT {b:Int}{k:Nat}(h:b.natAbs<2 ^ k):Builtin.Int.intBits b≤k:=by
 unfold Builtin.Int.intBits
 split
 ·omega
 ·rename_i h0
  have h1:b.natAbs≠0:=by first | omega | (intro z;simp_all)
  have:=(Nat.log2_lt h1).mpr h
  omega
theorem zbQ {a b:Int}(ha:a.natAbs<2 ^ 200)(hb:b.natAbs<2 ^ 200):IntMulOk a b:=IntMulOk.of_bits (Xam (zhT ha) (by decide)) (Xam (zhT hb) (by decide))
theorem log_ok {m:Int}(h:0<m)(h2:m≤2 ^ 64):m.natAbs.log2<9000:=by
 have h1:m.natAbs≠0:=by omega
 exact Xaf ((Nat.log2_lt h1).mpr (show m.natAbs<2 ^ 65 by omega)) (by decide)
local macro_rules | `(tactic| walk_at "l")=>`(tactic| (rintro _ _ _ _ ⟨⟩;subst_vars;rfl))
local macro_rules | `(tactic| walk_at "sd")=>`(tactic| first | assumption | (exact ⟨by decide,by decide,by decide⟩) | (exact ⟨by assumption,by assumption⟩) | (exact ⟨by decide,by decide +kernel⟩) | (show (0:Int)<_;decide))
local macro_rules | `(tactic| walk_at "hp")=>`(tactic| first | assumption | exact zab)
local macro_rules | `(tactic| walk_at "vc")=>`(tactic| repeat (first | refine ⟨_,rfl,?_⟩ | refine ⟨_,_,rfl,rfl,?_⟩ | refine ⟨_,_,rfl,?_⟩ | refine ⟨_,_,_,_,rfl,rfl,SqL.of (by walk_at "hp"),rfl,?_⟩ | refine ⟨_,_,_,_,rfl,rfl,(by walk_at "hp"),rfl,?_⟩ | refine And.intro (by walk_at "sd") ?_))
theorem zaC {t u:TS}{D:Ends}(S S':St→Hp→Prop)(h1:∀ σ H,S σ H→∀ N:St→Hp→Prop,(∀ σ' H',S' σ' H'→N σ' H')→t { D with nx:=N } σ H)(h2:∀ σ' H',S' σ' H'→u D σ' H'):∀ σ H,S σ H→tSeq t u D σ H:=
 fun σ H s=>h1 σ H s _ h2
theorem zic (m:Nat)(x:Nat):((List.replicate m [V.int (x:Int)]).flatten:List V)=vN (List.replicate m x):=by
 unfold vN
 rw [List.map_replicate]
 induction m with
 | zero=>rfl
 | succ m ih=>rw [XaW,List.flatten_cons,ih,XaW];rfl
theorem ln0 {α:Type}{P:List α→Prop}(us:List α)(h:us.length=0)(k:P []):P us:=by
 rw [List.eq_nil_of_length_eq_zero h];exact k
theorem lnS {α:Type}{P:List α→Prop}{n:Nat}(us:List α)(h:us.length=n+1)(k:∀ a (r:List α),r.length=n→P (a :: r)):P us:=by
 cases us with
 | nil=>cases h
 | cons a r=>exact k a r (Nat.succ.inj h)
theorem ln1 {α:Type}{P:List α→Prop}(us:List α)(h:us.length=1)(k:∀ a,P [a]):P us:=lnS us h fun a r h=>ln0 (P:=fun r=>P (a :: r)) r h (k a)
theorem ln2 {α:Type}{P:List α→Prop}(us:List α)(h:us.length=2)(k:∀ a b,P [a,b]):P us:=lnS us h fun a r h=>ln1 (P:=fun r=>P (a :: r)) r h (k a)
theorem ln3 {α:Type}{P:List α→Prop}(us:List α)(h:us.length=3)(k:∀ a b c,P [a,b,c]):P us:=lnS us h fun a r h=>ln2 (P:=fun r=>P (a :: r)) r h (k a)
theorem ln4 {α:Type}{P:List α→Prop}(us:List α)(h:us.length=4)(k:∀ a b c d,P [a,b,c,d]):P us:=lnS us h fun a r h=>ln3 (P:=fun r=>P (a :: r)) r h (k a)
theorem ln5 {α:Type}{P:List α→Prop}(us:List α)(h:us.length=5)(k:∀ a b c d e,P [a,b,c,d,e]):P us:=lnS us h fun a r h=>ln4 (P:=fun r=>P (a :: r)) r h (k a)
local macro_rules | `(tactic| walk_at "o")=>`(tactic| first | exact Or.inl rfl | exact Or.inr (Or.inl rfl) | exact Or.inr (Or.inr rfl))
local macro_rules | `(tactic| walk_at "p")=>`(tactic| first | exact .inl rfl | exact .inr rfl | assumption)
local macro_rules | `(tactic| walk_at "m")=>`(tactic| first | decide | omega)
theorem zg4 {α:Type}(n:Nat)(x:α):(List.replicate n [x]).flatten=List.replicate n x:=by
 induction n with
 | zero=>rfl
 | succ n ih=>rw [XaW,List.flatten_cons,ih,XaW];rfl
theorem ty_seq {K:W.Frag}{H:Hp}{t:Bool}{a:Addr}{xs:List V}(h:SqX t H a xs):TyOf K H (.ref a) (.type (sqC t)):=by
 cases t with
 | true=>exact .tup (xs:=xs) h
 | false=>exact .lst (xs:=xs) h
theorem zfW {xs:List V}{m:Nat}(h:m≤xs.length):cutV xs none (some (m:Int))=xs.take m:=by
 unfold cutV HT.sIx
 have e:((m:Int)).toNat=m:=by omega
 simp only [List.drop_zero,Nat.sub_zero]
 split
 ·omega
 ·rw [e,Nat.min_eq_left h]
theorem zbl {H:Hp}{x dx:Addr}{o1 o2:HO}(hx:H x=none)(hdx:H dx=none):Same H (upd (upd H dx o1) x o2):=fun b u e=>by
 rw [zah (zaj e hx),zah (zaj e hdx)];exact e
theorem zhV {P:Hp→Prop}{Hr:Hp}(R:Hp→Prop)(hr:R Hr)(h:∀ H',R H'→P H'):P Hr:=h _ hr
theorem zax {D:Ends}{σ:St}{H:Hp}(h:D.nx σ H):tNext D σ H:=h
theorem zgN {l:List Nat}{i v:Nat}(h:l[i]? = some v):(vN l)[i]? = some (V.int (v:Int)):=by unfold vN;rw [Xav,h];rfl
def mulL:List Nat→List Nat→List Nat
 | a :: r,b :: s=>(a * b) :: mulL r s
 | _,_=>[]
inductive spSize (vs:List V)(H:Hp)(Q:VK)(u3_:XK):Prop
 | mk (n:Nat) (z0_:vs=[.int (n:Int)]) (z1_:n≤16) (z2_:Q (.int (2 ^ n)) H)
theorem strKey {v:Value}(h:(match v with | .str _ _=>true | _=>false)=true):∃ n t,v = .str n t:=by
 cases v with
 | str n t=>exact ⟨n,t,rfl⟩
 | _=>cases h
theorem zbu (m:Nat):ones (2 * m)=ones m:=by rw [zdo,show 2 * m % 2=0 by omega,show 2 * m / 2=m by omega];omega
theorem zc2 (m:Nat):ones (2 * m+1)=ones m+1:=by rw [zdo,show (2 * m+1) % 2=1 by omega,show (2 * m+1) / 2=m by omega];omega
theorem zhn:ones 0=0:=by simp [ones]
theorem zjT {P:Nat→Nat→Prop}(h0:P 0 0)(hee:∀ m o,P m o→P (2 * m) (2 * o))(hoe:∀ m o,P m o→P (2 * m+1) (2 * o))(heo:∀ m o,P m o→P (2 * m) (2 * o+1)):∀ m o,m &&& o=0→P m o:=by
 have key:∀ k m o,m+o≤k→m &&& o=0→P m o:=by
  intro k
  induction k with
  | zero =>
   intro m o h _
   obtain ⟨rfl,rfl⟩:m=0∧o=0:=by omega
   exact h0
  | succ k ih =>
   intro m o hk hd
   by_cases hz:m+o=0
   ·obtain ⟨rfl,rfl⟩:m=0∧o=0:=by omega
    exact h0
   obtain ⟨x,hx⟩:∃ x,m=2 * x∨m=2 * x+1:=⟨m / 2,by omega⟩
   obtain ⟨y,hy⟩:∃ y,o=2 * y∨o=2 * y+1:=⟨o / 2,by omega⟩
   rcases hx with rfl | rfl <;> rcases hy with rfl | rfl
   ·rw [zhv] at hd;exact hee x y (ih x y (by omega) (by omega))
   ·rw [zhw] at hd;exact heo x y (ih x y (by omega) (by omega))
   ·rw [zfB] at hd;exact hoe x y (ih x y (by omega) (by omega))
   ·rw [zix] at hd;omega
 exact fun m o h=>key _ m o (Xae _) h
theorem ziG:∀ m o,m &&& o=0→ones (m+o)=ones m+ones o:=by
 refine zjT ?_ ?_ ?_ ?_
 ·rw [zhn]
 ·intro m o ih;rw [show 2 * m+2 * o=2 * (m+o) by omega,zbu,zbu,zbu,ih]
 ·intro m o ih;rw [show 2 * m+1+2 * o=2 * (m+o)+1 by omega,zc2,zc2,zbu,ih];omega
 ·intro m o ih;rw [show 2 * m+(2 * o+1)=2 * (m+o)+1 by omega,zc2,zc2,zbu,ih];omega
theorem bor (a b:Nat):Builtin.bitOr (a:Int) (b:Int)=((a ||| b:Nat):Int):=by
 unfold Builtin.bitOr Builtin.bitAnd Builtin.bitNot
 rw [Xao (show ¬ (0:Int)≤-(a:Int) - 1 by omega),Xao (show ¬ (0:Int)≤-(b:Int) - 1 by omega)]
 show -(-((((-(-(a:Int) - 1) - 1).toNat ||| (-(-(b:Int) - 1) - 1).toNat:Nat)):Int) - 1) - 1=_
 rw [show -(-(a:Int) - 1) - 1=(a:Int) by omega,show -(-(b:Int) - 1) - 1=(b:Int) by omega,Xai,Xai]
 omega
theorem zeB {H H':Hp}{p:Addr}(s:Same H H')(h:H' p=none):H p=none:=by
 cases e:H p with
 | none=>rfl
 | some o=>rw [s _ _ e] at h;cases h
theorem zeq (op:Nat→Nat→Nat)(f:Bool→Bool→Bool)(hop:∀ a b i,(op a b).testBit i=f (a.testBit i) (b.testBit i))(hf:f false false=false)(x y:Nat) :
  op x y=(f (x % 2 == 1) (y % 2 == 1)).toNat+2 * op (x / 2) (y / 2):=by
 apply Nat.eq_of_testBit_eq
 intro i
 cases i with
 | zero =>
  rw [hop]
  simp only [Nat.testBit_zero]
  cases h:f (x % 2 == 1) (y % 2 == 1) <;> simp_all [Nat.add_mod]
 | succ i =>
  rw [hop]
  simp only [XaZ]
  rw [show ((f (x % 2 == 1) (y % 2 == 1)).toNat+2 * op (x / 2) (y / 2)) / 2=op (x / 2) (y / 2) by cases f (x % 2 == 1) (y % 2 == 1) <;> simp <;> omega,hop]
theorem or_is:∀ a b:Nat,a ||| b=(a ^^^ b)+(a &&& b):=by
 intro a
 induction a using Nat.strongRecOn with
 | _ a ih =>
  intro b
  by_cases h0:a=0
  ·subst h0;simp
  have e1:a ||| b=((a % 2 == 1) || (b % 2 == 1)).toNat+2 * (a / 2 ||| b / 2):=zeq (· ||| ·) (· || ·) Nat.testBit_or rfl a b
  have e2:a ^^^ b=(Bool.xor (a % 2 == 1) (b % 2 == 1)).toNat+2 * (a / 2 ^^^ b / 2):=zeq (· ^^^ ·) Bool.xor Nat.testBit_xor rfl a b
  have e3:a &&& b=((a % 2 == 1) && (b % 2 == 1)).toNat+2 * (a / 2 &&& b / 2):=zeq (· &&& ·) (· && ·) XaG rfl a b
  have e4:=ih (a / 2) (by omega) (b / 2)
  rw [e1,e2,e3,e4]
  cases (a % 2 == 1) <;> cases (b % 2 == 1) <;> simp <;> omega
theorem bxor (a b:Nat):Builtin.bitXor (a:Int) (b:Int)=((a ^^^ b:Nat):Int):=by
 unfold Builtin.bitXor
 rw [bor,band,or_is]
 omega
def agr (m w n v:Nat):Bool:=decide ((w ^^^ v) &&& m &&& n=0)
inductive spAgr (vs:List V)(H:Hp)(Q:VK)(u3_:XK):Prop
 | mk (m w n v:Nat) (z0_:vs=[.int (m:Int),.int (w:Int),.int (n:Int),.int (v:Int)]) (z1_:Q (.bl (agr m w n v)) H)
def LatV (H:Hp)(v:V):Option (Nat×Nat×Nat)→Prop
 | none=>v = .non
 | some (c,a,b)=>∃ u:Addr,v = .ref u∧H u=some (.tup [.int (c:Int),.int (a:Int),.int (b:Int)])
def latA:Option (Nat×Nat×Nat)→Option (Nat×Nat×Nat)→Bool
 | some (c,a,b),some (d,x,y)=>if c=d then agr a b x y else true
 | _,_=>true
inductive spLatA (vs:List V)(H:Hp)(Q:VK)(u3_:XK):Prop
 | mk (x:_) (y:_) (o:_) (p:_) (z0_:vs=[x,y]) (z1_:LatV H x o) (z2_:LatV H y p) (z3_:Q (.bl (latA o p)) H)
structure Rw where
 m:Nat
 w:Nat
 i:Nat
 c:Nat
 l:Option (Nat×Nat×Nat)
def RwAt (H:Hp)(t:Addr)(r:Rw):Prop:=∃ lt:V,H t=some (.tup [.int (r.m:Int),.int (r.w:Int),.int (r.i:Int),.int (r.c:Int),lt])∧LatV H lt r.l
def zdH (r q:Rw):Bool:=agr r.m r.w q.m q.w && latA r.l q.l
inductive spClash (vs:List V)(H:Hp)(Q:VK)(u3_:XK):Prop
 | mk (t:_) (u:_) (r:_) (q:_) (z0_:vs=[.ref t,.ref u]) (z1_:RwAt H t r) (z2_:RwAt H u q) (z3_:Q (.bl (zdH r q)) H)
theorem zhP:bootBuiltins "sorted" = some (.builtin "sorted"):=by decide +kernel
theorem LatV.same {H H':Hp}{v:V}{o:Option (Nat×Nat×Nat)}(h:LatV H v o)(s:Same H H'):LatV H' v o:=by
 match o,h with
 | none,h=>exact h
 | some (c,a,b),⟨u,e,eu⟩=>exact ⟨u,e,s _ _ eu⟩
theorem RwAt.same {H H':Hp}{t:Addr}{r:Rw}(h:RwAt H t r)(s:Same H H'):RwAt H' t r:=by
 obtain ⟨lt,e,hl⟩:=h
 exact ⟨lt,s _ _ e,hl.same s⟩
def zjW:Option (Nat×Nat×Nat)→Prop
 | none=>True
 | some (c,a,b)=>c<100∧a<256∧b &&& a=b
structure RwOk (m:Nat)(r:Rw):Prop where
 m0:r.m<2 ^ m
 w0:r.w<2 ^ m
 wm:r.w &&& r.m=r.w
 i0:r.i<2 ^ m
 im:r.i &&& r.m=0
 c0:r.c<100
 l0:zjW r.l
def NC (r q:Rw):Prop:=zdH r q=false∧zdH q r=false
theorem NC.of_lat {r q:Rw}(h1:latA r.l q.l=false)(h2:latA q.l r.l=false):NC r q:=by
 unfold NC zdH
 rw [h1,h2,Bool.and_false,Bool.and_false]
 exact ⟨rfl,rfl⟩
def RwsAt2 (m:Nat)(X:Hp)(ws:List (Addr×Rw)):Prop:=∀ z∈ws,RwAt X z.1 z.2∧RwOk m z.2
theorem RwsAt2.same {m:Nat}{X Y:Hp}{ws:List (Addr×Rw)}(h:RwsAt2 m X ws)(s:Same X Y):RwsAt2 m Y ws:=fun z hz=>⟨(h z hz).1.same s,(h z hz).2⟩
def refs {α:Type}(ws:List (Addr×α)):List V:=ws.map fun z=>.ref z.1
theorem zay {α:Type}(ws:List (Addr×α)):(refs ws).length=ws.length:=Xal ..
theorem zdE {K:W.Frag}{i j:Nat}{T:Addr}{x y:V}{σ:St}{H:Hp}{Q:St→Hp→Prop}(e:H T=some (.tup [x,y]))(h:Q ((σ.set i (some x)).set j (some y)) H) :
  gTup K 2 (gCons (zaA i) (gCons (zaA j) gNil)) (.ref T) σ H Q:=
 ⟨T,[x,y],rfl,SqT.of e,rfl,x,[y],rfl,y,[],rfl,rfl,h⟩
theorem LatV.updL {X:Hp}{l:Addr}{v:V}{o:Option (Nat×Nat×Nat)}{xs ys:List V}(h:LatV X v o)(hl:X l=some (.lst xs)):LatV (upd X l (.lst ys)) v o:=by
 match o,h with
 | none,h=>exact h
 | some (c,a,b),⟨u,e,eu⟩=>exact ⟨u,e,by rw [zah (fun z=>by rw [z,hl] at eu;cases eu)];exact eu⟩
theorem RwAt.updL {X:Hp}{l t:Addr}{r:Rw}{xs ys:List V}(h:RwAt X t r)(hl:X l=some (.lst xs)):RwAt (upd X l (.lst ys)) t r:=by
 obtain ⟨lt,e,hlt⟩:=h
 exact ⟨lt,by rw [zah (fun z=>by rw [z,hl] at e;cases e)];exact e,hlt.updL hl⟩
theorem RwsAt2.updL {m:Nat}{X:Hp}{l:Addr}{ws:List (Addr×Rw)}{xs ys:List V}(h:RwsAt2 m X ws)(hl:X l=some (.lst xs)):RwsAt2 m (upd X l (.lst ys)) ws:=fun z hz=>⟨(h z hz).1.updL hl,(h z hz).2⟩
theorem zg6 {α:Type}(ws:List (Addr×α))(z:Addr×α):refs (ws ++ [z])=refs ws ++ [.ref z.1]:=by unfold refs;rw [Xa2];rfl
theorem zcg {α:Type}{ws:List (Addr×α)}{k:Nat}{x:V}(h:(refs ws)[k]? = some x):∃ z,ws[k]? = some z∧x = .ref z.1:=by
 unfold refs at h
 rw [Xav] at h
 obtain ⟨z,h1,h2⟩:=XaO.mp h
 exact ⟨z,h1,h2.symm⟩
def hdN (l:List Nat):V:=match l with
 | []=>.non
 | i :: _=>.int (i:Int)
theorem lnB1 {α:Type}{P:List α→Prop}(k:∀ a,P [a]):∀ us:List α,us.length=1→P us:=fun us h=>ln1 us h k
theorem lnB2 {α:Type}{P:List α→Prop}(k:∀ a b,P [a,b]):∀ us:List α,us.length=2→P us:=fun us h=>ln2 us h k
theorem lnB3 {α:Type}{P:List α→Prop}(k:∀ a b c,P [a,b,c]):∀ us:List α,us.length=3→P us:=fun us h=>ln3 us h k
theorem lnB4 {α:Type}{P:List α→Prop}(k:∀ a b c d,P [a,b,c,d]):∀ us:List α,us.length=4→P us:=fun us h=>ln4 us h k
theorem lnB5 {α:Type}{P:List α→Prop}(k:∀ a b c d e,P [a,b,c,d,e]):∀ us:List α,us.length=5→P us:=fun us h=>ln5 us h k
section
variable {P:Program}{w:World}{K:W.Frag}{mg:Str→Option Value}{base:Heap}{k:Nat}{f C:Addr}{fd:FuncData}{ps ks:List Str}{sp:Sp}{x m:Str}{g:List Value→List Value→List Value}{gV:List V→List V→List V}
theorem zhO (G:FnOk P w K mg base CX0 k f fd ps sp)(a:mg x=some (.ref f))(kp:W.keepIn K (.ref f)=true)(b:Binds K fd ps []):Cal P w K mg base k x ps sp:=⟨f,fd,G,a,kp,b⟩
theorem zjJ (c:Cls K C)(a:W.findIn K (.ref C) m=some (some (.ref f)))(fn:W.isFn K (.ref f)=true)(kp:W.keepIn K (.ref f)=true)(G:FnOk P w K mg base CX0 k f fd ps sp)(b:KBinds K fd ps ks g gV):Mth P w K mg base k C m ks gV sp:=⟨c,f,fd,ps,g,⟨a,fn,kp⟩,G,b⟩
theorem mth_mk (c:Cls K C)(a:W.findIn K (.ref C) m=some (some (.ref f)))(fn:W.isFn K (.ref f)=true)(kp:W.keepIn K (.ref f)=true)(G:FnOk P w K mg base CX0 k f fd ps sp)(b:Binds K fd ps []):Mth P w K mg base k C m [] (fun vs _=>vs) sp:=zjJ c a fn kp G (.pos b)
theorem zcK (a:mg x=some (.ref C))(mk:W.makesIn K C=true)(at_:W.findIn K (.ref C) "__init__" = some (some (.ref f)))(fn:W.isFn K (.ref f)=true)(kc:W.keepIn K (.ref C)=true)(G:FnOk P w K mg base CX0 k f fd ps sp)(b:KBinds K fd ps ks g gV):Mak P w K mg base k x C ks gV sp:=⟨a,f,fd,ps,g,⟨mk,at_,fn,kc⟩,G,b⟩
end
structure Nums (mg:Str→Option Value):Prop where
 MOST_BITS:∃ t,mg "MOST_BITS" = some (.int 16 t)
 LAST_CHIP:∃ t,mg "LAST_CHIP" = some (.int 99 t)
 LAST_WORD:∃ t,mg "LAST_WORD" = some (.int 255 t)
 MOST_CELLS:∃ t,mg "MOST_CELLS" = some (.int 4096 t)
 MOST_ROOM:∃ t,mg "MOST_ROOM" = some (.int 255 t)
 SIXTEEN:∃ t,mg "SIXTEEN" = some (.str "0123456789abcdef" t)
 READ:∃ t,mg "READ" = some (.str "read" t)
 WRITE:∃ t,mg "WRITE" = some (.str "write" t)
 BOTH:∃ t,mg "BOTH" = some (.str "both" t)
abbrev zbI:Stmt:=top 15
theorem scsingle_ones:FnScope ["mask","singles","rest"] ["mask"] (zai zbI):=sck rfl rfl rfl (by decide +kernel)
section
variable {P:Program}{w:World}{K:W.Frag}{mg:Str→Option Value}{base:Heap}
theorem zeg {f:Addr}{fd:FuncData}(F:Fun K "single_ones" "single_ones" zbI f fd)(T:Blt mg):FnOk P w K mg base CX0 1 f fd ["mask"] spSingles:=by
 refine F.ok scsingle_ones (by walk_at "l") (fun cdv A outer s H vs Q E hr h=>?_)
 ·obtain ⟨n,rfl,hn,k⟩:=h
  refine ⟨_,(zad (ps_L 1 scsingle_ones.nd (zav zac))
   (zad (zfO PassesOwn.never (zat zhl (pv 0) zaf (zas _)) (zad (ps_L 2 scsingle_ones.nd (zaq zck (pv 0) (zaq zeG (pv 0) zaf)))
   (zad (zaI (zgd PySem.F.plainAttrs_list PySem.F.slot_list_append PySem.F.type_list_append zbR (pv 1) (zaa (zaq zeG (pv 0) (pv 2)) zac)))
   (zag (ps_L 0 scsingle_ones.nd (pv 2))))))
   (zag (zal (pv 1))))),?rd⟩
  refine ⟨by show 0≤sizeLine;decide,fun l hl=>?_⟩
  refine zfI (fun σ H2=>∃ (m:Nat) (r:Option V) (d:List Nat),σ=[some (.int (m:Int)),some (.ref l),r]∧m<2 ^ 64∧Same H H2∧H2 l=some (.lst (vN d))∧d ++ sgl m=sgl n) (fun σ _=>match σ with | some (.int i) :: _=>i.toNat | _=>0)
   ⟨n,none,[],rfl,hn,zae hl,zab,rfl⟩ ?_ ?_
  ·rintro σ H2 ⟨m,r,d,rfl,hm,hs,hL,hd⟩
   walk_at "vc"
   refine ite2 (fun h1=>?_) (fun h1=>?_)
   ·have h1:0<m:=by have:=XaN h1;omega
    obtain ⟨s1,s2⟩:=zh7 m h1
    have e1:((m:Int) - 1)=((m - 1:Nat):Int):=by omega
    walk_at "vc"
    have hlen:(vN d).length<sizeLine:=by
     have h2:=congrArg List.length hd
     rw [Xan,zcq,zcq] at h2
     have h3:=zho 64 n hn
     rw [zao];exact zdc (by omega)
    refine ⟨.inl ⟨rfl,_,SqL.of hL⟩,?_⟩
    walk_at "vc"
    refine ⟨l,_,_,rfl,rfl,hL,hlen,?_⟩
    walk_at "vc"
    have e2:Builtin.bitAnd (m:Int) ((m:Int) - 1)=((m &&& (m - 1):Nat):Int):=by rw [e1,band]
    have e3:(m:Int) - Builtin.bitAnd (m:Int) ((m:Int) - 1)=((m - (m &&& (m - 1)):Nat):Int):=by rw [e2];omega
    refine ⟨⟨m &&& (m - 1),some (.int ((m &&& (m - 1):Nat):Int)),d ++ [m - (m &&& (m - 1))],?_,by omega,fun b o e=>?_,?_,?_⟩,?_⟩
    ·show List.set (List.set _ _ _) _ _=_
     simp only [List.set]
     rw [e2]
    ·rw [zah (zaj e hl)];exact hs b o e
    ·rw [zab,zd5,← e3]
    ·rw [← hd,s2];simp
    ·show (Builtin.bitAnd (m:Int) ((m:Int) - 1)).toNat<((m:Nat):Int).toNat
     rw [e2];simpa using s1
   ·have h1:m=0:=by have:=h1;simp at this;omega
    subst h1
    walk_at "vc"
    rw [zh6,Xbs] at hd
    subst hd
    exact k l H2 hl hL hs
  ·rintro σ H2 Q1 Q2 hq h
   obtain ⟨v,e,i,j,e1,e2,c,e3,h⟩:=h
   exact ⟨v,e,i,j,e1,e2,c,e3,hq _ _ h⟩
abbrev zd7:Stmt:=top 16
theorem zgY:FnScope ["mask"] ["mask"] (zai zd7):=sck rfl rfl rfl (by decide +kernel)
theorem zhq {f:Addr}{fd:FuncData}(F:Fun K "ones_of" "ones_of" zd7 f fd)(T:Blt mg)(Gsingle_ones:Cal P w K mg base 1 "single_ones" ["mask"] spSingles):FnOk P w K mg base CX0 2 f fd ["mask"] spOnes:=by
 refine F.ok zgY (by walk_at "l") (fun cdv A outer s H vs Q E hr h=>?_)
 ·obtain ⟨n,rfl,hn,k⟩:=h
  refine ⟨_,(zag (zal (zak zam (by rfl) T.len PySem.boot_len (zaa (pe_c Gsingle_ones (zaa (pv 0) zac)) zac)))),?rd⟩
  refine ⟨_,rfl,n,rfl,hn,fun p H' hp hL hs=>?_⟩
  refine ⟨p,_,rfl,.inl (SqL.of hL),?_⟩
  rw [zao,zcq]
  exact k H' hs
abbrev zco:Stmt:=top 20
theorem zfj:FnScope ["thing","last"] ["thing","last"] (zai zco):=sck rfl rfl rfl (by decide +kernel)
theorem zfq {f:Addr}{fd:FuncData}(F:Fun K "is_number" "is_number" zco f fd)(T:Blt mg):FnOk P w K mg base CX0 1 f fd ["thing","last"] spIsNum:=by
 refine F.ok zfj (by walk_at "l") (fun cdv A outer s H vs Q E hr h=>?_)
 ·obtain ⟨a,b,rfl,k⟩:=h
  refine ⟨_,(zag (zal (za1 (zak (zaJ "int" (K:=K) rfl) (by rfl) T.isinstance zaU (zaa (pv 0) (zaa (zaN rfl T.int zd3 zg2) zac))) (za1 (ziX (zak (zaJ "bool" (K:=K) rfl) (by rfl) T.isinstance zaU (zaa (pv 0) (zaa (zaN rfl T.bool zhQ zg3) zac)))) (zbt (zim zhk zhk zaf (pv 0) (pv 1))))))),?rd⟩
  refine ⟨_,rfl,_,_,_,rfl,.int a,rfl,true,rfl,iteT ?_⟩
  refine ⟨_,rfl,_,_,_,rfl,.int a,rfl,false,rfl,true,rfl,iteT ?_⟩
  refine ⟨_,rfl,_,_,rfl,rfl,_,rfl,ite2 (fun h=>?_) (fun h=>?_)⟩
  ·have h:=XaN h
   refine ⟨_,rfl,_,_,rfl,rfl,?_⟩
   rw [show decide (0≤a∧a≤b)=decide (a≤b) from decide_eq_decide.mpr ⟨fun z=>z.2,fun z=>⟨h,z⟩⟩] at k
   exact k
  ·have h:¬ 0≤a:=fun z=>h (Xas z)
   rw [show decide (0≤a∧a≤b)=false from Xao fun z=>h z.1] at k
   exact k
abbrev zd6:Stmt:=top 25
theorem zgW:FnScope ["bits"] ["bits"] (zai zd6):=sck rfl rfl rfl (by decide +kernel)
theorem zhp {f:Addr}{fd:FuncData}(F:Fun K "size_of" "size_of" zd6 f fd)(T:Blt mg):FnOk P w K mg base CX0 1 f fd ["bits"] spSize:=by
 refine F.ok zgW (by walk_at "l") (fun cdv A outer s H vs Q E hr h=>?_)
 ·obtain ⟨n,rfl,hn,k⟩:=h
  refine ⟨_,(zag (zal (zaq zbN zaf (zak (ze5 rfl) (by rfl) T.max PyProof.Rows.boot_max (zaa (pv 0) (zaa zaf zac)))))),?rd⟩
  refine ⟨_,rfl,_,_,rfl,?_⟩
  refine ⟨_,_,rfl,rfl,?_,?_⟩
  ·rw [if_neg (by omega)]
   exact ⟨by omega,by omega,by decide⟩
  ·have e:(1:Int) * 2 ^ (if (0:Int) > (n:Int) then 0 else (n:Int)).toNat=2 ^ n:=by
    rw [if_neg (by omega),Int.one_mul,Xai]
   show Q (V.int ((1:Int) * 2 ^ (if (0:Int) > (n:Int) then 0 else (n:Int)).toNat)) H
   rw [e]
   exact k
abbrev zcp:Stmt:=top 26
theorem zfk:FnScope ["mask","want","last"] ["mask","want","last"] (zai zcp):=sck rfl rfl rfl (by decide +kernel)
inductive spChoiceV (vs:List V)(H:Hp)(Q:VK)(u3_:XK):Prop
 | mk (m v:Nat) (l:Int) (z0_:vs=[.int (m:Int),.int (v:Int),.int l]) (z1_:(m:Int)≤l) (z2_:(v:Int)≤l) (z3_:v &&& m=v) (z4_:Q (.bl true) H)
theorem zfr {f:Addr}{fd:FuncData}(F:Fun K "is_choice" "is_choice" zcp f fd)(T:Blt mg)(Gis_number:Cal P w K mg base 1 "is_number" ["thing","last"] spIsNum):FnOk P w K mg base CX0 2 f fd ["mask","want","last"] spChoiceV:=by
 refine F.ok zfk (by walk_at "l") (fun cdv A outer s H vs Q E hr h=>?_)
 ·obtain ⟨m,v,l,rfl,hm,hv,hw,k⟩:=h
  refine ⟨_,(zag (zal (za1 (pe_c Gis_number (zaa (pv 0) (zaa (pv 2) zac))) (za1 (pe_c Gis_number (zaa (pv 1) (zaa (pv 2) zac))) (zbt (zbd zbO (zaq zck (pv 1) (pv 0)) (pv 1) (zas _))))))),?rd⟩
  refine ⟨_,rfl,_,rfl,_,_,rfl,_,rfl,?_⟩
  rw [Xas (show 0≤(m:Int)∧(m:Int)≤l from ⟨Int.natCast_nonneg m,hm⟩)]
  refine iteT ⟨_,rfl,_,rfl,_,_,rfl,_,rfl,?_⟩
  rw [Xas (show 0≤(v:Int)∧(v:Int)≤l from ⟨Int.natCast_nonneg v,hv⟩)]
  refine iteT ⟨_,rfl,_,rfl,_,_,rfl,rfl,_,rfl,rfl,?_⟩
  show Q (.bl (decide (V.int (Builtin.bitAnd (v:Int) (m:Int))=V.int (v:Int)))) H
  rw [band,hw,Xas rfl]
  exact k
abbrev zdd:Stmt:=top 27
theorem scis_latch:FnScope ["thing","chip","mask","want"] ["thing"] (zai zdd):=sck rfl rfl rfl (by decide +kernel)
inductive spLatchV (vs:List V)(H:Hp)(Q:VK)(u3_:XK):Prop
 | mk (t:Addr) (c a b:Nat) (z0_:vs=[.ref t]) (z1_:H t=some (.tup [.int (c:Int),.int (a:Int),.int (b:Int)])) (z2_:c≤99) (z3_:a≤255) (z4_:b≤255) (z5_:b &&& a=b) (z6_:Q (.bl true) H)
theorem zgi {f:Addr}{fd:FuncData}(F:Fun K "is_latch" "is_latch" zdd f fd)(T:Blt mg)(N:Nums mg)(Gis_number:Cal P w K mg base 1 "is_number" ["thing","last"] spIsNum)(Gis_choice:Cal P w K mg base 2 "is_choice" ["mask","want","last"] spChoiceV):FnOk P w K mg base CX0 3 f fd ["thing"] spLatchV:=by
 refine F.ok scis_latch (by walk_at "l") (fun cdv A outer s H vs Q E hr h=>?_)
 ·obtain ⟨t,c,a,b,rfl,e,hc,ha,hb,hw,k⟩:=h
  refine ⟨_,(zad (zaB (PW.pt (zca (zaK (zaG (zak (zaJ "tuple" (K:=K) rfl) (by rfl) T.isinstance zaU (zaa (pv 0) (zaa (zaN rfl T.tuple zbi zcf) zac))))) (zbG (zat zgf (zak zam (by rfl) T.len PySem.boot_len (zaa (pv 0) zac)) zaf (zas _))))) (zag (zal zcz)) zap)
   (zad (zch (pv 0) (zbs rfl (zan (pg_L 1 scis_latch.nd) (zan (pg_L 2 scis_latch.nd) (zan (pg_L 3 scis_latch.nd) zaV)))))
   (zag (zal (za1 (pe_c Gis_number (zaa (pv 1) (zaa (zbg rfl N.LAST_CHIP) zac))) (zbt (pe_c Gis_choice (zaa (pv 2) (zaa (pv 3) (zaa (zbg rfl N.LAST_WORD) zac)))))))))),?rd⟩
  refine ⟨_,rfl,_,_,_,rfl,.tup e,rfl,_,rfl,iteF ⟨_,rfl,t,_,rfl,.inr (SqT.of e),rfl,_,rfl,iteF ?_⟩⟩
  refine ⟨_,rfl,t,_,rfl,SqT.of e,rfl,_,_,rfl,_,_,rfl,_,_,rfl,rfl,?_⟩
  refine ⟨_,rfl,_,_,rfl,_,rfl,?_⟩
  rw [Xas (show 0≤(c:Int)∧(c:Int)≤99 by omega)]
  exact iteT ⟨_,rfl,_,rfl,a,b,255,rfl,by omega,by omega,hw,k⟩
abbrev zfg:Stmt:=top 28
theorem scis_row:FnScope ["bits","thing","mask","want","inner","chip","latch","last"] ["bits","thing"] (zai zfg):=sck rfl rfl rfl (by decide +kernel)
inductive spRowV (vs:List V)(H:Hp)(Q:VK)(u3_:XK):Prop
 | mk (t:Addr) (r:Rw) (n:Nat) (z0_:vs=[.int (n:Int),.ref t]) (z1_:RwAt H t r) (z2_:RwOk n r) (z3_:n≤16) (z4_:Q (.bl true) H)
theorem ziq {f:Addr}{fd:FuncData}(F:Fun K "is_row" "is_row" zfg f fd)(T:Blt mg)(N:Nums mg)(Gis_number:Cal P w K mg base 1 "is_number" ["thing","last"] spIsNum)(Gsize_of:Cal P w K mg base 1 "size_of" ["bits"] spSize)(Gis_choice:Cal P w K mg base 2 "is_choice" ["mask","want","last"] spChoiceV)(Gis_latch:Cal P w K mg base 3 "is_latch" ["thing"] spLatchV):FnOk P w K mg base CX0 4 f fd ["bits","thing"] spRowV:=by
 refine F.ok scis_row (by walk_at "l") (fun cdv A outer s H vs Q E hr h=>?_)
 ·obtain ⟨t,r,n,rfl,⟨lt,e,hl⟩,o,hn,k⟩:=h
  have h1:∀ z:Nat,z<2 ^ n→(z:Int)≤2 ^ n - 1:=fun z hz=>by
   have:((2 ^ n:Nat):Int)=(2:Int) ^ n:=by norm_cast
   omega
  refine ⟨_,(zad (zaB (PW.pt (zca (zaK (zaG (zak (zaJ "tuple" (K:=K) rfl) (by rfl) T.isinstance zaU (zaa (pv 1) (zaa (zaN rfl T.tuple zbi zcf) zac))))) (zbG (zat zgf (zak zam (by rfl) T.len PySem.boot_len (zaa (pv 1) zac)) zaf (zas _))))) (zag (zal zcz)) zap)
   (zad (zch (pv 1) (zbs rfl (zan (pg_L 2 scis_row.nd) (zan (pg_L 3 scis_row.nd) (zan (pg_L 4 scis_row.nd) (zan (pg_L 5 scis_row.nd) (zan (pg_L 6 scis_row.nd) zaV)))))))
   (zad (ps_L 7 scis_row.nd (zaq zeG (pe_c Gsize_of (zaa (pv 0) zac)) zaf))
   (zad (zaB (PW.pt (zca (zaK (zaG (pe_c Gis_choice (zaa (pv 2) (zaa (pv 3) (zaa (pv 7) zac)))))) (zca (zaK (zaG (pe_c Gis_number (zaa (pv 4) (zaa (pv 7) zac))))) (zbG (zat zgf (zaq zck (pv 4) (pv 2)) zaf (zas _)))))) (zag (zal zcz)) zap)
   (zag (zal (za1 (pe_c Gis_number (zaa (pv 5) (zaa (zbg rfl N.LAST_CHIP) zac))) (zbt (pe_or (zeE (zcI (pv 6))) (zbt (pe_c Gis_latch (zaa (pv 6) zac)))))))))))),?rd⟩
  refine ⟨_,rfl,_,_,_,rfl,.tup e,rfl,_,rfl,iteF ⟨_,rfl,t,_,rfl,.inr (SqT.of e),rfl,_,rfl,iteF ?_⟩⟩
  refine ⟨_,rfl,t,_,rfl,SqT.of e,rfl,_,_,rfl,_,_,rfl,_,_,rfl,_,_,rfl,_,_,rfl,rfl,?_⟩
  refine ⟨_,rfl,n,rfl,hn,_,_,rfl,rfl,?_⟩
  refine ⟨_,rfl,_,rfl,_,rfl,r.m,r.w,_,rfl,h1 _ o.m0,h1 _ o.w0,o.wm,_,rfl,iteF ⟨_,rfl,_,rfl,_,_,rfl,_,rfl,?_⟩⟩
  rw [Xas (show 0≤(r.i:Int)∧(r.i:Int)≤2 ^ n - 1 from ⟨Int.natCast_nonneg _,h1 _ o.i0⟩)]
  refine iteF ⟨_,rfl,_,rfl,_,_,rfl,rfl,rfl,_,rfl,?_⟩
  refine ite2 (fun z=>?_) (fun _=>zax ?_)
  ·exfalso
   have z:(!decide (V.int (Builtin.bitAnd (r.i:Int) (r.m:Int))=V.int 0))=true:=z
   rw [band,o.im] at z
   cases z
  try dsimp only
  refine ⟨_,rfl,_,_,rfl,_,rfl,?_⟩
  rw [Xas (show 0≤(r.c:Int)∧(r.c:Int)≤99 by have:=o.c0;omega)]
  refine iteT ?_
  have ol:=o.l0
  cases hr':r.l with
  | none =>
   rw [hr'] at hl
   rw [show lt = .non from hl]
   exact ⟨_,rfl,_,rfl,iteT k⟩
  | some z =>
   rw [hr'] at hl ol
   obtain ⟨c,a,b⟩:=z
   obtain ⟨u,rfl,eu⟩:=hl
   exact ⟨_,rfl,_,rfl,iteF ⟨_,rfl,u,c,a,b,rfl,eu,Nat.le_of_lt_succ ol.1,Nat.le_of_lt_succ ol.2.1,Nat.le_of_lt_succ (Xa9 (ol.2.2 ▸ Nat.and_le_right) ol.2.1),ol.2.2,k⟩⟩
abbrev zfh:Stmt:=top 29
theorem zia:FnScope ["bits","thing"] ["bits","thing"] (zai zfh):=sck rfl rfl rfl (by decide +kernel)
inductive spMapV (vs:List V)(H:Hp)(Q:VK)(u3_:XK):Prop
 | mk (m:Nat) (R:Addr) (ws:List (Addr×Rw)) (z0_:vs=[.int (m:Int),.ref R]) (z1_:H R=some (.tup (refs ws))) (z2_:RwsAt2 m H ws) (z3_:ws.length≤300) (z4_:m≤16) (z5_:∀ H',Same H H'→Q (.bl true) H')
theorem zir {f:Addr}{fd:FuncData}(F:Fun K "is_map" "is_map" zfh f fd)(T:Blt mg)(Gis_row:Cal P w K mg base 4 "is_row" ["bits","thing"] spRowV):FnOk P w K mg base CX0 5 f fd ["bits","thing"] spMapV:=by
 refine F.ok zia (by walk_at "l") (fun cdv A outer s H vs Q E hr h=>?_)
 ·obtain ⟨m,R,ws,rfl,e,hw,hl,hm,k⟩:=h
  refine' ⟨_,(zag (zal (za1 (zak (zaJ "tuple" (K:=K) rfl) (by rfl) T.isinstance zaU (zaa (pv 1) (zaa (zaN rfl T.tuple zbi zcf) zac))) (zbt (zak (zdJ rfl) (by rfl) T.all zhR (zaa ?c1 zac)))))),?rd⟩
  (case c1=>exact (zdn (Nc:=["row","bits"]) [none,some 0] rfl (zaZ (by rfl)) (ziV (pv 1)) (fun _ _ _ _ _=>(pg_L 0 (show (["row","bits"]:List Str).Nodup by decide +kernel))) (fun _ _ _ _ _=>zdY) (fun _ _ _ _ _=>(pe_c Gis_row (zaa (pv 1) (zaa (pv 0) zac))))))
  refine ⟨_,rfl,_,_,_,rfl,.tup e,rfl,_,rfl,iteT ⟨_,rfl,R,rfl,⟨_,SqT.of e⟩,?_⟩⟩
  refine ziI (K:=K) (xs:=refs ws) (fun j rs σ H1=>∃ v0,σ=[v0,some (.int (m:Int))]∧rs=(ws.take j).map (fun _=>V.bl true)∧Same H H1) (Xam (show _≤300 by rw [zay];exact hl) (by decide)) ⟨none,rfl,rfl,Same.refl _⟩ ?_ ?_ ?_
  ·rintro j rs σ H1 hj ⟨v0,rfl,rfl,s1⟩
   exact ⟨SqT.of (s1 _ _ e),by rw [Xal,Xa6];exact Nat.min_le_left _ _⟩
  ·rintro j x rs σ H1 hx ⟨v0,rfl,rfl,s1⟩
   obtain ⟨z,hz,rfl⟩:=zcg hx
   obtain ⟨z1,z2⟩:=hw z (XaK hz)
   refine ⟨_,rfl,_,rfl,z.1,z.2,m,rfl,z1.same s1,z2,hm,⟨_,rfl,?_,s1⟩⟩
   rw [List.take_succ,hz,Xa2]
   rfl
  ·rintro rs σ H1 ⟨v0,rfl,rfl,s1⟩ Dd hD
   refine ⟨Dd,ws.map (fun _=>true),rfl,SqL.of (by rw [zay,Xbw (Xae _),List.map_map];exact zab),?_⟩
   have e2:(ws.map (fun _=>true)).all id=true:=by rw [List.all_map];exact Xbp.mpr fun _ _=>rfl
   rw [e2]
   exact k _ (s1.trans (zae hD))
abbrev zbk:Stmt:=top 48
theorem zdg:FnScope ["mask","want","other_mask","other_want"] ["mask","want","other_mask","other_want"] (zai zbk):=sck rfl rfl rfl (by decide +kernel)
theorem zdq {f:Addr}{fd:FuncData}(F:Fun K "choices_agree" "choices_agree" zbk f fd)(T:Blt mg):FnOk P w K mg base CX0 1 f fd ["mask","want","other_mask","other_want"] spAgr:=by
 refine F.ok zdg (by walk_at "l") (fun cdv A outer s H vs Q E hr h=>?_)
 ·obtain ⟨m,x,n,v,rfl,k⟩:=h
  refine ⟨_,(zag (zal (zbd zbO (zaq zck (zaq zck (zaq ziY (pv 1) (pv 3)) (pv 0)) (pv 2)) zaf (zas _)))),?rd⟩
  refine ⟨_,rfl,_,rfl,_,_,rfl,rfl,_,rfl,_,_,rfl,rfl,_,rfl,_,_,rfl,rfl,rfl,?_⟩
  have e:decide (V.int (Builtin.bitAnd (Builtin.bitAnd (Builtin.bitXor (x:Int) (v:Int)) (m:Int)) (n:Int))=V.int 0)=agr m x n v:=by
   rw [bxor,band,band]
   unfold agr
   exact decide_eq_decide.mpr ⟨fun h=>by have:=V.int.inj h;omega,fun h=>by rw [h];rfl⟩
  exact Eq.mpr (congrArg (fun b=>Q (V.bl b) H) e) k
abbrev zbj:Stmt:=top 49
theorem zde:FnScope ["latch","other"] ["latch","other"] (zai zbj):=sck rfl rfl rfl (by decide +kernel)
theorem zdp {f:Addr}{fd:FuncData}(F:Fun K "latches_agree" "latches_agree" zbj f fd)(T:Blt mg)(Gchoices_agree:Cal P w K mg base 1 "choices_agree" ["mask","want","other_mask","other_want"] spAgr):FnOk P w K mg base CX0 2 f fd ["latch","other"] spLatA:=by
 refine F.ok zde (by walk_at "l") (fun cdv A outer s H vs Q E hr h=>?_)
 ·obtain ⟨x,y,o,p,rfl,hx,hy,k⟩:=h
  refine ⟨_,(zad (zaB (PW.pt (zca (zeC (zcI (pv 0))) (zca (zeC (zcI (pv 1))) (zbG (zat zgf (pe_x zaS (pv 0) zaf) (pe_x zaS (pv 1) zaf) (zas _)))))) (zag (zal zcz)) zap)
   (zag (zal (pe_c Gchoices_agree (zaa (pe_x zaS (pv 0) zaf) (zaa (pe_x zaS (pv 0) zaf) (zaa (pe_x zaS (pv 1) zaf) (zaa (pe_x zaS (pv 1) zaf) zac)))))))),?rd⟩
  cases o with
  | none =>
   obtain rfl:x = .non:=hx
   exact ⟨_,rfl,_,rfl,iteT (iteT k)⟩
  | some o =>
   obtain ⟨c,a,b⟩:=o
   obtain ⟨u,rfl,eu⟩:=hx
   refine ⟨_,rfl,_,rfl,iteF ?_⟩
   cases p with
   | none =>
    obtain rfl:y = .non:=hy
    exact ⟨_,rfl,_,rfl,iteT (iteT k)⟩
   | some p =>
    obtain ⟨d,x',y'⟩:=p
    obtain ⟨u',rfl,eu'⟩:=hy
    refine ⟨_,rfl,_,rfl,iteF ?_⟩
    refine ⟨_,rfl,u,_,_,_,rfl,rfl,SqT.of eu,rfl,_,rfl,u',_,_,_,rfl,rfl,SqT.of eu',rfl,rfl,_,rfl,?_⟩
    by_cases h:c=d
    ·subst h
     rw [show (!decide (V.int (c:Int)=V.int (c:Int)))=false by simp]
     refine iteF ?_
     refine ⟨_,rfl,u,_,_,_,rfl,rfl,SqT.of eu,rfl,_,rfl,u,_,_,_,rfl,rfl,SqT.of eu,rfl,_,rfl,u',_,_,_,rfl,rfl,SqT.of eu',rfl,_,rfl,u',_,_,_,rfl,rfl,SqT.of eu',rfl,a,b,x',y',rfl,?_⟩
     rw [show latA (some (c,a,b)) (some (c,x',y'))=agr a b x' y' from if_pos rfl] at k
     exact k
    ·rw [show (!decide (V.int (c:Int)=V.int (d:Int)))=true by simp;omega]
     rw [show latA (some (c,a,b)) (some (d,x',y'))=true from if_neg h] at k
     exact iteT k
abbrev zb1:Stmt:=top 50
theorem zew:FnScope ["row","other"] ["row","other"] (zai zb1):=sck rfl rfl rfl (by decide +kernel)
theorem zeH {f:Addr}{fd:FuncData}(F:Fun K "rows_clash" "rows_clash" zb1 f fd)(T:Blt mg)(Gchoices_agree:Cal P w K mg base 1 "choices_agree" ["mask","want","other_mask","other_want"] spAgr)(Glatches_agree:Cal P w K mg base 2 "latches_agree" ["latch","other"] spLatA):FnOk P w K mg base CX0 3 f fd ["row","other"] spClash:=by
 refine F.ok zew (by walk_at "l") (fun cdv A outer s H vs Q E hr h=>?_)
 ·obtain ⟨t,u,r,q,rfl,⟨lt,et,hl⟩,⟨lu,eu,hk⟩,k⟩:=h
  refine ⟨_,(zag (zal (za1 (pe_c Gchoices_agree (zaa (pe_x zaS (pv 0) zaf) (zaa (pe_x zaS (pv 0) zaf) (zaa (pe_x zaS (pv 1) zaf) (zaa (pe_x zaS (pv 1) zaf) zac))))) (zbt (pe_c Glatches_agree (zaa (pe_x zaS (pv 0) zaf) (zaa (pe_x zaS (pv 1) zaf) zac))))))),?rd⟩
  refine ⟨_,rfl,t,_,_,_,rfl,rfl,SqT.of et,rfl,_,rfl,t,_,_,_,rfl,rfl,SqT.of et,rfl,_,rfl,u,_,_,_,rfl,rfl,SqT.of eu,rfl,_,rfl,u,_,_,_,rfl,rfl,SqT.of eu,rfl,r.m,r.w,q.m,q.w,rfl,_,rfl,?_⟩
  unfold zdH at k
  cases h:agr r.m r.w q.m q.w with
  | false =>
   rw [h] at k
   exact iteF k
  | true =>
   rw [h] at k
   exact iteT ⟨_,rfl,t,_,_,_,rfl,rfl,SqT.of et,rfl,_,rfl,u,_,_,_,rfl,rfl,SqT.of eu,rfl,lt,lu,r.l,q.l,rfl,hl,hk,k⟩
abbrev zdf:Stmt:=top 52
theorem scclash_of:FnScope ["rows","found","second","other","first","row","address"] ["rows"] (zai zdf):=sck rfl rfl rfl (by decide +kernel)
inductive spClashV (vs:List V)(H:Hp)(Q:VK)(u3_:XK):Prop
 | mk (m:Nat) (R:Addr) (ws:List (Addr×Rw)) (z0_:vs=[.ref R]) (z1_:H R=some (.tup (refs ws))) (z2_:RwsAt2 m H ws) (z3_:(ws.Pairwise fun a b=>NC a.2 b.2)) (z4_:ws.length≤300) (z5_:∀ H',Same H H'→Q .non H')
set_option tactic.hygienic true in
theorem zgj {f:Addr}{fd:FuncData}(F:Fun K "clash_of" "clash_of" zdf f fd)(T:Blt mg)(Grows_clash:Cal P w K mg base 3 "rows_clash" ["row","other"] spClash):FnOk P w K mg base CX0 4 f fd ["rows"] spClashV:=by
 refine F.ok scclash_of (by walk_at "l") (fun cdv A outer s H vs Q E hr h=>?_)
 ·obtain ⟨m,p,ws,rfl,hp,hw,nc,hl,k⟩:=h
  refine ⟨_,(zad (ps_L 1 scclash_of.nd (zav zac))
   (zad (zb0 PassesOwn.never rfl (zed rfl T.enumerate (zaa (pv 0) zac)) (zbs rfl (zan (pg_L 2 scclash_of.nd) (zan (pg_L 3 scclash_of.nd) zaV)))
   (zag (zb0 PassesOwn.never rfl (zed rfl T.enumerate (zaa (zci (zff (K:=K) rfl) (pv 0) zdm (zcy (pv 2))) zac)) (zbs rfl (zan (pg_L 4 scclash_of.nd) (zan (pg_L 5 scclash_of.nd) zaV)))
   (zag (zaB (zaG (pe_c Grows_clash (zaa (pv 5) (zaa (pv 3) zac)))) (zag zaw) zap)))))
   (zad (zaB (zaK (zif (pv 1) (fun _=>rfl))) (zag (zal zfP)) zap)
   (zad zaw
   (zag zaw))))),?rd⟩
  refine ⟨by show 0≤sizeLine;decide,fun fa hfa=>?_⟩
  refine ⟨_,rfl,p,rfl,⟨_,SqT.of (zae hfa _ _ hp)⟩,?_⟩
  refine zdF (K:=K) (a:=p) (xs:=refs ws) (fun j σ X=>∃ (v2 v3 v4 v5:Option V),σ=[some (.ref p),some (.ref fa),v2,v3,v4,v5,none]∧X fa=some (.lst [])∧Same H X)
   ⟨none,none,none,none,rfl,zab,zae hfa⟩ (fun i σ X hi ⟨_,_,_,_,_,_,s⟩=>SqT.of (s _ _ hp)) ?_ ?_
  ·rintro j x T0 σ X hx hT0 ⟨v2,v3,v4,v5,rfl,efa,sX⟩
   obtain ⟨q,hq,rfl⟩:=zcg hx
   obtain ⟨hj,ej⟩:=Xar.mp hq
   refine zeU ?_
   have sT:Same H (upd X T0 (.tup [.int (j:Int),.ref q.1])):=sX.trans (zae hT0)
   refine ⟨_,rfl,_,rfl,_,rfl,p,_,rfl,SqT.of (sT _ _ hp),fun z=>?_,fun u hu=>?_⟩
   ·exfalso
    rw [zfW (by rw [zay];omega)] at z
    have:=congrArg List.length z
    rw [Xa6,zay] at this
    omega
   have ecut:cutV (refs ws) none (some (j:Int))=refs (ws.take j):=by rw [zfW (by rw [zay];omega)];exact (List.map_take ..).symm
   refine ⟨u,rfl,⟨_,SqT.of zab⟩,?_⟩
   rw [ecut] at *
   have sU:Same X (upd (upd X T0 (.tup [.int (j:Int),.ref q.1])) u (.tup (refs (ws.take j)))):=(zae hT0).trans (zae hu)
   refine zdF (K:=K) (a:=u) (xs:=refs (ws.take j)) (fun i σ Y=>∃ (v4 v5:Option V),σ=[some (.ref p),some (.ref fa),some (.int (j:Int)),some (.ref q.1),v4,v5,none]∧Y fa=some (.lst [])∧Y u=some (.tup (refs (ws.take j)))∧Same H Y)
    ⟨v4,v5,rfl,sU _ _ efa,zab,sX.trans sU⟩ (fun i σ Y hi ⟨_,_,_,_,e,_⟩=>SqT.of e) ?_ ?_
   ·rintro i y T1 σ Y hy hT1 ⟨v4,v5,rfl,efa,eu,sY⟩
    obtain ⟨r,hr',rfl⟩:=zcg hy
    rw [List.getElem?_take] at hr'
    split at hr'
    ·rename_i hij
     obtain ⟨hi,ei⟩:=Xar.mp hr'
     have c:zdH r.2 q.2=false:=by
      have:=(List.pairwise_iff_getElem.mp nc i j hi hj hij).1
      rw [ei,ej] at this
      exact this
     refine zeU ?_
     have s1:Same Y (upd Y T1 (.tup [.int (i:Int),.ref r.1])):=zae hT1
     have s2:=sY.trans s1
     refine ⟨_,rfl,_,rfl,r.1,q.1,r.2,q.2,rfl,(hw r (XaK hr')).1.same s2,(hw q (XaK hq)).1.same s2,_,rfl,?_⟩
     rw [c]
     exact iteF ⟨_,_,rfl,s1 _ _ efa,s1 _ _ eu,s2⟩
    ·cases hr'
   ·rintro σ Y ⟨v4,v5,rfl,efa,eu,sY⟩
    exact ⟨_,_,_,_,rfl,efa,sY⟩
  ·rintro σ X ⟨v2,v3,v4,v5,rfl,efa,sX⟩
   exact ⟨_,rfl,_,.inl ⟨_,SqL.of efa,rfl⟩,iteT (k X sX)⟩
abbrev zea:Stmt:=top 21
theorem zgZ:FnScope ["thing"] ["thing"] (zai zea):=sck rfl rfl rfl (by decide +kernel)
theorem zhr {f:Addr}{fd:FuncData}(F:Fun K "is_word" "is_word" zea f fd)(T:Blt mg)(N:Nums mg)(Gis_number:Cal P w K mg base 1 "is_number" ["thing","last"] spIsNum):FnOk P w K mg base CX0 2 f fd ["thing"] spIsWord:=by
 refine F.ok zgZ (by walk_at "l") (fun cdv A outer s H vs Q E hr h=>?_)
 ·obtain ⟨a,rfl,k⟩:=h
  refine ⟨_,(zag (zal (pe_c Gis_number (zaa (pv 0) (zaa (zbg rfl N.LAST_WORD) zac))))),?rd⟩
  exact ⟨_,rfl,a,255,rfl,k⟩
abbrev zb2:Stmt:=top 22
theorem zex:FnScope ["word"] ["word"] (zai zb2):=sck rfl rfl rfl (by decide +kernel)
theorem zeI {f:Addr}{fd:FuncData}(F:Fun K "check_word" "check_word" zb2 f fd)(T:Blt mg)(Gis_word:Cal P w K mg base 2 "is_word" ["thing"] spIsWord):FnOk P w K mg base CX0 3 f fd ["word"] spChkWord:=by
 refine F.ok zex (by walk_at "l") (fun cdv A outer s H vs Q E hr h=>?_)
 ·obtain ⟨a,rfl,h0,h1,k⟩:=h
  refine ⟨_,(zag (zaB (zaK (zaG (pe_c Gis_word (zaa (pv 0) zac)))) (zag zaw) zap)),?rd⟩
  refine ⟨_,rfl,a,rfl,_,rfl,zgq ⟨h0,h1⟩ k⟩
abbrev zbn:Stmt:=zaF (top 41) 0
theorem zdi:FnScope ["self","head","held"] ["self","head","held"] (zai zbn):=sck rfl rfl rfl (by decide +kernel)
theorem zdt {f:Addr}{fd:FuncData}(F:Fun K "__init__" "Chip.__init__" zbn f fd)(T:Blt mg):FnOk P w K mg base CX0 1 f fd ["self","head","held"] (spInit K):=by
 refine F.ok zdi (by walk_at "l") (fun cdv A outer s H vs Q E hr h=>?_)
 ·obtain ⟨a,C,dx,p,hd,rfl,ha,c,k⟩:=h
  refine ⟨_,(zad (za0 (pv 0) (pv 1) rfl)
   (zag (za0 (pv 0) (pv 2) rfl))),?rd⟩
  refine ⟨_,rfl,_,rfl,a,C,dx,_,rfl,ha,c.cl,c.head,by show 0<1000;decide,?_⟩
  refine ⟨_,rfl,_,rfl,a,C,dx,_,rfl,zab,c.cl,c.held,by show 1<1000;decide,?_⟩
  exact k _ zab fun b hb=>by rw [zah hb,zah hb]
abbrev zb3:Stmt:=top 36
theorem scby_figures:FnScope ["number","many","text","place"] ["number","many"] (zai zb3):=sck rfl rfl rfl (by decide +kernel)
def FIG:Str := "0123456789abcdef"
def figc (k:Nat):Nat:=(FIG.cps.toList[k]?).getD 0
def fig2 (n:Nat):Str:=(⟨#[figc (n / 16)]⟩:Str) ++ (⟨#[figc (n % 16)]⟩:Str)
def phead (r:Nat):Str:=Str.empty ++ ("pipe " : Str) ++ fig2 r
theorem zi7 {k:Nat}(h:k<16):atI FIG.cps.toList (k:Int)=some (figc k):=by
 have e:FIG.cps.toList.length=16:=by decide
 refine zaT ?_
 unfold figc
 rw [Xax (by omega)]
 rfl
structure ObP (C:Addr)(H:Hp)(a p:Addr)(r:Nat)(ws:List Nat):Prop where
 ex:∃ dx,H a=some (.ins C dx [("head",.str (phead r)),("held",.ref p),("room",.int (r:Int))])
 ls:H p=some (.lst (vN ws))
def two (_:List V):Nat:=2
inductive sp2fig (vs:List V)(H:Hp)(Q:VK)(u3_:XK):Prop
 | mk (n:Nat) (z0_:vs=[.int (n:Int)]) (z1_:n≤255) (z2_:Q (.str (fig2 n)) H)
inductive spMkP (C:Addr)(vs:List V)(H:Hp)(Q:VK)(u3_:XK):Prop
 | mk (a:_) (dx:_) (r:Nat) (z0_:vs=[.ref a,.int (r:Int)]) (z1_:1≤r) (z2_:r≤255) (z3_:H a=some (.ins C dx [])) (z4_:∀ (p:Addr) (H':Hp),H p=none→ObP C H' a p r []→KeepP a H H'→Q .non H')
inductive spByFig (vs:List V)(H:Hp)(Q:VK)(u3_:XK):Prop
 | mk (n:Nat) (z0_:vs=[.int (n:Int),.int 2]) (z1_:n≤255) (z2_:Q (.str (fig2 n)) H)
def figs (n:Nat):Nat→Str
 | 0=>("" : Str)
 | 1=>(⟨#[figc (n % 16)]⟩:Str) ++ ("" : Str)
 | _=>(⟨#[figc (n / 16)]⟩:Str) ++ ((⟨#[figc (n % 16)]⟩:Str) ++ ("" : Str))
theorem and15 (n:Nat):n &&& 15=n % 16:=Nat.and_two_pow_sub_one_eq_mod n 4
theorem zeJ {f:Addr}{fd:FuncData}(F:Fun K "by_figures" "by_figures" zb3 f fd)(T:Blt mg)(N:Nums mg):FnOk P w K mg base CX0 1 f fd ["number","many"] spByFig:=by
 refine F.ok scby_figures (by walk_at "l") (fun cdv A outer s H vs Q E hr h=>?_)
 ·obtain ⟨n,rfl,hn,k⟩:=h
  refine ⟨_,(zad (ps_L 2 scby_figures.nd zbc)
   (zad (zb0 PassesOwn.never rfl (zaX rfl T.range (zaa (pv 1) zac)) (pg_L 3 scby_figures.nd)
   (zag (ps_L 2 scby_figures.nd (zaq zgg (pe_x ix_str (zij rfl N.SIXTEEN) (zaq zck (zaq ziZ (pv 0) (zaq zbp zaf (pv 3))) zaf)) (pv 2)))))
   (zag (zal (pv 2))))),?rd⟩
  refine ⟨_,rfl,2,rfl,by decide,by decide,?_⟩
  refine zbT (n:=2) (fun i σ H2=>∃ v3,σ=[some (.int (n:Int)),some (.int 2),some (.str (figs n i)),v3]∧H2=H) ⟨none,rfl,rfl⟩ ?_ ?_
  ·rintro i σ H2 hi ⟨v3,rfl,rfl⟩
   rcases (show i=0∨i=1 by omega) with rfl | rfl
   ·refine ⟨_,rfl,_,rfl,_,_,rfl,rfl,zbQ (by decide) (by decide),_,_,rfl,rfl,(show (0:Int)≤4 * (0+((0:Nat):Int)) by decide),_,_,rfl,rfl,FIG,((n % 16:Nat):Int),_,rfl,congrArg V.int ?_,by decide,zi7 (by omega),?_⟩
    ·show Builtin.bitAnd ((n:Int) / 1) ((15:Nat):Int)=_
     rw [Int.ediv_one,band,and15]
    ·exact ⟨_,rfl,_,_,rfl,rfl,by show 1+0≤sizeLine;decide,⟨_,rfl,rfl⟩⟩
   ·refine ⟨_,rfl,_,rfl,_,_,rfl,rfl,zbQ (by decide) (by decide),_,_,rfl,rfl,(show (0:Int)≤4 * (0+((1:Nat):Int)) by decide),_,_,rfl,rfl,FIG,((n / 16:Nat):Int),_,rfl,congrArg V.int ?_,by decide,zi7 (by omega),?_⟩
    ·have e:(n:Int) / 2 ^ (4 * (0+((1:Nat):Int))).toNat=((n / 16:Nat):Int):=by
      show (n:Int) / 16=_
      omega
     show Builtin.bitAnd ((n:Int) / 2 ^ (4 * (0+((1:Nat):Int))).toNat) ((15:Nat):Int)=_
     rw [e,band,and15,Nat.mod_eq_of_lt (by omega)]
    ·exact ⟨_,rfl,_,_,rfl,rfl,by show 1+1≤sizeLine;decide,⟨_,rfl,rfl⟩⟩
  ·rintro σ H2 ⟨v3,rfl,rfl⟩
   exact ⟨_,rfl,k⟩
abbrev zbH:Stmt:=top 37
theorem zeb:FnScope ["word"] ["word"] (zai zbH):=sck rfl rfl rfl (by decide +kernel)
theorem zef {f:Addr}{fd:FuncData}(F:Fun K "two_figures" "two_figures" zbH f fd)(T:Blt mg)(Gby_figures:Cal P w K mg base 1 "by_figures" ["number","many"] spByFig):FnOk P w K mg base CX0 2 f fd ["word"] sp2fig:=by
 refine F.ok zeb (by walk_at "l") (fun cdv A outer s H vs Q E hr h=>?_)
 ·obtain ⟨n,rfl,hn,k⟩:=h
  refine ⟨_,(zag (zal (pe_c Gby_figures (zaa (pv 0) (zaa zaf zac))))),?rd⟩
  exact ⟨_,rfl,n,rfl,hn,k⟩
def zhY (C:Addr)(H:Hp)(a:Addr)(ws:List V)(hd:Str)(Q:VK):Prop:=∀ (p:Addr) (H':Hp),H p=none→(∃ dx,H' a=some (.ins C dx [("head",.str hd),("held",.ref p)]))→H' p=some (.lst ws)→KeepP a H H'→Q .non H'
inductive spMk1H (C:Addr)(hd:Str)(vs:List V)(H:Hp)(Q:VK)(u3_:XK):Prop
 | mk (a:_) (dx:_) (v:Int) (z0_:vs=[.ref a,.int v]) (z1_:0≤v) (z2_:v≤255) (z3_:H a=some (.ins C dx [])) (z4_:zhY C H a [.int v] hd Q)
inductive spMkSH (C:Addr)(vs:List V)(H:Hp)(Q:VK)(u3_:XK):Prop
 | mk (a:_) (dx:_) (n:Nat) (v:Int) (z0_:vs=[.ref a,.int (n:Int),.int v]) (z1_:1≤n) (z2_:n≤4096) (z3_:0≤v) (z4_:v≤255) (z5_:H a=some (.ins C dx [])) (z6_:zhY C H a (List.replicate n (.int v)) "store" Q)
inductive spMkFH (C:Addr)(vs:List V)(H:Hp)(Q:VK)(u3_:XK):Prop
 | mk (a:_) (dx:_) (l:_) (ws:List Nat) (z0_:vs=[.ref a,.ref l]) (z1_:H l=some (.lst (vN ws))) (z2_:1≤ws.length) (z3_:ws.length≤4096) (z4_:(∀ w∈ws,w≤255)) (z5_:H a=some (.ins C dx [])) (z6_:zhY C H a (vN ws) "fixed" Q)
def zcZ:Nat→Str
 | 0 => "store"
 | 1 => "fixed"
 | 2 => "latch"
 | 3 => "meter"
 | _ => "pipe"
def khead (kd n:Nat):Str:=if kd=4 then phead n else zcZ kd
def kext (kd n:Nat):List (Str×V):=if kd=4 then [("room",.int (n:Int))] else []
def zcB (kd:Nat)(ws:List Nat):Nat:=if kd=4 then 2 else ws.length
structure Kd (kd n:Nat)(ws:List Nat):Prop where
 k5:kd<5
 w5:∀ v∈ws,v≤255
 ln:ws.length≤4096
 l1:kd≠4→1≤ws.length
 l3:kd=3→ws.length=1
 pi:kd=4→ws.length≤n∧1≤n
 n2:n≤255
structure Chp (cs:Nat→Addr)(H:Hp)(x p:Addr)(kd n:Nat)(ws:List Nat):Prop where
 ex:∃ dx,H x=some (.ins (cs kd) dx (("head",.str (khead kd n)) :: ("held",.ref p) :: kext kd n))
 ls:H p=some (.lst (vN ws))
theorem Chp.same {cs:Nat→Addr}{H H':Hp}{x p:Addr}{kd n:Nat}{ws:List Nat}(o:Chp cs H x p kd n ws)(s:Same H H'):Chp cs H' x p kd n ws:=by
 obtain ⟨⟨dx,e⟩,l⟩:=o
 exact ⟨⟨dx,s _ _ e⟩,s _ _ l⟩
theorem zfU {kd j:Nat}(h:kd<5)(hj:j<5):decide (V.str (zcZ kd)=V.str (zcZ j))=decide (kd=j):=by
 rcases (show kd=0∨kd=1∨kd=2∨kd=3∨kd=4 by omega) with rfl | rfl | rfl | rfl | rfl <;> rcases (show j=0∨j=1∨j=2∨j=3∨j=4 by omega) with rfl | rfl | rfl | rfl | rfl <;> decide
def csOf (a b c d e:Addr):Nat→Addr
 | 0=>a
 | 1=>b
 | 2=>c
 | 3=>d
 | _=>e
abbrev zbz:Stmt:=zaF (top 41) 1
theorem zdM:FnScope ["self"] ["self"] (zai zbz):=sck rfl rfl rfl (by decide +kernel)
theorem zaW {f C:Addr}{fd:FuncData}(F:Fun K "__len__" "Chip.__len__" zbz f fd)(T:Blt mg)(c:ClsOk K C):FnOk P w K mg base CX0 1 f fd ["self"] (spLen C List.length):=by
 refine F.ok zdM (by walk_at "l") (fun cdv A outer s H vs Q E hr h=>?_)
 ·obtain ⟨a,p,ws,ext,rfl,o,k⟩:=h
  refine ⟨_,(zag (zal (zak zam (by rfl) T.len PySem.boot_len (zaa (zcH (pv 0) rfl) zac)))),?rd⟩
  obtain ⟨⟨dx,hd,e⟩,l,nn⟩:=o
  exact ⟨_,rfl,a,C,dx,_,_,rfl,e,c.cl,c.held,rfl,p,ws,rfl,.inl (SqL.of l),k⟩
abbrev zb9:Stmt:=zaF (top 41) 4
theorem zeA:FnScope ["self"] ["self"] (zai zb9):=sck rfl rfl rfl (by decide +kernel)
theorem zaY {f C:Addr}{fd:FuncData}(F:Fun K "state" "Chip.state" zb9 f fd)(T:Blt mg)(c:ClsOk K C):FnOk P w K mg base CX0 1 f fd ["self"] (spState C):=by
 refine F.ok zeA (by walk_at "l") (fun cdv A outer s H vs Q E hr h=>?_)
 ·obtain ⟨a,p,ws,ext,rfl,o,k⟩:=h
  refine ⟨_,(zag (zal (zaH zbE (by rfl) T.tuple zbi (zaa (zcH (pv 0) rfl) zac)))),?rd⟩
  obtain ⟨⟨dx,hd,e⟩,l,nn⟩:=o
  exact ⟨_,rfl,a,C,dx,_,_,rfl,e,c.cl,c.held,rfl,p,ws,rfl,.inl ⟨SqL.of l,k⟩⟩
abbrev zbx:Stmt:=zaF (top 46) 1
theorem zdK:FnScope ["self"] ["self"] (zai zbx):=sck rfl rfl rfl (by decide +kernel)
theorem zdP {f C:Addr}{fd:FuncData}(F:Fun K "__len__" "Pipe.__len__" zbx f fd)(T:Blt mg)(c:ClsOk K C):FnOk P w K mg base CX0 1 f fd ["self"] (spLen C two):=by
 refine F.ok zdK (by walk_at "l") (fun cdv A outer s H vs Q E hr h=>?_)
 ·obtain ⟨a,p,ws,ext,rfl,o,k⟩:=h
  refine ⟨_,(zag (zal zaf)),?rd⟩
  exact k
abbrev za5:Stmt:=zaF (top 42) 0
theorem zcM:FnScope ["self","cells","word"] ["self","cells","word"] (zai za5):=sck rfl rfl rfl (by decide +kernel)
theorem zcS {f C:Addr}{fd:FuncData}{dV:Value}(F:FunD K "__init__" "Store.__init__" za5 dV f fd)(T:Blt mg)(N:Nums mg)(c:ClsOk K C)(Gis_number:Cal P w K mg base 1 "is_number" ["thing","last"] spIsNum)(Gis_word:Cal P w K mg base 2 "is_word" ["thing"] spIsWord)(GCChip___init__:Clm P w K mg base 1 "Chip" "__init__" (spInit K)):FnOk P w K mg base CX0 3 f fd ["self","cells","word"] (spMkSH C):=by
 refine F.ok zcM (by walk_at "l") (fun cdv A outer s H vs Q E hr h=>?_)
 ·obtain ⟨a,dx,n,v,rfl,h0,h1,h2,h3,ha,k⟩:=h
  refine ⟨_,(zad (zaB (PW.pt (zca (zaK (zaG (pe_c Gis_number (zaa (pv 1) (zaa (zbg rfl N.MOST_CELLS) zac))))) (zca (zat zfo (pv 1) zaf (zas _)) (zbG (zaK (zaG (pe_c Gis_word (zaa (pv 2) zac)))))))) (zag zaw) zap)
   (zag (zaI (zeF GCChip___init__ (hrm hr) rfl (zaa (pv 0) (zaa zbc (zaa (zaq zhj (zav (zaa (pv 2) zac)) (pv 1)) zac))))))),?rd⟩
  refine ⟨_,rfl,(n:Int),4096,rfl,_,rfl,?_⟩
  rw [Xas (show (0:Int)≤(n:Int)∧(n:Int)≤4096 by omega)]
  refine iteF ⟨_,rfl,_,_,rfl,rfl,_,rfl,?_⟩
  rw [Xao (show ¬ (n:Int)<1 by omega)]
  refine iteF ⟨_,rfl,v,rfl,_,rfl,zgq ⟨h2,h3⟩ ?_⟩
  refine ⟨_,rfl,_,rfl,by show 1≤sizeLine;decide,fun l hl=>?_⟩
  have en:((n:Int)).toNat=n:=by omega
  refine ⟨_,rfl,l,_,_,rfl,rfl,zab,by omega,by omega,?_,fun p hp=>?_⟩
  ·rw [en];show 1 * n≤sizeLine;exact Xam (by omega) (show 4096≤sizeLine by decide)
  rw [en,show (List.replicate n [V.int v]).flatten=List.replicate n (V.int v) from zg4 n _]
  have nl:l≠a:=fun z=>by rw [z,ha] at hl;cases hl
  have hpl:p≠l:=fun z=>by rw [z,zab] at hp;cases hp
  have hp0:H p=none:=by rw [zah hpl] at hp;exact hp
  have ne:p≠a:=fun z=>by rw [z,ha] at hp0;cases hp0
  refine ⟨a,C,dx,p,_,rfl,by rw [zah (Ne.symm ne),zah (Ne.symm nl)];exact ha,c,fun H' e1 e2=>?_⟩
  refine k p H' hp0 ⟨dx,e1⟩ (by rw [e2 p ne];exact zab) fun b o hb e=>?_
  rw [e2 b hb,zah (zaj e hp0),zah (zaj e hl)];exact e
abbrev za9:Stmt:=zaF (top 43) 0
theorem scFixed___init__:FnScope ["self","words","held"] ["self","words"] (zai za9):=sck rfl rfl rfl (by decide +kernel)
theorem zcW {f C:Addr}{fd:FuncData}(F:Fun K "__init__" "Fixed.__init__" za9 f fd)(T:Blt mg)(N:Nums mg)(c:ClsOk K C)(Gis_word:Cal P w K mg base 2 "is_word" ["thing"] spIsWord)(GCChip___init__:Clm P w K mg base 1 "Chip" "__init__" (spInit K)):FnOk P w K mg base CX0 3 f fd ["self","words"] (spMkFH C):=by
 refine F.ok scFixed___init__ (by walk_at "l") (fun cdv A outer s H vs Q E hr h=>?_)
 ·obtain ⟨a,dx,l,ws,rfl,hl,h1,h2,h3,ha,k⟩:=h
  refine' ⟨_,(zad (ps_L 2 scFixed___init__.nd (zaH zbh (by rfl) T.list zcc (zaa (pv 1) zac)))
   (zad (zaB (PW.pt (zca (zaK (zig zhk zhk zaf (zak zam (by rfl) T.len PySem.boot_len (zaa (pv 2) zac)) (zbg rfl N.MOST_CELLS))) (zbG (zaK (zaG (zak (zdJ rfl) (by rfl) T.all zhR (zaa ?c1 zac))))))) (zag zaw) zap)
   (zag (zaI (zeF GCChip___init__ (hrm hr) rfl (zaa (pv 0) (zaa zbc (zaa (pv 2) zac)))))))),?rd⟩
  (case c1=>exact (zdn (Nc:=["word"]) [none] rfl (zaZ (by rfl)) (zfn (pv 2)) (fun _ _ _ _ _=>(pg_L 0 (show (["word"]:List Str).Nodup by decide +kernel))) (fun _ _ _ _ _=>zdY) (fun _ _ _ _ _=>(pe_c Gis_word (zaa (pv 0) zac)))))
  refine ⟨_,rfl,l,_,rfl,.inl (SqL.of hl),fun p hp=>?_⟩
  have nl:p≠a:=fun z=>by rw [z,ha] at hp;cases hp
  refine ⟨_,rfl,p,_,rfl,.inl (SqL.of zab),_,_,rfl,rfl,_,rfl,?_⟩
  rw [zao,Xas (show (1:Int)≤(ws.length:Int) by omega)]
  refine iteT ⟨_,_,rfl,rfl,_,rfl,?_⟩
  rw [Xas (show (ws.length:Int)≤4096 by omega)]
  refine iteF ⟨_,rfl,p,rfl,⟨_,SqL.of zab⟩,?_⟩
  refine zeZ (K:=K) (a:=p) (xs:=vN ws) (fun j rs σ H1=>∃ v1,σ=[v1]∧rs=List.replicate j (V.bl true)∧H1=upd H p (.lst (vN ws))) (by rw [zao];exact Xam h2 (by decide)) ⟨none,rfl,rfl,rfl⟩ ?_ ?_ ?_
  ·rintro j rs σ H1 hj ⟨v1,rfl,rfl,rfl⟩
   exact ⟨SqL.of zab,by rw [Xbj];exact Xae _⟩
  ·rintro j x rs σ H1 ex ⟨v1,rfl,rfl,rfl⟩
   obtain ⟨b,hb,rfl⟩:=zgM ex
   have:=h3 b (XaK hb)
   refine ⟨_,rfl,(b:Int),rfl,?_⟩
   rw [Xas (show (0:Int)≤(b:Int)∧(b:Int)≤255 by omega)]
   exact ⟨_,rfl,List.replicate_succ'.symm,rfl⟩
  ·rintro rs σ H1 ⟨v1,rfl,rfl,rfl⟩ D hD
   refine ⟨D,List.replicate (vN ws).length true,rfl,SqL.of (by rw [List.map_replicate];exact zab),_,rfl,?_⟩
   rw [show (List.replicate (vN ws).length true).all id=true by simp]
   refine iteF ⟨_,rfl,_,rfl,a,C,dx,p,_,rfl,?_,c,fun H' e1 e2=>?_⟩
   ·exact zae hD _ _ (zae hp _ _ ha)
   ·refine k p H' hp ⟨dx,e1⟩ (by rw [e2 p nl];exact zae hD _ _ zab) fun b o hb e=>?_
    rw [e2 b hb];exact zae hD _ _ (zae hp _ _ e)
abbrev za8:Stmt:=zaF (top 44) 0
theorem zcP:FnScope ["self","word"] ["self","word"] (zai za8):=sck rfl rfl rfl (by decide +kernel)
theorem zcV {f C:Addr}{fd:FuncData}{dV:Value}(F:FunD K "__init__" "Latch.__init__" za8 dV f fd)(T:Blt mg)(c:ClsOk K C)(Gis_word:Cal P w K mg base 2 "is_word" ["thing"] spIsWord)(GCChip___init__:Clm P w K mg base 1 "Chip" "__init__" (spInit K)):FnOk P w K mg base CX0 3 f fd ["self","word"] (spMk1H C "latch"):=by
 refine F.ok zcP (by walk_at "l") (fun cdv A outer s H vs Q E hr h=>?_)
 ·obtain ⟨a,dx,v,rfl,h0,h1,ha,k⟩:=h
  refine ⟨_,(zad (zaB (zaK (zaG (pe_c Gis_word (zaa (pv 1) zac)))) (zag zaw) zap)
   (zag (zaI (zeF GCChip___init__ (hrm hr) rfl (zaa (pv 0) (zaa zbc (zaa (zav (zaa (pv 1) zac)) zac))))))),?rd⟩
  refine ⟨_,rfl,v,rfl,_,rfl,zgq ⟨h0,h1⟩ ?_⟩
  refine ⟨_,rfl,_,rfl,by show 1≤sizeLine;decide,fun p hp=>?_⟩
  have ne:p≠a:=fun z=>by rw [z,ha] at hp;cases hp
  refine ⟨a,C,dx,p,_,rfl,by rw [zah (Ne.symm ne)];exact ha,c,fun H' e1 e2=>?_⟩
  refine k p H' hp ⟨dx,e1⟩ (by rw [e2 p ne];exact zab) fun b o hb e=>?_
  rw [e2 b hb,zah (zaj e hp)];exact e
abbrev za7:Stmt:=zaF (top 45) 0
theorem zcO:FnScope ["self","word"] ["self","word"] (zai za7):=sck rfl rfl rfl (by decide +kernel)
theorem zcU {f C:Addr}{fd:FuncData}{dV:Value}(F:FunD K "__init__" "Meter.__init__" za7 dV f fd)(T:Blt mg)(c:ClsOk K C)(Gis_word:Cal P w K mg base 2 "is_word" ["thing"] spIsWord)(GCChip___init__:Clm P w K mg base 1 "Chip" "__init__" (spInit K)):FnOk P w K mg base CX0 3 f fd ["self","word"] (spMk1H C "meter"):=by
 refine F.ok zcO (by walk_at "l") (fun cdv A outer s H vs Q E hr h=>?_)
 ·obtain ⟨a,dx,v,rfl,h0,h1,ha,k⟩:=h
  refine ⟨_,(zad (zaB (zaK (zaG (pe_c Gis_word (zaa (pv 1) zac)))) (zag zaw) zap)
   (zag (zaI (zeF GCChip___init__ (hrm hr) rfl (zaa (pv 0) (zaa zbc (zaa (zav (zaa (pv 1) zac)) zac))))))),?rd⟩
  refine ⟨_,rfl,v,rfl,_,rfl,zgq ⟨h0,h1⟩ ?_⟩
  refine ⟨_,rfl,_,rfl,by show 1≤sizeLine;decide,fun p hp=>?_⟩
  have ne:p≠a:=fun z=>by rw [z,ha] at hp;cases hp
  refine ⟨a,C,dx,p,_,rfl,by rw [zah (Ne.symm ne)];exact ha,c,fun H' e1 e2=>?_⟩
  refine k p H' hp ⟨dx,e1⟩ (by rw [e2 p ne];exact zab) fun b o hb e=>?_
  rw [e2 b hb,zah (zaj e hp)];exact e
abbrev zbm:Stmt:=zaF (top 46) 0
theorem zdh:FnScope ["self","room"] ["self","room"] (zai zbm):=sck rfl rfl rfl (by decide +kernel)
theorem zds {f C:Addr}{fd:FuncData}{dV:Value}(F:FunD K "__init__" "Pipe.__init__" zbm dV f fd)(T:Blt mg)(N:Nums mg)(c:ClsOk K C)(Gis_number:Cal P w K mg base 1 "is_number" ["thing","last"] spIsNum)(Gtwo_figures:Cal P w K mg base 2 "two_figures" ["word"] sp2fig)(GCChip___init__:Clm P w K mg base 1 "Chip" "__init__" (spInit K)):FnOk P w K mg base CX0 3 f fd ["self","room"] (spMkP C):=by
 refine F.ok zdh (by walk_at "l") (fun cdv A outer s H vs Q E hr h=>?_)
 ·obtain ⟨a,dx,r,rfl,h0,h1,ha,k⟩:=h
  refine ⟨_,(zad (zaB (PW.pt (zca (zaK (zaG (pe_c Gis_number (zaa (pv 1) (zaa (zbg rfl N.MOST_ROOM) zac))))) (zbG (zat zfo (pv 1) zaf (zas _))))) (zag zaw) zap)
   (zad (zaI (zeF GCChip___init__ (hrm hr) rfl (zaa (pv 0) (zaa (pe_fs2 zbc (pe_c Gtwo_figures (zaa (pv 1) zac))) (zaa (zav zac) zac)))))
   (zag (za0 (pv 0) (pv 1) rfl)))),?rd⟩
  refine ⟨_,rfl,(r:Int),255,rfl,_,rfl,?_⟩
  rw [Xas (show (0:Int)≤(r:Int)∧(r:Int)≤255 by omega)]
  refine iteF ⟨_,rfl,_,_,rfl,rfl,_,rfl,?_⟩
  rw [Xao (show ¬ (r:Int)<1 by omega)]
  refine iteF ⟨_,rfl,_,rfl,by show 5≤1000;decide,_,rfl,r,rfl,h1,_,rfl,by show 1+1≤1000;decide,?_⟩
  refine ⟨by show 0≤sizeLine;decide,fun p hp=>?_⟩
  have ne:p≠a:=fun z=>by rw [z,ha] at hp;cases hp
  refine ⟨a,C,dx,p,_,rfl,by rw [zah (Ne.symm ne)];exact ha,c,fun H' e1 e2=>?_⟩
  refine ⟨_,rfl,_,rfl,a,C,dx,_,rfl,e1,c.cl,c.room,by show 2<1000;decide,?_⟩
  refine k p _ hp ⟨⟨dx,zab⟩,by rw [zah ne,e2 p ne];exact zab⟩ fun b o hb e=>?_
  rw [zah hb,e2 b hb,zah (zaj e hp)];exact e
abbrev zc9:Stmt:=top 60
theorem scrow_fits:FnScope ["row","chips","inner","chip","latch"] ["row","chips"] (zai zc9):=sck rfl rfl rfl (by decide +kernel)
def lenK (kd:Nat):List V→Nat:=if kd=4 then two else List.length
theorem Chp.ob {cs:Nat→Addr}{H:Hp}{x p:Addr}{kd n:Nat}{ws:List Nat}(o:Chp cs H x p kd n ws):Ob (cs kd) H x p (vN ws) (kext kd n):=by
 obtain ⟨dx,e⟩:=o.ex
 refine ⟨⟨dx,_,e⟩,o.ls,?_⟩
 unfold kext
 split
 ·exact .inr ⟨_,rfl⟩
 ·exact .inl rfl
theorem lk_vN {H:Hp}{a b:Addr}{ws:List Nat}(ha:H a=some (.tup (vN ws)))(hb:H b=some (.tup (vN ws)))(hz:ws.length≤4096):Lk H 1 (.ref a) (.ref b):=by
 refine .seq (t:=true) ha hb rfl (by rw [zao];exact Xam hz (by decide)) fun i x y h1 h2=>?_
 rw [h1] at h2
 obtain rfl:=Option.some.inj h2
 unfold vN at h1
 rw [Xav] at h1
 obtain ⟨n,_,rfl⟩:=XaO.mp h1
 exact .int n
structure Dt where
 m:Nat
 x:Nat→Addr
 p:Nat→Addr
 kd:Nat→Nat
 n:Nat→Nat
 sz:Nat→Nat
structure Chs (cs:Nat→Addr)(D:Dt)(Y:Hp)(us:Nat→List Nat):Prop where
 o:∀ i,i<D.m→Chp cs Y (D.x i) (D.p i) (D.kd i) (D.n i) (us i)
 k:∀ i,i<D.m→Kd (D.kd i) (D.n i) (us i)
 h1:∀ i,i<D.m→D.kd i=2∨D.kd i=3→(us i).length=1
 z:∀ i,i<D.m→zcB (D.kd i) (us i)=D.sz i
 inj:∀ i j,i<D.m→j<D.m→D.p i=D.p j→i=j
 m1:D.m≤200
theorem Chs.same {cs:Nat→Addr}{D:Dt}{Y Z:Hp}{us:Nat→List Nat}(S:Chs cs D Y us)(s:Same Y Z):Chs cs D Z us:=⟨fun i h=>(S.o i h).same s,S.k,S.h1,S.z,S.inj,S.m1⟩
def chL (D:Dt):List V:=(List.range D.m).map fun i=>.ref (D.x i)
theorem zen (D:Dt):(chL D).length=D.m:=by unfold chL;rw [Xal,XaX]
theorem zhL {D:Dt}{i:Nat}(h:i<D.m):(chL D)[i]? = some (.ref (D.x i)):=by unfold chL;rw [Xav,List.getElem?_range h];rfl
def Fit (D:Dt)(r:Rw):Prop:=r.c<D.m∧2 ^ ones r.i≤D.sz r.c∧∀ c a b,r.l=some (c,a,b)→c<D.m∧D.kd c=2
inductive spFits (cs:Nat→Addr)(vs:List V)(H:Hp)(Q:VK)(u3_:XK):Prop
 | mk (t L:Addr) (r:Rw) (D:Dt) (us:Nat→List Nat) (z0_:vs=[.ref t,.ref L]) (z1_:RwAt H t r) (z2_:r.i<2 ^ 16) (z3_:H L=some (.lst (chL D))) (z4_:Chs cs D H us) (z5_:Fit D r) (z6_:∀ H',Same H H'→Q (.bl true) H')
theorem lkn {p:Addr}{kd n:Nat}{z:Str}(nm:Str)(h1:nm ≠ "head" := by decide)(h2:nm ≠ "held" := by decide)(h3:nm ≠ "room" := by decide):(("head",V.str z) :: ("held",V.ref p) :: kext kd n:List (Str×V)).lookup nm=none:=by
 unfold kext
 have e1:(nm == "head")=false:=beq_eq_false_iff_ne.mpr h1
 have e2:(nm == "held")=false:=beq_eq_false_iff_ne.mpr h2
 have e3:(nm == "room")=false:=beq_eq_false_iff_ne.mpr h3
 split <;> simp [List.lookup_cons,e1,e2,e3]
theorem zgh {f:Addr}{cs:Nat→Addr}{fd:FuncData}(F:Fun K "row_fits" "row_fits" zc9 f fd)(T:Blt mg)(Gones_of:Cal P w K mg base 2 "ones_of" ["mask"] spOnes)(GLatch:mg "Latch" = some (.ref (cs 2)))(kk:W.kitOne K (.ref (cs 2)) (.ref (cs 2))=some true)(TL:∀ {H:Hp} {a dx:Addr} {fs:List (Str×V)},H a=some (.ins (cs 2) dx fs)→TyOf K H (.ref a) (.ref (cs 2)))
  (ML:∀ kd,kd<5→Mth P w K mg base 1 (cs kd) "__len__" [] (fun vs _=>vs) (spLen (cs kd) (lenK kd))):FnOk P w K mg base CX0 3 f fd ["row","chips"] (spFits cs):=by
 refine F.ok scrow_fits (by walk_at "l") (fun cdv A outer s H vs Q E hr h=>?_)
 ·obtain ⟨t,L,r,D,us,rfl,⟨lt,et,hlt⟩,hi,eL,S,⟨f1,f2,f3⟩,k⟩:=h
  refine ⟨_,(zad (zch (zci (zff (K:=K) rfl) (pv 0) (zcy zaf) zdm) (zbs rfl (zan (pg_L 2 scrow_fits.nd) (zan (pg_L 3 scrow_fits.nd) (zan (pg_L 4 scrow_fits.nd) zaV)))))
   (zad (zaB (PW.pt (zca (zat zjB (pv 3) (zak zam (by rfl) T.len PySem.boot_len (zaa (pv 1) zac)) (zas _)) (zbG (zat zhl (zaq zbN zaf (pe_c Gones_of (zaa (pv 2) zac))) (zjy 1 ⟨rfl,rfl,rfl,rfl,rfl⟩ (hrm hr) rfl T.len (pe_x zau (pv 1) (pv 3))) (zas _))))) (zag (zal zcz)) zap)
   (zag (zal (pe_or (zeE (zcI (pv 4))) (zbt (za1 (zbd zfo (pe_x zaS (pv 4) zaf) (zak zam (by rfl) T.len PySem.boot_len (zaa (pv 1) zac)) (zas _)) (zbt (zak (ziK (K:=K) rfl) (by rfl) T.isinstance zaU (zaa (pe_x zau (pv 1) (pe_x zaS (pv 4) zaf)) (zaa (zik rfl GLatch) zac))))))))))),?rd⟩
  have ec:cutV [V.int (r.m:Int),.int (r.w:Int),.int (r.i:Int),.int (r.c:Int),lt] (some 2) none=[.int (r.i:Int),.int (r.c:Int),lt]:=rfl
  have hsz:∀ i,i<D.m→D.sz i≤5000:=fun i h=>by
   rw [← S.z i h]
   unfold zcB
   split
   ·decide
   ·have:=(S.k i h).ln;omega
  refine ⟨_,rfl,2,rfl,t,_,rfl,SqT.of et,(fun e=>absurd (congrArg List.length e) (by rw [ec];simp)),fun tp htp=>?_⟩
  rw [ec]
  have s1:=zae (H:=H) (o:=HO.tup [.int (r.i:Int),.int (r.c:Int),lt]) htp
  refine ⟨tp,_,rfl,SqT.of zab,rfl,_,_,rfl,_,_,rfl,_,_,rfl,rfl,?_⟩
  refine ⟨_,rfl,_,rfl,L,_,rfl,.inl (SqL.of (s1 _ _ eL)),_,_,rfl,rfl,_,rfl,?_⟩
  rw [zen,Xao (show ¬ (D.m:Int)≤(r.c:Int) by omega)]
  refine iteF ⟨_,rfl,r.i,rfl,Xaf hi (by decide),fun H2 s2=>?_⟩
  have S2:=S.same (s1.trans s2)
  have h64:ones r.i≤64:=by
   have:=hsz _ f1
   by_cases hc:ones r.i≤64
   ·exact hc
   ·have:2 ^ 64≤2 ^ ones r.i:=XaH (by decide) (by omega)
    have:(5000:Nat)<2 ^ 64:=by decide
    omega
  obtain ⟨dx,ex⟩:=(S2.o _ f1).ex
  have k5:=(S2.k _ f1).k5
  have hlen:lenK (D.kd r.c) (vN (us r.c))=D.sz r.c:=by
   rw [← S.z _ f1]
   unfold lenK zcB
   split
   ·rfl
   ·exact zao _
  refine ⟨_,_,rfl,rfl,⟨by omega,by omega,by decide⟩,_,rfl,_,rfl,L,_,_,_,rfl,rfl,SqL.of (s2 _ _ (s1 _ _ eL)),zaT (zhL f1),?_⟩
  refine ⟨_,cs (D.kd r.c),dx,_,_,_,rfl,ex,ML _ k5,_,_,_,_,rfl,(S2.o _ f1).ob,?_⟩
  rw [hlen]
  have hz:=hsz _ f1
  refine ⟨_,rfl,by omega,by omega,_,_,rfl,rfl,_,rfl,?_⟩
  have e1:(1:Int) * 2 ^ ((ones r.i:Nat):Int).toNat=((2 ^ ones r.i:Nat):Int):=by rw [Int.one_mul,Xai];norm_cast
  rw [Xao (show ¬ ((D.sz r.c:Nat):Int)<(1:Int) * 2 ^ ((ones r.i:Nat):Int).toNat by rw [e1];omega)]
  refine iteF ?_
  refine zax ?_
  try dsimp only
  have k:=k H2 (s1.trans s2)
  cases hl:r.l with
  | none =>
   rw [hl] at hlt
   obtain rfl:lt = .non:=hlt
   exact ⟨_,rfl,_,rfl,iteT k⟩
  | some o =>
   obtain ⟨c,a,b⟩:=o
   rw [hl] at hlt
   obtain ⟨u,rfl,eu⟩:=hlt
   obtain ⟨g1,g2⟩:=f3 c a b hl
   have eu2:=s2 _ _ (s1 _ _ eu)
   have eL2:=s2 _ _ (s1 _ _ eL)
   obtain ⟨dy,ey⟩:=(S2.o _ g1).ex
   rw [g2] at ey
   refine ⟨_,rfl,_,rfl,iteF ⟨_,rfl,u,_,_,_,rfl,rfl,SqT.of eu2,rfl,_,rfl,L,_,rfl,.inl (SqL.of eL2),_,_,rfl,rfl,_,rfl,?_⟩⟩
   rw [zen,Xas (show (c:Int)<(D.m:Int) by omega)]
   refine iteT ⟨_,rfl,_,rfl,u,_,_,_,rfl,rfl,SqT.of eu2,rfl,L,_,_,_,rfl,rfl,SqL.of eL2,zaT (zhL g1),_,_,_,true,rfl,TL ey,kk,k⟩
structure Bd where
 b:Addr
 bits:Nat
 R:Addr
 ws:List (Addr×Rw)
 L:Addr
 la:Addr
 keys:List Nat
 W:Addr
def bdF (B:Bd)(f:Nat):List (Str×V):=[("bits",.int (B.bits:Int)),("rows",.ref B.R),("chips",.ref B.L),("floating",.int (f:Int)),("latches",.ref B.la),("watches",.ref B.W),("next_watch",.int 0)]
structure RwsFor (D:Dt)(m:Nat)(Y:Hp)(R:Addr)(ws:List (Addr×Rw)):Prop where
 e:Y R=some (.tup (refs ws))
 r:RwsAt2 m Y ws
 f:∀ z∈ws,Fit D z.2
 nc:ws.Pairwise fun a b=>NC a.2 b.2
 ln:ws.length≤60
theorem RwsFor.same {D:Dt}{m:Nat}{Y Z:Hp}{R:Addr}{ws:List (Addr×Rw)}(h:RwsFor D m Y R ws)(s:Same Y Z):RwsFor D m Z R ws:=⟨s _ _ h.e,h.r.same s,h.f,h.nc,h.ln⟩
structure BdAt (C:Addr)(B:Bd)(D:Dt)(Y:Hp)(f:Nat):Prop where
 e:∃ db,Y B.b=some (.ins C db (bdF B f))
 b1:1≤B.bits
 b2:B.bits≤16
 rf:RwsFor D B.bits Y B.R B.ws
 ch:Y B.L=some (.lst (chL D))
 la:Y B.la=some (.lst (vN B.keys))
 kl:∀ z∈B.ws,∀ c a b,z.2.l=some (c,a,b)→c∈B.keys
 ks:∀ k∈B.keys,k<D.m∧D.kd k=2
 kn:B.keys.Nodup
 w0:Y B.W=some (.dK [])
 f0:f≤255
 nl:∀ i,i<D.m→B.L≠D.p i∧B.la≠D.p i
theorem BdAt.same {C:Addr}{B:Bd}{D:Dt}{Y Z:Hp}{f:Nat}(h:BdAt C B D Y f)(s:Same Y Z):BdAt C B D Z f:=by
 obtain ⟨db,e⟩:=h.e
 exact ⟨⟨db,s _ _ e⟩,h.b1,h.b2,h.rf.same s,s _ _ h.ch,s _ _ h.la,h.kl,h.ks,h.kn,s _ _ h.w0,h.f0,h.nl⟩
structure ClsBd (K:W.Frag)(C:Addr):Prop where
 cls:Cls K C
 bits:NoAttr K C "bits"
 rows:NoAttr K C "rows"
 chips:NoAttr K C "chips"
 floating:NoAttr K C "floating"
 latches:NoAttr K C "latches"
 watches:NoAttr K C "watches"
 next_watch:NoAttr K C "next_watch"
abbrev zcr:Stmt:=top 61
theorem sccheck_map:FnScope ["bits","rows","chips","number","row"] ["bits","rows","chips"] (zai zcr):=sck rfl rfl rfl (by decide +kernel)
inductive spChkMap (cs:Nat→Addr)(vs:List V)(H:Hp)(Q:VK)(u3_:XK):Prop
 | mk (m:Nat) (R L:Addr) (D:Dt) (us:Nat→List Nat) (ws:List (Addr×Rw)) (z0_:vs=[.int (m:Int),.ref R,.ref L]) (z1_:1≤m) (z2_:m≤16) (z3_:RwsFor D m H R ws) (z4_:H L=some (.lst (chL D))) (z5_:Chs cs D H us) (z6_:∀ H',Same H H'→Q .non H')
theorem zfs {f:Addr}{cs:Nat→Addr}{fd:FuncData}(F:Fun K "check_map" "check_map" zcr f fd)(T:Blt mg)(N:Nums mg)(Gis_number:Cal P w K mg base 1 "is_number" ["thing","last"] spIsNum)(Gis_map:Cal P w K mg base 5 "is_map" ["bits","thing"] spMapV)(Grow_fits:Cal P w K mg base 3 "row_fits" ["row","chips"] (spFits cs)):FnOk P w K mg base CX0 6 f fd ["bits","rows","chips"] (spChkMap cs):=by
 refine F.ok sccheck_map (by walk_at "l") (fun cdv A outer s H vs Q E hr h=>?_)
 ·obtain ⟨m,R,L,D,us,ws,rfl,h1,h2,hR,eL,S,k⟩:=h
  refine ⟨_,(zad (zaB (PW.pt (zca (zaK (zaG (pe_c Gis_number (zaa (pv 0) (zaa (zbg rfl N.MOST_BITS) zac))))) (zbG (zat zfo (pv 0) zaf (zas _))))) (zag zaw) zap)
   (zad (zaB (zaK (zaG (pe_c Gis_map (zaa (pv 0) (zaa (pv 1) zac))))) (zag zaw) zap)
   (zag (zb0 PassesOwn.never rfl (zed rfl T.enumerate (zaa (pv 1) zac)) (zbs rfl (zan (pg_L 3 sccheck_map.nd) (zan (pg_L 4 sccheck_map.nd) zaV)))
   (zag (zaB (zaK (zaG (pe_c Grow_fits (zaa (pv 4) (zaa (pv 2) zac))))) (zag zaw) zap)))))),?rd⟩
  refine ⟨_,rfl,_,_,rfl,_,rfl,?_⟩
  rw [Xas (show 0≤(m:Int)∧(m:Int)≤16 by omega)]
  refine iteF ⟨_,rfl,_,_,rfl,rfl,_,rfl,?_⟩
  rw [Xao (show ¬ (m:Int)<1 by omega)]
  refine iteF (zax ?_)
  try dsimp only
  refine ⟨_,rfl,_,rfl,m,R,ws,rfl,hR.e,hR.r,Xam hR.ln (by decide),h2,fun H1 s1=>⟨_,rfl,iteF (zax ?_)⟩⟩
  try dsimp only
  refine ⟨_,rfl,R,rfl,⟨_,SqT.of (s1 _ _ hR.e)⟩,?_⟩
  refine zdF (K:=K) (a:=R) (xs:=refs ws) (fun i σ X=>∃ (v3 v4:Option V),σ=[some (.int (m:Int)),some (.ref R),some (.ref L),v3,v4]∧Same H X) ⟨_,_,rfl,s1⟩ ?_ ?_ ?_
  ·rintro i σ X _ ⟨_,_,_,sX⟩
   exact SqT.of (sX _ _ hR.e)
  ·rintro i y U σ X hy hU ⟨v3,v4,rfl,sX⟩
   obtain ⟨z,hz,rfl⟩:=zcg hy
   have hm:=XaK hz
   have sU:=sX.trans (zae (o:=.tup [.int (i:Int),.ref z.1]) hU)
   refine zeU ?_
   refine ⟨_,rfl,_,rfl,z.1,L,z.2,D,us,rfl,(hR.r z hm).1.same sU,Xaf (hR.r z hm).2.i0 (XaH (by decide) h2),sU _ _ eL,S.same sU,hR.f z hm,fun H2 s2=>⟨_,rfl,iteF ⟨_,_,rfl,sU.trans s2⟩⟩⟩
  ·rintro σ X ⟨_,_,_,sX⟩
   exact k X sX
abbrev zbJ:Stmt:=top 62
theorem sccheck_clash:FnScope ["rows","clash","address","first","second","words"] ["rows"] (zai zbJ):=sck rfl rfl rfl (by decide +kernel)
inductive spChkCl (vs:List V)(H:Hp)(Q:VK)(u3_:XK):Prop
 | mk (m:Nat) (R:Addr) (D:Dt) (ws:List (Addr×Rw)) (z0_:vs=[.ref R]) (z1_:RwsFor D m H R ws) (z2_:∀ H',Same H H'→Q .non H')
theorem zeh {f:Addr}{fd:FuncData}(F:Fun K "check_clash" "check_clash" zbJ f fd)(T:Blt mg)(Gclash_of:Cal P w K mg base 4 "clash_of" ["rows"] spClashV):FnOk P w K mg base CX0 5 f fd ["rows"] spChkCl:=by
 refine F.ok sccheck_clash (by walk_at "l") (fun cdv A outer s H vs Q E hr h=>?_)
 ·obtain ⟨m,R,D,ws,rfl,hR,k⟩:=h
  refine ⟨_,(zad (ps_L 1 sccheck_clash.nd (pe_c Gclash_of (zaa (pv 0) zac)))
   (zag (zaB (zeC (zhh (pv 1))) (zad (zch (pv 1) (zbs rfl (zan (pg_L 2 sccheck_clash.nd) (zan (pg_L 3 sccheck_clash.nd) (zan (pg_L 4 sccheck_clash.nd) (zan (pg_L 5 sccheck_clash.nd) zaV))))))
   (zag zaw)) zap))),?rd⟩
  exact ⟨_,rfl,m,R,ws,rfl,hR.e,hR.r,hR.nc,Xam hR.ln (by decide),fun H1 s1=>⟨_,rfl,_,rfl,iteF (k H1 s1)⟩⟩
abbrev zbb:Stmt:=zaF (top 64) 0
theorem zcR:FnScope ["self","bits","rows","chips","floating"] ["self","bits","rows","chips","floating"] (zai zbb):=sck rfl rfl rfl (by decide +kernel)
def lcs (ws:List (Addr×Rw)):List Nat:=ws.filterMap fun z=>z.2.l.map (·.1)
set_option tactic.hygienic true in
theorem ziH (ys:List Int):(dd ys).Nodup:=by
 have g:∀ (l S:List Int),S.Nodup→(l.foldl (fun S n=>if n∈S then S else S ++ [n]) S).Nodup:=by
  intro l
  induction l with
  | nil=>intro S h;exact h
  | cons a l ih =>
   intro S h
   rw [List.foldl_cons]
   refine ih _ ?_
   split
   ·exact h
   ·rename_i ha
    rw [XaR]
    exact ⟨h,by simp,fun x hx y hy=>by rw [Xad] at hy;subst hy;exact fun z=>ha (z ▸ hx)⟩
 exact g ys [] List.nodup_nil
theorem ziv {ws:List (Addr×Rw)}{j:Nat}{z:Addr×Rw}(h:ws[j]? = some z):lcs (ws.take (j+1))=lcs (ws.take j) ++ (z.2.l.map (·.1)).toList:=by
 unfold lcs
 rw [List.take_succ,h,List.filterMap_append]
 congr 1
theorem lcs_mem {ws:List (Addr×Rw)}{c:Nat}:c∈lcs ws↔∃ z∈ws,∃ a b,z.2.l=some (c,a,b):=by
 unfold lcs
 rw [List.mem_filterMap]
 constructor
 ·rintro ⟨z,hz,e⟩
  obtain ⟨o,ho,rfl⟩:=XaO.mp e
  exact ⟨z,hz,o.2.1,o.2.2,ho⟩
 ·rintro ⟨z,hz,a,b,e⟩
  exact ⟨z,hz,by rw [e];rfl⟩
inductive spInitB (C:Addr)(cs:Nat→Addr)(vs:List V)(H:Hp)(Q:VK)(u3_:XK):Prop
 | mk (b db R L:Addr) (m fl:Nat) (D:Dt) (us:Nat→List Nat) (ws:List (Addr×Rw)) (z0_:vs=[.ref b,.int (m:Int),.ref R,.ref L,.int (fl:Int)]) (z1_:H b=some (.ins C db [])) (z2_:1≤m) (z3_:m≤16) (z4_:fl≤255) (z5_:RwsFor D m H R ws) (z6_:H L=some (.lst (chL D))) (z7_:Chs cs D H us) (z8_:∀ (B:Bd) (H':Hp),B.b=b→B.bits=m→B.R=R→B.ws=ws→H B.L=none→H B.la=none→H B.W=none→BdAt C B D H' fl→(∀ a o,a≠b→H a=some o→H' a=some o)→Q .non H')
theorem zcY {f:Addr}{C:Addr}{cs:Nat→Addr}{fd:FuncData}{dV:Value}(F:FunD K "__init__" "Board.__init__" zbb dV f fd)(T:Blt mg)(GBsorted:mg "sorted" = none)(cl:ClsBd K C)(Gcheck_map:Cal P w K mg base 6 "check_map" ["bits","rows","chips"] (spChkMap cs))(Gcheck_clash:Cal P w K mg base 5 "check_clash" ["rows"] spChkCl)(Gcheck_word:Cal P w K mg base 3 "check_word" ["word"] spChkWord):FnOk P w K mg base CX0 7 f fd ["self","bits","rows","chips","floating"] (spInitB C cs):=by
 refine F.ok zcR (by walk_at "l") (fun cdv A outer s H vs Q E hr h=>?_)
 ·obtain ⟨b,db,R,L,m,fl,D,us,ws,rfl,eb,h1,h2,hf,hR,eL,S,k⟩:=h
  refine' ⟨_,(zad (zaI (pe_c Gcheck_map (zaa (pv 1) (zaa (pv 2) (zaa (pv 3) zac)))))
   (zad (zaI (pe_c Gcheck_clash (zaa (pv 2) zac)))
   (zad (zaI (pe_c Gcheck_word (zaa (pv 4) zac)))
   (zad (za0 (pv 0) (pv 1) rfl)
   (zad (za0 (pv 0) (pv 2) rfl)
   (zad (za0 (pv 0) (zaH zbh (by rfl) T.list zcc (zaa (pv 3) zac)) rfl)
   (zad (za0 (pv 0) (pv 4) rfl)
   (zad (za0 (pv 0) (zak (ze3 rfl) (by rfl) GBsorted zhP (zaa ?c1 zac)) rfl)
   (zad (za0 (pv 0) zil rfl)
   (zag (za0 (pv 0) zaf rfl))))))))))),?rd⟩
  (case c1=>exact (zgc (Nc:=["row"]) [none] rfl (zaZ (by rfl)) (ziV (pv 2)) (fun _ _ _ _ _=>(pg_L 0 (show (["row"]:List Str).Nodup by decide +kernel))) (fun _ _ _ _ _=>(ziW (zeC (zhh (pe_x (zfC (K:=K) rfl) (pv 0) zaf))))) (fun _ _ _ _ _=>(pe_x (zfC (K:=K) rfl) (pe_x (zfC (K:=K) rfl) (pv 0) zaf) zaf))))
  refine ⟨_,rfl,_,rfl,_,rfl,m,R,L,D,us,ws,rfl,h1,h2,hR,eL,S,fun H1 s1=>?_⟩
  refine ⟨_,rfl,m,R,D,ws,rfl,hR.same s1,fun H2 s2=>?_⟩
  have s12:=s1.trans s2
  refine ⟨_,rfl,(fl:Int),rfl,by omega,by omega,?_⟩
  refine ⟨_,rfl,_,rfl,b,C,db,_,rfl,s12 _ _ eb,cl.cls,cl.bits,by show 0<1000;decide,?_⟩
  refine ⟨_,rfl,_,rfl,b,C,db,_,rfl,zab,cl.cls,cl.rows,by show 1<1000;decide,?_⟩
  have nLb:L≠b:=fun z=>by rw [z,eb] at eL;cases eL
  refine ⟨_,rfl,L,chL D,rfl,.inl (SqL.of (by rw [zah nLb,zah nLb];exact s12 _ _ eL)),fun l hl=>?_⟩
  have nlb:l≠b:=fun z=>by rw [z,zab] at hl;cases hl
  refine ⟨_,rfl,b,C,db,_,rfl,by rw [zah (Ne.symm nlb)];exact zab,cl.cls,cl.chips,by show 2<1000;decide,?_⟩
  refine ⟨_,rfl,_,rfl,b,C,db,_,rfl,zab,cl.cls,cl.floating,by show 3<1000;decide,?_⟩
  have hl2:H2 l=none:=by rw [zah nlb,zah nlb] at hl;exact hl
  refine zhV (fun Y=>Y b=some (.ins C db [("bits",.int (m:Int)),("rows",.ref R),("chips",.ref l),("floating",.int (fl:Int))])∧Y l=some (.lst (chL D))∧∀ a o,a≠b→H2 a=some o→Y a=some o) ⟨zab,by rw [zah nlb,zah nlb];exact zab,fun a o ha ea=>by rw [zah ha,zah ha,zah (zaj ea hl2),zah ha,zah ha];exact ea⟩ ?_
  rintro Y ⟨yb,yl,fr⟩
  have nRb:R≠b:=fun z=>by have:=hR.e;rw [z,eb] at this;cases this
  have yR:=fr _ _ nRb (s12 _ _ hR.e)
  refine ⟨_,rfl,R,rfl,⟨_,SqT.of yR⟩,?_⟩
  refine zhJ (K:=K) (xs:=refs ws) (fun j ys σ H1=>∃ v0,σ=[v0]∧ys=(lcs (ws.take j)).map (fun (n:Nat)=>(n:Int))∧ys.length≤j∧H1=Y) (by rw [zay];have:=hR.ln;omega) ⟨none,rfl,rfl,Xae _,rfl⟩ ?_ ?_ ?_
  ·rintro j ys σ H1 hj ⟨v0,rfl,_,hl',rfl⟩
   exact ⟨SqT.of yR,hl'⟩
  ·rintro j y ys σ H1 hy ⟨v0,rfl,hys,hl',rfl⟩
   obtain ⟨z,hz,rfl⟩:=zcg hy
   have hm:=XaK hz
   obtain ⟨lt,et,hlt⟩:=(hR.r z hm).1
   have yt:=fr _ _ (fun e=>by rw [e,eb] at et;cases et) (s12 _ _ et)
   rw [ziv hz]
   cases hl:z.2.l with
   | none =>
    rw [hl] at hlt
    obtain rfl:lt = .non:=hlt
    exact ⟨_,rfl,z.1,_,_,_,rfl,rfl,SqT.of yt,rfl,_,rfl,iteF ⟨_,rfl,by rw [hys];simp,by omega,rfl⟩⟩
   | some o =>
    obtain ⟨c,a,b'⟩:=o
    rw [hl] at hlt
    obtain ⟨u,rfl,eu⟩:=hlt
    have yu:=fr _ _ (fun e=>by rw [e,eb] at eu;cases eu) (s12 _ _ eu)
    refine ⟨_,rfl,z.1,_,_,_,rfl,rfl,SqT.of yt,rfl,_,rfl,iteT ⟨_,rfl,z.1,_,_,_,rfl,rfl,SqT.of yt,rfl,u,_,_,_,rfl,rfl,SqT.of yu,rfl,(c:Int),rfl,_,rfl,by rw [hys];simp,by rw [Xan];simp;omega,rfl⟩⟩
  ·rintro ys σ H1 ⟨v0,rfl,hys,hl',rfl⟩ d hd
   rw [zay,Xbw (Xae _)] at hys
   have hln:=hR.ln
   have hdl:=zi9 ys
   rw [zay] at hl'
   have ndb:d≠b:=fun e=>by rw [e,yb] at hd;cases hd
   refine ⟨d,dd ys,rfl,zab,by omega,fun la ns hla pm _=>?_⟩
   have hns:∀ n∈ns,∃ c:Nat,n=(c:Int)∧c∈lcs ws:=fun n hn=>by
    have:=mem_dd.mp (pm.mem_iff.mp hn)
    rw [hys,Xbg] at this
    obtain ⟨c,hc,e⟩:=this
    exact ⟨c,e.symm,hc⟩
   obtain ⟨keys,hk⟩:∃ keys:List Nat,ns=keys.map fun (n:Nat)=>(n:Int):=⟨ns.map Int.toNat,by
    rw [List.map_map]
    conv=>lhs;rw [← List.map_id ns]
    refine List.map_congr_left fun n hn=>?_
    obtain ⟨c,e,_⟩:=hns n hn
    show n=((n.toNat:Nat):Int)
    omega⟩
   have knd:keys.Nodup:=by
    have h1:ns.Nodup:=pm.nodup_iff.mpr (ziH ys)
    rw [hk] at h1
    exact (List.pairwise_map.mp h1).imp fun h e=>h (by rw [e])
   have kmem:∀ c,c∈keys↔c∈lcs ws:=fun c=>by
    constructor
    ·intro hc
     obtain ⟨c',e,hc'⟩:=hns (c:Int) (by rw [hk];exact List.mem_map_of_mem hc)
     rw [show c=c' by omega];exact hc'
    ·intro hc
     have:(c:Int)∈ns:=pm.mem_iff.mpr (mem_dd.mpr (by rw [hys];exact List.mem_map_of_mem hc))
     rw [hk,Xbg] at this
     obtain ⟨c',hc',e⟩:=this
     rw [show c=c' by omega];exact hc'
   have nlab:la≠b:=fun e=>by rw [e,zah (Ne.symm ndb),yb] at hla;cases hla
   have nlad:la≠d:=fun e=>by rw [e,zab] at hla;cases hla
   have yla:H1 la=none:=by rw [zah nlad] at hla;exact hla
   have eV:ns.map V.int=vN keys:=by rw [hk,List.map_map];rfl
   rw [eV]
   refine ⟨_,rfl,b,C,db,_,rfl,by rw [zah (Ne.symm nlab),zah (Ne.symm ndb)];exact yb,cl.cls,cl.latches,by show 4<1000;decide,?_⟩
   refine zhV (fun Z=>Z b=some (.ins C db [("bits",.int (m:Int)),("rows",.ref R),("chips",.ref l),("floating",.int (fl:Int)),("latches",.ref la)])∧Z la=some (.lst (vN keys))∧∀ a o,a≠b→H1 a=some o→Z a=some o) ⟨zab,by rw [zah nlab];exact zab,fun a o ha ea=>by rw [zah ha,zah (zaj ea yla),zah (zaj ea hd)];exact ea⟩ ?_
   rintro Z ⟨zb,zla,frZ⟩ wd hwd
   have nwb:wd≠b:=fun e=>by rw [e,zb] at hwd;cases hwd
   refine ⟨_,rfl,b,C,db,_,rfl,by rw [zah (Ne.symm nwb)];exact zb,cl.cls,cl.watches,by show 5<1000;decide,?_⟩
   refine ⟨_,rfl,b,C,db,_,rfl,zab,cl.cls,cl.next_watch,by show 6<1000;decide,?_⟩
   have frV:∀ a o,a≠b→Z a=some o→upd (upd (upd Z wd (.dK [])) b (.ins C db [("bits",.int (m:Int)),("rows",.ref R),("chips",.ref l),("floating",.int (fl:Int)),("latches",.ref la),("watches",.ref wd)])) b (.ins C db (bdF ⟨b,m,R,ws,l,la,keys,wd⟩ fl)) a=some o:=fun a o ha ea=>by rw [zah ha,zah ha,zah (zaj ea hwd)];exact ea
   have frH:∀ a o,a≠b→H a=some o→upd (upd (upd Z wd (.dK [])) b (.ins C db [("bits",.int (m:Int)),("rows",.ref R),("chips",.ref l),("floating",.int (fl:Int)),("latches",.ref la),("watches",.ref wd)])) b (.ins C db (bdF ⟨b,m,R,ws,l,la,keys,wd⟩ fl)) a=some o:=fun a o ha ea=>frV a o ha (frZ a o ha (fr a o ha (s12 _ _ ea)))
   have hlaH:H la=none:=by
    cases h:H la with
    | none=>rfl
    | some o=>have:=fr la o nlab (s12 _ _ h);rw [yla] at this;cases this
   have hwdH:H wd=none:=by
    cases h:H wd with
    | none=>rfl
    | some o=>have:=frZ wd o nwb (fr wd o nwb (s12 _ _ h));rw [hwd] at this;cases this
   refine k ⟨b,m,R,ws,l,la,keys,wd⟩ _ rfl rfl rfl rfl (s12.free hl2) hlaH hwdH ⟨⟨db,zab⟩,h1,h2,⟨frH _ _ nRb hR.e,fun z hz=>?_,hR.f,hR.nc,hR.ln⟩,frV _ _ nlb (frZ _ _ nlb yl),frV _ _ nlab zla,fun z hz c a b' e=>(kmem c).mpr (lcs_mem.mpr ⟨z,hz,a,b',e⟩),fun c hc=>?_,knd,by rw [zah nwb,zah nwb];exact zab,hf,fun i hi=>⟨fun e=>?_,fun e=>?_⟩⟩ frH
   ·obtain ⟨⟨lt,et,hlt⟩,ok⟩:=hR.r z hz
    refine ⟨⟨lt,frH _ _ (fun e=>by rw [e,eb] at et;cases et) et,?_⟩,ok⟩
    cases hl:z.2.l with
    | none=>rw [hl] at hlt;exact hlt
    | some o =>
     rw [hl] at hlt
     obtain ⟨u,eu,hu⟩:=hlt
     exact ⟨u,eu,frH _ _ (fun e=>by rw [e,eb] at hu;cases hu) hu⟩
   ·obtain ⟨z,hz,a,b',e⟩:=lcs_mem.mp ((kmem c).mp hc)
    exact (hR.f z hz).2.2 c a b' e
   ·have:=s12 _ _ (S.o i hi).ls
    rw [← show l=D.p i from e,hl2] at this
    cases this
   ·have hls:=(S.o i hi).ls
    have:=fr _ _ (fun e=>by rw [e,eb] at hls;cases hls) (s12 _ _ hls)
    rw [← show la=D.p i from e,yla] at this
    cases this
abbrev zaM:Stmt:=zaF (top 11) 0
theorem zbX:FnScope ["self","address"] ["self","address"] (zai zaM):=sck rfl rfl rfl (by decide +kernel)
inductive spNaI (C:Addr)(vs:List V)(H:Hp)(Q:VK)(u3_:XK):Prop
 | mk (e:Addr) (x:Int) (z0_:vs=[.ref e,.int x]) (z1_:x.natAbs<2 ^ 100) (z2_:H e=some (.ext (xFr e C none))) (z3_:∀ (dx:Addr) (H':Hp),H dx=none→dx≠e→H' e=some (.ext (xFr e C (some dx)))→H' dx=some (.ext (xDc dx [("address",.int x)]))→(∀ b o,b≠e→H b=some o→H' b=some o)→Q .non H')
theorem zbY {f C fI:Addr}{fd:FuncData}(F:Fun K "__init__" "NoAddress.__init__" zaM f fd)(T:Blt mg)(GSBusError:SupI K mg "BusError")(c:ExcI K C fI)(t1:W.takerIn K C "address" = some none):FnOk P w K mg base CX0 1 f fd ["self","address"] (spNaI C):=by
 refine F.ok zbX (by walk_at "l") (fun cdv A outer s H vs Q E hr h=>?_)
 ·obtain ⟨e,x,rfl,hx,ee,k⟩:=h
  refine ⟨_,(zad (zaI (zjw GSBusError rfl (zaa (pv 0) (zaa (pe_fsN ⟨_,_,_,rfl⟩ (pj_str zbc (pj_int (pv 1) pj_nil))) zac))))
   (zag (zih rfl (pv 0) (pv 1) rfl))),?rd⟩
  refine ⟨_,rfl,_,rfl,(by decide:(12:Nat)≤1000),_,rfl,x,rfl,Xaf hx (XaH (by decide) (by decide)),fun z=>?_⟩
  refine ⟨e,C,fI,none,_,rfl,ee,c,?_⟩
  refine ⟨_,rfl,_,rfl,e,C,fI,rfl,ee,c,t1,fun dx hdx ne=>?_⟩
  refine k dx _ hdx ne (by rw [zah (Ne.symm ne)];exact zab) zab fun b o hb eb=>?_
  rw [zah (zaj eb hdx),zah hb]
  exact eb
theorem zhB {f:Addr}(h:W.isFn K (.ref f)=true):∃ oI,K.lookup f=some oI∧oI.cls = .type "function" := by
 have h:W.typeIn K (.ref f)=some (.type "function"):=beq_iff_eq.mp h
 unfold W.typeIn at h
 obtain ⟨oI,h1,h2⟩:=XaO.mp h
 exact ⟨oI,h1,h2⟩
abbrev zbo:Stmt:=zaF (top 64) 5
theorem zdj:FnScope ["self","number"] ["self","number"] (zai zbo):=sck rfl rfl rfl (by decide +kernel)
inductive spInBitsI (C:Addr)(vs:List V)(H:Hp)(Q:VK)(u3_:XK):Prop
 | mk (B:Bd) (D:Dt) (f:Nat) (x:Int) (z0_:vs=[.ref B.b,.int x]) (z1_:BdAt C B D H f) (z2_:Q (.bl (decide (0≤x∧x<((2 ^ B.bits:Nat):Int)))) H)
theorem zdu {f:Addr}{C:Addr}{fd:FuncData}(F:Fun K "in_bits" "Board.in_bits" zbo f fd)(T:Blt mg)(cl:ClsBd K C)(Gis_number:Cal P w K mg base 1 "is_number" ["thing","last"] spIsNum)(Gsize_of:Cal P w K mg base 1 "size_of" ["bits"] spSize):FnOk P w K mg base CX0 2 f fd ["self","number"] (spInBitsI C):=by
 refine F.ok zdj (by walk_at "l") (fun cdv A outer s H vs Q E hr h=>?_)
 ·obtain ⟨B,D,f0,x,rfl,hB,k⟩:=h
  refine ⟨_,(zag (zal (pe_c Gis_number (zaa (pv 1) (zaa (zaq zeG (pe_c Gsize_of (zaa (zcH (pv 0) rfl) zac)) zaf) zac))))),?rd⟩
  obtain ⟨db,e⟩:=hB.e
  refine ⟨_,rfl,_,rfl,B.b,C,db,_,_,rfl,e,cl.cls,cl.bits,rfl,B.bits,rfl,hB.b2,_,_,rfl,rfl,_,_,rfl,?_⟩
  have e2:((2 ^ B.bits:Nat):Int)=(2:Int) ^ B.bits:=by norm_cast
  rw [show decide (0≤x∧x<((2 ^ B.bits:Nat):Int))=decide (0≤x∧x≤(2:Int) ^ B.bits - 1) from decide_eq_decide.mpr ⟨fun z=>⟨by omega,by omega⟩,fun z=>by omega⟩] at k
  exact k
abbrev zaL:Stmt:=zaF (top 64) 6
theorem zbK:FnScope ["self","address"] ["self","address"] (zai zaL):=sck rfl rfl rfl (by decide +kernel)
inductive spChkAdX (C CT:Addr)(vs:List V)(H:Hp)(Q:VK)(E:XK):Prop
 | mk (B:Bd) (D:Dt) (f:Nat) (x:Int) (z0_:vs=[.ref B.b,.int x]) (z1_:BdAt C B D H f) (z2_:x.natAbs<2 ^ 100) (z3_:((0≤x∧x<((2 ^ B.bits:Nat):Int)∧Q .non H)∨((¬ (0≤x∧x<((2 ^ B.bits:Nat):Int)))∧∀ (dx:Addr) (H':Hp),H' dx=some (.ext (xDc dx [("address",.int x)]))→Same H H'→E (.ref CT) (some dx) H')))
theorem zbP {f C CT:Addr}{fd:FuncData}(F:Fun K "check_address" "Board.check_address" zaL f fd)(T:Blt mg)(M_in_bits:Mth P w K mg base 2 C "in_bits" [] (fun vs _=>vs) (spInBitsI C))(GI_NoAddress:XIni P w K mg base 1 "NoAddress" CT (spNaI CT)):FnOk P w K mg base (CX1 P w) 3 f fd ["self","address"] (spChkAdX C CT):=by
 refine F.okX zbK (by walk_at "l") (fun cdv A outer s H vs Q E hr h=>?_)
 ·obtain ⟨B,D,f0,x,rfl,hB,hx,k⟩:=h
  refine ⟨_,(zag (zaB (PT.nox (zaK (zaG (pe_mth 2 ⟨rfl,rfl,rfl,rfl,rfl⟩ (hrm hr) (pv 0) (zaa (pv 1) zac))))) (zag (zg9 (E:=E) GI_NoAddress (hrm hr) rfl rfl rfl (PA.nox (zaa (pv 1) zac)) (fun pins σ H2 s2 ea od I e n hE=>zgJ I e n hE))) zap)),?rd⟩
  obtain ⟨db,e⟩:=hB.e
  refine ⟨_,rfl,B.b,C,db,_,_,_,rfl,e,M_in_bits,rfl,_,rfl,B,D,f0,x,rfl,hB,_,rfl,?_⟩
  rcases k with ⟨h1,h2,k⟩ | ⟨hn,k⟩
  ·rw [Xas ⟨h1,h2⟩]
   exact iteF k
  ·rw [Xao hn]
   refine iteT ⟨_,rfl,(by decide:(1:Nat)≤1000),fun e he=>?_⟩
   refine ⟨e,x,rfl,hx,zab,fun dx H2 hdx ne e1 e2 fr=>⟨rfl,some dx,e1,?_⟩⟩
   refine k dx _ (by rw [zfL ne];exact e2) fun b o eb=>?_
   have hb:b≠e:=zaj eb he
   rw [zfL hb]
   exact fr b o hb (by rw [zah hb];exact eb)
abbrev zbA:Stmt:=zaF (top 64) 8
theorem zdN:FnScope ["self"] ["self"] (zai zbA):=sck rfl rfl rfl (by decide +kernel)
inductive spFloats (C:Addr)(vs:List V)(H:Hp)(Q:VK)(u3_:XK):Prop
 | mk (B:Bd) (D:Dt) (f:Nat) (z0_:vs=[.ref B.b]) (z1_:BdAt C B D H f) (z2_:Q (.int (f:Int)) H)
theorem zdR {f:Addr}{C:Addr}{fd:FuncData}(F:Fun K "floats" "Board.floats" zbA f fd)(T:Blt mg)(cl:ClsBd K C):FnOk P w K mg base CX0 1 f fd ["self"] (spFloats C):=by
 refine F.ok zdN (by walk_at "l") (fun cdv A outer s H vs Q E hr h=>?_)
 ·obtain ⟨B,D,f0,rfl,hB,k⟩:=h
  refine ⟨_,(zag (zal (zcH (pv 0) rfl))),?rd⟩
  obtain ⟨db,e⟩:=hB.e
  exact ⟨_,rfl,B.b,C,db,_,_,rfl,e,cl.cls,cl.floating,rfl,k⟩
abbrev zba:Stmt:=zaF (top 64) 11
theorem zcQ:FnScope ["self"] ["self"] (zai zba):=sck rfl rfl rfl (by decide +kernel)
inductive spChipsOf (C:Addr)(vs:List V)(H:Hp)(Q:VK)(u3_:XK):Prop
 | mk (B:Bd) (D:Dt) (f:Nat) (z0_:vs=[.ref B.b]) (z1_:BdAt C B D H f) (z2_:∀ l,H l=none→Q (.ref l) (upd H l (.lst (chL D))))
theorem zcX {f:Addr}{C:Addr}{fd:FuncData}(F:Fun K "chips_of" "Board.chips_of" zba f fd)(T:Blt mg)(cl:ClsBd K C):FnOk P w K mg base CX0 1 f fd ["self"] (spChipsOf C):=by
 refine F.ok zcQ (by walk_at "l") (fun cdv A outer s H vs Q E hr h=>?_)
 ·obtain ⟨B,D,f0,rfl,hB,k⟩:=h
  refine ⟨_,(zag (zal (zaH zbh (by rfl) T.list zcc (zaa (zcH (pv 0) rfl) zac)))),?rd⟩
  obtain ⟨db,e⟩:=hB.e
  exact ⟨_,rfl,B.b,C,db,_,_,rfl,e,cl.cls,cl.chips,rfl,B.L,_,rfl,.inl (SqL.of hB.ch),k⟩
abbrev za6:Stmt:=zaF (top 33) 0
theorem zcN:FnScope ["self","board","source","target","many","step","by"] ["self","board","source","target","many","step","by"] (zai za6):=sck rfl rfl rfl (by decide +kernel)
theorem ln6 {α:Type}{P:List α→Prop}(us:List α)(h:us.length=6)(k:∀ a b c d e f,P [a,b,c,d,e,f]):P us:=lnS us h fun a r h=>ln5 (P:=fun r=>P (a :: r)) r h (k a)
theorem ln7 {α:Type}{P:List α→Prop}(us:List α)(h:us.length=7)(k:∀ a b c d e f g,P [a,b,c,d,e,f,g]):P us:=lnS us h fun a r h=>ln6 (P:=fun r=>P (a :: r)) r h (k a)
structure ClsMv (K:W.Frag)(C:Addr):Prop where
 cls:Cls K C
 board:NoAttr K C "board"
 source:NoAttr K C "source"
 target:NoAttr K C "target"
 many:NoAttr K C "many"
 step:NoAttr K C "step"
 by_:NoAttr K C "by"
def mvF (b:Addr)(s t n st y:Int):List (Str×V):=[("board",.ref b),("source",.int s),("target",.int t),("many",.int n),("step",.int st),("by",.int y)]
def InB (B:Bd)(x:Int):Prop:=0≤x∧x<((2 ^ B.bits:Nat):Int)
inductive spMvI (C CT CM:Addr)(vs:List V)(H:Hp)(Q:VK)(E:XK):Prop
 | mk (v dv:Addr) (B:Bd) (D:Dt) (f:Nat) (s t n st y:Int) (z0_:vs=[.ref v,.ref B.b,.int s,.int t,.int n,.int st,.int y]) (z1_:H v=some (.ins CM dv [])) (z2_:v≠B.b) (z3_:BdAt C B D H f) (z4_:s.natAbs<2 ^ 100) (z5_:t.natAbs<2 ^ 100) (z6_:(InB B s→InB B t→∀ H':Hp,H' v=some (.ins CM dv (mvF B.b s t n st y))→(∀ a o,a≠v→H a=some o→H' a=some o)→Q .non H')) (z7_:(∀ x:Int,(x=s∧¬ InB B s)∨(x=t∧InB B s∧¬ InB B t)→∀ (dx:Addr) (H':Hp),H' dx=some (.ext (xDc dx [("address",.int x)]))→Same H H'→E (.ref CT) (some dx) H'))
theorem zcT {f:Addr}{C CT CM:Addr}{fd:FuncData}{dV:Value}(F:FunD K "__init__" "Mover.__init__" za6 dV f fd)(T:Blt mg)(cl:ClsMv K CM)(MX_check_address:MthX P w K mg base 3 C "check_address" [] (fun vs _=>vs) (spChkAdX C CT)):FnOk P w K mg base (CX1 P w) 4 f fd ["self","board","source","target","many","step","by"] (spMvI C CT CM):=by
 refine F.okX zcN (by walk_at "l") (fun cdv A outer s H vs Q E hr h=>?_)
 ·obtain ⟨v,dv,B,D,f0,s',t,n,st,y,rfl,ev,hvb,hB,hs,ht,k,kx⟩:=h
  refine ⟨_,(zad (zaI (zhf 3 ⟨rfl,rfl,rfl,rfl,rfl⟩ (hrm hr) (Passes.s zfH) (pv 1) (zaa (pv 2) zac)))
   (zad (zaI (zhf 3 ⟨rfl,rfl,rfl,rfl,rfl⟩ (hrm hr) (Passes.s zfH) (pv 1) (zaa (pv 3) zac)))
   (zad (PS.nox (za0 (pv 0) (pv 1) rfl))
   (zad (PS.nox (za0 (pv 0) (pv 2) rfl))
   (zad (PS.nox (za0 (pv 0) (pv 3) rfl))
   (zad (PS.nox (za0 (pv 0) (pv 4) rfl))
   (zad (PS.nox (za0 (pv 0) (pv 5) rfl))
   (zag (PS.nox (za0 (pv 0) (pv 6) rfl)))))))))),?rd⟩
  obtain ⟨db,e⟩:=hB.e
  by_cases h1:InB B s'
  rotate_left
  ·exact ⟨_,rfl,B.b,C,db,_,_,_,rfl,e,MX_check_address,rfl,_,rfl,B,D,f0,s',rfl,hB,hs,.inr ⟨h1,fun dx H' e1 s1=>kx s' (.inl ⟨rfl,h1⟩) dx H' e1 s1⟩⟩
  refine ⟨_,rfl,B.b,C,db,_,_,_,rfl,e,MX_check_address,rfl,_,rfl,B,D,f0,s',rfl,hB,hs,.inl ⟨h1.1,h1.2,?_⟩⟩
  by_cases h2:InB B t
  rotate_left
  ·exact ⟨_,rfl,B.b,C,db,_,_,_,rfl,e,MX_check_address,rfl,_,rfl,B,D,f0,t,rfl,hB,ht,.inr ⟨h2,fun dx H' e1 s1=>kx t (.inr ⟨rfl,h1,h2⟩) dx H' e1 s1⟩⟩
  refine ⟨_,rfl,B.b,C,db,_,_,_,rfl,e,MX_check_address,rfl,_,rfl,B,D,f0,t,rfl,hB,ht,.inl ⟨h2.1,h2.2,?_⟩⟩
  refine ⟨_,rfl,_,rfl,v,CM,dv,_,rfl,ev,cl.cls,cl.board,by show 0<1000;decide,?_⟩
  refine ⟨_,rfl,_,rfl,v,CM,dv,_,rfl,zab,cl.cls,cl.source,by show 1<1000;decide,?_⟩
  refine ⟨_,rfl,_,rfl,v,CM,dv,_,rfl,zab,cl.cls,cl.target,by show 2<1000;decide,?_⟩
  refine ⟨_,rfl,_,rfl,v,CM,dv,_,rfl,zab,cl.cls,cl.many,by show 3<1000;decide,?_⟩
  refine ⟨_,rfl,_,rfl,v,CM,dv,_,rfl,zab,cl.cls,cl.step,by show 4<1000;decide,?_⟩
  refine ⟨_,rfl,_,rfl,v,CM,dv,_,rfl,zab,cl.cls,cl.by_,by show 5<1000;decide,?_⟩
  exact k h1 h2 _ zab fun a o ha ea=>by rw [zah ha,zah ha,zah ha,zah ha,zah ha,zah ha];exact ea
abbrev zb8:Stmt:=zaF (top 33) 2
theorem zez:FnScope ["self"] ["self"] (zai zb8):=sck rfl rfl rfl (by decide +kernel)
inductive spMvL (CM:Addr)(vs:List V)(H:Hp)(Q:VK)(u3_:XK):Prop
 | mk (v dv b:Addr) (s t n st y:Int) (z0_:vs=[.ref v]) (z1_:H v=some (.ins CM dv (mvF b s t n st y))) (z2_:Q (.int (if 0 > n then 0 else n)) H)
theorem zeO {f:Addr}{CM:Addr}{fd:FuncData}(F:Fun K "left" "Mover.left" zb8 f fd)(T:Blt mg)(cl:ClsMv K CM):FnOk P w K mg base CX0 1 f fd ["self"] (spMvL CM):=by
 refine F.ok zez (by walk_at "l") (fun cdv A outer s H vs Q E hr h=>?_)
 ·obtain ⟨v,dv,b,s',t,n,st,y,rfl,e,k⟩:=h
  refine ⟨_,(zag (zal (zak (ze5 rfl) (by rfl) T.max PyProof.Rows.boot_max (zaa (zcH (pv 0) rfl) (zaa zaf zac))))),?rd⟩
  exact ⟨_,rfl,v,CM,dv,_,_,rfl,e,cl.cls,cl.many,rfl,n,0,rfl,k⟩
abbrev zb7:Stmt:=zaF (top 33) 1
theorem zey:FnScope ["self","word","moved","size"] ["self"] (zai zb7):=sck rfl rfl rfl (by decide +kernel)
inductive spMvT (CM:Addr)(vs:List V)(H:Hp)(Q:VK)(u3_:XK):Prop
 | mk (v dv b:Addr) (s t n st y:Int) (z0_:vs=[.ref v]) (z1_:H v=some (.ins CM dv (mvF b s t n st y))) (z2_:n≤0) (z3_:Q .non H)
theorem zeN {f:Addr}{CM:Addr}{fd:FuncData}(F:Fun K "turn" "Mover.turn" zb7 f fd)(T:Blt mg)(M_left:Mth P w K mg base 1 CM "left" [] (fun vs _=>vs) (spMvL CM)):FnOk P w K mg base CX0 2 f fd ["self"] (spMvT CM):=by
 refine F.ok zey (by walk_at "l") (fun cdv A outer s H vs Q E hr h=>?_)
 ·obtain ⟨v,dv,b,s',t,n,st,y,rfl,e,hn,k⟩:=h
  refine ⟨_,(zad (zaB (zat zbO (zcb 1 ⟨rfl,rfl,rfl,rfl,rfl⟩ (hrm hr) (pv 0)) zaf (zas _)) (zag (zal zfP)) zap)
   (zad zaw
   (zad zaw
   (zad zaw
   (zad zaw
   (zad zaw
   (zad zaw
   (zad zaw
   (zag zaw))))))))),?rd⟩
  refine ⟨_,rfl,v,CM,dv,_,_,_,rfl,e,M_left,rfl,v,dv,b,s',t,n,st,y,rfl,e,rfl,_,rfl,?_⟩
  have h0:(if 0 > n then 0 else n)=0:=by split <;> omega
  rw [h0]
  exact iteT k
abbrev zby:Stmt:=zaF (top 33) 3
theorem zdL:FnScope ["self"] ["self"] (zai zby):=sck rfl rfl rfl (by decide +kernel)
inductive spMvP (CM:Addr)(vs:List V)(H:Hp)(Q:VK)(u3_:XK):Prop
 | mk (v dv b:Addr) (s t n st y:Int) (z0_:vs=[.ref v]) (z1_:H v=some (.ins CM dv (mvF b s t n st y))) (z2_:∀ q,H q=none→Q (.ref q) (upd H q (.tup [.int s,.int t])))
theorem zdQ {f:Addr}{CM:Addr}{fd:FuncData}(F:Fun K "places" "Mover.places" zby f fd)(T:Blt mg)(cl:ClsMv K CM):FnOk P w K mg base CX0 1 f fd ["self"] (spMvP CM):=by
 refine F.ok zdL (by walk_at "l") (fun cdv A outer s H vs Q E hr h=>?_)
 ·obtain ⟨v,dv,b,s',t,n,st,y,rfl,e,k⟩:=h
  refine ⟨_,(zag (zal (zaP (zaa (zcH (pv 0) rfl) (zaa (zcH (pv 0) rfl) zac))))),?rd⟩
  exact ⟨_,rfl,v,CM,dv,_,_,rfl,e,cl.cls,cl.source,rfl,_,rfl,v,CM,dv,_,_,rfl,e,cl.cls,cl.target,rfl,by show 2≤sizeLine;decide,k⟩
abbrev zdl:Stmt:=top 66
theorem zf8:FnScope ["cell","k"] ["cell","k"] (zai zdl):=sck rfl rfl rfl (by decide +kernel)
def Bg (H:Hp)(p:Addr)(n:Nat):Prop:=∃ a c:Int,H p=some (.lst [.int a,.int c])∧0≤a∧0≤c∧c≤n
theorem Bg.mono {H:Hp}{p:Addr}{n m:Nat}(h:Bg H p n)(hm:n≤m):Bg H p m:=by
 obtain ⟨a,c,e,h1,h2,h3⟩:=h
 exact ⟨a,c,e,h1,h2,by omega⟩
theorem Bg.same {H H':Hp}{p:Addr}{n:Nat}(h:Bg H p n)(s:Same H H'):Bg H' p n:=by
 obtain ⟨a,c,e,r⟩:=h
 exact ⟨a,c,s _ _ e,r⟩
theorem Bg.ne {H:Hp}{p q:Addr}{n:Nat}(h:Bg H p n)(hq:H q=none):q≠p:=fun z=>by
 obtain ⟨a,c,e,_⟩:=h
 rw [← z,hq] at e;cases e
inductive spBg (vs:List V)(H:Hp)(Q:VK)(u3_:XK):Prop
 | mk (z:Int) (n:Nat) (z0_:vs=[.int z,.int (n:Int)]) (z1_:n≤100) (z2_:∀ (p:Addr) (H':Hp),H p=none→Bg H' p 4000→Same H H'→Q (.ref p) H')
inductive spDw (vs:List V)(H:Hp)(Q:VK)(u3_:XK):Prop
 | mk (p:Addr) (m:Int) (n:Nat) (z0_:vs=[.ref p,.int m]) (z1_:Bg H p n) (z2_:n<2 ^ 40) (z3_:0<m) (z4_:m≤2 ^ 40) (z5_:∀ (r:Nat) (H':Hp),(r:Int)<m→Bg H' p (n+1)→(∀ b,b≠p→H' b=H b)→Q (.int (r:Int)) H')
theorem zgl {f:Addr}{fd:FuncData}(F:Fun K "_law_bag" "_law_bag" zdl f fd)(T:Blt mg):FnOk P w K mg base CX0 1 f fd ["cell","k"] spBg:=by
 refine F.ok zf8 (by walk_at "l") (fun cdv A outer s H vs Q E hr h=>?_)
 ·obtain ⟨z,n,rfl,hn,k⟩:=h
  refine ⟨_,(zad (zaB (zat zfo (pv 0) zaf (zas _)) (zag (zal (zav (zaa (zgb zdT (pv 0)) (zaa (zaq za2 (zaq zbp zaf (pv 1)) zaf) zac))))) zap)
   (zag (zal (zav (zaa (pv 0) (zaa (zaq zbp zaf (pv 1)) zac)))))),?rd⟩
  refine ⟨_,rfl,_,_,rfl,rfl,_,rfl,ite2 (fun hz=>?_) (fun hz=>zax ?_)⟩
  ·have hz:=XaN hz
   refine ⟨_,rfl,_,rfl,_,rfl,_,_,rfl,rfl,zbQ (by decide) (by omega),_,_,rfl,rfl,by show 2≤sizeLine;decide,fun p hp=>?_⟩
   exact k p _ hp ⟨_,_,zab,by omega,by omega,by omega⟩ (zae hp)
  ·have hz:¬ z<0:=fun q=>hz (Xas q)
   try dsimp only
   refine ⟨_,rfl,_,rfl,_,_,rfl,rfl,zbQ (by decide) (by omega),by show 2≤sizeLine;decide,fun p hp=>?_⟩
   exact k p _ hp ⟨_,_,zab,by omega,by omega,by omega⟩ (zae hp)
abbrev zcv:Stmt:=top 67
theorem sc_law_draw:FnScope ["bag","many","digit","one"] ["bag","many"] (zai zcv):=sck rfl rfl rfl (by decide +kernel)
theorem zfv {f:Addr}{fd:FuncData}(F:Fun K "_law_draw" "_law_draw" zcv f fd)(T:Blt mg):FnOk P w K mg base CX0 1 f fd ["bag","many"] spDw:=by
 refine F.ok sc_law_draw (by walk_at "l") (fun cdv A outer s H vs Q E hr h=>?_)
 ·obtain ⟨p,m,n,rfl,⟨a,c,hp,ha,hc0,hc⟩,hn,hm,hm2,k⟩:=h
  refine ⟨_,(zad (zjs (pv 0) zaf zhe zaf ip_add zfM)
   (zad (zaB (zat zjB (pe_x zau (pv 0) zaf) (zaq zfR zaf zaf) (zas _)) (zad (ps_L 2 sc_law_draw.nd (zaq zcJ (pe_x zau (pv 0) zaf) (pv 1)))
   (zad (zch (zaq zcj (pe_x zau (pv 0) zaf) (pv 1)) (pg_sub (pv 0) zaf zfM))
   (zag (zal (pv 2))))) zap)
   (zad (ps_L 3 sc_law_draw.nd (zaq zcJ (zaq za2 (zaq za2 (zaq zcJ (pe_x zau (pv 0) zaf) zaf) (zaq zbp zaf (pe_x zau (pv 0) zaf))) zaf) zaf))
   (zad (ps_L 3 sc_law_draw.nd (zaq zcJ (zaq zbp (pv 3) (pv 3)) zaf))
   (zad (ps_L 3 sc_law_draw.nd (zaq zcJ (zaq za2 (pv 3) (zaq zbp zaf (pe_x zau (pv 0) zaf))) zaf))
   (zad (ps_L 3 sc_law_draw.nd (zaq zcJ (zaq zbp (pv 3) (pv 3)) zaf))
   (zag (zal (zaq zcJ (zaq zcj (pv 3) zaf) (pv 1)))))))))),?rd⟩
  have lm:=log_ok hm (by omega)
  refine ⟨_,rfl,p,_,_,_,rfl,rfl,by decide,SqL.of hp,rfl,_,_,rfl,rfl,p,_,_,1,rfl,rfl,hp,rfl,?_⟩
  have h1:upd H p (.lst ([V.int a,V.int c].set 1 (V.int (c+1)))) p=some (.lst [.int a,.int (c+1)]):=zab
  have k1:∀ b,b≠p→upd H p (.lst ([V.int a,V.int c].set 1 (V.int (c+1)))) b=H b:=fun b hb=>zah hb
  generalize upd H p (.lst ([V.int a,V.int c].set 1 (V.int (c+1))))=H1 at *
  refine ⟨_,rfl,p,_,_,_,rfl,rfl,SqL.of h1,rfl,_,_,rfl,rfl,⟨by decide,by decide,by decide⟩,_,_,rfl,rfl,_,rfl,ite2 (fun _=>?_) (fun _=>zax ?_)⟩
  ·refine ⟨_,rfl,p,_,_,_,rfl,rfl,SqL.of h1,rfl,_,rfl,_,_,rfl,rfl,hm,?_⟩
   refine ⟨_,rfl,p,_,_,_,rfl,rfl,SqL.of h1,rfl,_,rfl,_,_,rfl,rfl,⟨hm,lm⟩,_,rfl,p,_,_,0,rfl,rfl,h1,rfl,?_⟩
   have h0:=Int.emod_nonneg a (Int.ne_of_gt hm)
   have e:((a % m).toNat:Int)=a % m:=Int.toNat_of_nonneg h0
   have:=k (a % m).toNat (upd H1 p (.lst [.int (a / m),.int (c+1)])) (by rw [e];exact Int.emod_lt_of_pos _ hm) ⟨_,_,zab,Int.ediv_nonneg ha (Int.le_of_lt hm),by omega,by omega⟩ (fun b hb=>by rw [zah hb];exact k1 b hb)
   rw [e] at this
   exact ⟨_,rfl,this⟩
  ·dsimp only
   refine ⟨_,rfl,p,_,_,_,rfl,rfl,SqL.of h1,rfl,_,_,rfl,rfl,(show (0:Int)<2147483629 by decide),_,rfl,p,_,_,_,rfl,rfl,SqL.of h1,rfl,_,_,rfl,rfl,zbQ (by decide) (by omega),_,_,rfl,rfl,_,_,rfl,rfl,_,_,rfl,rfl,(show (0:Int)<2147483587 by decide),?_⟩
   have mo:∀ (z d:Int),0<d→0≤z % d∧z % d<d:=fun z d h=>⟨Int.emod_nonneg _ (Int.ne_of_gt h),Int.emod_lt_of_pos _ h⟩
   try dsimp only [zaA,List.set]
   obtain ⟨o1,e1⟩:∃ o1,(a % 2147483629+104729 * (c+1)+1) % 2147483587=o1:=⟨_,rfl⟩
   have b1:=mo (a % 2147483629+104729 * (c+1)+1) 2147483587 (by decide)
   rw [e1] at b1
   rw [e1]
   refine ⟨_,rfl,_,rfl,_,_,rfl,rfl,zbQ (by omega) (by omega),_,_,rfl,rfl,(show (0:Int)<2147483587 by decide),?_⟩
   try dsimp only [zaA,List.set]
   obtain ⟨o2,e2⟩:∃ o2,o1 * o1 % 2147483587=o2:=⟨_,rfl⟩
   have b2:=mo (o1 * o1) 2147483587 (by decide)
   rw [e2] at b2
   rw [e2]
   refine ⟨_,rfl,_,rfl,p,_,_,_,rfl,rfl,SqL.of h1,rfl,_,_,rfl,rfl,zbQ (by decide) (by omega),_,_,rfl,rfl,_,_,rfl,rfl,(show (0:Int)<2147483563 by decide),?_⟩
   try dsimp only [zaA,List.set]
   obtain ⟨o3,e3⟩:∃ o3,(o2+40692 * (c+1)) % 2147483563=o3:=⟨_,rfl⟩
   have b3:=mo (o2+40692 * (c+1)) 2147483563 (by decide)
   rw [e3] at b3
   rw [e3]
   refine ⟨_,rfl,_,rfl,_,_,rfl,rfl,zbQ (by omega) (by omega),_,_,rfl,rfl,(show (0:Int)<2147483563 by decide),?_⟩
   try dsimp only [zaA,List.set]
   obtain ⟨o4,e4⟩:∃ o4,o3 * o3 % 2147483563=o4:=⟨_,rfl⟩
   have b4:=mo (o3 * o3) 2147483563 (by decide)
   rw [e4] at b4
   rw [e4]
   refine ⟨_,rfl,_,_,rfl,rfl,⟨by decide,by decide +kernel⟩,_,rfl,_,_,rfl,rfl,hm,?_⟩
   have h0:=Int.emod_nonneg (o4 / 8) (Int.ne_of_gt hm)
   have e:((o4 / 8 % m).toNat:Int)=o4 / 8 % m:=Int.toNat_of_nonneg h0
   have:=k (o4 / 8 % m).toNat H1 (by rw [e];exact Int.emod_lt_of_pos _ hm) ⟨_,_,h1,ha,by omega,by omega⟩ k1
   rw [e] at this
   exact this
abbrev zcs:Stmt:=top 68
theorem zfl:FnScope ["found","due"] ["found","due"] (zai zcs):=sck rfl rfl rfl (by decide +kernel)
inductive spSameL (n:Nat)(vs:List V)(H:Hp)(Q:VK)(u3_:XK):Prop
 | mk (v:_) (w:_) (z0_:vs=[v,w]) (z1_:((v = .non∧w = .non)∨Lk H n v w)) (z2_:∀ H',Same H H'→Q (.bl true) H')
theorem zdr {f:Addr}{fd:FuncData}{m n:Nat}{sp:Sp}(F:Fun K "_law_same" "_law_same" zcs f fd)(T:Blt mg)(G_law_same:Cal P w K mg base n "_law_same" ["found","due"] sp)(hsp:∀ k,m=k+1→sp=spSameL k):FnOk P w K mg base CX0 (n+1) f fd ["found","due"] (spSameL m):=by
 refine F.ok zfl (by walk_at "l") (fun cdv A outer s H vs Q E hr h=>?_)
 ·obtain ⟨v,w,rfl,hL,k⟩:=h
  refine' ⟨_,(zad (zaB (zeC (zcI (pv 1))) (zag (zal (zeE (zcI (pv 0))))) zap)
   (zad (zaB (zaG (zak (zaJ "int" (K:=K) rfl) (by rfl) T.isinstance zaU (zaa (pv 1) (zaa (zaN rfl T.int zd3 zg2) zac)))) (zag (zal (za1 (zak (zaJ "int" (K:=K) rfl) (by rfl) T.isinstance zaU (zaa (pv 0) (zaa (zaN rfl T.int zd3 zg2) zac))) (za1 (ziX (zak (zaJ "bool" (K:=K) rfl) (by rfl) T.isinstance zaU (zaa (pv 0) (zaa (zaN rfl T.bool zhQ zg3) zac)))) (zbt (zbd zbO (pv 0) (pv 1) (zas _))))))) zap)
   (zad (zaB (zaG (zak (zaJ "str" (K:=K) rfl) (by rfl) T.isinstance zaU (zaa (pv 1) (zaa (zaN rfl T.str zjb ziT) zac)))) (zag (zal (za1 (zak (zaJ "str" (K:=K) rfl) (by rfl) T.isinstance zaU (zaa (pv 0) (zaa (zaN rfl T.str zjb ziT) zac))) (zbt (zbd zbO (pv 0) (pv 1) (zas _)))))) zap)
   (zad (zaB (PW.pt (zca (zat zgf (zak (zaJ "tuple" (K:=K) rfl) (by rfl) T.isinstance zaU (zaa (pv 1) (zaa (zaN rfl T.tuple zbi zcf) zac))) (zak (zaJ "tuple" (K:=K) rfl) (by rfl) T.isinstance zaU (zaa (pv 0) (zaa (zaN rfl T.tuple zbi zcf) zac))) (zas _)) (zbG (zat zgf (zak (zaJ "list" (K:=K) rfl) (by rfl) T.isinstance zaU (zaa (pv 1) (zaa (zaN rfl T.list zcc zg1) zac))) (zak (zaJ "list" (K:=K) rfl) (by rfl) T.isinstance zaU (zaa (pv 0) (zaa (zaN rfl T.list zcc zg1) zac))) (zas _))))) (zag (zal zcz)) zap)
   (zag (zal (za1 (zbd zbO (zak zam (by rfl) T.len PySem.boot_len (zaa (pv 0) zac)) (zak zam (by rfl) T.len PySem.boot_len (zaa (pv 1) zac)) (zas _)) (zbt (zak (zdJ rfl) (by rfl) T.all zhR (zaa ?c1 zac)))))))))),?rd⟩
  (case c1=>exact (zdn (Nc:=["one","other"]) [none,none] rfl (zaZ (by rfl)) (zhd rfl T.zip (zaa (pv 0) (zaa (pv 1) zac))) (fun _ _ _ _ _=>(zjt 2 (K:=K) rfl rfl (zan (pg_L 0 (show (["one","other"]:List Str).Nodup by decide +kernel)) (zan (pg_L 1 (show (["one","other"]:List Str).Nodup by decide +kernel)) zaV)))) (fun _ _ _ _ _=>zdY) (fun _ _ _ _ _=>(pe_c G_law_same (zaa (pv 0) (zaa (pv 1) zac))))))
  rcases hL with ⟨rfl,rfl⟩ | hL
  ·exact ⟨_,rfl,_,rfl,iteT ⟨_,rfl,k H (Same.refl _)⟩⟩
  cases hL with
  | int i =>
   refine ⟨_,rfl,_,rfl,iteF (zax ?_)⟩
   try dsimp only
   refine ⟨_,rfl,_,_,_,rfl,.int i,rfl,true,rfl,iteT ⟨_,rfl,_,_,_,rfl,.int i,rfl,true,rfl,iteT ⟨_,rfl,_,_,_,rfl,.int i,rfl,false,rfl,true,rfl,iteT ⟨_,rfl,_,rfl,rfl,?_⟩⟩⟩⟩
   rw [Xas rfl]
   exact k H (Same.refl _)
  | @seq m' t a b xs ys ha hb hl hz h =>
   have ty:∀ {q:Addr} {us:List V},SqX t H q us→TyOf K H (.ref q) (.type (sqC t)):=fun {q us} e=>ty_seq e
   have ki:W.kitOne K (.type (sqC t)) (.type "int")=some false:=by cases t <;> rfl
   have ks:W.kitOne K (.type (sqC t)) (.type "str")=some false:=by cases t <;> rfl
   have kt:W.kitOne K (.type (sqC t)) (.type "tuple")=some t:=by cases t <;> rfl
   have kl:W.kitOne K (.type (sqC t)) (.type "list")=some (!t):=by cases t <;> rfl
   refine ⟨_,rfl,_,rfl,iteF (zax ?_)⟩
   try dsimp only
   refine ⟨_,rfl,_,_,_,rfl,ty hb,ki,false,rfl,iteF (zax ?_)⟩
   try dsimp only
   refine ⟨_,rfl,_,_,_,rfl,ty hb,ks,false,rfl,iteF (zax ?_)⟩
   try dsimp only
   have sq:∀ {q:Addr} {us:List V},SqX t H q us→SqL K H q us∨SqT K H q us:=fun {q us} e=>by
    cases t with
    | true=>exact .inr (SqT.of e)
    | false=>exact .inl (SqL.of e)
   refine ⟨_,rfl,_,_,_,rfl,ty hb,kt,_,rfl,_,_,_,rfl,ty ha,kt,rfl,_,rfl,zgq rfl ?_⟩
   refine ⟨_,rfl,_,_,_,rfl,ty hb,kl,_,rfl,_,_,_,rfl,ty ha,kl,rfl,_,rfl,zgq rfl (zax ?_)⟩
   try dsimp only
   refine ⟨_,rfl,a,xs,rfl,sq ha,_,rfl,b,ys,rfl,sq hb,rfl,_,rfl,?_⟩
   rw [Xas (show V.int (xs.length:Int)=V.int (ys.length:Int) by rw [hl])]
   refine iteT ?_
   obtain rfl:=hsp m' rfl
   refine ⟨_,rfl,_,rfl,_,a,b,xs,ys,rfl,ha,hb,?_⟩
   refine zhI (xs:=xs) (ys:=ys) (fun j rs σ H1=>∃ v1 v2,σ=[v1,v2]∧rs=List.replicate j (V.bl true)∧Same H H1) hl hz ⟨none,none,rfl,rfl,fun _ _ z=>z⟩ ?_ ?_ ?_
   ·rintro j rs σ H1 hj ⟨v1,v2,rfl,rfl,s1⟩
    have e1:SqX t H1 a xs:=by cases t <;> exact s1 _ _ ha
    have e2:SqX t H1 b ys:=by cases t <;> exact s1 _ _ hb
    exact ⟨e1,e2,by rw [Xbj];exact Xae _⟩
   ·rintro j x y U rs σ H1 ex ey hU ⟨v1,v2,rfl,rfl,s1⟩
    refine zeU ?_
    have s2:=s1.trans (zae (o:=.tup [x,y]) hU)
    refine ⟨_,rfl,_,rfl,x,y,rfl,.inr ((h j x y ex ey).same s2),fun H3 s3=>?_⟩
    exact ⟨_,_,rfl,List.replicate_succ'.symm,s2.trans s3⟩
   ·rintro rs σ H1 ⟨v1,v2,rfl,rfl,s1⟩ D hD
    refine ⟨D,List.replicate xs.length true,rfl,SqL.of (by rw [List.map_replicate];exact zab),?_⟩
    rw [show (List.replicate xs.length true).all id=true by simp]
    exact k _ (s1.trans (zae hD))
structure MdB (H:Hp)(m row:Addr)(kd n:Nat)(ws:List Nat):Prop where
 at_:H m=some (.lst [.str (zcZ kd),.ref row,.int (n:Int)])
 ls:H row=some (.lst (vN ws))
theorem MdB.same {H H':Hp}{m row:Addr}{kd n:Nat}{ws:List Nat}(d:MdB H m row kd n ws)(s:Same H H'):MdB H' m row kd n ws:=⟨s _ _ d.at_,s _ _ d.ls⟩
structure Mod (D:Dt)(md rw:Nat→Addr)(Y:Hp)(us:Nat→List Nat):Prop where
 o:∀ i,i<D.m→MdB Y (md i) (rw i) (D.kd i) (D.n i) (us i)
 k:∀ i,i<D.m→Kd (D.kd i) (D.n i) (us i)
 h1:∀ i,i<D.m→D.kd i=2∨D.kd i=3→(us i).length=1
 z:∀ i,i<D.m→zcB (D.kd i) (us i)=D.sz i
 inj:∀ i j,i<D.m→j<D.m→rw i=rw j→i=j
theorem Mod.same {D:Dt}{md rw:Nat→Addr}{Y Z:Hp}{us:Nat→List Nat}(M:Mod D md rw Y us)(s:Same Y Z):Mod D md rw Z us:=⟨fun i h=>(M.o i h).same s,M.k,M.h1,M.z,M.inj⟩
def mdL (D:Dt)(md:Nat→Addr):List V:=(List.range D.m).map fun i=>.ref (md i)
abbrev zcw:Stmt:=top 69
theorem sc_law_chip:FnScope ["bag","which","word","cells","words","room"] ["bag"] (zai zcw):=sck rfl rfl rfl (by decide +kernel)
def noB (p:Addr)(H:Hp):Hp:=fun a=>if a=p then none else H a
theorem zd0 {p a:Addr}{H:Hp}(h:a≠p):noB p H a=H a:=if_neg h
theorem zfS {p:Addr}{H:Hp}:noB p H p=none:=if_pos rfl
theorem zaD {p a:Addr}{H:Hp}{o:HO}(e:noB p H a=some o):a≠p∧H a=some o:=by
 by_cases h:a=p
 ·rw [h,zfS] at e;cases e
 ·rw [zd0 h] at e;exact ⟨h,e⟩
theorem noB_same {p:Addr}{H:Hp}:Same (noB p H) H:=fun _ _ e=>(zaD e).2
theorem zaR {p a:Addr}{H:Hp}{o:HO}(h:a≠p)(e:H a=some o):noB p H a=some o:=by rw [zd0 h];exact e
theorem KeepP.nob {p:Addr}{X Y:Hp}(k:KeepP p X Y):Same (noB p X) (noB p Y):=fun a o e=>by
 obtain ⟨h,e⟩:=zaD e
 exact zaR h (k a o h e)
theorem zht {p a:Addr}{X:Hp}{o:HO}(h:a≠p):noB p (upd X a o)=upd (noB p X) a o:=by
 funext b
 by_cases hb:b=a
 ·rw [hb,zd0 h,zab,zab]
 ·rw [zah hb]
  unfold noB
  rw [zah hb]
theorem KeepP.free {p a:Addr}{H X:Hp}{n:Nat}(k:KeepP p H X)(g:Bg X p n)(h:X a=none):H a=none∧a≠p:=by
 have ne:=g.ne h
 refine ⟨?_,ne⟩
 cases e:H a with
 | none=>rfl
 | some o=>rw [k a o ne e] at h;cases h
theorem zar {p:Addr}{H H':Hp}(k:∀ b,b≠p→H' b=H b):KeepP p H H':=fun b o hb e=>by rw [k b hb];exact e
structure Cm where
 x:Addr
 p:Addr
 m:Addr
 r:Addr
 kd:Nat
 n:Nat
 us:List Nat
structure CmOk (cs:Nat→Addr)(X:Hp)(c:Cm):Prop where
 ch:Chp cs X c.x c.p c.kd c.n c.us
 md:MdB X c.m c.r c.kd c.n c.us
 k:Kd c.kd c.n c.us
 h1:c.kd=2∨c.kd=3→c.us.length=1
 ne:c.p≠c.r
theorem CmOk.same {cs:Nat→Addr}{X Y:Hp}{c:Cm}(h:CmOk cs X c)(s:Same X Y):CmOk cs Y c:=⟨h.ch.same s,h.md.same s,h.k,h.h1,h.ne⟩
structure CMs (cs:Nat→Addr)(X:Hp)(cl:List Cm):Prop where
 o:∀ c∈cl,CmOk cs X c
 nd:((cl.map (·.p)) ++ (cl.map (·.r))).Nodup
theorem CMs.same {cs:Nat→Addr}{X Y:Hp}{cl:List Cm}(h:CMs cs X cl)(s:Same X Y):CMs cs Y cl:=⟨fun c hc=>(h.o c hc).same s,h.nd⟩
theorem CMs.add {cs:Nat→Addr}{X Y:Hp}{cl:List Cm}{c:Cm}(h:CMs cs X cl)(s:Same X Y)(hp:X c.p=none)(hr:X c.r=none)(ho:CmOk cs Y c):CMs cs Y (cl ++ [c]):=by
 have fp:∀ d∈cl,d.p≠c.p∧d.p≠c.r∧d.r≠c.p∧d.r≠c.r:=fun d hd=>by
  have e1:=(h.o d hd).ch.ls
  have e2:=(h.o d hd).md.ls
  exact ⟨(fun z=>by rw [z,hp] at e1;cases e1),(fun z=>by rw [z,hr] at e1;cases e1),(fun z=>by rw [z,hp] at e2;cases e2),(fun z=>by rw [z,hr] at e2;cases e2)⟩
 refine ⟨fun d hd=>?_,?_⟩
 ·rcases XaP.mp hd with hd | hd
  ·exact (h.same s).o d hd
  ·rw [Xad.mp hd];exact ho
 ·obtain ⟨n1,n2,n3⟩:=XaR.mp h.nd
  rw [Xa2,Xa2]
  refine XaR.mpr ⟨XaR.mpr ⟨n1,by simp,fun a ha b hb=>?_⟩,XaR.mpr ⟨n2,by simp,fun a ha b hb=>?_⟩,fun a ha b hb=>?_⟩
  ·obtain ⟨d,hd,rfl⟩:=Xbg.mp ha
   have hb:b=c.p:=by simpa using hb
   rw [hb];exact (fp d hd).1
  ·obtain ⟨d,hd,rfl⟩:=Xbg.mp ha
   have hb:b=c.r:=by simpa using hb
   rw [hb];exact (fp d hd).2.2.2
  ·rcases XaP.mp ha with ha | ha <;> rcases XaP.mp hb with hb | hb
   ·exact n3 a ha b hb
   ·obtain ⟨d,hd,rfl⟩:=Xbg.mp ha
    have hb:b=c.r:=by simpa using hb
    rw [hb];exact (fp d hd).2.1
   ·obtain ⟨d,hd,rfl⟩:=Xbg.mp hb
    have ha:a=c.p:=by simpa using ha
    rw [ha];exact Ne.symm (fp d hd).2.2.1
   ·have ha:a=c.p:=by simpa using ha
    have hb:b=c.r:=by simpa using hb
    rw [ha,hb];exact ho.ne
theorem CMs.updL {cs:Nat→Addr}{X:Hp}{cl:List Cm}{L:Addr}{o:HO}(h:CMs cs X cl)(hL:∀ c∈cl,c.x≠L∧c.p≠L∧c.m≠L∧c.r≠L):CMs cs (upd X L o) cl:=by
 refine ⟨fun c hc=>?_,h.nd⟩
 obtain ⟨a1,a2,a3,a4⟩:=hL c hc
 have ok:=h.o c hc
 obtain ⟨dx,e⟩:=ok.ch.ex
 exact ⟨⟨⟨dx,by rw [zah a1];exact e⟩,by rw [zah a2];exact ok.ch.ls⟩,⟨by rw [zah a3];exact ok.md.at_,by rw [zah a4];exact ok.md.ls⟩,ok.k,ok.h1,ok.ne⟩
def dfCm:Cm:=⟨0,0,0,0,0,0,[]⟩
def dtC (cl:List Cm):Dt:=⟨cl.length,fun i=>(cl.getD i dfCm).x,fun i=>(cl.getD i dfCm).p,fun i=>(cl.getD i dfCm).kd,fun i=>(cl.getD i dfCm).n,fun i=>zcB (cl.getD i dfCm).kd (cl.getD i dfCm).us⟩
def usC (cl:List Cm)(i:Nat):List Nat:=(cl.getD i dfCm).us
theorem zbv {cl:List Cm}{i:Nat}(h:i<cl.length):cl.getD i dfCm∈cl∧cl[i]? = some (cl.getD i dfCm):=by
 rw [List.getD_eq_getElem?_getD,Xax h]
 exact ⟨Xbe _,rfl⟩
theorem nd_at {l:List Addr}(h:l.Nodup){i j:Nat}{a:Addr}(h1:l[i]? = some a)(h2:l[j]? = some a):i=j:=by
 obtain ⟨l1,e1⟩:=Xar.mp h1
 obtain ⟨l2,e2⟩:=Xar.mp h2
 exact (List.getElem_inj h).mp (e1.trans e2.symm)
theorem CMs.chs {cs:Nat→Addr}{X:Hp}{cl:List Cm}(h:CMs cs X cl)(hl:cl.length≤200):Chs cs (dtC cl) X (usC cl):=by
 refine ⟨fun i hi=>(h.o _ (zbv hi).1).ch,fun i hi=>(h.o _ (zbv hi).1).k,fun i hi=>(h.o _ (zbv hi).1).h1,fun i hi=>rfl,fun i j hi hj e=>?_,hl⟩
 have h1:(cl.map (·.p))[i]? = some (cl.getD i dfCm).p:=by rw [Xav,(zbv hi).2];rfl
 have h2:(cl.map (·.p))[j]? = some (cl.getD j dfCm).p:=by rw [Xav,(zbv hj).2];rfl
 rw [← show (cl.getD i dfCm).p=(cl.getD j dfCm).p from e] at h2
 exact nd_at (XaR.mp h.nd).1 h1 h2
theorem CMs.mod {cs:Nat→Addr}{X:Hp}{cl:List Cm}(h:CMs cs X cl):Mod (dtC cl) (fun i=>(cl.getD i dfCm).m) (fun i=>(cl.getD i dfCm).r) X (usC cl):=by
 refine ⟨fun i hi=>(h.o _ (zbv hi).1).md,fun i hi=>(h.o _ (zbv hi).1).k,fun i hi=>(h.o _ (zbv hi).1).h1,fun i hi=>rfl,fun i j hi hj e=>?_⟩
 have h1:(cl.map (·.r))[i]? = some (cl.getD i dfCm).r:=by rw [Xav,(zbv hi).2];rfl
 have h2:(cl.map (·.r))[j]? = some (cl.getD j dfCm).r:=by rw [Xav,(zbv hj).2];rfl
 rw [← show (cl.getD i dfCm).r=(cl.getD j dfCm).r from e] at h2
 exact nd_at (XaR.mp h.nd).2.1 h1 h2
theorem chL_cm (cl:List Cm):chL (dtC cl)=cl.map fun c=>V.ref c.x:=by
 unfold chL
 apply List.ext_getElem?
 intro i
 rw [Xav,Xav]
 by_cases h:i<cl.length
 ·rw [(zbv h).2,List.getElem?_range (show i<(dtC cl).m from h)]
  rfl
 ·rw [XaB (Nat.le_of_not_lt h),XaB (show (List.range (dtC cl).m).length≤i by rw [XaX];exact Nat.le_of_not_lt h)]
  rfl
theorem zi2 (cl:List Cm):mdL (dtC cl) (fun i=>(cl.getD i dfCm).m)=cl.map fun c=>V.ref c.m:=by
 unfold mdL
 apply List.ext_getElem?
 intro i
 rw [Xav,Xav]
 by_cases h:i<cl.length
 ·rw [(zbv h).2,List.getElem?_range (show i<(dtC cl).m from h)]
  rfl
 ·rw [XaB (Nat.le_of_not_lt h),XaB (show (List.range (dtC cl).m).length≤i by rw [XaX];exact Nat.le_of_not_lt h)]
  rfl
theorem zbS {H2 H':Hp}{x dx:Addr}{C:Addr}(hx:H2 x=none)(hdx:H2 dx=none)(ne:dx≠x)(k:KeepP x (upd (upd H2 dx (.own x)) x (.ins C dx [])) H'):Same H2 H':=fun a o e=>by
 have na:a≠x:=zaj e hx
 exact k a o na (by rw [zah na,zah (zaj e hdx)];exact e)
inductive spChip48 (cs:Nat→Addr)(vs:List V)(H:Hp)(Q:VK)(u3_:XK):Prop
 | mk (p:Addr) (n:Nat) (z0_:vs=[.ref p]) (z1_:Bg H p n) (z2_:n<2 ^ 29) (z3_:∀ (t:Addr) (c:Cm) (H':Hp),H' t=some (.tup [.ref c.x,.ref c.m])→H c.p=none→H c.r=none→H c.m=none→CmOk cs (noB p H') c→Bg H' p (n+20)→KeepP p H H'→Q (.ref t) H')
theorem zfw {f:Addr}{cs:Nat→Addr}{fd:FuncData}(F:Fun K "_law_chip" "_law_chip" zcw f fd)(T:Blt mg)(G_law_draw:Cal P w K mg base 1 "_law_draw" ["bag","many"] spDw)
  (GMFixed_1:Mak P w K mg base 3 "Fixed" (cs 1) [] (dP []) (spMkFH (cs 1))) (GMPipe_1:Mak P w K mg base 3 "Pipe" (cs 4) [] (dP []) (spMkP (cs 4))) (GMLatch_1:Mak P w K mg base 3 "Latch" (cs 2) [] (dP []) (spMk1H (cs 2) "latch")) (GMMeter_1:Mak P w K mg base 3 "Meter" (cs 3) [] (dP []) (spMk1H (cs 3) "meter")) (GMStore_2:Mak P w K mg base 3 "Store" (cs 0) [] (dP []) (spMkSH (cs 0))):FnOk P w K mg base CX0 5 f fd ["bag"] (spChip48 cs):=by
 refine F.ok sc_law_chip (by walk_at "l") (fun cdv A outer s H vs Q E hr h=>?_)
 ·obtain ⟨p,n,rfl,bg,hn,k⟩:=h
  refine ⟨_,(zad (@ps_L _ _ _ _ _ _ 1 sc_law_chip.nd (@pe_c _ _ _ _ _ _ _ _ _ _ G_law_draw (@zaa _ _ _ _ _ (@pv _ 0 _ _ (by rfl) (by walk_at "o") (by decide) (by decide)) (@zaa _ _ _ _ _ (@zaf _ _ _ _) (@zac _) (by rfl)) (by rfl)) (by exact hrm ( by assumption )) (by rfl) (by decide) (by rfl) (by rfl)) (by rfl) (by exact Or.inl rfl) (by rfl) (by walk_at "p"))
   (zad (@ps_L _ _ _ _ _ _ 2 sc_law_chip.nd (@pe_c _ _ _ _ _ _ _ _ _ _ G_law_draw (@zaa _ _ _ _ _ (@pv _ 0 _ _ (by rfl) (by walk_at "o") (by decide) (by decide)) (@zaa _ _ _ _ _ (@zaf _ _ _ _) (@zac _) (by rfl)) (by rfl)) (by exact hrm ( by assumption )) (by rfl) (by decide) (by rfl) (by rfl)) (by rfl) (by exact Or.inl rfl) (by rfl) (by walk_at "p"))
   (zad (@zaB _ _ _ _ _ _ _ _ (@zat _ _ _ _ _ _ _ _ zfo (@pv _ 1 _ _ (by rfl) (by walk_at "o") (by decide) (by decide)) (@zaf _ _ _ _) (zas _)) (@zad _ _ _ _ _ (@ps_L _ _ _ _ _ _ 3 sc_law_chip.nd (@pe_x _ _ _ _ _ _ _ zau (@zav _ _ _ _ (@zaa _ _ _ _ _ (@zaf _ _ _ _) (@zaa _ _ _ _ _ (@zaf _ _ _ _) (@zaa _ _ _ _ _ (@zaf _ _ _ _) (@zaa _ _ _ _ _ (@zaf _ _ _ _) (@zaa _ _ _ _ _ (@zaf _ _ _ _) (@zaa _ _ _ _ _ (@zaf _ _ _ _) (@zaa _ _ _ _ _ (@zaf _ _ _ _) (@zaa _ _ _ _ _ (@zaf _ _ _ _) (@zac _) (by rfl)) (by rfl)) (by rfl)) (by rfl)) (by rfl)) (by rfl)) (by rfl)) (by rfl))) (@pe_c _ _ _ _ _ _ _ _ _ _ G_law_draw (@zaa _ _ _ _ _ (@pv _ 0 _ _ (by rfl) (by walk_at "o") (by decide) (by decide)) (@zaa _ _ _ _ _ (@zaf _ _ _ _) (@zac _) (by rfl)) (by rfl)) (by exact hrm (by assumption)) (by rfl) (by decide) (by rfl) (by rfl)) (by exact fun _ _=>rfl)) (by rfl) (by exact Or.inl rfl) (by rfl) (by walk_at "p")) (@zag _ _ _ (@zal _ _ _ _ (@zaP _ _ _ _ _ (@zaa _ _ _ _ _ (@zcG _ _ _ _ _ _ _ _ _ _ _ GMStore_2 (hrm hr) rfl (@zaa _ _ _ _ _ (@pv _ 3 _ _ (by rfl) (by walk_at "o") (by decide) (by decide)) (@zaa _ _ _ _ _ (@pv _ 2 _ _ (by rfl) (by walk_at "o") (by decide) (by decide)) (@zac _) (by rfl)) (by rfl)) (by decide) (by rfl) (by rfl)) (@zaa _ _ _ _ _ (@zav _ _ _ _ (@zaa _ _ _ _ _ (@zbc _ _ _ _) (@zaa _ _ _ _ _ (@zaq _ _ _ _ _ _ _ _ zhj (@zav _ _ _ _ (@zaa _ _ _ _ _ (@pv _ 2 _ _ (by rfl) (by walk_at "o") (by decide) (by decide)) (@zac _) (by rfl))) (@pv _ 3 _ _ (by rfl) (by walk_at "o") (by decide) (by decide))) (@zaa _ _ _ _ _ (@zaf _ _ _ _) (@zac _) (by rfl)) (by rfl)) (by rfl))) (@zac _) (by rfl)) (by rfl)))))) (@zap _))
   (zad (@zaB _ _ _ _ _ _ _ _ (@zat _ _ _ _ _ _ _ _ zbO (@pv _ 1 _ _ (by rfl) (by walk_at "o") (by decide) (by decide)) (@zaf _ _ _ _) (zas _)) (@zad _ _ _ _ _ (@zdW _ (["k","bag"]) _ _ _ _ _ _ _ _ _ _ (4) _ _ _ [none,some 0] sc_law_chip.nd rfl rfl rfl (zaZ (by rfl)) (@zaX _ _ _ _ _ _ rfl T.range (@zaa _ _ _ _ _ (@zaq _ _ _ _ _ _ _ _ za2 (@zaf _ _ _ _) (@pe_c _ _ _ _ _ _ _ _ _ _ G_law_draw (@zaa _ _ _ _ _ (@pv _ 0 _ _ (by rfl) (by walk_at "o") (by decide) (by decide)) (@zaa _ _ _ _ _ (@zaf _ _ _ _) (@zac _) (by rfl)) (by rfl)) (by exact hrm (by assumption)) (by rfl) (by decide) (by rfl) (by rfl))) (@zac _) (by rfl)) (by rfl)) (fun _ _ _ _ _=>(@pg_L _ _ _ 0 (show (["k","bag"]:List Str).Nodup by decide +kernel) (by rfl) (by exact Or.inl rfl) (by walk_at "p"))) (fun _ _ _ _ _=>(@zdY _)) (fun _ _ _ _ _=>(@pe_c _ _ _ _ _ _ _ _ _ _ G_law_draw (@zaa _ _ _ _ _ (@pv _ 1 _ _ (by rfl) (by walk_at "o") (by decide) (by decide)) (@zaa _ _ _ _ _ (@zaf _ _ _ _) (@zac _) (by rfl)) (by rfl)) (by exact hrm (by assumption)) (by rfl) (by decide) (by rfl) (by rfl))) (by rfl) (by intro _;rfl)) (@zag _ _ _ (@zal _ _ _ _ (@zaP _ _ _ _ _ (@zaa _ _ _ _ _ (@zcG _ _ _ _ _ _ _ _ _ _ _ GMFixed_1 (hrm hr) rfl (@zaa _ _ _ _ _ (@pv _ 4 _ _ (by rfl) (by walk_at "o") (by decide) (by decide)) (@zac _) (by rfl)) (by decide) (by rfl) (by rfl)) (@zaa _ _ _ _ _ (@zav _ _ _ _ (@zaa _ _ _ _ _ (@zbc _ _ _ _) (@zaa _ _ _ _ _ (@zaH _ _ _ _ _ _ _ _ _ zbh (by rfl) T.list zcc (@zaa _ _ _ _ _ (@pv _ 4 _ _ (by rfl) (by walk_at "o") (by decide) (by decide)) (@zac _) (by rfl)) (by decide) (by decide) (by rfl) (by rfl)) (@zaa _ _ _ _ _ (@zaf _ _ _ _) (@zac _) (by rfl)) (by rfl)) (by rfl))) (@zac _) (by rfl)) (by rfl)))))) (@zap _))
   (zad (@zaB _ _ _ _ _ _ _ _ (@zat _ _ _ _ _ _ _ _ zbO (@pv _ 1 _ _ (by rfl) (by walk_at "o") (by decide) (by decide)) (@zaf _ _ _ _) (zas _)) (@zag _ _ _ (@zal _ _ _ _ (@zaP _ _ _ _ _ (@zaa _ _ _ _ _ (@zcG _ _ _ _ _ _ _ _ _ _ _ GMLatch_1 (hrm hr) rfl (@zaa _ _ _ _ _ (@pv _ 2 _ _ (by rfl) (by walk_at "o") (by decide) (by decide)) (@zac _) (by rfl)) (by decide) (by rfl) (by rfl)) (@zaa _ _ _ _ _ (@zav _ _ _ _ (@zaa _ _ _ _ _ (@zbc _ _ _ _) (@zaa _ _ _ _ _ (@zav _ _ _ _ (@zaa _ _ _ _ _ (@pv _ 2 _ _ (by rfl) (by walk_at "o") (by decide) (by decide)) (@zac _) (by rfl))) (@zaa _ _ _ _ _ (@zaf _ _ _ _) (@zac _) (by rfl)) (by rfl)) (by rfl))) (@zac _) (by rfl)) (by rfl))))) (@zap _))
   (zad (@zaB _ _ _ _ _ _ _ _ (@zat _ _ _ _ _ _ _ _ zbO (@pv _ 1 _ _ (by rfl) (by walk_at "o") (by decide) (by decide)) (@zaf _ _ _ _) (zas _)) (@zag _ _ _ (@zal _ _ _ _ (@zaP _ _ _ _ _ (@zaa _ _ _ _ _ (@zcG _ _ _ _ _ _ _ _ _ _ _ GMMeter_1 (hrm hr) rfl (@zaa _ _ _ _ _ (@pv _ 2 _ _ (by rfl) (by walk_at "o") (by decide) (by decide)) (@zac _) (by rfl)) (by decide) (by rfl) (by rfl)) (@zaa _ _ _ _ _ (@zav _ _ _ _ (@zaa _ _ _ _ _ (@zbc _ _ _ _) (@zaa _ _ _ _ _ (@zav _ _ _ _ (@zaa _ _ _ _ _ (@pv _ 2 _ _ (by rfl) (by walk_at "o") (by decide) (by decide)) (@zac _) (by rfl))) (@zaa _ _ _ _ _ (@zaf _ _ _ _) (@zac _) (by rfl)) (by rfl)) (by rfl))) (@zac _) (by rfl)) (by rfl))))) (@zap _))
   (zad (@ps_L _ _ _ _ _ _ 5 sc_law_chip.nd (@pe_x _ _ _ _ _ _ _ zau (@zav _ _ _ _ (@zaa _ _ _ _ _ (@zaq _ _ _ _ _ _ _ _ za2 (@zaf _ _ _ _) (@pe_c _ _ _ _ _ _ _ _ _ _ G_law_draw (@zaa _ _ _ _ _ (@pv _ 0 _ _ (by rfl) (by walk_at "o") (by decide) (by decide)) (@zaa _ _ _ _ _ (@zaf _ _ _ _) (@zac _) (by rfl)) (by rfl)) (by exact hrm ( by assumption )) (by rfl) (by decide) (by rfl) (by rfl))) (@zaa _ _ _ _ _ (@zaf _ _ _ _) (@zac _) (by rfl)) (by rfl))) (@zaq _ _ _ _ _ _ _ _ zcj (@pe_c _ _ _ _ _ _ _ _ _ _ G_law_draw (@zaa _ _ _ _ _ (@pv _ 0 _ _ (by rfl) (by walk_at "o") (by decide) (by decide)) (@zaa _ _ _ _ _ (@zaf _ _ _ _) (@zac _) (by rfl)) (by rfl)) (by exact hrm ( by assumption )) (by rfl) (by decide) (by rfl) (by rfl)) (@zaf _ _ _ _)) (by exact fun _ _=>rfl)) (by rfl) (by exact Or.inl rfl) (by rfl) (by walk_at "p"))
   (zag (@zal _ _ _ _ (@zaP _ _ _ _ _ (@zaa _ _ _ _ _ (@zcG _ _ _ _ _ _ _ _ _ _ _ GMPipe_1 (hrm hr) rfl (@zaa _ _ _ _ _ (@pv _ 5 _ _ (by rfl) (by walk_at "o") (by decide) (by decide)) (@zac _) (by rfl)) (by decide) (by rfl) (by rfl)) (@zaa _ _ _ _ _ (@zav _ _ _ _ (@zaa _ _ _ _ _ (@zbc _ _ _ _) (@zaa _ _ _ _ _ (@zav _ _ _ _ (@zac _)) (@zaa _ _ _ _ _ (@pv _ 5 _ _ (by rfl) (by walk_at "o") (by decide) (by decide)) (@zac _) (by rfl)) (by rfl)) (by rfl))) (@zac _) (by rfl)) (by rfl)))))))))))),?rd⟩
  have same_p:∀ {Z:Hp} {x dx p:Addr} {C:Addr},Z x=none→Z dx=none→dx≠x→upd (upd Z dx (.own x)) x (.ins C dx []) p=none→Z p=none:=fun {Z x dx p C} hx hdx ne h=>zeB ((zae (o:=.own x) hdx).trans (zae (o:=.ins C dx []) (by rw [zah (Ne.symm ne)];exact hx))) h
  have fin:∀ (x p' r:Addr) (kd n':Nat) (us:List Nat) (Y Z:Hp) (q:Nat),KeepP p H Y→Bg Y p q→q≤n+20→Same Y Z→Y p'=none→Y r=none→Chp cs Z x p' kd n' us→Z r=some (.lst (vN us))→Kd kd n' us→(kd=2∨kd=3→us.length=1)→p'≠r→3≤sizeLine∧∀ a,Z a=none→2≤sizeLine∧∀ t,upd Z a (.lst [.str (zcZ kd),.ref r,.int (n':Int)]) t=none→Q (.ref t) (upd (upd Z a (.lst [.str (zcZ kd),.ref r,.int (n':Int)])) t (.tup [.ref x,.ref a])):=fun x p' r kd n' us Y Z q kY gY hq sZ hp hr' hc er hk h1' hne=>by
   refine ⟨by decide,fun a ha=>⟨by decide,fun t ht=>?_⟩⟩
   have sa:=zae (o:=.lst [V.str (zcZ kd),.ref r,.int (n':Int)]) ha
   have st:=zae (o:=.tup [.ref x,.ref a]) ht
   obtain ⟨f1,g1⟩:=kY.free gY hp
   obtain ⟨f2,g2⟩:=kY.free gY hr'
   obtain ⟨f3,g3⟩:=kY.free gY (sZ.free ha)
   have gZ:=gY.same sZ
   have gx:x≠p:=fun z=>by
    obtain ⟨dx,e⟩:=hc.ex
    obtain ⟨a',c',e',_⟩:=gZ
    rw [z,e'] at e;cases e
   have hc':=hc.same (sa.trans st)
   refine k t ⟨x,p',a,r,kd,n',us⟩ _ zab f1 f2 f3 ⟨?_,⟨zaR g3 (st _ _ zab),zaR g2 (st _ _ (sa _ _ er))⟩,hk,h1',hne⟩ ((gZ.same (sa.trans st)).mono hq) (kY.trans (.of (sZ.trans (sa.trans st))))
   obtain ⟨dx,e⟩:=hc'.ex
   exact ⟨⟨dx,zaR gx e⟩,zaR g1 hc'.ls⟩
  
  refine zaC (fun σ X=>σ=L2.start ["bag","which","word","cells","words","room"] [V.ref p]∧X=H) (fun σ X=>∃ d:Nat,d<6∧σ=[some (.ref p),some (.int (d:Int)),none,none,none,none]∧Bg X p (n+1)∧KeepP p H X) ?_ ?_ _ _ ⟨rfl,rfl⟩
  ·rintro σ X ⟨rfl,rfl⟩ N hN
   exact ⟨_,rfl,p,6,n,rfl,bg,by omega,by decide,by decide,fun d X1 h1 bg1 k1=>hN _ _ ⟨d,by omega,rfl,bg1,zar k1⟩⟩
  rintro σ X ⟨d,hd,rfl,bgX,kX⟩
  refine zaC (fun σ Y=>σ=[some (.ref p),some (.int (d:Int)),none,none,none,none]∧Y=X) (fun σ Y=>∃ v:Nat,v≤255∧σ=[some (.ref p),some (.int (d:Int)),some (.int (v:Int)),none,none,none]∧Bg Y p (n+2)∧KeepP p H Y) ?_ ?_ _ _ ⟨rfl,rfl⟩
  ·rintro σ Y ⟨rfl,rfl⟩ N hN
   exact ⟨_,rfl,p,256,n+1,rfl,bgX,by omega,by decide,by decide,fun v X1 h1 bg1 k1=>hN _ _ ⟨v,by omega,rfl,bg1,kX.trans (zar k1)⟩⟩
  rintro σ Y ⟨v,hv,rfl,bgY,kY⟩
  clear bgX kX
  
  refine zaC (fun σ Z=>σ=[some (.ref p),some (.int (d:Int)),some (.int (v:Int)),none,none,none]∧Z=Y) (fun σ Z=>σ=[some (.ref p),some (.int (d:Int)),some (.int (v:Int)),none,none,none]∧Z=Y∧2≤d) ?_ ?_ _ _ ⟨rfl,rfl⟩
  ·rintro σ Z ⟨rfl,rfl⟩ N hN
   refine ⟨_,rfl,_,_,rfl,rfl,_,rfl,ite2 (fun h1=>?_) (fun h1=>zax (hN _ _ ⟨rfl,rfl,?_⟩))⟩
   ·refine ⟨by show 8≤sizeLine;decide,fun l hl=>⟨_,rfl,p,8,n+2,rfl,bgY.same (zae hl),by omega,by decide,by decide,fun i X1 hi bg1 k1=>?_⟩⟩
    have nl:=bgY.ne hl
    have el:X1 l=some (.lst [V.int 1,V.int 2,V.int 4,V.int 8,V.int 16,V.int 5,V.int 2,V.int 600]):=by rw [k1 l nl];exact zab
    have k2:=kY.trans ((KeepP.of (zae (o:=.lst [V.int 1,V.int 2,V.int 4,V.int 8,V.int 16,V.int 5,V.int 2,V.int 600]) hl)).trans (zar k1))
    obtain ⟨cn,c1,c2,ec⟩:∃ cn:Nat,1≤cn∧cn≤600∧atI [V.int 1,V.int 2,V.int 4,V.int 8,V.int 16,V.int 5,V.int 2,V.int 600] (i:Int)=some (.int (cn:Int)):=by
     rcases (show i=0∨i=1∨i=2∨i=3∨i=4∨i=5∨i=6∨i=7 by omega) with rfl | rfl | rfl | rfl | rfl | rfl | rfl | rfl
     ·exact ⟨1,by decide,by decide,rfl⟩
     ·exact ⟨2,by decide,by decide,rfl⟩
     ·exact ⟨4,by decide,by decide,rfl⟩
     ·exact ⟨8,by decide,by decide,rfl⟩
     ·exact ⟨16,by decide,by decide,rfl⟩
     ·exact ⟨5,by decide,by decide,rfl⟩
     ·exact ⟨2,by decide,by decide,rfl⟩
     ·exact ⟨600,by decide,by decide,rfl⟩
    refine ⟨l,_,_,_,rfl,rfl,SqL.of el,ec,?_⟩
    refine ⟨_,rfl,_,rfl,fun x dx hx hdx ne=>⟨x,dx,cn,(v:Int),rfl,c1,by omega,by omega,by omega,zab,fun p' Z1 hp ex el kp=>⟨rfl,?_⟩⟩⟩
    have sm:=zbS hx hdx ne kp
    have hp1:=same_p hx hdx ne hp
    refine ⟨_,rfl,by show 1≤sizeLine;decide,fun g hg=>⟨_,rfl,g,_,_,rfl,rfl,zab,by omega,by omega,?_,fun r hr'=>?_⟩⟩
    ·rw [Xai];exact Xam (show 1 * cn≤600 by omega) (by decide)
    have sg:=zae (o:=.lst [V.int (v:Int)]) hg
    have er:(List.replicate ((cn:Int)).toNat [V.int (v:Int)]).flatten=vN (List.replicate cn v):=by rw [Xai];exact zic cn v
    rw [er]
    have sr:=zae (o:=.lst (vN (List.replicate cn v))) hr'
    have elv:Z1 p'=some (.lst (vN (List.replicate cn v))):=by rw [el];unfold vN;rw [List.map_replicate]
    refine fin x p' r 0 0 (List.replicate cn v) X1 _ (n+3) k2 bg1 (by omega) (sm.trans sg |>.trans sr) hp1 ((sm.trans sg).free hr') ⟨?_,(sg.trans sr) _ _ elv⟩ zab ⟨by decide,fun w hw=>by rw [List.eq_of_mem_replicate hw];exact hv,by rw [Xbj];omega,fun _=>by rw [Xbj];exact c1,(fun h=>absurd h (by decide)),(fun h=>absurd h (by decide)),by decide⟩ (fun h=>by rcases h with h | h <;> cases h) ?_
    ·obtain ⟨d0,e0⟩:=ex
     exact ⟨d0,(sg.trans sr) _ _ e0⟩
    ·intro z
     have:=sg _ _ elv
     rw [z,hr'] at this;cases this
   ·have:=of_decide_eq_false (Bool.eq_false_iff.mpr h1);omega
  rintro σ Z ⟨rfl,rfl,d2⟩
  
  refine zaC (fun σ Y=>σ=[some (.ref p),some (.int (d:Int)),some (.int (v:Int)),none,none,none]∧Y=Z) (fun σ Y=>σ=[some (.ref p),some (.int (d:Int)),some (.int (v:Int)),none,none,none]∧Y=Z) ?_ ?_ _ _ ⟨rfl,rfl⟩
  ·rintro σ Y ⟨rfl,rfl⟩ N hN
   refine ⟨_,rfl,rfl,_,rfl,ite2 (fun _=>?_) (fun _=>zax (hN _ _ ⟨rfl,rfl⟩))⟩
   refine ⟨_,rfl,p,8,n+2,rfl,bgY,by omega,by decide,by decide,fun i X1 hi bg1 k1=>⟨_,_,rfl,rfl,_,rfl,by omega,by omega,?_⟩⟩
   rw [show ((1:Int)+(i:Int)).toNat=1+i by omega]
   have k2:=kY.trans (zar k1)
   have i8:i<8:=by omega
   refine zcE (n:=1+i) (fun j ys σ W=>∃ (v0:Option V) (l:List Nat),σ=[v0,some (.ref p)]∧ys=vN l∧l.length=j∧(∀ w∈l,w≤255)∧Bg W p (n+3+j)∧KeepP p X1 W) (Xam (show 1+i≤8 by omega) (by decide)) ⟨none,[],rfl,rfl,rfl,(fun _ h=>nomatch h),bg1,fun _ _ _ e=>e⟩ ?_ ?_ ?_
   ·rintro j ys σ W ⟨v0,l,rfl,rfl,hl,_⟩
    rw [zao,hl];exact Xae _
   ·rintro j ys σ W hj ⟨v0,l,rfl,rfl,hl,hw,bgW,kW⟩
    refine ⟨_,rfl,p,256,n+3+j,rfl,bgW,by omega,by decide,by decide,fun u W1 hu bg2 k3=>?_⟩
    refine ⟨_,l ++ [u],rfl,(zd5 _ _).symm,by simp [hl],fun w hw'=>?_,bg2,kW.trans (zar k3)⟩
    rcases XaP.mp hw' with h | h
    ·exact hw w h
    ·rw [Xad.mp h];omega
   ·rintro ys σ W ⟨v0,l,rfl,rfl,hl,hw,bgW,kW⟩ g hg
    have sg:=zae (o:=.lst (vN l)) hg
    refine ⟨_,rfl,fun x dx hx hdx ne=>⟨x,dx,g,l,rfl,?_,by omega,by omega,hw,zab,fun p' Z1 hp ex el kp=>⟨rfl,?_⟩⟩⟩
    ·rw [zah (fun z=>by rw [← z,zab] at hx;cases hx),zah (fun z=>by rw [← z,zab] at hdx;cases hdx)];exact zab
    have sm:=zbS hx hdx ne kp
    have hp1:=same_p hx hdx ne hp
    have eg:=sm _ _ (zab (H:=W) (a:=g) (o:=.lst (vN l)))
    refine ⟨_,rfl,g,_,rfl,.inl (SqL.of eg),fun r hr'=>?_⟩
    have sr:=zae (o:=.lst (vN l)) hr'
    refine fin x p' r 1 0 l _ _ (n+3+(1+i)) ((k2.trans kW).trans (.of sg)) (bgW.same sg) (by omega) (sm.trans sr) hp1 (sm.free hr') ⟨?_,sr _ _ el⟩ zab ⟨by decide,hw,by omega,fun _=>by omega,(fun h=>absurd h (by decide)),(fun h=>absurd h (by decide)),by decide⟩ (fun h=>by rcases h with h | h <;> cases h) ?_
    ·obtain ⟨d0,e0⟩:=ex
     exact ⟨d0,sr _ _ e0⟩
    ·intro z
     rw [z,hr'] at el;cases el
  rintro σ Y ⟨rfl,rfl⟩
  have one:∀ (x dx p':Addr) (kd:Nat) (Z1:Hp),kd=2∨kd=3→Y x=none→Y dx=none→dx≠x→upd (upd Y dx (.own x)) x (.ins (cs kd) dx []) p'=none→(∃ dx,Z1 x=some (.ins (cs kd) dx [("head",.str (zcZ kd)),("held",.ref p')]))→Z1 p'=some (.lst [.int (v:Int)])→KeepP x (upd (upd Y dx (.own x)) x (.ins (cs kd) dx [])) Z1→∀ r,Z1 r=none→3≤sizeLine∧∀ a,upd Z1 r (.lst [.int (v:Int)]) a=none→2≤sizeLine∧∀ t,upd (upd Z1 r (.lst [.int (v:Int)])) a (.lst [.str (zcZ kd),.ref r,.int ((0:Nat):Int)]) t=none→Q (.ref t) (upd (upd (upd Z1 r (.lst [.int (v:Int)])) a (.lst [.str (zcZ kd),.ref r,.int ((0:Nat):Int)])) t (.tup [.ref x,.ref a])):=fun x dx p' kd Z1 hkd hx hdx ne hp ex el kp r hr'=>by
   have sm:=zbS hx hdx ne kp
   have hp1:=same_p hx hdx ne hp
   have sr:=zae (o:=.lst [V.int (v:Int)]) hr'
   refine fin x p' r kd 0 [v] Y _ (n+2) kY bgY (by omega) (sm.trans sr) hp1 (sm.free hr') ⟨?_,sr _ _ el⟩ zab ⟨by omega,fun w hw=>by rw [Xad] at hw;omega,by show 1≤4096;decide,fun _=>Xae _,fun _=>rfl,(fun h=>by omega),by decide⟩ (fun _=>rfl) ?_
   ·obtain ⟨d0,e0⟩:=ex
    refine ⟨d0,sr _ _ ?_⟩
    rw [e0]
    rcases hkd with rfl | rfl <;> rfl
   ·intro z
    rw [z,hr'] at el;cases el
  refine zaC (fun σ Z=>σ=[some (.ref p),some (.int (d:Int)),some (.int (v:Int)),none,none,none]∧Z=Y) (fun σ Z=>σ=[some (.ref p),some (.int (d:Int)),some (.int (v:Int)),none,none,none]∧Z=Y) ?_ ?_ _ _ ⟨rfl,rfl⟩
  ·rintro σ Z ⟨rfl,rfl⟩ N hN
   refine ⟨_,rfl,rfl,_,rfl,ite2 (fun _=>?_) (fun _=>zax (hN _ _ ⟨rfl,rfl⟩))⟩
   refine ⟨_,rfl,fun x dx hx hdx ne=>⟨x,dx,(v:Int),rfl,by omega,by omega,zab,fun p' Z1 hp ex el kp=>⟨rfl,?_⟩⟩⟩
   exact ⟨_,rfl,by show 1≤sizeLine;decide,one x dx p' 2 Z1 (.inl rfl) hx hdx ne hp ex el kp⟩
  rintro σ Z ⟨rfl,rfl⟩
  refine zaC (fun σ Y=>σ=[some (.ref p),some (.int (d:Int)),some (.int (v:Int)),none,none,none]∧Y=Z) (fun σ Y=>σ=[some (.ref p),some (.int (d:Int)),some (.int (v:Int)),none,none,none]∧Y=Z) ?_ ?_ _ _ ⟨rfl,rfl⟩
  ·rintro σ Y ⟨rfl,rfl⟩ N hN
   refine ⟨_,rfl,rfl,_,rfl,ite2 (fun _=>?_) (fun _=>zax (hN _ _ ⟨rfl,rfl⟩))⟩
   refine ⟨_,rfl,fun x dx hx hdx ne=>⟨x,dx,(v:Int),rfl,by omega,by omega,zab,fun p' Z1 hp ex el kp=>⟨rfl,?_⟩⟩⟩
   exact ⟨_,rfl,by show 1≤sizeLine;decide,one x dx p' 3 Z1 (.inr rfl) hx hdx ne hp ex el kp⟩
  rintro σ Y ⟨rfl,rfl⟩
  
  refine zaC (fun σ Z=>σ=[some (.ref p),some (.int (d:Int)),some (.int (v:Int)),none,none,none]∧Z=Y) (fun σ Z=>∃ rm:Nat,1≤rm∧rm≤20∧σ=[some (.ref p),some (.int (d:Int)),some (.int (v:Int)),none,none,some (.int (rm:Int))]∧Bg Z p (n+4)∧KeepP p H Z) ?_ ?_ _ _ ⟨rfl,rfl⟩
  ·rintro σ Z ⟨rfl,rfl⟩ N hN
   refine ⟨_,rfl,p,5,n+2,rfl,bgY,by omega,by decide,by decide,fun i X1 hi bg1 k1=>⟨_,_,rfl,rfl,by show 2≤sizeLine;decide,fun l hl=>?_⟩⟩
   refine ⟨_,rfl,p,6,n+3,rfl,bg1.same (zae hl),by omega,by decide,by decide,fun j X2 hj bg2 k2=>⟨_,_,rfl,rfl,⟨by decide,by decide +kernel⟩,?_⟩⟩
   have el:X2 l=some (.lst [V.int ((1:Int)+(i:Int)),V.int 20]):=by rw [k2 l (bg1.ne hl)];exact zab
   obtain ⟨rm,c1,c2,ec⟩:∃ rm:Nat,1≤rm∧rm≤20∧atI [V.int ((1:Int)+(i:Int)),V.int 20] ((j:Int) / 5)=some (.int (rm:Int)):=by
    by_cases h5:j<5
    ·exact ⟨1+i,by omega,by omega,by rw [show (j:Int) / 5=((0:Nat):Int) by omega,show (1:Int)+(i:Int)=((1+i:Nat):Int) by omega];rfl⟩
    ·exact ⟨20,by decide,by decide,by rw [show (j:Int) / 5=((1:Nat):Int) by omega];rfl⟩
   exact ⟨l,_,_,_,rfl,rfl,SqL.of el,ec,hN _ _ ⟨rm,c1,c2,rfl,bg2,kY.trans ((zar k1).trans ((KeepP.of (zae hl)).trans (zar k2)))⟩⟩
  rintro σ Z ⟨rm,c1,c2,rfl,bgZ,kZ⟩
  refine ⟨_,rfl,fun x dx hx hdx ne=>⟨x,dx,rm,rfl,c1,by omega,zab,fun p' Z1 hp ob kp=>⟨rfl,?_⟩⟩⟩
  have sm:=zbS hx hdx ne kp
  have hp1:=same_p hx hdx ne hp
  refine ⟨by show 0≤sizeLine;decide,fun r hr'=>⟨_,rfl,?_⟩⟩
  have sr:=zae (o:=.lst []) hr'
  refine fin x p' r 4 rm [] Z _ (n+4) kZ bgZ (by omega) (sm.trans sr) hp1 (sm.free hr') ⟨?_,sr _ _ ob.ls⟩ zab ⟨by decide,(fun w hw=>nomatch hw),by decide,(fun h=>absurd rfl h),(fun h=>absurd h (by decide)),fun _=>⟨Nat.zero_le _,c1⟩,by omega⟩ (fun h=>by rcases h with h | h <;> cases h) ?_
  ·obtain ⟨d0,e0⟩:=ob.ex
   exact ⟨d0,sr _ _ e0⟩
  ·intro z
   have:=ob.ls
   rw [z,hr'] at this;cases this
abbrev zb5:Stmt:=top 70
theorem sc_law_chips:FnScope ["bag","chips","models","k","chip","model"] ["bag"] (zai zb5):=sck rfl rfl rfl (by decide +kernel)
structure Cb8 (cs:Nat→Addr)(p:Addr)(X:Hp)(CL ML:Addr)(cl:List Cm):Prop where
 eC:noB p X CL=some (.lst (cl.map fun c=>.ref c.x))
 eM:noB p X ML=some (.lst (cl.map fun c=>.ref c.m))
 C:CMs cs (noB p X) cl
 nCM:CL≠ML
 f:∀ c∈cl,c.x≠CL∧c.x≠ML∧c.p≠CL∧c.p≠ML∧c.m≠CL∧c.m≠ML∧c.r≠CL∧c.r≠ML
 k0:∃ c r,cl=c :: r∧c.kd=2
theorem Cb8.keep {cs:Nat→Addr}{p:Addr}{X Y:Hp}{CL ML:Addr}{cl:List Cm}(h:Cb8 cs p X CL ML cl)(k:KeepP p X Y):Cb8 cs p Y CL ML cl:=⟨k.nob _ _ h.eC,k.nob _ _ h.eM,h.C.same k.nob,h.nCM,h.f,h.k0⟩
inductive spChips48 (cs:Nat→Addr)(vs:List V)(H:Hp)(Q:VK)(u3_:XK):Prop
 | mk (p:Addr) (n:Nat) (z0_:vs=[.ref p]) (z1_:Bg H p n) (z2_:n<2 ^ 28) (z3_:∀ (t CL ML:Addr) (cl:List Cm) (H':Hp),H' t=some (.tup [.ref CL,.ref ML])→Cb8 cs p H' CL ML cl→cl.length≤13→Bg H' p (n+300)→KeepP p H H'→Q (.ref t) H')
theorem zeL {f:Addr}{cs:Nat→Addr}{fd:FuncData}(F:Fun K "_law_chips" "_law_chips" zb5 f fd)(T:Blt mg)(G_law_draw:Cal P w K mg base 1 "_law_draw" ["bag","many"] spDw)(G_law_chip:Cal P w K mg base 5 "_law_chip" ["bag"] (spChip48 cs))(GMLatch_0:Mak P w K mg base 3 "Latch" (cs 2) [] (dP [.int 0]) (spMk1H (cs 2) "latch")):FnOk P w K mg base CX0 6 f fd ["bag"] (spChips48 cs):=by
 refine F.ok sc_law_chips (by walk_at "l") (fun cdv A outer s H vs Q E hr h=>?_)
 ·obtain ⟨p,n,rfl,bg,hn,k⟩:=h
  refine ⟨_,(zad (@ps_L _ _ _ _ _ _ 1 sc_law_chips.nd (@zav _ _ _ _ (@zaa _ _ _ _ _ (@zjx _ _ _ _ _ _ _ _ GMLatch_0 (hrm hr) rfl (by decide)) (@zac _) (by rfl))) (by rfl) (by exact Or.inl rfl) (by rfl) (by walk_at "p"))
   (zad (@ps_L _ _ _ _ _ _ 2 sc_law_chips.nd (@zav _ _ _ _ (@zaa _ _ _ _ _ (@zav _ _ _ _ (@zaa _ _ _ _ _ (@zbc _ _ _ _) (@zaa _ _ _ _ _ (@zav _ _ _ _ (@zaa _ _ _ _ _ (@zaf _ _ _ _) (@zac _) (by rfl))) (@zaa _ _ _ _ _ (@zaf _ _ _ _) (@zac _) (by rfl)) (by rfl)) (by rfl))) (@zac _) (by rfl))) (by rfl) (by exact Or.inl rfl) (by rfl) (by walk_at "p"))
   (zad (@zb0 _ _ _ _ _ _ _ _ PassesOwn.never rfl (@zaX _ _ _ _ _ _ rfl T.range (@zaa _ _ _ _ _ (@pe_x _ _ _ _ _ _ _ zau (@zav _ _ _ _ (@zaa _ _ _ _ _ (@zaq _ _ _ _ _ _ _ _ za2 (@zaf _ _ _ _) (@pe_c _ _ _ _ _ _ _ _ _ _ G_law_draw (@zaa _ _ _ _ _ (@pv _ 0 _ _ (by rfl) (by walk_at "o") (by decide) (by decide)) (@zaa _ _ _ _ _ (@zaf _ _ _ _) (@zac _) (by rfl)) (by rfl)) (by exact hrm ( by assumption )) (by rfl) (by decide) (by rfl) (by rfl))) (@zaa _ _ _ _ _ (@zaq _ _ _ _ _ _ _ _ za2 (@zaf _ _ _ _) (@pe_c _ _ _ _ _ _ _ _ _ _ G_law_draw (@zaa _ _ _ _ _ (@pv _ 0 _ _ (by rfl) (by walk_at "o") (by decide) (by decide)) (@zaa _ _ _ _ _ (@zaf _ _ _ _) (@zac _) (by rfl)) (by rfl)) (by exact hrm ( by assumption )) (by rfl) (by decide) (by rfl) (by rfl))) (@zac _) (by rfl)) (by rfl))) (@zaq _ _ _ _ _ _ _ _ zcj (@pe_c _ _ _ _ _ _ _ _ _ _ G_law_draw (@zaa _ _ _ _ _ (@pv _ 0 _ _ (by rfl) (by walk_at "o") (by decide) (by decide)) (@zaa _ _ _ _ _ (@zaf _ _ _ _) (@zac _) (by rfl)) (by rfl)) (by exact hrm ( by assumption )) (by rfl) (by decide) (by rfl) (by rfl)) (@zaf _ _ _ _)) (by exact fun _ _=>rfl)) (@zac _) (by rfl)) (by rfl)) (@pg_L _ _ _ 3 sc_law_chips.nd (by rfl) (by exact Or.inl rfl) (by walk_at "p")) (@zad _ _ _ _ _ (@zch _ _ _ _ _ _ (@pe_c _ _ _ _ _ _ _ _ _ _ G_law_chip (@zaa _ _ _ _ _ (@pv _ 0 _ _ (by rfl) (by walk_at "o") (by decide) (by decide)) (@zac _) (by rfl)) (by exact hrm (by assumption)) (by rfl) (by decide) (by rfl) (by rfl)) (@zbs _ _ _ _ _ _ rfl (@zan _ _ _ _ _ (@pg_L _ _ _ 4 sc_law_chips.nd (by rfl) (by exact Or.inl rfl) (by walk_at "p")) (@zan _ _ _ _ _ (@pg_L _ _ _ 5 sc_law_chips.nd (by rfl) (by exact Or.inl rfl) (by walk_at "p")) (@zaV _) (by rfl)) (by rfl)) (by rfl) (by rfl)) (by rfl) (by rfl) (by rfl)) (@zad _ _ _ _ _ (@zaI _ _ _ _ (@zgd _ _ _ _ _ _ _ _ _ _ _ _ PySem.F.plainAttrs_list PySem.F.slot_list_append PySem.F.type_list_append zbR (@pv _ 1 _ _ (by rfl) (by walk_at "o") (by decide) (by decide)) (@zaa _ _ _ _ _ (@pv _ 4 _ _ (by rfl) (by walk_at "o") (by decide) (by decide)) (@zac _) (by rfl)) (by rfl) (by rfl) (by rfl) (by rfl) (by rfl)) (by rfl)) (@zag _ _ _ (@zaI _ _ _ _ (@zgd _ _ _ _ _ _ _ _ _ _ _ _ PySem.F.plainAttrs_list PySem.F.slot_list_append PySem.F.type_list_append zbR (@pv _ 2 _ _ (by rfl) (by walk_at "o") (by decide) (by decide)) (@zaa _ _ _ _ _ (@pv _ 5 _ _ (by rfl) (by walk_at "o") (by decide) (by decide)) (@zac _) (by rfl)) (by rfl) (by rfl) (by rfl) (by rfl) (by rfl)) (by rfl))))) (by intro _;rfl))
   (zag (@zal _ _ _ _ (@zaP _ _ _ _ _ (@zaa _ _ _ _ _ (@pv _ 1 _ _ (by rfl) (by walk_at "o") (by decide) (by decide)) (@zaa _ _ _ _ _ (@pv _ 2 _ _ (by rfl) (by walk_at "o") (by decide) (by decide)) (@zac _) (by rfl)) (by rfl)))))))),?rd⟩
  have K0:Kd 2 0 [0]:=⟨by decide,(fun w hw=>by rw [Xad] at hw;omega),by show 1≤4096;decide,fun _=>Xae _,fun _=>rfl,fun h=>absurd h (by decide),by decide⟩
  
  refine zaC (fun σ X=>σ=L2.start ["bag","chips","models","k","chip","model"] [V.ref p]∧X=H) (fun σ X=>∃ (CL x p0:Addr),σ=[some (.ref p),some (.ref CL),none,none,none,none]∧X CL=some (.lst [.ref x])∧H CL=none∧H p0=none∧H x=none∧CL≠p0∧Chp cs X x p0 2 0 [0]∧Same H X) ?_ ?_ _ _ ⟨rfl,rfl⟩
  ·rintro σ X ⟨rfl,rfl⟩ N hN
   refine fun x dx hx hdx ne=>⟨x,dx,0,rfl,by decide,by decide,zab,fun p0 Z1 hp ex el kp=>⟨rfl,by show 1≤sizeLine;decide,fun CL hCL=>?_⟩⟩
   have sm:=zbS hx hdx ne kp
   have hp1:X p0=none:=zeB ((zae (o:=.own x) hdx).trans (zae (o:=.ins (cs 2) dx []) (by rw [zah (Ne.symm ne)];exact hx))) hp
   have sC:=zae (o:=.lst [V.ref x]) hCL
   refine hN _ _ ⟨CL,x,p0,rfl,zab,sm.free hCL,hp1,hx,(fun z=>by rw [z,el] at hCL;cases hCL),⟨?_,sC _ _ el⟩,sm.trans sC⟩
   obtain ⟨d0,e0⟩:=ex
   exact ⟨d0,sC _ _ e0⟩
  rintro σ X ⟨CL,x,p0,rfl,eC,hC,hp0,hx0,nC0,ch,sX⟩
  refine zaC (fun σ Y=>σ=[some (.ref p),some (.ref CL),none,none,none,none]∧Y=X) (fun σ Y=>∃ ML cl,σ=[some (.ref p),some (.ref CL),some (.ref ML),none,none,none]∧Cb8 cs p Y CL ML cl∧cl.length=1∧Bg Y p n∧H ML=none∧KeepP p H Y) ?_ ?_ _ _ ⟨rfl,rfl⟩
  ·rintro σ Y ⟨rfl,rfl⟩ N hN
   refine ⟨by show 1≤sizeLine;decide,fun r hr'=>⟨by show 3≤sizeLine;decide,fun a ha=>⟨by show 1≤sizeLine;decide,fun ML hML=>?_⟩⟩⟩
   have s1:=zae (o:=.lst [V.int 0]) hr'
   have s2:=zae (o:=.lst [V.str "latch",.ref r,.int 0]) ha
   have s3:=zae (o:=.lst [V.ref a]) hML
   have bgY:=bg.same sX
   have er:upd (upd (upd Y r (.lst [V.int 0])) a (.lst [V.str "latch",.ref r,.int 0])) ML (.lst [V.ref a]) r=some (.lst [V.int 0]):=s3 _ _ (s2 _ _ zab)
   have ea:upd (upd (upd Y r (.lst [V.int 0])) a (.lst [V.str "latch",.ref r,.int 0])) ML (.lst [V.ref a]) a=some (.lst [V.str "latch",.ref r,.int 0]):=s3 _ _ zab
   have eMl:upd (upd (upd Y r (.lst [V.int 0])) a (.lst [V.str "latch",.ref r,.int 0])) ML (.lst [V.ref a]) ML=some (.lst [V.ref a]):=zab
   have sA:=(s1.trans s2).trans s3
   have e1:=sA _ _ eC
   have ch1:=ch.same sA
   have gA:=bgY.same sA
   have hr0:Y r=none:=hr'
   have ha0:Y a=none:=s1.free ha
   have hM0:Y ML=none:=(s1.trans s2).free hML
   have nar:r≠ML:=zaj (s2 _ _ zab) hML
   have naM:a≠ML:=zaj zab hML
   generalize upd (upd (upd Y r (.lst [V.int 0])) a (.lst [V.str "latch",.ref r,.int 0])) ML (.lst [V.ref a])=Z at *
   have np:∀ {q:Addr},Y q=none→q≠p:=fun {q} h=>bgY.ne h
   have nq:∀ {q:Addr},H q=none→q≠p:=fun {q} h=>bg.ne h
   obtain ⟨d0,e0⟩:=ch1.ex
   obtain ⟨d1,e1x⟩:=ch.ex
   have nnY:∀ {q z:Addr} {o:HO},Y q=some o→Y z=none→q≠z:=fun {q z o} h1 h2 e=>by rw [e,h2] at h1;cases h1
   refine hN _ _ ⟨ML,[⟨x,p0,a,r,2,0,[0]⟩],rfl,⟨zaR (nq hC) e1,zaR (np hM0) eMl,⟨fun c hc=>?_,?_⟩,nnY eC hM0,fun c hc=>?_,_,_,rfl,rfl⟩,rfl,gA,sX.free hM0,.of (sX.trans sA)⟩
   ·rw [Xad.mp hc]
    exact ⟨⟨⟨d0,zaR (nq hx0) e0⟩,zaR (nq hp0) ch1.ls⟩,⟨zaR (np ha0) ea,zaR (np hr0) er⟩,K0,fun _=>rfl,nnY ch.ls hr0⟩
   ·show [p0,r].Nodup
    have:=nnY ch.ls hr0
    simp [this]
   ·rw [Xad.mp hc]
    exact ⟨(fun z=>by have z:x=CL:=z;rw [z,eC] at e1x;cases e1x),nnY e1x hM0,Ne.symm nC0,nnY ch.ls hM0,Ne.symm (nnY eC ha0),naM,Ne.symm (nnY eC hr0),nar⟩
  rintro σ Y ⟨ML,cl0,rfl,hB,hl0,bgY,hML,kY⟩
  
  refine ⟨_,rfl,p,5,n,rfl,bgY,by omega,by decide,by decide,fun i1 X1 hi1 bg1 k1=>⟨_,_,rfl,rfl,?_⟩⟩
  refine ⟨_,rfl,p,4,n+1,rfl,bg1,by omega,by decide,by decide,fun i2 X2 hi2 bg2 k2=>⟨_,_,rfl,rfl,by show 2≤sizeLine;decide,fun l hl=>?_⟩⟩
  refine ⟨_,rfl,p,8,n+2,rfl,bg2.same (zae hl),by omega,by decide,by decide,fun i3 X3 hi3 bg3 k3=>⟨_,_,rfl,rfl,⟨by decide,by decide +kernel⟩,?_⟩⟩
  have el:X3 l=some (.lst [V.int ((1:Int)+(i1:Int)),V.int ((9:Int)+(i2:Int))]):=by rw [k3 l (bg2.ne hl)];exact zab
  obtain ⟨cn,c2,ec⟩:∃ cn:Nat,cn≤12∧atI [V.int ((1:Int)+(i1:Int)),V.int ((9:Int)+(i2:Int))] ((i3:Int) / 7)=some (.int (cn:Int)):=by
   by_cases h7:i3<7
   ·exact ⟨1+i1,by omega,by rw [show (i3:Int) / 7=((0:Nat):Int) by omega,show (1:Int)+(i1:Int)=((1+i1:Nat):Int) by omega];rfl⟩
   ·exact ⟨9+i2,by omega,by rw [show (i3:Int) / 7=((1:Nat):Int) by omega,show (9:Int)+(i2:Int)=((9+i2:Nat):Int) by omega];rfl⟩
  have kY3:KeepP p Y X3:=(zar k1).trans ((zar k2).trans ((KeepP.of (zae hl)).trans (zar k3)))
  refine ⟨l,_,_,_,rfl,rfl,SqL.of el,ec,_,rfl,by omega,by omega,?_⟩
  rw [Xai]
  refine zbT (n:=cn) (fun i σ X=>∃ (v3 v4 v5:Option V) (cl:List Cm),σ=[some (.ref p),some (.ref CL),some (.ref ML),v3,v4,v5]∧Cb8 cs p X CL ML cl∧cl.length=i+1∧Bg X p (n+3+20 * i)∧KeepP p H X) ⟨_,_,_,cl0,rfl,hB.keep kY3,by omega,bg3,kY.trans kY3⟩ ?_ ?_
  ·rintro i σ X hi ⟨v3,v4,v5,cl,rfl,hB,hl1,bgX,kX⟩
   refine ⟨_,rfl,p,_,rfl,bgX,by omega,fun t c X1 et hp hr' hm ok bg1 k1=>zdE et ?_⟩
   have h1:=hB.keep k1
   obtain ⟨nC,eC1⟩:=zaD h1.eC
   obtain ⟨nM,eM1⟩:=zaD h1.eM
   obtain ⟨_,eC0⟩:=zaD hB.eC
   obtain ⟨_,eM0⟩:=zaD hB.eM
   have nn:∀ {q z:Addr} {o:HO},X q=some o→X z=none→z≠q:=fun {q z o} h1 h2 e=>by rw [e,h1] at h2;cases h2
   have fN:∀ {a:Addr},X a=none→noB p X a=none:=fun {a} h=>by
    by_cases e:a=p
    ·rw [e];exact zfS
    ·rw [zd0 e];exact h
   have hC1:=hB.C.add k1.nob (fN hp) (fN hr') ok
   have nx:∀ {q:Addr} {l:List V},X1 q=some (.lst l)→c.x≠q:=fun {q l} h z=>by
    obtain ⟨dx,e⟩:=ok.ch.ex
    have e:=(zaD e).2
    rw [z,h] at e;cases e
   have hF1:∀ d∈cl ++ [c],d.x≠CL∧d.x≠ML∧d.p≠CL∧d.p≠ML∧d.m≠CL∧d.m≠ML∧d.r≠CL∧d.r≠ML:=fun d hd=>by
    rcases XaP.mp hd with hd | hd
    ·exact hB.f d hd
    ·rw [Xad.mp hd]
     exact ⟨nx eC1,nx eM1,nn eC0 hp,nn eM0 hp,nn eC0 hm,nn eM0 hm,nn eC0 hr',nn eM0 hr'⟩
   try dsimp only [zaA,List.set]
   refine ⟨_,rfl,.inl ⟨rfl,_,SqL.of eC1⟩,_,rfl,CL,_,_,rfl,rfl,eC1,?_,?_⟩
   ·rw [Xal];exact Xa9 (show cl.length≤13 by omega) (by decide)
   have eM2:upd X1 CL (.lst ((cl.map fun c=>V.ref c.x) ++ [.ref c.x])) ML=some (.lst (cl.map fun c=>.ref c.m)):=by rw [zah (Ne.symm hB.nCM)];exact eM1
   refine ⟨_,rfl,.inl ⟨rfl,_,SqL.of eM2⟩,_,rfl,ML,_,_,rfl,rfl,eM2,?_,?_⟩
   ·rw [Xal];exact Xa9 (show cl.length≤13 by omega) (by decide)
   have hCx:H CL=none:=hC
   refine ⟨_,_,_,cl ++ [c],rfl,⟨?_,?_,?_,hB.nCM,hF1,?_⟩,by simp [hl1],?_,fun z o hz ez=>?_⟩
   ·rw [zd0 nC,zah hB.nCM,zab,Xa2];rfl
   ·rw [zd0 nM,zab,Xa2];rfl
   ·rw [zht nM,zht nC]
    exact (hC1.updL fun c hc=>let f:=hF1 c hc;⟨f.1,f.2.2.1,f.2.2.2.2.1,f.2.2.2.2.2.2.1⟩).updL fun c hc=>let f:=hF1 c hc;⟨f.2.1,f.2.2.2.1,f.2.2.2.2.2.1,f.2.2.2.2.2.2.2⟩
   ·obtain ⟨c',r',rfl,hk⟩:=hB.k0
    exact ⟨c',r' ++ [c],rfl,hk⟩
   ·obtain ⟨a',c',e',q⟩:=bg1
    exact ⟨a',c',by rw [zah (Ne.symm nM),zah (Ne.symm nC)];exact e',q.1,q.2.1,by omega⟩
   ·rw [zah (zaj ez hML),zah (zaj ez hCx)];exact k1 _ _ hz (kX _ _ hz ez)
  ·rintro σ X ⟨v3,v4,v5,cl,rfl,hB,hl1,bgX,kX⟩
   refine ⟨_,rfl,_,rfl,by show 2≤sizeLine;decide,fun t ht=>?_⟩
   have st:=zae (o:=.tup [.ref CL,.ref ML]) ht
   exact k t CL ML cl _ zab (hB.keep (.of st)) (by omega) ((bgX.same st).mono (by omega)) (kX.trans (.of st))
theorem zeP {D:Dt}{md:Nat→Addr}{i:Nat}(h:i<D.m):(mdL D md)[i]? = some (.ref (md i)):=by unfold mdL;rw [Xav,List.getElem?_range h];rfl
theorem zcA (D:Dt)(md:Nat→Addr):(mdL D md).length=D.m:=by unfold mdL;rw [Xal,XaX]
theorem ones0:ones 0=0:=by simp [ones]
theorem ones1:ones 1=1:=by simp [ones]
theorem zfY (m w n v:Nat):agr m w n v=agr n v m w:=by unfold agr;rw [Nat.xor_comm,Nat.and_assoc,Nat.and_comm m n,← Nat.and_assoc]
theorem zgx (r q:Rw):zdH r q=zdH q r:=by
 unfold zdH
 rw [zfY]
 congr 1
 cases r.l with
 | none=>cases q.l <;> rfl
 | some o =>
  cases q.l with
  | none=>rfl
  | some o2 =>
   show (if o.1=o2.1 then agr o.2.1 o.2.2 o2.2.1 o2.2.2 else true)=if o2.1=o.1 then agr o2.2.1 o2.2.2 o.2.1 o.2.2 else true
   by_cases e:o.1=o2.1
   ·rw [if_pos e,if_pos e.symm,zfY]
   ·rw [if_neg e,if_neg (Ne.symm e)]
theorem zhi:∀ a b:Nat,a &&& b=0→a ||| b=a+b:=by
 intro a
 induction a using Nat.strongRecOn with
 | _ a ih =>
  intro b h
  by_cases ha:a=0
  ·subst ha;simp
  ·have h2:(a / 2) &&& (b / 2)=0:=by rw [← Nat.and_div_two,h]
   have e1:(a ||| b) / 2=a / 2+b / 2:=(Nat.or_div_two (a:=a) (b:=b)).trans (ih (a / 2) (by omega) (b / 2) h2)
   have e2:(a ||| b) % 2=(a % 2 ||| b % 2):=Nat.or_mod_two_pow (n:=1)
   have e3:(a &&& b) % 2=(a % 2 &&& b % 2):=Nat.and_mod_two_pow (n:=1)
   rw [h] at e3
   have e4:a % 2 ||| b % 2=a % 2+b % 2:=by
    rcases (show a % 2=0∨a % 2=1 by omega) with x | x <;> rcases (show b % 2=0∨b % 2=1 by omega) with y | y <;> rw [x,y] at e3 ⊢ <;> first | rfl | (exact absurd e3 (by decide))
   omega
theorem zio (i:Nat):ones (2 ^ i)=1:=by
 induction i with
 | zero=>exact ones1
 | succ i ih=>rw [Nat.pow_succ,Nat.mul_comm,zbu,ih]
theorem zbr (m p j:Nat):(m ||| 2 ^ p).testBit j=(m.testBit j || decide (p=j)):=by rw [Nat.testBit_or,Xa5]
theorem zfp {i p:Nat}(h:i.testBit p=false):ones (i ||| 2 ^ p)=ones i+1:=by
 have hd:i &&& 2 ^ p=0:=Nat.eq_of_testBit_eq fun j=>by
  rw [XaG,Xa5,Nat.zero_testBit]
  by_cases e:p=j
  ·subst e;rw [h];rfl
  ·rw [Xao e,Bool.and_false]
 rw [zhi _ _ hd,ziG _ _ hd,zio]
structure Rp (bs wt:Nat)(seen:List Nat)(m w i:Nat):Prop where
 mb:∀ j,bs.testBit j=true→m.testBit j=true
 ms:∀ j,m.testBit j=true→bs.testBit j=true∨j∈seen
 wm:∀ j,w.testBit j=true→m.testBit j=true
 wb:∀ j,bs.testBit j=true→w.testBit j=wt.testBit j
 is_:∀ j,i.testBit j=true→j∈seen∧m.testBit j=false
theorem Rp.skip {bs wt p m w i:Nat}{seen:List Nat}(r:Rp bs wt seen m w i):Rp bs wt (seen ++ [p]) m w i:=
 ⟨r.mb,fun j h=>(r.ms j h).imp id (XaA _),r.wm,r.wb,fun j h=>⟨XaA _ (r.is_ j h).1,(r.is_ j h).2⟩⟩
theorem Rp.ask {bs wt p m w i d:Nat}{seen:List Nat}(r:Rp bs wt seen m w i)(hp:p ∉ seen)(hb:bs.testBit p=false)(hd:d<2):Rp bs wt (seen ++ [p]) (m ||| 2 ^ p) (w ||| d * 2 ^ p) i:=by
 have hi:i.testBit p=false:=by
  cases h:i.testBit p with
  | false=>rfl
  | true=>exact absurd (r.is_ p h).1 hp
 have dw:∀ j,(w ||| d * 2 ^ p).testBit j=(w.testBit j || (decide (d=1) && decide (p=j))):=fun j=>by
  rcases (show d=0∨d=1 by omega) with rfl | rfl
  ·rw [Nat.zero_mul,Nat.or_zero];simp
  ·rw [Nat.one_mul,zbr];simp
 refine ⟨fun j h=>?_,fun j h=>?_,fun j h=>?_,fun j h=>?_,fun j h=>?_⟩
 ·rw [zbr,r.mb j h];rfl
 ·rw [zbr,Xbt] at h
  rcases h with h | h
  ·exact (r.ms j h).imp id (XaA _)
  ·exact .inr (by rw [← XaN h];exact Xap _ (Xad.mpr rfl))
 ·rw [dw,Xbt] at h
  rw [zbr]
  rcases h with h | h
  ·rw [r.wm j h];rfl
  ·rw [XaY] at h;rw [h.2,Bool.or_true]
 ·rw [dw,r.wb j h]
  by_cases e:p=j
  ·subst e;rw [hb] at h;cases h
  ·rw [Xao e,Bool.and_false,Bool.or_false]
 ·refine ⟨XaA _ (r.is_ j h).1,?_⟩
  rw [zbr,(r.is_ j h).2]
  by_cases e:p=j
  ·subst e;rw [hi] at h;cases h
  ·rw [Xao e];rfl
theorem Rp.show_ {bs wt p m w i:Nat}{seen:List Nat}(r:Rp bs wt seen m w i)(hp:p ∉ seen)(hb:bs.testBit p=false):Rp bs wt (seen ++ [p]) m w (i ||| 2 ^ p)∧ones (i ||| 2 ^ p)=ones i+1:=by
 have hi:i.testBit p=false:=by
  cases h:i.testBit p with
  | false=>rfl
  | true=>exact absurd (r.is_ p h).1 hp
 have hm:m.testBit p=false:=by
  cases h:m.testBit p with
  | false=>rfl
  | true =>
   rcases r.ms p h with h | h
   ·rw [hb] at h;cases h
   ·exact absurd h hp
 refine ⟨⟨r.mb,fun j h=>(r.ms j h).imp id (XaA _),r.wm,r.wb,fun j h=>?_⟩,zfp hi⟩
 rw [zbr,Xbt] at h
 rcases h with h | h
 ·exact ⟨XaA _ (r.is_ j h).1,(r.is_ j h).2⟩
 ·rw [← XaN h]
  exact ⟨Xap _ (Xad.mpr rfl),hm⟩
theorem zfF {w m:Nat}(h:∀ j,w.testBit j=true→m.testBit j=true):w &&& m=w:=Nat.eq_of_testBit_eq fun j=>by
 rw [XaG]
 cases hw:w.testBit j with
 | false=>rfl
 | true=>rw [h j hw];rfl
theorem zfE {i m:Nat}(h:∀ j,i.testBit j=true→m.testBit j=false):i &&& m=0:=Nat.eq_of_testBit_eq fun j=>by
 rw [XaG,Nat.zero_testBit]
 cases hi:i.testBit j with
 | false=>rfl
 | true=>rw [h j hi];rfl
theorem zbV {m n:Nat}(h:∀ j,m.testBit j=true→j<n):m<2 ^ n:=by
 refine Nat.lt_pow_two_of_testBit m fun j hj=>?_
 cases hm:m.testBit j with
 | false=>rfl
 | true=>have:=h j hm;omega
theorem Rp.ok {bs wt n m w i c:Nat}{seen:List Nat}{l:Option (Nat×Nat×Nat)}(r:Rp bs wt seen m w i)(hb:bs<2 ^ n)(hs:∀ p∈seen,p<n)(hc:c<100)(hl:zjW l):RwOk n ⟨m,w,i,c,l⟩:=by
 have bm:∀ j,m.testBit j=true→j<n:=fun j h=>by
  rcases r.ms j h with h | h
  ·by_cases e:j<n
   ·exact e
   ·rw [Nat.testBit_lt_two_pow (Xaf hb (XaH (by decide) (by omega)))] at h;cases h
  ·exact hs j h
 exact ⟨zbV bm,zbV fun j h=>bm j (r.wm j h),zfF r.wm,zbV fun j h=>hs j (r.is_ j h).1,zfE fun j h=>(r.is_ j h).2,hc,hl⟩
theorem zjH {a b:Rw}{p:Nat}(h1:a.m.testBit p=true)(h2:b.m.testBit p=true)(h:a.w.testBit p≠b.w.testBit p):NC a b:=by
 have e:agr a.m a.w b.m b.w=false:=Xao fun z=>by
  have:=congrArg (fun x=>x.testBit p) z
  simp only [XaG,Nat.testBit_xor,h1,h2,Nat.zero_testBit,Bool.and_true] at this
  cases ha:a.w.testBit p <;> cases hb:b.w.testBit p <;> rw [ha,hb] at this h <;> simp_all
 have e':zdH a b=false:=by unfold zdH;rw [e];rfl
 exact ⟨e',by rw [zgx];exact e'⟩
abbrev zcu:Stmt:=top 74
theorem sc_law_room:FnScope ["model","cells","room"] ["model"] (zai zcu):=sck rfl rfl rfl (by decide +kernel)
inductive spRoom (vs:List V)(H:Hp)(Q:VK)(u3_:XK):Prop
 | mk (m row:Addr) (kd n:Nat) (ws:List Nat) (z0_:vs=[.ref m]) (z1_:MdB H m row kd n ws) (z2_:Kd kd n ws) (z3_:∀ r:Nat,r≤12→2 ^ r≤zcB kd ws→zcB kd ws<2 ^ (r+1)→Q (.int (r:Int)) H)
set_option tactic.hygienic true in
theorem zfu {f:Addr}{fd:FuncData}(F:Fun K "_law_room" "_law_room" zcu f fd)(T:Blt mg):FnOk P w K mg base CX0 1 f fd ["model"] spRoom:=by
 refine F.ok sc_law_room (by walk_at "l") (fun cdv A outer s H vs Q E hr h=>?_)
 ·obtain ⟨m,row,kd,n,ws,rfl,d,kk,k⟩:=h
  refine ⟨_,(zad (ps_L 1 sc_law_room.nd (zak zam (by rfl) T.len PySem.boot_len (zaa (pe_x zau (pv 0) zaf) zac)))
   (zad (zaB (zat zbO (pe_x zau (pv 0) zaf) zbc (zas _)) (zag (ps_L 1 sc_law_room.nd zaf)) zap)
   (zad (ps_L 2 sc_law_room.nd zaf)
   (zad (zfO PassesOwn.never (zat zhk (zaq zbN zaf (pv 2)) (pv 1) (zas _)) (zag (zeD (i:=2) sc_law_room.nd rfl (Or.inl rfl) zaf zjN)))
   (zag (zal (pv 2))))))),?rd⟩
  have kn4:decide (V.str (zcZ kd)=V.str "pipe")=decide (kd=4):=zfU (j:=4) kk.k5 (by decide)
  obtain ⟨sz,hsz⟩:∃ sz,sz=zcB kd ws:=⟨_,rfl⟩
  have hs1:1≤sz∧sz≤4096:=by
   rw [hsz]
   unfold zcB
   split
   ·decide
   ·rename_i h;have:=kk.l1 h;have:=kk.ln;omega
  refine ⟨_,rfl,m,_,_,_,rfl,rfl,SqL.of d.at_,rfl,row,_,rfl,.inl (SqL.of d.ls),?_⟩
  rw [zao]
  try dsimp only [zaA,List.set]
  refine zaC (fun σ H'=>σ=[some (.ref m),some (.int (ws.length:Int)),none]∧H=H') (fun σ H'=>σ=[some (.ref m),some (.int (sz:Int)),none]∧H=H') ?_ ?_ _ _ ⟨rfl,rfl⟩
  ·rintro _ _ ⟨rfl,rfl⟩ N hN
   refine ⟨_,rfl,m,_,_,_,rfl,rfl,SqL.of d.at_,rfl,rfl,_,rfl,?_⟩
   rw [kn4]
   by_cases h4:kd=4
   ·rw [Xas h4]
    refine iteT (hN _ _ ⟨?_,rfl⟩)
    rw [hsz];unfold zcB;rw [if_pos h4];rfl
   ·rw [Xao h4]
    refine iteF (zax (hN _ _ ⟨?_,rfl⟩))
    rw [hsz];unfold zcB;rw [if_neg h4]
  ·rintro _ _ ⟨rfl,rfl⟩
   refine zfI (fun σ X=>∃ r:Nat,σ=[some (.ref m),some (.int (sz:Int)),some (.int (r:Int))]∧2 ^ r≤sz∧X=H) (fun σ _=>match σ with | [_,_,some (.int r)]=>20 - r.toNat | _=>0) ⟨0,rfl,hs1.1,rfl⟩ ?_ ?_
   ·rintro σ X ⟨r,rfl,h2,rfl⟩
    have hr12:r≤12:=by
     by_cases h:r≤12
     ·exact h
     ·have:2 ^ 13≤2 ^ r:=XaH (by decide) (by omega)
      omega
    have e2:(2:Int) * 2 ^ ((r:Nat):Int).toNat=((2 ^ (r+1):Nat):Int):=by rw [Xai,Nat.pow_succ,Nat.mul_comm];norm_cast
    refine ⟨_,rfl,_,_,rfl,rfl,⟨by omega,by omega,by decide⟩,_,rfl,_,_,rfl,rfl,_,rfl,?_⟩
    rw [e2]
    refine ite2 (fun hb=>?_) (fun hb=>?_)
    ·have hb:2 ^ (r+1)≤sz:=by have:=XaN hb;omega
     refine ⟨_,rfl,_,_,rfl,rfl,⟨r+1,rfl,hb,rfl⟩,?_⟩
     show 20 - ((r:Int)+1).toNat<20 - ((r:Nat):Int).toNat
     omega
    ·have hb:sz<2 ^ (r+1):=by
      by_cases h:sz<2 ^ (r+1)
      ·exact h
      ·exact absurd (Xas (show ((2 ^ (r+1):Nat):Int)≤(sz:Int) by omega)) hb
     exact ⟨_,rfl,k r hr12 (by rw [← hsz];exact h2) (by rw [← hsz];exact hb)⟩
   ·rintro σ X Q1 Q2 hq h
    obtain ⟨v,e,i,j,e1,e2,c,v2,e3,i2,j2,e4,e5,b,e6,h⟩:=h
    exact ⟨v,e,i,j,e1,e2,c,v2,e3,i2,j2,e4,e5,b,e6,hq _ _ h⟩
abbrev zdk:Stmt:=top 75
theorem sc_law_row:FnScope ["bag","models","places","mask","want","inner","chip","left","place","which"] ["bag","models","places","mask","want"] (zai zdk):=sck rfl rfl rfl (by decide +kernel)
structure En5 (D:Dt)(md rw:Nat→Addr)(ML p:Addr)(H:Hp)(us:Nat→List Nat):Prop where
 M:Mod D md rw H us
 eM:H ML=some (.lst (mdL D md))
 np:p≠ML∧∀ i,i<D.m→p≠md i∧p≠rw i
 m1:1≤D.m
 m5:D.m≤50
theorem En5.keep {D:Dt}{md rw:Nat→Addr}{ML p:Addr}{H H':Hp}{us:Nat→List Nat}(e:En5 D md rw ML p H us)(k:KeepP p H H'):En5 D md rw ML p H' us:=
 ⟨⟨fun i h=>⟨k _ _ (Ne.symm (e.np.2 i h).1) (e.M.o i h).at_,k _ _ (Ne.symm (e.np.2 i h).2) (e.M.o i h).ls⟩,e.M.k,e.M.h1,e.M.z,e.M.inj⟩,k _ _ (Ne.symm e.np.1) e.eM,e.np,e.m1,e.m5⟩
inductive spRow5 (vs:List V)(H:Hp)(Q:VK)(u3_:XK):Prop
 | mk (p ML PL:Addr) (D:Dt) (md rw:Nat→Addr) (us:Nat→List Nat) (pls:List Nat) (bs wt n nb:Nat) (z0_:vs=[.ref p,.ref ML,.ref PL,.int (bs:Int),.int (wt:Int)]) (z1_:Bg H p n) (z2_:n<2 ^ 30) (z3_:En5 D md rw ML p H us) (z4_:H PL=some (.lst (vN pls))) (z5_:p≠PL) (z6_:pls.Nodup) (z7_:nb≤16) (z8_:(∀ q∈pls,q<nb∧bs.testBit q=false)) (z9_:pls.length≤16) (z10_:(∀ j,wt.testBit j=true→bs.testBit j=true)) (z11_:∀ (t:Addr) (m w i c:Nat) (H':Hp),H t=none→Rp bs wt pls m w i→c<D.m→2 ^ ones i≤D.sz c→H' t=some (.tup [.int (m:Int),.int (w:Int),.int (i:Int),.int (c:Int),.non])→Bg H' p (n+40)→KeepP p H H'→Q (.ref t) H')
theorem zgk {f:Addr}{fd:FuncData}(F:Fun K "_law_row" "_law_row" zdk f fd)(T:Blt mg)(G_law_draw:Cal P w K mg base 1 "_law_draw" ["bag","many"] spDw)(G_law_room:Cal P w K mg base 1 "_law_room" ["model"] spRoom):FnOk P w K mg base CX0 2 f fd ["bag","models","places","mask","want"] spRow5:=by
 refine F.ok sc_law_row (by walk_at "l") (fun cdv A outer s H vs Q E hr h=>?_)
 ·obtain ⟨p,ML,PL,D,md,rw_,us,pls,bs,wt,n,nb,rfl,bg,hn,en,eP,npP,nd,hnb,hpl,hp16,hwt,k⟩:=h
  refine ⟨_,(zad (ps_L 5 sc_law_row.nd zaf)
   (zad (ps_L 6 sc_law_row.nd (pe_c G_law_draw (zaa (pv 0) (zaa (zak zam (by rfl) T.len PySem.boot_len (zaa (pv 1) zac)) zac))))
   (zad (ps_L 7 sc_law_row.nd (pe_c G_law_room (zaa (pe_x zau (pv 1) (pv 6)) zac)))
   (zad (zb0 PassesOwn.never rfl (zfn (pv 2)) (pg_L 8 sc_law_row.nd)
   (zad (ps_L 9 sc_law_row.nd (pe_c G_law_draw (zaa (pv 0) (zaa zaf zac))))
   (zag (zaB (zat zbO (pv 9) zaf (zas _)) (zad (zeD (i:=3) sc_law_row.nd rfl (Or.inl rfl) (zaq zbN zaf (pv 8)) zhy)
   (zag (zeD (i:=4) sc_law_row.nd rfl (Or.inl rfl) (zaq zbN (pe_c G_law_draw (zaa (pv 0) (zaa zaf zac))) (pv 8)) zhy))) (zag (zaB (PW.pt (pw_and (zat zfo (pv 9) zaf (zas _)) (zjq (zat zhl (pv 7) zaf (zas _))))) (zad (zeD (i:=5) sc_law_row.nd rfl (Or.inl rfl) (zaq zbN zaf (pv 8)) zhy)
   (zag (zeD (i:=7) sc_law_row.nd rfl (Or.inl rfl) zaf zjM))) zap))))))
   (zag (zal (zaP (zaa (pv 3) (zaa (pv 4) (zaa (pv 5) (zaa (pv 6) (zaa zfP zac)))))))))))),?rd⟩
  have m1:=en.m1
  have m5:=en.m5
  refine ⟨_,rfl,_,rfl,ML,_,rfl,.inl (SqL.of en.eM),?_⟩
  rw [zcA]
  refine ⟨p,(D.m:Int),n,rfl,bg,by omega,by omega,by omega,fun c H1 hc bg1 k1=>?_⟩
  have hc:c<D.m:=by omega
  have kp1:=zar k1
  have en1:=en.keep kp1
  have dc:=en1.M.o c hc
  refine ⟨_,rfl,_,rfl,ML,_,_,_,rfl,rfl,SqL.of en1.eM,zaT (zeP hc),md c,rw_ c,_,_,_,rfl,dc,en1.M.k c hc,fun r hr12 hr1 _=>?_⟩
  rw [en1.M.z c hc] at hr1
  have eP1:=kp1 _ _ (Ne.symm npP) eP
  try dsimp only [zaA,List.set]
  refine ⟨_,rfl,PL,rfl,⟨_,SqL.of eP1⟩,?_⟩
  refine ziC (K:=K) (a:=PL) (xs:=vN pls) (fun j σ X=>∃ (v8 v9:Option V) (m w i l:Nat),σ=[some (.ref p),some (.ref ML),some (.ref PL),some (.int (m:Int)),some (.int (w:Int)),some (.int (i:Int)),some (.int (c:Int)),some (.int (l:Int)),v8,v9]∧Rp bs wt (pls.take j) m w i∧ones i+l=r∧Bg X p (n+1+2 * j)∧KeepP p H X) ⟨_,_,bs,wt,0,r,rfl,⟨fun _ h=>h,fun _ h=>.inl h,hwt,fun _ _=>rfl,fun j h=>by rw [Nat.zero_testBit] at h;cases h⟩,by rw [ones0];omega,bg1,kp1⟩ ?_ ?_ ?_
  ·rintro j σ X _ ⟨_,_,_,_,_,_,_,_,_,_,kX⟩
   exact SqL.of (kX _ _ (Ne.symm npP) eP)
  ·rintro j y σ X hy ⟨v8,v9,m,w,i,l,rfl,rp,hl,bgX,kX⟩
   obtain ⟨q,hq,rfl⟩:=zgM hy
   have hj:j<pls.length:=(Xar.mp hq).1
   obtain ⟨q1,q2⟩:=hpl q (XaK hq)
   have et:pls.take (j+1)=pls.take j ++ [q]:=by rw [List.take_succ,hq];rfl
   have nq:q ∉ pls.take j:=fun h=>by
    have h2:=nd
    rw [← List.take_append_drop (j+1) pls,et] at h2
    have:=(XaR.mp (XaR.mp h2).1).2.2
    exact this q h q (Xad.mpr rfl) rfl
   have s1:(1:Int) * 2 ^ ((q:Nat):Int).toNat=((2 ^ q:Nat):Int):=by rw [Int.one_mul,Xai];norm_cast
   refine ⟨_,rfl,p,4,_,rfl,bgX,by omega,by decide,by decide,fun wh X1 hwh bg2 k2=>?_⟩
   have kp2:=zar k2
   try dsimp only [zaA,List.set]
   refine ⟨_,rfl,rfl,_,rfl,ite2 (fun _=>?_) (fun _=>?_)⟩
   ·refine ⟨_,rfl,_,rfl,_,_,rfl,rfl,⟨by omega,by omega,by decide⟩,_,_,rfl,rfl,?_⟩
    refine ⟨_,rfl,_,rfl,p,2,_,rfl,bg2,by omega,by decide,by decide,fun d X2 hd bg3 k3=>?_⟩
    refine ⟨_,rfl,_,_,rfl,rfl,⟨by omega,by omega,by omega⟩,_,_,rfl,rfl,?_⟩
    dsimp only [List.set]
    rw [s1,bor,show (d:Int) * 2 ^ ((q:Nat):Int).toNat=((d * 2 ^ q:Nat):Int) by rw [Xai];norm_cast,bor]
    exact ⟨_,_,_,_,i,l,rfl,by rw [et];exact rp.ask nq q2 (by omega),hl,bg3.mono (by omega),kX.trans (kp2.trans (zar k3))⟩
   ·refine ⟨_,rfl,_,_,rfl,rfl,_,rfl,ite2 (fun _=>?_) (fun _=>zax ⟨_,_,m,w,i,l,rfl,by rw [et];exact rp.skip,hl,bg2.mono (by omega),kX.trans kp2⟩)⟩
    refine ⟨_,rfl,_,_,rfl,rfl,_,rfl,ite2 (fun hb=>?_) (fun _=>zax ⟨_,_,m,w,i,l,rfl,by rw [et];exact rp.skip,hl,bg2.mono (by omega),kX.trans kp2⟩)⟩
    have hb:0<l:=by have:=XaN hb;omega
    refine ⟨_,rfl,_,rfl,_,_,rfl,rfl,⟨by omega,by omega,by decide⟩,_,_,rfl,rfl,?_⟩
    refine ⟨_,rfl,_,_,rfl,rfl,?_⟩
    dsimp only [List.set]
    rw [s1,bor,show (l:Int) - 1=((l - 1:Nat):Int) by omega]
    obtain ⟨rp',ho⟩:=rp.show_ nq q2
    exact ⟨_,_,m,w,_,l - 1,rfl,by rw [et];exact rp',by rw [ho];omega,bg2.mono (by omega),kX.trans kp2⟩
  ·rintro σ X ⟨v8,v9,m,w,i,l,rfl,rp,hl,bgX,kX⟩
   rw [zao,List.take_length] at rp
   rw [zao] at bgX
   refine ⟨_,rfl,_,rfl,_,rfl,_,rfl,by show 5≤sizeLine;decide,fun t ht=>?_⟩
   refine k t m w i c _ ?_ rp hc ?_ zab ((bgX.same (zae ht)).mono (by omega)) (kX.trans (.of (zae ht)))
   ·cases e:H t with
    | none=>rfl
    | some u =>
     rw [kX _ _ (bgX.ne ht) e] at ht;cases ht
   ·exact Xam (XaH (by decide) (by omega)) hr1
abbrev zbw:Stmt:=top 76
theorem sc_law_latched:FnScope ["bag","models","row","latches","latch","mask","want","low","other","inner","second"] ["bag","models","row"] (zai zbw):=sck rfl rfl rfl (by decide +kernel)
theorem low_is:∀ m:Nat,1≤m→m≤255→∃ l:Nat,Builtin.bitAnd (m:Int) (-(m:Int))=(l:Int)∧l &&& m=l∧l≠0:=by
 have h:∀ m:Nat,m<256→1≤m→(Builtin.bitAnd (m:Int) (-(m:Int))=((Builtin.bitAnd (m:Int) (-(m:Int))).toNat:Int)∧(Builtin.bitAnd (m:Int) (-(m:Int))).toNat &&& m=(Builtin.bitAnd (m:Int) (-(m:Int))).toNat∧(Builtin.bitAnd (m:Int) (-(m:Int))).toNat≠0):=by decide +kernel
 exact fun m h1 h2=>⟨_,(h m (by omega) h1).1,(h m (by omega) h1).2.1,(h m (by omega) h1).2.2⟩
structure Lr (D:Dt)(m w i:Nat)(r:Rw):Prop where
 em:r.m=m∧r.w=w∧(r.i=i∨r.i=0)
 c:r.c<D.m∧2 ^ ones r.i≤D.sz r.c
 l:∃ x a b,r.l=some (x,a,b)∧x<D.m∧D.kd x=2∧a<256∧b &&& a=b
inductive spLatd (vs:List V)(H:Hp)(Q:VK)(u3_:XK):Prop
 | mk (p ML t:Addr) (D:Dt) (md rw:Nat→Addr) (us:Nat→List Nat) (m w i c n:Nat) (z0_:vs=[.ref p,.ref ML,.ref t]) (z1_:Bg H p n) (z2_:n<2 ^ 30) (z3_:En5 D md rw ML p H us) (z4_:H t=some (.tup [.int (m:Int),.int (w:Int),.int (i:Int),.int (c:Int),.non])) (z5_:c<D.m) (z6_:2 ^ ones i≤D.sz c) (z7_:i<2 ^ 16) (z8_:D.kd 0=2) (z9_:(∀ i,i<D.m→1≤D.sz i)) (z10_:∀ (L:Addr) (rs:List (Addr×Rw)) (H':Hp),H L=none→H' L=some (.lst (refs rs))→rs.length≤2→(∀ z∈rs,RwAt H' z.1 z.2∧Lr D m w i z.2)→rs.Pairwise (fun a b=>NC a.2 b.2)→Bg H' p (n+40)→KeepP p H H'→Q (.ref L) H')
theorem zdO {f:Addr}{fd:FuncData}(F:Fun K "_law_latched" "_law_latched" zbw f fd)(T:Blt mg)(G_law_draw:Cal P w K mg base 1 "_law_draw" ["bag","many"] spDw)(G_law_room:Cal P w K mg base 1 "_law_room" ["model"] spRoom):FnOk P w K mg base CX0 2 f fd ["bag","models","row"] spLatd:=by
 refine F.ok sc_law_latched (by walk_at "l") (fun cdv A outer s H vs Q E hr h=>?_)
 ·obtain ⟨p,ML,t,D,md,rw_,us,m,w,i,c,n,rfl,bg,hn,en,et,hc,hic,hi16,h02,hsz1,k⟩:=h
  refine ⟨_,(zad (zdW (i:=3) (Nc:=["k","models"]) [none,some 1] sc_law_latched.nd rfl rfl rfl (zaZ (by rfl)) (zaX rfl T.range (zaa (zak zam (by rfl) T.len PySem.boot_len (zaa (pv 1) zac)) zac)) (fun _ _ _ _ _=>(pg_L 0 (show (["k","models"]:List Str).Nodup by decide +kernel))) (fun _ _ _ _ _=>(ziW (zat zbO (pe_x (zel (K:=K) rfl) (pe_x (zel (K:=K) rfl) (pv 1) (pv 0)) zaf) zbc (zas _)))) (fun _ _ _ _ _=>(pv 0)))
   (zad (ps_L 4 sc_law_latched.nd (pe_x zau (pv 3) (pe_c G_law_draw (zaa (pv 0) (zaa (zak zam (by rfl) T.len PySem.boot_len (zaa (pv 3) zac)) zac)))))
   (zad (ps_L 5 sc_law_latched.nd (zaq za2 zaf (pe_c G_law_draw (zaa (pv 0) (zaa zaf zac)))))
   (zad (ps_L 6 sc_law_latched.nd (zaq zck (pe_c G_law_draw (zaa (pv 0) (zaa zaf zac))) (pv 5)))
   (zad (ps_L 7 sc_law_latched.nd (zaq zck (pv 5) (zgb zdT (pv 5))))
   (zad (ps_L 8 sc_law_latched.nd (pe_c G_law_draw (zaa (pv 0) (zaa (zak zam (by rfl) T.len PySem.boot_len (zaa (pv 1) zac)) zac))))
   (zad (ps_L 9 sc_law_latched.nd (zaq zbp (pe_x zaS (pv 2) zaf) (zaH zdI (by rfl) T.int zd3 (zaa (zbd zjB (pe_c G_law_room (zaa (pe_x zau (pv 1) (pv 8)) zac)) (pe_c G_law_room (zaa (pe_x zau (pv 1) (pe_x zaS (pv 2) zaf)) zac)) (zas _)) zac))))
   (zad (ps_L 10 sc_law_latched.nd (zaP (zaa (pe_x zaS (pv 2) zaf) (zaa (pe_x zaS (pv 2) zaf) (zaa (pv 9) (zaa (pv 8) (zaa (zaP (zaa (pv 4) (zaa (pv 5) (zaa (zaq ziY (pv 6) (pv 7)) zac)))) zac)))))))
   (zag (zal (zci zgU (zav (zaa (zaq (zin (K:=K) rfl) (zci (zff (K:=K) rfl) (pv 2) zdm (zcy zaf)) (zaP (zaa (zaP (zaa (pv 4) (zaa (pv 5) (zaa (pv 6) zac)))) zac))) (zaa (pv 10) zac))) zdm (zcy (zaq za2 zaf (pe_c G_law_draw (zaa (pv 0) (zaa zaf zac)))))))))))))))),?rd⟩
  have m1:=en.m1
  have m5:=en.m5
  have ntp:t≠p:=fun z=>by obtain ⟨a,b,e,_⟩:=bg;rw [z,e] at et;cases et
  refine ⟨_,rfl,ML,_,rfl,.inl (SqL.of en.eM),_,rfl,by rw [zcA];omega,by rw [zcA];omega,?_⟩
  rw [zcA,Xai]
  refine zcE (n:=D.m) (fun j ys σ Y=>∃ (v0:Option V) (l:List Nat),σ=[v0,some (.ref ML)]∧ys=vN l∧l.length≤j∧(∀ x∈l,x<D.m∧D.kd x=2)∧(1≤j→l≠[])∧Y=H) (Xam m5 (by decide)) ⟨none,[],rfl,rfl,Xae _,(fun x h=>nomatch h),(fun h=>absurd h (by decide)),rfl⟩ ?_ ?_ ?_
  ·rintro j ys σ Y ⟨_,l,_,rfl,hl,_⟩
   rw [zao];exact hl
  ·rintro j ys σ Y hj ⟨v0,l,rfl,rfl,hl,hx,hne,rfl⟩
   rw [Int.zero_add]
   have dj:=en.M.o j hj
   have kn:decide (V.str (zcZ (D.kd j))=V.str "latch")=decide (D.kd j=2):=zfU (j:=2) (en.M.k j hj).k5 (by decide)
   refine ⟨_,rfl,_,rfl,ML,_,_,_,rfl,rfl,SqL.of en.eM,zaT (zeP hj),md j,_,_,_,rfl,rfl,SqL.of dj.at_,rfl,rfl,_,rfl,?_⟩
   rw [kn]
   by_cases h2:D.kd j=2
   ·rw [Xas h2]
    refine iteT ⟨_,rfl,_,l ++ [j],rfl,by rw [zd5],by rw [Xan];simp;omega,fun x h=>?_,fun _=>by simp,rfl⟩
    rcases XaP.mp h with h | h
    ·exact hx x h
    ·obtain rfl:=Xad.mp h;exact ⟨hj,h2⟩
   ·rw [Xao h2]
    refine iteF ⟨_,l,rfl,rfl,by omega,hx,fun _=>hne ?_,rfl⟩
    by_cases e:j=0
    ·subst e;exact absurd h02 h2
    ·omega
  ·rintro ys σ Y ⟨v0,l,rfl,rfl,hl,hx,hne,rfl⟩ LL hLL
   have hne:=hne m1
   have l1:1≤l.length:=by cases l with | nil=>exact absurd rfl hne | cons _ _=>simp
   have sL:=zae (H:=Y) (o:=.lst (vN l)) hLL
   have npL:LL≠p:=bg.ne hLL
   have eLL:upd Y LL (.lst (vN l)) LL=some (.lst (vN l)):=zab
   have bgL:=bg.same sL
   have kL:KeepP p Y (upd Y LL (.lst (vN l))):=.of sL
   have enL:=en.keep kL
   have etL:=sL _ _ et
   generalize upd Y LL (.lst (vN l))=X0 at *
   refine ⟨_,rfl,_,rfl,_,rfl,LL,_,rfl,.inl (SqL.of eLL),p,_,_,rfl,bgL,by omega,by rw [zao];omega,by rw [zao];omega,fun r X1 hr1 bg1 k1=>?_⟩
   rw [zao] at hr1
   have hr1:r<l.length:=by omega
   have hxr:=hx _ (Xbe hr1)
   have hat:atI (vN l) (r:Int)=some (.int (l[r]:Int)):=zaT (zgN (Xax hr1))
   generalize l[r]=lc at hxr hat
   refine ⟨LL,_,_,_,rfl,rfl,SqL.of (by rw [k1 _ npL];exact eLL),hat,?_⟩
   refine ⟨_,rfl,p,255,_,rfl,bg1,by omega,by decide,by decide,fun a0 X2 ha0 bg2 k2=>⟨_,_,rfl,rfl,?_⟩⟩
   try dsimp only [zaA,List.set]
   rw [show (1:Int)+(a0:Int)=((1+a0:Nat):Int) by omega]
   obtain ⟨low,elow,lm,l0⟩:=low_is (1+a0) (by omega) (by omega)
   generalize hma:1+a0=ma at *
   refine ⟨_,rfl,p,256,_,rfl,bg2,by omega,by decide,by decide,fun b0 X3 hb0 bg3 k3=>⟨_,rfl,_,_,rfl,rfl,?_⟩⟩
   try dsimp only [zaA,List.set]
   rw [band]
   refine ⟨_,rfl,_,rfl,_,rfl,_,_,rfl,rfl,?_⟩
   try dsimp only [zaA,List.set]
   rw [elow]
   have k03:KeepP p X0 X3:=(zar k1).trans ((zar k2).trans (zar k3))
   have en3:=enL.keep k03
   refine ⟨_,rfl,_,rfl,ML,_,rfl,.inl (SqL.of en3.eM),?_⟩
   rw [zcA]
   refine ⟨p,(D.m:Int),_,rfl,bg3,by omega,by omega,by omega,fun ot X4 hot bg4 k4=>?_⟩
   have hot:ot<D.m:=by omega
   have k04:=k03.trans (zar k4)
   have en4:=enL.keep k04
   have et4:=k04 _ _ ntp etL
   refine ⟨_,rfl,t,_,_,_,rfl,rfl,SqT.of et4,rfl,_,rfl,_,rfl,ML,_,_,_,rfl,rfl,SqL.of en4.eM,zaT (zeP hot),md ot,rw_ ot,_,_,_,rfl,en4.M.o ot hot,en4.M.k ot hot,fun ro ro12 ro1 ro2=>?_⟩
   refine ⟨_,rfl,_,rfl,t,_,_,_,rfl,rfl,SqT.of et4,rfl,ML,_,_,_,rfl,rfl,SqL.of en4.eM,zaT (zeP hc),md c,rw_ c,_,_,_,rfl,en4.M.o c hc,en4.M.k c hc,fun rc rc12 rc1 rc2=>⟨_,_,rfl,rfl,.inr ⟨_,rfl,?_⟩⟩⟩
   rw [en4.M.z ot hot] at ro1
   rw [en4.M.z c hc] at rc2
   obtain ⟨i2,hi2,hi2f,ei2⟩:∃ i2:Nat,(i2=i∨i2=0)∧2 ^ ones i2≤D.sz ot∧(i:Int) * (if decide ((rc:Int)≤(ro:Int))=true then 1 else 0)=(i2:Int):=by
    by_cases h:(rc:Int)≤(ro:Int)
    ·refine ⟨i,.inl rfl,?_,by rw [Xas h];simp⟩
     have h1:2 ^ ones i<2 ^ (rc+1):=by omega
     have h2:ones i<rc+1:=(Nat.pow_lt_pow_iff_right (by decide)).mp h1
     exact Xam (XaH (by decide) (by omega)) ro1
    ·exact ⟨0,.inr rfl,by rw [ones0];exact hsz1 ot hot,by rw [Xao h];simp⟩
   refine ⟨_,_,rfl,rfl,zbQ (by omega) (by split <;> decide),?_⟩
   try dsimp only [zaA,List.set]
   rw [ei2]
   obtain ⟨wa,hwa⟩:∃ wa,wa=b0 &&& ma:=⟨_,rfl⟩
   rw [← hwa]
   have wam:wa &&& ma=wa:=by rw [hwa,Nat.and_assoc,Nat.and_self]
   have wlm:(wa ^^^ low) &&& ma=wa ^^^ low:=by rw [Nat.and_xor_distrib_right,wam,lm]
   have ma1:ma<256:=by omega
   refine ⟨_,rfl,t,_,_,_,rfl,rfl,SqT.of et4,rfl,_,rfl,t,_,_,_,rfl,rfl,SqT.of et4,rfl,_,rfl,_,rfl,_,rfl,_,rfl,_,rfl,_,rfl,_,_,rfl,rfl,by show 3≤sizeLine;decide,fun u2 hu2=>⟨by show 5≤sizeLine;decide,fun t2 ht2=>?_⟩⟩
   dsimp only at ht2 ⊢
   rw [bxor] at ht2 ⊢
   have s5:=(zae (H:=X4) (o:=.tup [.int (lc:Int),.int (ma:Int),.int ((wa ^^^ low:Nat):Int)]) hu2).trans (zae (o:=.tup [.int (m:Int),.int (w:Int),.int (i2:Int),.int (ot:Int),.ref u2]) ht2)
   have ra2:RwAt (upd (upd X4 u2 (.tup [.int (lc:Int),.int (ma:Int),.int ((wa ^^^ low:Nat):Int)])) t2 (.tup [.int (m:Int),.int (w:Int),.int (i2:Int),.int (ot:Int),.ref u2])) t2 ⟨m,w,i2,ot,some (lc,ma,wa ^^^ low)⟩:=⟨.ref u2,zab,u2,rfl,zae ht2 _ _ zab⟩
   generalize upd (upd X4 u2 (.tup [.int (lc:Int),.int (ma:Int),.int ((wa ^^^ low:Nat):Int)])) t2 (.tup [.int (m:Int),.int (w:Int),.int (i2:Int),.int (ot:Int),.ref u2])=X5 at *
   have et5:=s5 _ _ et4
   have ec:cutV [V.int (m:Int),.int (w:Int),.int (i:Int),.int (c:Int),.non] none (some 4)=[.int (m:Int),.int (w:Int),.int (i:Int),.int (c:Int)]:=rfl
   refine ⟨_,rfl,4,rfl,t,_,rfl,SqT.of et5,(fun e=>by rw [ec] at e;exact absurd (congrArg List.length e) (by simp)),fun q4 hq4=>?_⟩
   rw [ec]
   have s6:=zae (H:=X5) (o:=.tup [.int (m:Int),.int (w:Int),.int (i:Int),.int (c:Int)]) hq4
   refine ⟨_,rfl,_,rfl,_,rfl,by show 3≤sizeLine;decide,fun u1 hu1=>⟨by show 1≤sizeLine;decide,fun s1 hs1=>?_⟩⟩
   have s7:=s6.trans ((zae (o:=.tup [.int (lc:Int),.int (ma:Int),.int (wa:Int)]) hu1).trans (zae (o:=.tup [V.ref u1]) hs1))
   refine ⟨q4,s1,_,_,rfl,rfl,SqT.of (zae hs1 _ _ (zae hu1 _ _ zab)),SqT.of zab,by show 5≤sizeLine;decide,(fun e=>nomatch e),(fun e=>nomatch e),fun t1 ht1=>?_⟩
   rw [show ([V.int (m:Int),.int (w:Int),.int (i:Int),.int (c:Int)] ++ [V.ref u1]:List V)=[.int (m:Int),.int (w:Int),.int (i:Int),.int (c:Int),.ref u1] from rfl]
   have s8:=s7.trans (zae (o:=.tup [.int (m:Int),.int (w:Int),.int (i:Int),.int (c:Int),.ref u1]) ht1)
   have ra1:RwAt (upd (upd (upd (upd X5 q4 (.tup [.int (m:Int),.int (w:Int),.int (i:Int),.int (c:Int)])) u1 (.tup [.int (lc:Int),.int (ma:Int),.int (wa:Int)])) s1 (.tup [V.ref u1])) t1 (.tup [.int (m:Int),.int (w:Int),.int (i:Int),.int (c:Int),.ref u1])) t1 ⟨m,w,i,c,some (lc,ma,wa)⟩:=⟨.ref u1,zab,u1,rfl,zae ht1 _ _ (zae hs1 _ _ zab)⟩
   refine ⟨_,rfl,by show 2≤sizeLine;decide,fun L0 hL0=>?_⟩
   have sZ:=s8.trans (zae (o:=.lst [V.ref t1,.ref t2]) hL0)
   have raZ1:=ra1.same (zae (o:=.lst [V.ref t1,.ref t2]) hL0)
   have eL0:upd (upd (upd (upd (upd X5 q4 (.tup [.int (m:Int),.int (w:Int),.int (i:Int),.int (c:Int)])) u1 (.tup [.int (lc:Int),.int (ma:Int),.int (wa:Int)])) s1 (.tup [V.ref u1])) t1 (.tup [.int (m:Int),.int (w:Int),.int (i:Int),.int (c:Int),.ref u1])) L0 (.lst [V.ref t1,.ref t2]) L0=some (.lst [V.ref t1,.ref t2]):=zab
   generalize upd (upd (upd (upd (upd X5 q4 (.tup [.int (m:Int),.int (w:Int),.int (i:Int),.int (c:Int)])) u1 (.tup [.int (lc:Int),.int (ma:Int),.int (wa:Int)])) s1 (.tup [V.ref u1])) t1 (.tup [.int (m:Int),.int (w:Int),.int (i:Int),.int (c:Int),.ref u1])) L0 (.lst [V.ref t1,.ref t2])=Z at *
   have bgZ:=(bg4.same s5).same sZ
   refine ⟨_,rfl,p,2,_,rfl,bgZ,by omega,by decide,by decide,fun d Z1 hd bg5 k5=>⟨_,_,rfl,rfl,_,rfl,?_⟩⟩
   have ktup:∀ {x:Addr} {r:Rw},RwAt Z x r→RwAt Z1 x r:=fun {x r} ⟨lt,e1,e2⟩=>by
    have nt:∀ {y:Addr} {v:List V},Z y=some (.tup v)→Z1 y=some (.tup v):=fun {y v} e=>by
     rw [k5 y (fun q=>by obtain ⟨a',b',e',_⟩:=bgZ;rw [q,e'] at e;cases e)];exact e
    refine ⟨lt,nt e1,?_⟩
    cases hl':r.l with
    | none=>rw [hl'] at e2;exact e2
    | some q =>
     rw [hl'] at e2
     obtain ⟨u,eu,hu⟩:=e2
     exact ⟨u,eu,nt hu⟩
   have nL0:L0≠p:=fun q=>by obtain ⟨a',b',e',_⟩:=bgZ;rw [q,e'] at eL0;cases eL0
   have eL1:Z1 L0=some (.lst [.ref t1,.ref t2]):=by rw [k5 _ nL0];exact eL0
   refine ⟨L0,_,rfl,SqL.of eL1,fun L hL=>?_⟩
   have kAll:KeepP p Y Z1:=kL.trans (k04.trans ((KeepP.of s5).trans ((KeepP.of sZ).trans (zar k5))))
   have hLY:Y L=none:=by
    cases e:Y L with
    | none=>rfl
    | some u =>
     rw [kAll _ _ (bg5.ne hL) e] at hL;cases hL
   have g1:Lr D m w i ⟨m,w,i,c,some (lc,ma,wa)⟩:=⟨⟨rfl,rfl,.inl rfl⟩,⟨hc,hic⟩,_,_,_,rfl,hxr.1,hxr.2,ma1,wam⟩
   have g2:Lr D m w i ⟨m,w,i2,ot,some (lc,ma,wa ^^^ low)⟩:=⟨⟨rfl,rfl,hi2⟩,⟨hot,hi2f⟩,_,_,_,rfl,hxr.1,hxr.2,ma1,wlm⟩
   have nc:NC ⟨m,w,i,c,some (lc,ma,wa)⟩ ⟨m,w,i2,ot,some (lc,ma,wa ^^^ low)⟩:=by
    refine NC.of_lat ?_ ?_
    ·show (if lc=lc then agr ma wa ma (wa ^^^ low) else true)=false
     rw [if_pos rfl]
     refine Xao fun q=>l0 ?_
     rw [← Nat.xor_assoc,Nat.xor_self,Nat.zero_xor,lm,lm] at q;exact q
    ·show (if lc=lc then agr ma (wa ^^^ low) ma wa else true)=false
     rw [if_pos rfl]
     refine Xao fun q=>l0 ?_
     rw [Nat.xor_comm,← Nat.xor_assoc,Nat.xor_self,Nat.zero_xor,lm,lm] at q;exact q
   rcases (show d=0∨d=1 by omega) with rfl | rfl
   ·refine k L [(t1,⟨m,w,i,c,some (lc,ma,wa)⟩)] _ hLY zab (by simp) (fun z hz=>?_) (List.pairwise_singleton _ _) ((bg5.same (zae hL)).mono (by omega)) (kAll.trans (.of (zae hL)))
    obtain rfl:=Xad.mp hz
    exact ⟨(ktup raZ1).same (zae hL),g1⟩
   ·refine k L [(t1,⟨m,w,i,c,some (lc,ma,wa)⟩),(t2,⟨m,w,i2,ot,some (lc,ma,wa ^^^ low)⟩)] _ hLY zab (by simp) (fun z hz=>?_) (List.pairwise_cons.mpr ⟨fun b hb=>by rw [Xad.mp hb];exact nc,List.pairwise_singleton _ _⟩) ((bg5.same (zae hL)).mono (by omega)) (kAll.trans (.of (zae hL)))
    rcases Xaq.mp hz with rfl | hz
    ·exact ⟨(ktup raZ1).same (zae hL),g1⟩
    ·obtain rfl:=Xad.mp hz
     exact ⟨(ktup (ra2.same sZ)).same (zae hL),g2⟩
def smP:List Nat→Nat
 | []=>0
 | i :: l=>2 ^ i+smP l
theorem zhC {α β:Type}(f:α→β):∀ (l:List α) (k:Nat),(l.map f).eraseIdx k=(l.eraseIdx k).map f
 | [],_=>rfl
 | a :: l,0=>rfl
 | a :: l,k+1=>by rw [Xbc,List.eraseIdx_cons_succ,List.eraseIdx_cons_succ,Xbc,zhC f l k]
theorem ziQ:∀ (l:List Nat),l.Nodup→∀ j,(smP l).testBit j=decide (j∈l)
 | [],_,j=>by simp [smP]
 | i :: l,h,j=>by
  obtain ⟨h1,h2⟩:=Xbi.mp h
  have ih:=ziQ l h2
  have hd:2 ^ i &&& smP l=0:=Nat.eq_of_testBit_eq fun q=>by
   rw [XaG,Xa5,Nat.zero_testBit,ih q]
   by_cases e:i=q
   ·subst e;rw [Xao h1,Bool.and_false]
   ·rw [Xao e,Bool.false_and]
  show (2 ^ i+smP l).testBit j=_
  rw [← zhi _ _ hd,Nat.testBit_or,Xa5,ih j]
  by_cases e:j=i
  ·subst e;simp
  ·rw [Xao (Ne.symm e),Bool.false_or];simp [e]
def wtS:List Nat→Nat→Nat→Nat
 | [],_,_=>0
 | b :: l,k,v=>(v / 2 ^ k % 2) * 2 ^ b+wtS l (k+1) v
theorem zgL:∀ (l:List Nat),l.Nodup→∀ (k v j:Nat),(wtS l k v).testBit j=true↔∃ q,l[q]? = some j∧v.testBit (k+q)=true
 | [],_,k,v,j=>by simp [wtS]
 | b :: l,h,k,v,j=>by
  obtain ⟨h1,h2⟩:=Xbi.mp h
  have ih:=zgL l h2 (k+1) v
  have hv:v / 2 ^ k % 2=if v.testBit k then 1 else 0:=by
   rw [Nat.testBit_eq_decide_div_mod_eq]
   by_cases e:v / 2 ^ k % 2=1
   ·rw [Xas e,e];rfl
   ·rw [Xao e];show _=0;omega
  have hnb:(wtS l (k+1) v).testBit b=false:=by
   cases e:(wtS l (k+1) v).testBit b with
   | false=>rfl
   | true =>
    obtain ⟨q,hq,_⟩:=(ih b).mp e
    exact absurd (XaK hq) h1
  have hd:(v / 2 ^ k % 2) * 2 ^ b &&& wtS l (k+1) v=0:=Nat.eq_of_testBit_eq fun q=>by
   rw [XaG,Nat.zero_testBit]
   by_cases e:q=b
   ·subst e;rw [hnb,Bool.and_false]
   ·rw [hv]
    cases v.testBit k with
    | false=>simp
    | true=>rw [if_pos rfl,Nat.one_mul,Xa5,Xao (Ne.symm e),Bool.false_and]
  show ((v / 2 ^ k % 2) * 2 ^ b+wtS l (k+1) v).testBit j=true↔_
  rw [← zhi _ _ hd,Nat.testBit_or,Xbt,ih j,hv]
  constructor
  ·rintro (h | ⟨q,h,e⟩)
   ·cases hk:v.testBit k with
    | false=>rw [hk] at h;simp at h
    | true =>
     rw [hk,if_pos rfl,Nat.one_mul,Xa5] at h
     exact ⟨0,by rw [← XaN h];rfl,hk⟩
   ·exact ⟨q+1,h,by rw [show k+(q+1)=k+1+q by omega];exact e⟩
  ·rintro ⟨q,h,e⟩
   cases q with
   | zero =>
    left
    rw [Nat.add_zero] at e
    rw [e,if_pos rfl,Nat.one_mul,Xa5]
    exact Xas (Option.some.inj h)
   | succ q=>exact .inr ⟨q,h,by rw [show k+1+q=k+(q+1) by omega];exact e⟩
theorem wtS_ne {l:List Nat}(h:l.Nodup){v u:Nat}(hv:v<2 ^ l.length)(hu:u<2 ^ l.length)(e:v≠u):∃ b∈l,(wtS l 0 v).testBit b≠(wtS l 0 u).testBit b:=by
 obtain ⟨q,hq⟩:∃ q,v.testBit q≠u.testBit q:=by
  by_cases h:∃ q,v.testBit q≠u.testBit q
  ·exact h
  ·exact absurd (Nat.eq_of_testBit_eq fun q=>by by_cases x:v.testBit q=u.testBit q;exact x;exact absurd ⟨q,x⟩ h) e
 have hql:q<l.length:=by
  by_cases x:q<l.length
  ·exact x
  ·have p:∀ z,z<2 ^ l.length→z.testBit q=false:=fun z hz=>Nat.testBit_lt_two_pow (Xaf hz (XaH (by decide) (by omega)))
   rw [p v hv,p u hu] at hq;exact absurd rfl hq
 have tb:∀ z:Nat,(wtS l 0 z).testBit l[q]=z.testBit q:=fun z=>by
  have:=zgL l h 0 z l[q]
  cases x:z.testBit q with
  | true=>exact this.mpr ⟨q,Xax hql,by rw [Nat.zero_add];exact x⟩
  | false =>
   cases y:(wtS l 0 z).testBit l[q] with
   | false=>rfl
   | true =>
    obtain ⟨q',h1,h2⟩:=this.mp y
    obtain ⟨a1,a2⟩:=Xar.mp h1
    have:q'=q:=(List.getElem_inj h).mp a2
    rw [this,Nat.zero_add,x] at h2;cases h2
 exact ⟨l[q],Xbe hql,by rw [tb,tb];exact hq⟩
theorem ziE {n a b s:Nat}(hn:n≤3)(ha:a<2 ^ n)(hb:b<2 ^ n)(h:(a * 5+s) % 2 ^ n=(b * 5+s) % 2 ^ n):a=b:=by
 rcases (show n=0∨n=1∨n=2∨n=3 by omega) with rfl | rfl | rfl | rfl <;> simp at ha hb h <;> omega
theorem zjl (n p:Nat):Builtin.bitAnd ((n:Int) / 2 ^ ((p:Nat):Int).toNat) 1=((n / 2 ^ p % 2:Nat):Int):=by
 rw [Xai,show (n:Int) / 2 ^ p=((n / 2 ^ p:Nat):Int) by norm_cast,show (1:Int)=((1:Nat):Int) from rfl,band,Nat.and_one_is_mod]
abbrev zct:Stmt:=top 77
theorem sc_law_rows:FnScope ["bag","bits","models","places","base","k","mask","rows","start","value","want","way","row"] ["bag","bits","models"] (zai zct):=sck rfl rfl rfl (by decide +kernel)
inductive spRows5 (vs:List V)(H:Hp)(Q:VK)(u3_:XK):Prop
 | mk (p ML:Addr) (D:Dt) (md rw:Nat→Addr) (us:Nat→List Nat) (n nb:Nat) (z0_:vs=[.ref p,.int (nb:Int),.ref ML]) (z1_:Bg H p n) (z2_:n<2 ^ 29) (z3_:En5 D md rw ML p H us) (z4_:1≤nb) (z5_:nb≤16) (z6_:D.kd 0=2) (z7_:(∀ i,i<D.m→1≤D.sz i)) (z8_:∀ (R:Addr) (ws:List (Addr×Rw)) (H':Hp),H R=none→H' R=some (.tup (refs ws))→RwsAt2 nb H' ws→(∀ z∈ws,Fit D z.2)→ws.Pairwise (fun a b=>NC a.2 b.2)→ws.length≤16→Bg H' p (n+3000)→KeepP p H H'→Q (.ref R) H')
theorem RwAt.keepP {p:Addr}{H H':Hp}{t:Addr}{r:Rw}{n:Nat}(h:RwAt H t r)(b:Bg H p n)(k:KeepP p H H'):RwAt H' t r:=by
 obtain ⟨a,c,e,_⟩:=b
 have nt:∀ {y:Addr} {v:List V},H y=some (.tup v)→H' y=some (.tup v):=fun {y v} e'=>k _ _ (fun q=>by rw [q,e] at e';cases e') e'
 obtain ⟨lt,e1,e2⟩:=h
 refine ⟨lt,nt e1,?_⟩
 cases hl:r.l with
 | none=>rw [hl] at e2;exact e2
 | some q =>
  rw [hl] at e2
  obtain ⟨u,eu,hu⟩:=e2
  exact ⟨u,eu,nt hu⟩
structure RsG (D:Dt)(nb:Nat)(bas:List Nat)(st i:Nat)(Y:Hp)(ws:List (Addr×Rw)):Prop where
 at_:RwsAt2 nb Y ws
 fit:∀ z∈ws,Fit D z.2
 pw:ws.Pairwise (fun a b=>NC a.2 b.2)
 ln:ws.length≤2 * i
 bs:∀ z∈ws,∃ j,j<i∧∀ b∈bas,z.2.m.testBit b=true∧z.2.w.testBit b=(wtS bas 0 ((j * 5+st) % 2 ^ bas.length)).testBit b
theorem RsG.add {D:Dt}{nb:Nat}{bas:List Nat}{st i:Nat}{Y:Hp}{ws rs:List (Addr×Rw)}(g:RsG D nb bas st i Y ws)(nd:bas.Nodup)(h3:bas.length≤3)(hi:i<2 ^ bas.length)(ra:RwsAt2 nb Y rs)(f:∀ z∈rs,Fit D z.2)(pw:rs.Pairwise (fun a b=>NC a.2 b.2))(ln:rs.length≤2)
  (hb:∀ z∈rs,∀ b∈bas,z.2.m.testBit b=true∧z.2.w.testBit b=(wtS bas 0 ((i * 5+st) % 2 ^ bas.length)).testBit b):RsG D nb bas st (i+1) Y (ws ++ rs):=by
 refine ⟨fun z hz=>(XaP.mp hz).elim (g.at_ z) (ra z),fun z hz=>(XaP.mp hz).elim (g.fit z) (f z),List.pairwise_append.mpr ⟨g.pw,pw,fun a ha b hb'=>?_⟩,by have:=g.ln;rw [Xan];omega,fun z hz=>?_⟩
 ·obtain ⟨j,hj,e⟩:=g.bs a ha
  have e2:=hb b hb'
  have p0:0<2 ^ bas.length:=Nat.two_pow_pos _
  obtain ⟨q,hq,ne⟩:=wtS_ne nd (Nat.mod_lt (j * 5+st) p0) (Nat.mod_lt (i * 5+st) p0) (fun h=>by have:=ziE h3 (by omega) hi h;omega)
  exact zjH (e q hq).1 (e2 q hq).1 (by rw [(e q hq).2,(e2 q hq).2];exact ne)
 ·rcases XaP.mp hz with hz | hz
  ·obtain ⟨j,hj,e⟩:=g.bs z hz;exact ⟨j,by omega,e⟩
  ·exact ⟨i,by omega,hb z hz⟩
theorem RsG.keepP {D:Dt}{nb:Nat}{bas:List Nat}{st i n:Nat}{p:Addr}{Y Z:Hp}{ws:List (Addr×Rw)}(g:RsG D nb bas st i Y ws)(b:Bg Y p n)(k:KeepP p Y Z):RsG D nb bas st i Z ws:=⟨fun z hz=>⟨(g.at_ z hz).1.keepP b k,(g.at_ z hz).2⟩,g.fit,g.pw,g.ln,g.bs⟩
theorem zft {f:Addr}{fd:FuncData}(F:Fun K "_law_rows" "_law_rows" zct f fd)(T:Blt mg)(G_law_draw:Cal P w K mg base 1 "_law_draw" ["bag","many"] spDw)(G_law_row:Cal P w K mg base 2 "_law_row" ["bag","models","places","mask","want"] spRow5)(G_law_latched:Cal P w K mg base 2 "_law_latched" ["bag","models","row"] spLatd):FnOk P w K mg base CX0 3 f fd ["bag","bits","models"] spRows5:=by
 refine F.ok sc_law_rows (by walk_at "l") (fun cdv A outer s H vs Q E hr h=>?_)
 ·obtain ⟨p,ML,D,md,rw_,us,n,nb,rfl,bg,hn,en,hb1,hb16,h02,hsz1,k⟩:=h
  refine' ⟨_,(zad (@ps_L _ _ _ _ _ _ 3 sc_law_rows.nd (@zaH _ _ _ _ _ _ _ _ _ (zgy rfl) (by rfl) T.list zcc (@zaa _ _ _ _ _ (@zaH _ _ _ _ _ _ _ _ _ ze4 (by rfl) T.range PyProof.Rows.boot_range (@zaa _ _ _ _ _ (@pv _ 1 _ _ (by rfl) (by walk_at "o") (by decide) (by decide)) (@zac _) (by rfl)) (by decide) (by decide) (by rfl) (by rfl)) (@zac _) (by rfl)) (by decide) (by decide) (by rfl) (by rfl)) (by rfl) (by exact Or.inl rfl) (by rfl) (by walk_at "p"))
   (zad (@zg8 _ _ (4) _ _ _ _ sc_law_rows.nd rfl (Or.inr rfl) (@zav _ _ _ _ (@zac _)) (by rfl) (by walk_at "p"))
   (zad (@zb0 _ _ _ _ _ _ _ _ PassesOwn.never rfl (@zaX _ _ _ _ _ _ rfl T.range (@zaa _ _ _ _ _ (@zaq _ _ _ _ _ _ _ _ za2 (@zaf _ _ _ _) (@pe_c _ _ _ _ _ _ _ _ _ _ G_law_draw (@zaa _ _ _ _ _ (@pv _ 0 _ _ (by rfl) (by walk_at "o") (by decide) (by decide)) (@zaa _ _ _ _ _ (@zak _ _ _ _ _ _ _ _ _ (zhN rfl) (by rfl) T.min PyProof.Rows.boot_min (@zaa _ _ _ _ _ (@zaf _ _ _ _) (@zaa _ _ _ _ _ (@pv _ 1 _ _ (by rfl) (by walk_at "o") (by decide) (by decide)) (@zac _) (by rfl)) (by rfl)) (by decide) (by decide) (by rfl) (by rfl)) (@zac _) (by rfl)) (by rfl)) (by exact hrm ( by assumption )) (by rfl) (by decide) (by rfl) (by rfl))) (@zac _) (by rfl)) (by rfl)) (@pg_L _ _ _ 5 sc_law_rows.nd (by rfl) (by exact Or.inl rfl) (by walk_at "p")) (@zag _ _ _ (@zaI _ _ _ _ (@zgd _ _ _ _ _ _ _ _ _ _ _ _ PySem.F.plainAttrs_list PySem.F.slot_list_append PySem.F.type_list_append zbR (@pv _ 4 _ _ (by rfl) (by walk_at "o") (by decide) (by decide)) (@zaa _ _ _ _ _ (@zgd _ _ _ _ _ _ _ _ _ _ _ _ PySem.F.plainAttrs_list PySem.F.slot_list_pop PySem.F.type_list_pop zit (@pv _ 3 _ _ (by rfl) (by walk_at "o") (by decide) (by decide)) (@zaa _ _ _ _ _ (@pe_c _ _ _ _ _ _ _ _ _ _ G_law_draw (@zaa _ _ _ _ _ (@pv _ 0 _ _ (by rfl) (by walk_at "o") (by decide) (by decide)) (@zaa _ _ _ _ _ (@zak _ _ _ _ _ _ _ _ _ zam (by rfl) T.len PySem.boot_len (@zaa _ _ _ _ _ (@pv _ 3 _ _ (by rfl) (by walk_at "o") (by decide) (by decide)) (@zac _) (by rfl)) (by decide) (by decide) (by rfl) (by rfl)) (@zac _) (by rfl)) (by rfl)) (by exact hrm (by assumption)) (by rfl) (by decide) (by rfl) (by rfl)) (@zac _) (by rfl)) (by rfl) (by rfl) (by rfl) (by rfl) (by rfl)) (@zac _) (by rfl)) (by rfl) (by rfl) (by rfl) (by rfl) (by rfl)) (by rfl))) (by intro _;rfl))
   (zad (ps_L 6 sc_law_rows.nd (zak (ze2 rfl) (by rfl) T.sum PyProof.Rows.boot_sum (zaa ?c2 zac)))
   (zad (@ps_L _ _ _ _ _ _ 7 sc_law_rows.nd (@zav _ _ _ _ (@zac _)) (by rfl) (by exact Or.inl rfl) (by rfl) (by walk_at "p"))
   (zad (@ps_L _ _ _ _ _ _ 8 sc_law_rows.nd (@pe_c _ _ _ _ _ _ _ _ _ _ G_law_draw (@zaa _ _ _ _ _ (@pv _ 0 _ _ (by rfl) (by walk_at "o") (by decide) (by decide)) (@zaa _ _ _ _ _ (@zaf _ _ _ _) (@zac _) (by rfl)) (by rfl)) (by exact hrm ( by assumption )) (by rfl) (by decide) (by rfl) (by rfl)) (by rfl) (by exact Or.inl rfl) (by rfl) (by walk_at "p"))
   (zad (zb0 PassesOwn.never rfl (zaX rfl T.range (zaa (zaq zbN zaf (zak zam (by rfl) T.len PySem.boot_len (zaa (pv 4) zac))) zac)) (pg_L 5 sc_law_rows.nd)
   (zad (@zg8 _ _ (9) _ _ _ _ sc_law_rows.nd rfl (Or.inr rfl) (@zaq _ _ _ _ _ _ _ _ zcJ (@zaq _ _ _ _ _ _ _ _ za2 (@zaq _ _ _ _ _ _ _ _ zbp (@pv _ 5 _ _ (by rfl) (by walk_at "o") (by decide) (by decide)) (@zaf _ _ _ _)) (@pv _ 8 _ _ (by rfl) (by walk_at "o") (by decide) (by decide))) (@zaq _ _ _ _ _ _ _ _ zbN (@zaf _ _ _ _) (@zak _ _ _ _ _ _ _ _ _ zam (by rfl) T.len PySem.boot_len (@zaa _ _ _ _ _ (@pv _ 4 _ _ (by rfl) (by walk_at "o") (by decide) (by decide)) (@zac _) (by rfl)) (by decide) (by decide) (by rfl) (by rfl)))) (by rfl) (by walk_at "p"))
   (zad (ps_L 10 sc_law_rows.nd (zak (ze2 rfl) (by rfl) T.sum PyProof.Rows.boot_sum (zaa ?c1 zac)))
   (zad (@ps_L _ _ _ _ _ _ 11 sc_law_rows.nd (@pe_c _ _ _ _ _ _ _ _ _ _ G_law_draw (@zaa _ _ _ _ _ (@pv _ 0 _ _ (by rfl) (by walk_at "o") (by decide) (by decide)) (@zaa _ _ _ _ _ (@zaf _ _ _ _) (@zac _) (by rfl)) (by rfl)) (by exact hrm ( by assumption )) (by rfl) (by decide) (by rfl) (by rfl)) (by rfl) (by exact Or.inl rfl) (by rfl) (by walk_at "p"))
   (zad (@ps_L _ _ _ _ _ _ 12 sc_law_rows.nd (@pe_c _ _ _ _ _ _ _ _ _ _ G_law_row (@zaa _ _ _ _ _ (@pv _ 0 _ _ (by rfl) (by walk_at "o") (by decide) (by decide)) (@zaa _ _ _ _ _ (@pv _ 2 _ _ (by rfl) (by walk_at "o") (by decide) (by decide)) (@zaa _ _ _ _ _ (@pv _ 3 _ _ (by rfl) (by walk_at "o") (by decide) (by decide)) (@zaa _ _ _ _ _ (@pv _ 6 _ _ (by rfl) (by walk_at "o") (by decide) (by decide)) (@zaa _ _ _ _ _ (@pv _ 10 _ _ (by rfl) (by walk_at "o") (by decide) (by decide)) (@zac _) (by rfl)) (by rfl)) (by rfl)) (by rfl)) (by rfl)) (by exact hrm ( by assumption )) (by rfl) (by decide) (by rfl) (by rfl)) (by rfl) (by exact Or.inl rfl) (by rfl) (by walk_at "p"))
   (zag (@zaB _ _ _ _ _ _ _ _ (@zat _ _ _ _ _ _ _ _ zhl (@pv _ 11 _ _ (by rfl) (by walk_at "o") (by decide) (by decide)) (@zaf _ _ _ _) (zas _)) (@zag _ _ _ (@ps_L _ _ _ _ _ _ 7 sc_law_rows.nd (@zaq _ _ _ _ _ _ _ _ zhm (@pv _ 7 _ _ (by rfl) (by walk_at "o") (by decide) (by decide)) (@pe_c _ _ _ _ _ _ _ _ _ _ G_law_latched (@zaa _ _ _ _ _ (@pv _ 0 _ _ (by rfl) (by walk_at "o") (by decide) (by decide)) (@zaa _ _ _ _ _ (@pv _ 2 _ _ (by rfl) (by walk_at "o") (by decide) (by decide)) (@zaa _ _ _ _ _ (@pv _ 12 _ _ (by rfl) (by walk_at "o") (by decide) (by decide)) (@zac _) (by rfl)) (by rfl)) (by rfl)) (by exact hrm (by assumption)) (by rfl) (by decide) (by rfl) (by rfl))) (by rfl) (by exact Or.inl rfl) (by rfl) (by walk_at "p"))) (@zag _ _ _ (@zaB _ _ _ _ _ _ _ _ (@zat _ _ _ _ _ _ _ _ zhl (@pv _ 11 _ _ (by rfl) (by walk_at "o") (by decide) (by decide)) (@zaf _ _ _ _) (zas _)) (@zag _ _ _ (@zaI _ _ _ _ (@zgd _ _ _ _ _ _ _ _ _ _ _ _ PySem.F.plainAttrs_list PySem.F.slot_list_append PySem.F.type_list_append zbR (@pv _ 7 _ _ (by rfl) (by walk_at "o") (by decide) (by decide)) (@zaa _ _ _ _ _ (@pv _ 12 _ _ (by rfl) (by walk_at "o") (by decide) (by decide)) (@zac _) (by rfl)) (by rfl) (by rfl) (by rfl) (by rfl) (by rfl)) (by rfl))) (@zap _))))))))))
   (zag (@zal _ _ _ _ (@zaH _ _ _ _ _ _ _ _ _ zbE (by rfl) T.tuple zbi (@zaa _ _ _ _ _ (@pv _ 7 _ _ (by rfl) (by walk_at "o") (by decide) (by decide)) (@zac _) (by rfl)) (by decide) (by decide) (by rfl) (by rfl))))))))))),?rd⟩
  (case c1=>exact (zdn (Nc:=["j","value","base"]) [none,some 9,some 4] rfl (zaZ (by rfl)) (zaX rfl T.range (zaa (zak zam (by rfl) T.len PySem.boot_len (zaa (pv 4) zac)) zac)) (fun _ _ _ _ _=>(pg_L 0 (show (["j","value","base"]:List Str).Nodup by decide +kernel))) (fun _ _ _ _ _=>zdY) (fun _ _ _ _ _=>(zaq zbN (zaq zck (zaq ziZ (pv 1) (pv 0)) zaf) (pe_x (zel (K:=K) rfl) (pv 2) (pv 0))))))
  (case c2=>exact (zdn (Nc:=["place"]) [none] rfl (zaZ (by rfl)) (zfn (pv 4)) (fun _ _ _ _ _=>(pg_L 0 (show (["place"]:List Str).Nodup by decide +kernel))) (fun _ _ _ _ _=>zdY) (fun _ _ _ _ _=>(zaq zbN zaf (pv 0)))))
  have m1:=en.m1
  have m5:=en.m5
  refine ⟨_,rfl,nb,rfl,fun r0 hr0=>⟨r0,nb,rfl,zab,by omega,fun PL hPL=>?_⟩⟩
  refine ⟨by show 0≤sizeLine;decide,fun BL hBL=>?_⟩
  have s0:=((zae (H:=H) (o:=.rng 0 (nb:Int)) hr0).trans (zae (o:=.lst ((List.range nb).map fun (b:Nat)=>V.int (b:Int))) hPL)).trans (zae (o:=.lst []) hBL)
  have npP:PL≠p:=(bg.same (zae hr0)).ne hPL
  have npB:BL≠p:=(bg.same ((zae hr0).trans (zae hPL))).ne hBL
  have nPB:PL≠BL:=fun q=>by rw [← q,zab] at hBL;cases hBL
  have ePL:upd (upd (upd H r0 (.rng 0 (nb:Int))) PL (.lst ((List.range nb).map fun (b:Nat)=>V.int (b:Int)))) BL (.lst []) PL=some (.lst (vN (List.range nb))):=zae hBL _ _ zab
  have eBL:upd (upd (upd H r0 (.rng 0 (nb:Int))) PL (.lst ((List.range nb).map fun (b:Nat)=>V.int (b:Int)))) BL (.lst []) BL=some (.lst (vN [])):=zab
  have hPH:H PL=none:=(zae hr0).free hPL
  have hBH:H BL=none:=((zae hr0).trans (zae hPL)).free hBL
  have kp0:KeepP p H (upd (upd (upd H r0 (.rng 0 (nb:Int))) PL (.lst ((List.range nb).map fun (b:Nat)=>V.int (b:Int)))) BL (.lst [])):=.of s0
  have bg0:=bg.same s0
  generalize upd (upd (upd H r0 (.rng 0 (nb:Int))) PL (.lst ((List.range nb).map fun (b:Nat)=>V.int (b:Int)))) BL (.lst [])=X0 at *
  obtain ⟨mx,hmx,emx⟩:∃ mx:Nat,(1≤mx∧mx≤3∧mx≤nb)∧(if (nb:Int)<3 then (nb:Int) else 3)=(mx:Int):=by
   by_cases h:(nb:Int)<3
   ·exact ⟨nb,⟨by omega,by omega,by omega⟩,if_pos h⟩
   ·exact ⟨3,⟨by omega,by omega,by omega⟩,if_neg h⟩
  refine ⟨_,rfl,_,rfl,_,_,rfl,?_⟩
  rw [emx]
  refine ⟨p,(mx:Int),n,rfl,bg0,by omega,by omega,by omega,fun d X1 hd bg1 k1=>⟨_,_,rfl,rfl,_,rfl,by omega,by omega,?_⟩⟩
  rw [show (1:Int)+(d:Int)=((1+d:Nat):Int) by omega]
  rw [Xai]
  have kp1:=kp0.trans (zar k1)
  have keepH:∀ {Y:Hp} {a:Addr} {u:HO},KeepP p H Y→H a=some u→a≠p→Y a=some u:=fun {Y a u} k e h=>k _ _ h e
  refine zbT (n:=1+d) (fun i σ Y=>∃ (v5:Option V) (pls bas:List Nat),σ=[some (.ref p),some (.int (nb:Int)),some (.ref ML),some (.ref PL),some (.ref BL),v5,none,none,none,none,none,none,none]∧Y PL=some (.lst (vN pls))∧Y BL=some (.lst (vN bas))∧(bas ++ pls).Perm (List.range nb)∧bas.length=i∧Bg Y p (n+1+i)∧KeepP p H Y) ⟨_,List.range nb,[],rfl,by rw [k1 _ npP];exact ePL,by rw [k1 _ npB];exact eBL,.rfl,rfl,bg1,kp1⟩ ?_ ?_
  ·rintro i σ Y hi ⟨v5,pls,bas,rfl,eP,eB,pm,hbl,bgY,kY⟩
   have hlen:bas.length+pls.length=nb:=by have:=pm.length_eq;rw [Xan,XaX] at this;exact this
   have hpl:1≤pls.length:=by omega
   refine ⟨_,rfl,.inl ⟨rfl,_,SqL.of eB⟩,_,rfl,.inl ⟨rfl,_,SqL.of eP⟩,_,rfl,_,rfl,PL,_,rfl,.inl (SqL.of eP),p,_,_,rfl,bgY,by omega,by rw [zao];omega,by rw [zao];omega,fun r Y1 hr1 bg2 k2=>?_⟩
   rw [zao] at hr1
   have hr1:r<pls.length:=by omega
   have eP1:Y1 PL=some (.lst (vN pls)):=by rw [k2 _ npP];exact eP
   have eB1:Y1 BL=some (.lst (vN bas)):=by rw [k2 _ npB];exact eB
   refine ⟨PL,_,_,r,_,rfl,rfl,eP1,by omega,by omega,(by rw [zao];unfold seqIndex?;simp;omega),zgN (Xax hr1),?_⟩
   have ev:(vN pls).eraseIdx r=vN (pls.eraseIdx r):=zhC _ pls r
   rw [ev]
   refine ⟨BL,_,_,rfl,rfl,by rw [zah (Ne.symm nPB)];exact eB1,zdc (by rw [zao];omega),?_⟩
   refine ⟨_,pls.eraseIdx r,bas ++ [pls[r]],rfl,by rw [zah nPB];exact zab,by rw [zab,zd5],?_,by rw [Xan,hbl];rfl,?_,fun b o hb e=>?_⟩
   ·rw [List.append_assoc]
    exact ((L2.erase_perm hr1).append_left bas).trans pm
   ·refine Bg.mono (n:=n+1+i+1) ?_ (by omega)
    obtain ⟨a',c',e',z⟩:=bg2
    exact ⟨a',c',by rw [zah (Ne.symm npB),zah (Ne.symm npP)];exact e',z⟩
   ·rw [zah (fun q=>by rw [q,hBH] at e;cases e),zah (fun q=>by rw [q,hPH] at e;cases e),k2 b hb];exact kY b o hb e
  ·rintro σ Y ⟨v5,pls,bas,rfl,eP,eB,pm,hbl,bgY,kY⟩
   have nd:(bas ++ pls).Nodup:=pm.nodup_iff.mpr List.nodup_range
   obtain ⟨nd1,nd2,nd3⟩:=XaR.mp nd
   have hmem:∀ x,x∈bas∨x∈pls→x<nb:=fun x hx=>List.mem_range.mp (pm.mem_iff.mp (XaP.mpr hx))
   have hlen:bas.length+pls.length=nb:=by have:=pm.length_eq;rw [Xan,XaX] at this;exact this
   have hlb:1≤bas.length∧bas.length≤3:=by omega
   have tbM:=ziQ bas nd1
   try dsimp only
   refine ⟨_,rfl,BL,rfl,⟨_,SqL.of eB⟩,?_⟩
   refine zeZ (K:=K) (a:=BL) (xs:=vN bas) (fun j ys σ X=>∃ (v0:Option V) (ns:List Int),σ=[v0]∧ys=ns.map V.int∧ns.length=j∧ns.sum+(smP (bas.drop j):Int)=(smP bas:Int)∧X=Y) (by rw [zao];exact Xam hlb.2 (by decide)) ⟨none,[],rfl,rfl,rfl,by simp,rfl⟩ ?_ ?_ ?_
   ·rintro j ys σ X _ ⟨v0,ns,rfl,rfl,hl,_,rfl⟩
    exact ⟨SqL.of eB,by rw [Xal];omega⟩
   ·rintro j x ys σ X hx ⟨v0,ns,rfl,rfl,hl,hs,rfl⟩
    obtain ⟨q,hq,rfl⟩:=zgM hx
    obtain ⟨hjl,hq'⟩:=Xar.mp hq
    have hqn:=hmem q (.inl (XaK hq))
    refine ⟨_,rfl,_,_,rfl,rfl,⟨by omega,by omega,by decide⟩,?_⟩
    try dsimp only
    rw [show (1:Int) * 2 ^ ((q:Nat):Int).toNat=((2 ^ q:Nat):Int) by rw [Int.one_mul,Xai];norm_cast]
    refine ⟨_,ns ++ [((2 ^ q:Nat):Int)],rfl,by rw [Xa2];rfl,by rw [Xan,hl];rfl,?_,rfl⟩
    rw [List.drop_eq_getElem_cons hjl,hq'] at hs
    have e:smP (q :: bas.drop (j+1))=2 ^ q+smP (bas.drop (j+1)):=rfl
    rw [e] at hs
    rw [List.sum_append,List.sum_singleton,← hs];omega
   ·rintro ys σ X ⟨v0,ns,rfl,rfl,hl,hs,rfl⟩ D0 hD0
    rw [zao,List.drop_length] at hs
    have hs:ns.sum=(smP bas:Int):=by rw [← hs];show _=_+((0:Nat):Int);omega
    refine ⟨D0,ns,rfl,SqL.of zab,?_⟩
    rw [hs]
    try dsimp only [zaA,List.set]
    refine ⟨by show 0≤sizeLine;decide,fun RL hRL=>?_⟩
    have kA:KeepP p X (upd (upd X D0 (.lst (ns.map V.int))) RL (.lst [])):=.of ((zae hD0).trans (zae hRL))
    have bgA:=bgY.same ((zae (o:=.lst (ns.map V.int)) hD0).trans (zae (o:=.lst []) hRL))
    have eRL:upd (upd X D0 (.lst (ns.map V.int))) RL (.lst []) RL=some (.lst (refs ([]:List (Addr×Rw)))):=zab
    have hRX:X RL=none:=(zae hD0).free hRL
    generalize upd (upd X D0 (.lst (ns.map V.int))) RL (.lst [])=XA at *
    try dsimp only [zaA,List.set]
    refine ⟨_,rfl,p,8,_,rfl,bgA,by omega,by decide,by decide,fun st XB hst bgB kB=>?_⟩
    have hst:st<8:=by omega
    try dsimp only [zaA,List.set]
    have c2:(1:Int) * 2 ^ ((bas.length:Nat):Int).toNat=((2 ^ bas.length:Nat):Int):=by rw [Int.one_mul,Xai];norm_cast
    have kpB:=kA.trans (zar kB)
    refine ⟨_,rfl,BL,_,rfl,.inl (SqL.of (kpB _ _ npB eB)),_,_,rfl,rfl,?_,?_⟩
    ·rw [zao];exact ⟨by omega,by omega,by decide⟩
    try dsimp (proj:=false) only
    rw [zao,c2]
    have hp8:2 ^ bas.length≤8:=XaH (n:=2) (by decide) hlb.2
    have npR:RL≠p:=fun q=>by obtain ⟨a',b',e',_⟩:=bgY;rw [q,e'] at hRX;cases hRX
    obtain ⟨P2,hP2⟩:∃ P2:Nat,P2=2 ^ bas.length:=⟨_,rfl⟩
    rw [← hP2] at hp8 ⊢
    refine ⟨_,rfl,by omega,by omega,?_⟩
    rw [Xai]
    refine zbT (n:=P2) (fun i σ Z=>∃ (v5 v9 v10 v11 v12:Option V) (RL:Addr) (ws:List (Addr×Rw)),σ=[some (.ref p),some (.int (nb:Int)),some (.ref ML),some (.ref PL),some (.ref BL),v5,some (.int (smP bas:Int)),some (.ref RL),some (.int (st:Int)),v9,v10,v11,v12]∧Z RL=some (.lst (refs ws))∧X RL=none∧RsG D nb bas st i Z ws∧Bg Z p (n+5+90 * i)∧KeepP p X Z) ⟨_,_,_,_,_,RL,[],rfl,by rw [kB _ npR];exact eRL,hRX,⟨(fun _ h=>nomatch h),(fun _ h=>nomatch h),.nil,Nat.zero_le _,(fun _ h=>nomatch h)⟩,bgB.mono (by omega),kpB⟩ ?_ ?_
    ·rintro i σ Z hi ⟨v5,v9,v10,v11,v12,RL,ws,rfl,eR,hRX,g,bgZ,kZ⟩
     try dsimp only [zaA,List.set]
     have eBZ:=kZ _ _ npB eB
     have ePZ:=kZ _ _ npP eP
     have enZ:=en.keep (kY.trans kZ)
     refine ⟨_,rfl,_,_,rfl,rfl,zbQ (by omega) (by decide),_,rfl,_,_,rfl,rfl,_,rfl,BL,_,rfl,.inl (SqL.of eBZ),_,_,rfl,rfl,?_,?_⟩
     ·rw [zao];exact ⟨by omega,by omega,by decide⟩
     try dsimp (proj:=false) only
     rw [zao,c2,← hP2]
     refine ⟨_,_,rfl,rfl,by omega,?_⟩
     try dsimp (proj:=false) only [zaA,List.set]
     obtain ⟨val,hval⟩:∃ val:Nat,val=(i * 5+st) % 2 ^ bas.length:=⟨_,rfl⟩
     rw [show ((0+(i:Int)) * 5+(st:Int)) % (P2:Int)=(val:Int) by rw [Int.zero_add,hval,← hP2];norm_cast]
     refine ⟨_,rfl,BL,_,rfl,.inl (SqL.of eBZ),_,rfl,by omega,by rw [zao];omega,?_⟩
     rw [zao,Xai]
     refine zcE (n:=bas.length) (fun j ys σ W=>∃ (v0:Option V) (ns:List Int),σ=[v0,some (.int (val:Int)),some (.ref BL)]∧ys=ns.map V.int∧ns.length=j∧ns.sum+(wtS (bas.drop j) j val:Int)=(wtS bas 0 val:Int)∧W=Z) (Xam hlb.2 (by decide)) ⟨none,[],rfl,rfl,rfl,by simp,rfl⟩ ?_ ?_ ?_
     ·rintro j ys σ W ⟨v0,ns,rfl,rfl,hl,_,rfl⟩
      rw [Xal];omega
     ·rintro j ys σ W hj ⟨v0,ns,rfl,rfl,hl,hs,rfl⟩
      have hqn:=hmem bas[j] (.inl (Xbe hj))
      rw [show (0:Int)+(j:Int)=(j:Int) by omega]
      refine ⟨_,rfl,_,rfl,_,_,rfl,rfl,by omega,?_⟩
      refine ⟨_,_,rfl,rfl,?_⟩
      try dsimp only
      rw [zjl]
      refine ⟨_,rfl,_,rfl,BL,_,_,_,rfl,rfl,SqL.of eBZ,zaT (zgN (Xax hj)),?_⟩
      refine ⟨_,_,rfl,rfl,⟨by omega,by omega,by omega⟩,?_⟩
      try dsimp only
      rw [show ((val / 2 ^ j % 2:Nat):Int) * 2 ^ ((bas[j]:Nat):Int).toNat=((val / 2 ^ j % 2 * 2 ^ bas[j]:Nat):Int) by rw [Xai];norm_cast]
      refine ⟨_,ns ++ [((val / 2 ^ j % 2 * 2 ^ bas[j]:Nat):Int)],rfl,by rw [Xa2];rfl,by rw [Xan,hl];rfl,?_,rfl⟩
      rw [List.drop_eq_getElem_cons hj] at hs
      have e:wtS (bas[j] :: bas.drop (j+1)) j val=val / 2 ^ j % 2 * 2 ^ bas[j]+wtS (bas.drop (j+1)) (j+1) val:=rfl
      rw [e] at hs
      rw [List.sum_append,List.sum_singleton,← hs];omega
     ·rintro ys σ W ⟨v0,ns,rfl,rfl,hl,hs,rfl⟩ D1 hD1
      rw [List.drop_length] at hs
      have hs:ns.sum=(wtS bas 0 val:Int):=by rw [← hs];show _=_+((0:Nat):Int);omega
      refine ⟨D1,ns,rfl,SqL.of zab,?_⟩
      rw [hs]
      try dsimp (proj:=false) only [zaA,List.set]
      have sC:=zae (o:=.lst (ns.map V.int)) hD1
      have bgC:=bgZ.same sC
      have kC:=kZ.trans (.of sC)
      have gC:=g.keepP bgZ (.of sC)
      have eRC:=sC _ _ eR
      generalize upd W D1 (.lst (ns.map V.int))=ZC at *
      refine ⟨_,rfl,p,7,_,rfl,bgC,by omega,by decide,by decide,fun way ZD hway bgD kD=>?_⟩
      have npR:RL≠p:=fun q=>by obtain ⟨a',b',e',_⟩:=bgY;rw [q,e'] at hRX;cases hRX
      have kpD:=kC.trans (zar kD)
      have gD:=gC.keepP bgC (zar kD)
      have eRD:=zar kD _ _ npR eRC
      try dsimp (proj:=false) only [zaA,List.set]
      refine ⟨_,rfl,_,rfl,_,rfl,_,rfl,_,rfl,p,ML,PL,D,md,rw_,us,pls,smP bas,wtS bas 0 val,_,nb,rfl,bgD,by omega,en.keep (kY.trans kpD),kpD _ _ npP eP,Ne.symm npP,nd2,hb16,fun q hq=>⟨hmem q (.inr hq),?_⟩,by omega,fun j hj=>?_,fun t m w i' c ZE ht rp hc hic et bgE kE=>?_⟩
      ·rw [tbM q];exact Xao fun h=>nd3 q h q hq rfl
      ·obtain ⟨q,hq,_⟩:=(zgL bas nd1 0 val j).mp hj
       rw [tbM j];exact Xas (XaK hq)
      have gE:=gD.keepP bgD kE
      have kpE:=kpD.trans kE
      have eRE:=kE _ _ npR eRD
      have hbN:smP bas<2 ^ nb:=zbV fun j hj=>by rw [tbM j] at hj;exact hmem j (.inl (XaN hj))
      have rok:∀ c l,c<100→zjW l→RwOk nb ⟨m,w,i',c,l⟩:=fun c l hc hl=>rp.ok hbN (fun q hq=>hmem q (.inr hq)) hc hl
      have r0:=rok c none (by omega) trivial
      have hbs:∀ b∈bas,m.testBit b=true∧w.testBit b=(wtS bas 0 ((i * 5+st) % 2 ^ bas.length)).testBit b:=fun b hb=>by
       have e:(smP bas).testBit b=true:=by rw [tbM b];exact Xas hb
       exact ⟨rp.mb b e,by rw [← hval];exact rp.wb b e⟩
      have hi2:i<2 ^ bas.length:=by rw [← hP2];exact hi
      refine ⟨_,rfl,_,_,rfl,rfl,_,rfl,ite2 (fun _=>?_) (fun _=>?_)⟩
      ·refine ⟨_,rfl,_,rfl,_,rfl,_,rfl,p,ML,t,D,md,rw_,us,m,w,i',c,_,rfl,bgE,by omega,en.keep (kY.trans kpE),et,hc,hic,Xaf r0.i0 (XaH (by decide) hb16),h02,hsz1,fun L rs ZF hL eL hr2 hrs pwr bgF kF=>?_⟩
       have gF:=gE.keepP bgE kF
       refine ⟨RL,L,_,_,rfl,rfl,SqL.of (kF _ _ npR eRE),SqL.of eL,?_,fun RN hRN=>?_⟩
       ·rw [zay,zay]
        have:=g.ln
        exact Xam (show ws.length+rs.length≤100 by omega) (by decide)
       have kpF:=kpE.trans kF
       have hRNX:X RN=none:=by
        cases e:X RN with
        | none=>rfl
        | some u=>rw [kpF _ _ (bgF.ne hRN) e] at hRN;cases hRN
       refine ⟨_,_,_,_,_,RN,ws ++ rs,rfl,by rw [zab];unfold refs;rw [Xa2],hRNX,RsG.keepP (gF.add nd1 hlb.2 hi2 (fun z hz=>⟨(hrs z hz).1,?_⟩) (fun z hz=>?_) pwr hr2 (fun z hz b hb=>?_)) bgF (.of (zae hRN)),(bgF.same (zae hRN)).mono (by omega),kpF.trans (.of (zae hRN))⟩
       ·obtain ⟨⟨e1,e2,e3⟩,⟨f1,f2⟩,x,a,b,el,x1,x2,a1,ba⟩:=(hrs z hz).2
        obtain ⟨z0,⟨zm,zw,zi,zc,zl⟩⟩:=z
        dsimp only at e1 e2 e3 f1 f2 el
        subst e1 e2 el
        rcases e3 with e3 | e3
        ·subst e3;exact rok zc _ (by omega) ⟨by omega,a1,ba⟩
        ·subst e3;exact ⟨r0.m0,r0.w0,r0.wm,Nat.two_pow_pos _,Nat.zero_and _,(by show zc<100;omega),⟨by omega,a1,ba⟩⟩
       ·obtain ⟨_,⟨f1,f2⟩,x,a,b,el,x1,x2,a1,ba⟩:=(hrs z hz).2
        exact ⟨f1,f2,fun c' a' b' e=>by rw [el] at e;cases e;exact ⟨x1,x2⟩⟩
       ·obtain ⟨⟨e1,e2,_⟩,_⟩:=(hrs z hz).2
        rw [e1,e2];exact hbs b hb
      ·refine ⟨_,rfl,_,_,rfl,rfl,_,rfl,ite2 (fun _=>?_) (fun _=>zax ?_)⟩
       ·refine ⟨_,rfl,.inl ⟨rfl,_,SqL.of eRE⟩,_,rfl,RL,_,_,rfl,rfl,eRE,zdc (by rw [zay];have:=g.ln;omega),?_⟩
        have gN:=gE.add (rs:=[(t,⟨m,w,i',c,none⟩)]) nd1 hlb.2 hi2 (fun z hz=>by obtain rfl:=Xad.mp hz;exact ⟨⟨.non,et,rfl⟩,r0⟩) (fun z hz=>by obtain rfl:=Xad.mp hz;exact ⟨hc,hic,fun _ _ _ e=>nomatch e⟩) (List.pairwise_singleton _ _) (by simp) (fun z hz=>by obtain rfl:=Xad.mp hz;exact hbs)
        refine ⟨_,_,_,_,_,RL,ws ++ [(t,⟨m,w,i',c,none⟩)],rfl,by rw [zab,zg6],hRX,⟨gN.at_.updL eRE,gN.fit,gN.pw,gN.ln,gN.bs⟩,?_,fun b o hb e=>?_⟩
        ·refine Bg.mono (n:=n+5+90 * i+1+40) ?_ (by omega)
         obtain ⟨a',c',e',z⟩:=bgE
         exact ⟨a',c',by rw [zah (Ne.symm npR)];exact e',z⟩
        ·rw [zah (fun q=>by rw [q,hRX] at e;cases e)];exact kpE b o hb e
       ·refine ⟨_,_,_,_,_,RL,ws,rfl,eRE,hRX,⟨gE.at_,gE.fit,gE.pw,by have:=gE.ln;omega,fun z hz=>?_⟩,bgE.mono (by omega),kpE⟩
        obtain ⟨j,hj,e⟩:=gE.bs z hz
        exact ⟨j,by omega,e⟩
    ·rintro σ Z ⟨v5,v9,v10,v11,v12,RL,ws,rfl,eR,hRX,g,bgZ,kZ⟩
     refine ⟨_,rfl,RL,_,rfl,.inl ⟨SqL.of eR,fun l hl=>?_⟩⟩
     have kHZ:=kY.trans kZ
     refine k l ws _ ?_ zab (g.at_.same (zae hl)) g.fit g.pw (by have:=g.ln;omega) ((bgZ.same (zae hl)).mono (by omega)) (kHZ.trans (.of (zae hl)))
     cases e:H l with
     | none=>rfl
     | some u=>rw [kHZ _ _ (bgZ.ne hl) e] at hl;cases hl
abbrev zb6:Stmt:=top 84
theorem sc_law_begun:FnScope ["bag","bits","chips","models","rows","first"] ["bag"] (zai zb6):=sck rfl rfl rfl (by decide +kernel)
theorem BdAt.nob {C:Addr}{B:Bd}{D:Dt}{Y:Hp}{f n:Nat}{p:Addr}(h:BdAt C B D Y f)(g:Bg Y p n)(n1:B.L≠p)(n2:B.la≠p):BdAt C B D (noB p Y) f:=by
 obtain ⟨a,c,ep,_⟩:=g
 obtain ⟨db,e⟩:=h.e
 have nt:∀ {q:Addr} {l:List V},Y q=some (.tup l)→q≠p:=fun {q l} e z=>by rw [z,ep] at e;cases e
 refine ⟨⟨db,zaR (fun z=>by rw [z,ep] at e;cases e) e⟩,h.b1,h.b2,⟨zaR (nt h.rf.e) h.rf.e,fun z hz=>⟨?_,(h.rf.r z hz).2⟩,h.rf.f,h.rf.nc,h.rf.ln⟩,zaR n1 h.ch,zaR n2 h.la,h.kl,h.ks,h.kn,zaR (fun z=>by have:=h.w0;rw [z,ep] at this;cases this) h.w0,h.f0,h.nl⟩
 obtain ⟨lt,et,hlt⟩:=(h.rf.r z hz).1
 refine ⟨lt,zaR (nt et) et,?_⟩
 match hl:z.2.l,hlt with
 | none,hlt=>exact hlt
 | some (c',a',b'),⟨u,e1,eu⟩=>exact ⟨u,e1,zaR (nt eu) eu⟩
structure Be8 (C:Addr)(cs:Nat→Addr)(p:Addr)(X:Hp)(B:Bd)(MA ML:Addr)(cl:List Cm)(fl:Nat):Prop where
 b:BdAt C B (dtC cl) (noB p X) fl
 eA:noB p X MA=some (.lst [.int (B.bits:Int),.ref B.R,.ref ML,.int (fl:Int)])
 eM:noB p X ML=some (.lst (cl.map fun c=>.ref c.m))
 C:CMs cs (noB p X) cl
 l:cl.length≤13
theorem Be8.keep {C:Addr}{cs:Nat→Addr}{p:Addr}{X Y:Hp}{B:Bd}{MA ML:Addr}{cl:List Cm}{fl:Nat}(h:Be8 C cs p X B MA ML cl fl)(k:KeepP p X Y):Be8 C cs p Y B MA ML cl fl:=⟨h.b.same k.nob,k.nob _ _ h.eA,k.nob _ _ h.eM,h.C.same k.nob,h.l⟩
inductive spBegun48 (C:Addr)(cs:Nat→Addr)(vs:List V)(H:Hp)(Q:VK)(u3_:XK):Prop
 | mk (p:Addr) (n:Nat) (z0_:vs=[.ref p]) (z1_:Bg H p n) (z2_:n<2 ^ 27) (z3_:∀ (t MA ML:Addr) (B:Bd) (cl:List Cm) (fl:Nat) (H':Hp),H' t=some (.tup [.ref B.b,.ref MA])→Be8 C cs p H' B MA ML cl fl→2≤B.bits→Bg H' p (n+4000)→KeepP p H H'→Q (.ref t) H')
set_option tactic.hygienic true in
theorem zeM {f C:Addr}{cs:Nat→Addr}{fd:FuncData}(F:Fun K "_law_begun" "_law_begun" zb6 f fd)(T:Blt mg)(G_law_draw:Cal P w K mg base 1 "_law_draw" ["bag","many"] spDw)(G_law_chips:Cal P w K mg base 6 "_law_chips" ["bag"] (spChips48 cs))(G_law_rows:Cal P w K mg base 3 "_law_rows" ["bag","bits","models"] spRows5)
  (GMBoard_3:Mak P w K mg base 7 "Board" C [] (dP [.int 0]) (spInitB C cs)) (GMBoard_4:Mak P w K mg base 7 "Board" C [] (dP []) (spInitB C cs)):FnOk P w K mg base CX0 9 f fd ["bag"] (spBegun48 C cs):=by
 refine F.ok sc_law_begun (by walk_at "l") (fun cdv A outer s H vs Q E hr h=>?_)
 ·obtain ⟨p,n,rfl,bg,hn,k⟩:=h
  refine ⟨_,(zad (@ps_L _ _ _ _ _ _ 1 sc_law_begun.nd (@pe_x _ _ _ _ _ _ _ zau (@zav _ _ _ _ (@zaa _ _ _ _ _ (@zaq _ _ _ _ _ _ _ _ za2 (@zaf _ _ _ _) (@pe_c _ _ _ _ _ _ _ _ _ _ G_law_draw (@zaa _ _ _ _ _ (@pv _ 0 _ _ (by rfl) (by walk_at "o") (by decide) (by decide)) (@zaa _ _ _ _ _ (@zaf _ _ _ _) (@zac _) (by rfl)) (by rfl)) (by exact hrm ( by assumption )) (by rfl) (by decide) (by rfl) (by rfl))) (@zaa _ _ _ _ _ (@zaq _ _ _ _ _ _ _ _ za2 (@zaf _ _ _ _) (@pe_c _ _ _ _ _ _ _ _ _ _ G_law_draw (@zaa _ _ _ _ _ (@pv _ 0 _ _ (by rfl) (by walk_at "o") (by decide) (by decide)) (@zaa _ _ _ _ _ (@zaf _ _ _ _) (@zac _) (by rfl)) (by rfl)) (by exact hrm ( by assumption )) (by rfl) (by decide) (by rfl) (by rfl))) (@zac _) (by rfl)) (by rfl))) (@zaq _ _ _ _ _ _ _ _ zcj (@pe_c _ _ _ _ _ _ _ _ _ _ G_law_draw (@zaa _ _ _ _ _ (@pv _ 0 _ _ (by rfl) (by walk_at "o") (by decide) (by decide)) (@zaa _ _ _ _ _ (@zaf _ _ _ _) (@zac _) (by rfl)) (by rfl)) (by exact hrm ( by assumption )) (by rfl) (by decide) (by rfl) (by rfl)) (@zaf _ _ _ _)) (by exact fun _ _=>rfl)) (by rfl) (by exact Or.inl rfl) (by rfl) (by walk_at "p"))
   (zad (@zch _ _ _ _ _ _ (@pe_c _ _ _ _ _ _ _ _ _ _ G_law_chips (@zaa _ _ _ _ _ (@pv _ 0 _ _ (by rfl) (by walk_at "o") (by decide) (by decide)) (@zac _) (by rfl)) (by exact hrm ( by assumption )) (by rfl) (by decide) (by rfl) (by rfl)) (@zbs _ _ _ _ _ _ rfl (@zan _ _ _ _ _ (@pg_L _ _ _ 2 sc_law_begun.nd (by rfl) (by exact Or.inl rfl) (by walk_at "p")) (@zan _ _ _ _ _ (@pg_L _ _ _ 3 sc_law_begun.nd (by rfl) (by exact Or.inl rfl) (by walk_at "p")) (@zaV _) (by rfl)) (by rfl)) (by rfl) (by rfl)) (by rfl) (by rfl) (by rfl))
   (zad (@ps_L _ _ _ _ _ _ 4 sc_law_begun.nd (@pe_c _ _ _ _ _ _ _ _ _ _ G_law_rows (@zaa _ _ _ _ _ (@pv _ 0 _ _ (by rfl) (by walk_at "o") (by decide) (by decide)) (@zaa _ _ _ _ _ (@pv _ 1 _ _ (by rfl) (by walk_at "o") (by decide) (by decide)) (@zaa _ _ _ _ _ (@pv _ 3 _ _ (by rfl) (by walk_at "o") (by decide) (by decide)) (@zac _) (by rfl)) (by rfl)) (by rfl)) (by exact hrm ( by assumption )) (by rfl) (by decide) (by rfl) (by rfl)) (by rfl) (by exact Or.inl rfl) (by rfl) (by walk_at "p"))
   (zad (@ps_L _ _ _ _ _ _ 5 sc_law_begun.nd (@pe_c _ _ _ _ _ _ _ _ _ _ G_law_draw (@zaa _ _ _ _ _ (@pv _ 0 _ _ (by rfl) (by walk_at "o") (by decide) (by decide)) (@zaa _ _ _ _ _ (@zaf _ _ _ _) (@zac _) (by rfl)) (by rfl)) (by exact hrm ( by assumption )) (by rfl) (by decide) (by rfl) (by rfl)) (by rfl) (by exact Or.inl rfl) (by rfl) (by walk_at "p"))
   (zad (@zaB _ _ _ _ _ _ _ _ (@zat _ _ _ _ _ _ _ _ zbO (@pe_c _ _ _ _ _ _ _ _ _ _ G_law_draw (@zaa _ _ _ _ _ (@pv _ 0 _ _ (by rfl) (by walk_at "o") (by decide) (by decide)) (@zaa _ _ _ _ _ (@zaf _ _ _ _) (@zac _) (by rfl)) (by rfl)) (by exact hrm ( by assumption )) (by rfl) (by decide) (by rfl) (by rfl)) (@zaf _ _ _ _) (zas _)) (@zag _ _ _ (@zal _ _ _ _ (@zaP _ _ _ _ _ (@zaa _ _ _ _ _ (@zcG _ _ _ _ _ _ _ _ _ _ _ GMBoard_3 (hrm hr) rfl (@zaa _ _ _ _ _ (@pv _ 1 _ _ (by rfl) (by walk_at "o") (by decide) (by decide)) (@zaa _ _ _ _ _ (@pv _ 4 _ _ (by rfl) (by walk_at "o") (by decide) (by decide)) (@zaa _ _ _ _ _ (@pv _ 2 _ _ (by rfl) (by walk_at "o") (by decide) (by decide)) (@zac _) (by rfl)) (by rfl)) (by rfl)) (by decide) (by rfl) (by rfl)) (@zaa _ _ _ _ _ (@zav _ _ _ _ (@zaa _ _ _ _ _ (@pv _ 1 _ _ (by rfl) (by walk_at "o") (by decide) (by decide)) (@zaa _ _ _ _ _ (@pv _ 4 _ _ (by rfl) (by walk_at "o") (by decide) (by decide)) (@zaa _ _ _ _ _ (@pv _ 3 _ _ (by rfl) (by walk_at "o") (by decide) (by decide)) (@zaa _ _ _ _ _ (@zaf _ _ _ _) (@zac _) (by rfl)) (by rfl)) (by rfl)) (by rfl))) (@zac _) (by rfl)) (by rfl))))) (@zap _))
   (zag (@zal _ _ _ _ (@zaP _ _ _ _ _ (@zaa _ _ _ _ _ (@zcG _ _ _ _ _ _ _ _ _ _ _ GMBoard_4 (hrm hr) rfl (@zaa _ _ _ _ _ (@pv _ 1 _ _ (by rfl) (by walk_at "o") (by decide) (by decide)) (@zaa _ _ _ _ _ (@pv _ 4 _ _ (by rfl) (by walk_at "o") (by decide) (by decide)) (@zaa _ _ _ _ _ (@pv _ 2 _ _ (by rfl) (by walk_at "o") (by decide) (by decide)) (@zaa _ _ _ _ _ (@pv _ 5 _ _ (by rfl) (by walk_at "o") (by decide) (by decide)) (@zac _) (by rfl)) (by rfl)) (by rfl)) (by rfl)) (by decide) (by rfl) (by rfl)) (@zaa _ _ _ _ _ (@zav _ _ _ _ (@zaa _ _ _ _ _ (@pv _ 1 _ _ (by rfl) (by walk_at "o") (by decide) (by decide)) (@zaa _ _ _ _ _ (@pv _ 4 _ _ (by rfl) (by walk_at "o") (by decide) (by decide)) (@zaa _ _ _ _ _ (@pv _ 3 _ _ (by rfl) (by walk_at "o") (by decide) (by decide)) (@zaa _ _ _ _ _ (@pv _ 5 _ _ (by rfl) (by walk_at "o") (by decide) (by decide)) (@zac _) (by rfl)) (by rfl)) (by rfl)) (by rfl))) (@zac _) (by rfl)) (by rfl)))))))))),?rd⟩
  
  refine zaC (fun σ X=>σ=L2.start ["bag","bits","chips","models","rows","first"] [V.ref p]∧X=H) (fun σ X=>∃ m:Nat,2≤m∧m≤16∧σ=[some (.ref p),some (.int (m:Int)),none,none,none,none]∧Bg X p (n+3)∧KeepP p H X) ?_ ?_ _ _ ⟨rfl,rfl⟩
  ·rintro σ X ⟨rfl,rfl⟩ N hN
   refine ⟨_,rfl,p,6,n,rfl,bg,by omega,by decide,by decide,fun i1 X1 hi1 bg1 k1=>⟨_,_,rfl,rfl,?_⟩⟩
   refine ⟨_,rfl,p,9,n+1,rfl,bg1,by omega,by decide,by decide,fun i2 X2 hi2 bg2 k2=>⟨_,_,rfl,rfl,by show 2≤sizeLine;decide,fun l hl=>?_⟩⟩
   refine ⟨_,rfl,p,4,n+2,rfl,bg2.same (zae hl),by omega,by decide,by decide,fun i3 X3 hi3 bg3 k3=>⟨_,_,rfl,rfl,⟨by decide,by decide +kernel⟩,?_⟩⟩
   have el:X3 l=some (.lst [V.int ((2:Int)+(i1:Int)),V.int ((8:Int)+(i2:Int))]):=by rw [k3 l (bg2.ne hl)];exact zab
   obtain ⟨m,c1,c2,ec⟩:∃ m:Nat,2≤m∧m≤16∧atI [V.int ((2:Int)+(i1:Int)),V.int ((8:Int)+(i2:Int))] ((i3:Int) / 3)=some (.int (m:Int)):=by
    by_cases h3:i3<3
    ·exact ⟨2+i1,by omega,by omega,by rw [show (i3:Int) / 3=((0:Nat):Int) by omega,show (2:Int)+(i1:Int)=((2+i1:Nat):Int) by omega];rfl⟩
    ·exact ⟨8+i2,by omega,by omega,by rw [show (i3:Int) / 3=((1:Nat):Int) by omega,show (8:Int)+(i2:Int)=((8+i2:Nat):Int) by omega];rfl⟩
   exact ⟨l,_,_,_,rfl,rfl,SqL.of el,ec,hN _ _ ⟨m,c1,c2,rfl,bg3,(zar k1).trans ((zar k2).trans ((KeepP.of (zae hl)).trans (zar k3)))⟩⟩
  rintro σ X ⟨m,m1,m2,rfl,bgX,kX⟩
  
  refine ⟨_,rfl,p,n+3,rfl,bgX,by omega,fun t CL ML cl X1 et hB hl13 bg1 k1=>zdE et ?_⟩
  try dsimp only [zaA,List.set]
  obtain ⟨c0,r0,hcl,hk0⟩:=hB.k0
  have c1:1≤cl.length:=by rw [hcl];simp
  have szs:∀ i,i<cl.length→1≤(dtC cl).sz i:=fun i hi=>by
   have kk:=(hB.C.o _ (zbv hi).1).k
   show 1≤zcB _ _
   unfold zcB
   split
   ·decide
   ·rename_i h;exact kk.l1 h
  have en:En5 (dtC cl) (fun i=>(cl.getD i dfCm).m) (fun i=>(cl.getD i dfCm).r) ML p X1 (usC cl):=by
   have M:=hB.C.mod
   refine ⟨M.same noB_same,by rw [zi2];exact (zaD hB.eM).2,⟨Ne.symm (zaD hB.eM).1,fun i hi=>⟨Ne.symm (zaD (M.o i hi).at_).1,Ne.symm (zaD (M.o i hi).ls).1⟩⟩,c1,Xam hl13 (by decide)⟩
  refine ⟨_,rfl,_,rfl,_,rfl,p,ML,dtC cl,_,_,usC cl,n+303,m,rfl,bg1,by omega,en,by omega,m2,?_,szs,fun R ws X2 hR0 eR raw fit nc hl16 bg2 k2=>?_⟩
  ·show (cl.getD 0 dfCm).kd=2
   rw [hcl];exact hk0
  try dsimp only [zaA,List.set]
  refine ⟨_,rfl,p,256,n+3303,rfl,bg2,by omega,by decide,by decide,fun fi X3 hfi bg3 k3=>?_⟩
  try dsimp only [zaA,List.set]
  refine ⟨_,rfl,p,3,n+3304,rfl,bg3,by omega,by decide,by decide,fun wy X4 hwy bg4 k4=>⟨rfl,_,rfl,?_⟩⟩
  have k24:KeepP p X2 X4:=(zar k3).trans (zar k4)
  have kall:KeepP p H X4:=kX.trans (k1.trans (k2.trans k24))
  have hB4:=hB.keep (k2.trans k24)
  have rf4:RwsFor (dtC cl) m X4 R ws:=by
   have np:∀ {a:Addr} {o:List V},X2 a=some (.tup o)→a≠p:=fun {a o} e z=>by obtain ⟨a',c',e',_⟩:=bg2;rw [z,e'] at e;cases e
   exact ⟨k24 _ _ (np eR) eR,fun z hz=>⟨(raw z hz).1.keepP bg2 k24,(raw z hz).2⟩,fit,nc,by omega⟩
  have eL4:X4 CL=some (.lst (chL (dtC cl))):=by rw [chL_cm];exact (zaD hB4.eC).2
  have S4:Chs cs (dtC cl) X4 (usC cl):=(hB4.C.chs (Xam hl13 (by decide))).same noB_same
  have fin:∀ (fl:Nat) (b db:Addr) (B:Bd) (Z:Hp),X4 b=none→X4 db=none→B.b=b→B.bits=m→B.R=R→upd (upd X4 db (.own b)) b (.ins C db []) B.L=none→upd (upd X4 db (.own b)) b (.ins C db []) B.la=none→BdAt C B (dtC cl) Z fl→(∀ a o,a≠b→upd (upd X4 db (.own b)) b (.ins C db []) a=some o→Z a=some o)→∀ MA,Z MA=none→∀ t,upd Z MA (.lst [.int (m:Int),.ref R,.ref ML,.int (fl:Int)]) t=none→Q (.ref t) (upd (upd Z MA (.lst [.int (m:Int),.ref R,.ref ML,.int (fl:Int)])) t (.tup [.ref b,.ref MA])):=by
   intro fl b db B Z hb hdb e1 e2 e3 hBL hBla hBd fr MA hMA t ht
   subst e1 e2 e3
   have sB:Same X4 (upd (upd X4 db (.own B.b)) B.b (.ins C db [])):=fun x u e=>zbl hb hdb x u e
   have s4:Same X4 Z:=fun x u e=>fr x u (zaj e hb) (sB _ _ e)
   have sM:=zae (o:=.lst [.int (B.bits:Int),.ref B.R,.ref ML,.int (fl:Int)]) hMA
   have sT:=sM.trans (zae (o:=.tup [.ref B.b,.ref MA]) ht)
   have s4T:=s4.trans sT
   have gZ:=bg4.same s4
   have gB:=bg4.same sB
   have hB5:=hB4.keep (.of s4T)
   refine k t MA ML B cl fl _ zab ⟨(hBd.same sT).nob (gZ.same sT) (gB.ne hBL) (gB.ne hBla),zaR (gZ.ne hMA) (zae ht _ _ zab),hB5.eM,hB5.C,hl13⟩ m1 ((gZ.same sT).mono (by omega)) (kall.trans (.of s4T))
  refine ite2 (fun _=>?_) (fun _=>?_)
  ·refine ⟨_,rfl,_,rfl,_,rfl,fun b db hb hdb _=>⟨b,db,R,CL,m,0,dtC cl,usC cl,ws,rfl,zab,by omega,m2,by decide,rf4.same (zbl hb hdb),zbl hb hdb _ _ eL4,S4.same (zbl hb hdb),fun B Z e1 e2 e3 e4 hBL hBla hBW hBd fr=>⟨rfl,?_⟩⟩⟩
   refine ⟨_,rfl,_,rfl,_,rfl,by show 4≤sizeLine;decide,fun MA hMA=>⟨by show 2≤sizeLine;decide,fun t ht=>?_⟩⟩
   exact fin 0 b db B Z hb hdb e1 e2 e3 hBL hBla hBd fr MA hMA t ht
  ·refine zax ?_
   try dsimp only
   refine ⟨_,rfl,_,rfl,_,rfl,_,rfl,fun b db hb hdb _=>⟨b,db,R,CL,m,fi,dtC cl,usC cl,ws,rfl,zab,by omega,m2,by omega,rf4.same (zbl hb hdb),zbl hb hdb _ _ eL4,S4.same (zbl hb hdb),fun B Z e1 e2 e3 e4 hBL hBla hBW hBd fr=>⟨rfl,?_⟩⟩⟩
   refine ⟨_,rfl,_,rfl,_,rfl,_,rfl,by show 4≤sizeLine;decide,fun MA hMA=>⟨by show 2≤sizeLine;decide,fun t ht=>?_⟩⟩
   exact fin fi b db B Z hb hdb e1 e2 e3 hBL hBla hBd fr MA hMA t ht
abbrev zbL:Stmt:=top 83
theorem sc_law_states:FnScope ["board","model","chip","one"] ["board","model"] (zai zbL):=sck rfl rfl rfl (by decide +kernel)
inductive spStates48 (C:Addr)(cs:Nat→Addr)(vs:List V)(H:Hp)(Q:VK)(u3_:XK):Prop
 | mk (p MA ML:Addr) (B:Bd) (cl:List Cm) (fl:Nat) (z0_:vs=[.ref B.b,.ref MA]) (z1_:Be8 C cs p H B MA ML cl fl) (z2_:∀ H',Same H H'→Q (.bl true) H')
theorem zei {f C:Addr}{cs:Nat→Addr}{fd:FuncData}(F:Fun K "_law_states" "_law_states" zbL f fd)(T:Blt mg)(G_law_same:Cal P w K mg base 2 "_law_same" ["found","due"] (spSameL 1))(M_floats:Mth P w K mg base 1 C "floats" [] (fun vs _=>vs) (spFloats C))(M_chips_of:Mth P w K mg base 1 C "chips_of" [] (fun vs _=>vs) (spChipsOf C))(MS:∀ kd,kd<5→Mth P w K mg base 1 (cs kd) "state" [] (fun vs _=>vs) (spState (cs kd))):FnOk P w K mg base CX0 3 f fd ["board","model"] (spStates48 C cs):=by
 refine F.ok sc_law_states (by walk_at "l") (fun cdv A outer s H vs Q E hr h=>?_)
 ·obtain ⟨p,MA,ML,B,cl,fl,rfl,hE,k⟩:=h
  refine ⟨_,(zad (zaB (zaK (zaG (pe_c G_law_same (zaa (zcb 1 ⟨rfl,rfl,rfl,rfl,rfl⟩ (hrm hr) (pv 0)) (zaa (pe_x zau (pv 1) zaf) zac))))) (zag (zal zcz)) zap)
   (zad (zb0 PassesOwn.never rfl (zhd rfl T.zip (zaa (zcb 1 ⟨rfl,rfl,rfl,rfl,rfl⟩ (hrm hr) (pv 0)) (zaa (pe_x zau (pv 1) zaf) zac))) (zbs rfl (zan (pg_L 2 sc_law_states.nd) (zan (pg_L 3 sc_law_states.nd) zaV)))
   (zag (zaB (zaK (zaG (pe_c G_law_same (zaa (zcb 1 ⟨rfl,rfl,rfl,rfl,rfl⟩ (hrm hr) (pv 2)) (zaa (zaH zbE (by rfl) T.tuple zbi (zaa (pe_x zau (pv 3) zaf) zac)) zac))))) (zag (zal zcz)) zap)))
   (zag (zal zcz)))),?rd⟩
  have hB:=hE.b.same noB_same
  have eA:=(zaD hE.eA).2
  have S:=(hE.C.chs (Xam hE.l (by decide))).same noB_same
  have M:=hE.C.mod.same noB_same
  have eM:H ML=some (.lst (mdL (dtC cl) fun i=>(cl.getD i dfCm).m)):=by rw [zi2];exact (zaD hE.eM).2
  generalize dtC cl=D at hB S M eM
  generalize (fun i=>(cl.getD i dfCm).m)=md at M eM
  generalize (fun i=>(cl.getD i dfCm).r)=rw_ at M
  generalize usC cl=us at S M
  obtain ⟨db,e⟩:=hB.e
  refine ⟨_,rfl,B.b,C,db,_,_,_,rfl,e,M_floats,rfl,B,D,fl,rfl,hB,_,rfl,MA,_,_,_,rfl,rfl,SqL.of eA,zaT (j:=3) rfl,.int (fl:Int),.int (fl:Int),rfl,.inr (.int _),fun X1 s1=>⟨_,rfl,iteF (zax ?_)⟩⟩
  try dsimp (proj:=false) only [zaA,List.set]
  refine ⟨_,rfl,B.b,C,db,_,_,_,rfl,s1 _ _ e,M_chips_of,rfl,B,D,fl,rfl,hB.same s1,fun l hl=>⟨_,rfl,MA,_,_,_,rfl,rfl,SqL.of (zae hl _ _ (s1 _ _ eA)),zaT (j:=2) rfl,false,l,ML,chL D,mdL D md,rfl,zab,zae hl _ _ (s1 _ _ eM),?_⟩⟩
  have sl:=s1.trans (zae (o:=.lst (chL D)) hl)
  have el:=zab (H:=X1) (a:=l) (o:=.lst (chL D))
  generalize upd X1 l (.lst (chL D))=X2 at *
  refine ziB (t:=false) (xs:=chL D) (ys:=mdL D md) (fun i σ X=>∃ (v2 v3:Option V),σ=[some (.ref B.b),some (.ref MA),v2,v3]∧Same X2 X) (by rw [zen,zcA]) ⟨_,_,rfl,Same.refl _⟩ ?_ ?_ ?_
  ·rintro i σ X _ ⟨_,_,_,sX⟩
   exact ⟨sX _ _ el,sX _ _ (sl _ _ eM)⟩
  ·rintro i x y U σ X hx hy hU ⟨v2,v3,rfl,sX⟩
   have hi:i<D.m:=by have:=(Xar.mp hx).1;rw [zen] at this;exact this
   rw [zhL hi] at hx
   rw [zeP hi] at hy
   cases hx
   cases hy
   have sU2:=sX.trans (zae (o:=.tup [.ref (D.x i),.ref (md i)]) hU)
   have sU:=sl.trans sU2
   refine zeU ?_
   have S1:=S.same sU
   obtain ⟨dx,ex⟩:=(S1.o i hi).ex
   refine ⟨_,rfl,D.x i,cs (D.kd i),dx,_,_,_,rfl,ex,MS _ (S1.k i hi).k5,lkn _,_,_,_,_,rfl,(S1.o i hi).ob,fun q hq=>?_⟩
   have sq:=zae (o:=.tup (vN (us i))) hq
   have M2:=M.same (sU.trans sq)
   refine ⟨_,rfl,md i,_,_,_,rfl,rfl,SqL.of (M2.o i hi).at_,zaT (j:=1) rfl,rw_ i,_,rfl,.inl ⟨SqL.of (M2.o i hi).ls,fun q2 hq2=>?_⟩⟩
   have sq2:=zae (o:=.tup (vN (us i))) hq2
   refine ⟨.ref q,.ref q2,rfl,.inr (lk_vN (sq2 _ _ zab) zab (S1.k i hi).ln),fun X3 s3=>⟨_,rfl,iteF (zax ⟨_,_,rfl,?_⟩)⟩⟩
   exact sU2.trans (sq.trans (sq2.trans s3))
  ·rintro σ X ⟨_,_,_,sX⟩
   exact k X (sl.trans sX)
abbrev zbM:Stmt:=top 85
theorem sc_law_caught:FnScope ["board","source","target","bag","caught","e"] ["board","source","target","bag"] (zai zbM):=sck rfl rfl rfl (by decide +kernel)
inductive spCaught48 (C CT:Addr)(vs:List V)(H:Hp)(Q:VK)(u3_:XK):Prop
 | mk (p:Addr) (n:Nat) (B:Bd) (D:Dt) (f:Nat) (s t:Int) (z0_:vs=[.ref B.b,.int s,.int t,.ref p]) (z1_:Bg H p n) (z2_:n<2 ^ 29) (z3_:BdAt C B D (noB p H) f) (z4_:s.natAbs<2 ^ 100) (z5_:t.natAbs<2 ^ 100) (z6_:(InB B s→InB B t→∀ H':Hp,Bg H' p (n+2)→KeepP p H H'→Q .non H')) (z7_:(∀ x:Int,(x=s∧¬ InB B s)∨(x=t∧InB B s∧¬ InB B t)→∀ (ea dx:Addr) (H':Hp),H' ea=some (.ext (xIs ea (.ref CT) (some dx)))→H' dx=some (.ext (xDc dx [("address",.int x)]))→Bg H' p (n+2)→KeepP p H H'→Q (.ref ea) H'))
theorem zej {f C CT CM CB:Addr}{fd:FuncData}(F:Fun K "_law_caught" "_law_caught" zbM f fd)(T:Blt mg)(G_law_draw:Cal P w K mg base 1 "_law_draw" ["bag","many"] spDw)(GMXMover_4:MakX P w K mg base 4 "Mover" CM [] (dP [.int 1,.int 1]) (spMvI C CT CM))(GMXMover_6:MakX P w K mg base 4 "Mover" CM [] (dP []) (spMvI C CT CM))(GEBusError:mg "BusError" = some (.ref CB))(xb:W.exmOne K (.ref CT) (.ref CB)=some true):FnOk P w K mg base CX0 6 f fd ["board","source","target","bag"] (spCaught48 C CT):=by
 refine F.ok sc_law_caught (by walk_at "l") (fun cdv A outer s H vs Q E hr h=>?_)
 ·obtain ⟨p,n,B,D,f0,s',t,rfl,bg,hn,hB,hs,ht,kn,kx⟩:=h
  refine ⟨_,(zad (ps_L 4 sc_law_caught.nd zfP)
   (zad (zjr (j:=5) (fun pins E=>(zag (zaB (zat zbO (pe_c G_law_draw (zaa (pv 3) (zaa zaf zac))) zaf (zas _)) (zag (zaI (zhg GMXMover_4 (hrm hr) rfl (zdZ rfl) (zaa (pv 0) (zaa (pv 1) (zaa (pv 2) (zaa zaf zac))))))) (zag (zaI (zhg GMXMover_6 (hrm hr) rfl (zdZ rfl) (zaa (pv 0) (zaa (pv 1) (zaa (pv 2) (zaa (pe_c G_law_draw (zaa (pv 3) (zaa zaf zac))) (zaa zaf (zaa (zgb zdT zaf) zac)))))))))))) (fun ea=>(zag (ps_L 4 sc_law_caught.nd (pv 5)))) rfl sc_law_caught.nd rfl rfl GEBusError ⟨rfl,rfl⟩ rfl (fun ea=>rfl))
   (zag (zal (pv 4))))),?rd⟩
  refine ⟨_,rfl,p,2,n,rfl,bg,by omega,by decide,by decide,fun d X1 hd bg1 k1=>⟨rfl,_,rfl,?_⟩⟩
  have k1:=zar k1
  refine ite2 (fun _=>?_) (fun _=>?_)
  ·refine ⟨_,rfl,_,rfl,_,rfl,fun v dv hv hdv ne=>?_⟩
   have sv:Same X1 (upd (upd X1 dv (.own v)) v (.ins CM dv [])):=fun x u e=>zbl hv hdv x u e
   have hBv:=(hB.same k1.nob).same (noB_same.trans sv)
   obtain ⟨db,eb⟩:=((hB.same k1.nob).same noB_same).e
   refine ⟨v,dv,B,D,f0,s',t,3,1,1,rfl,zab,(fun z=>by rw [z,eb] at hv;cases hv),hBv,hs,ht,fun h1 h2 X2 ev fr=>⟨rfl,?_⟩,fun x hx dx X2 e1 s2=>⟨xb,fun ea hea=>?_⟩⟩
   ·have s12:Same X1 X2:=fun a o e=>fr a o (zaj e hv) (sv _ _ e)
    exact ⟨_,rfl,kn h1 h2 X2 ((bg1.same s12).mono (by omega)) (k1.trans (.of s12))⟩
   ·have sA:=zae (o:=.ext (xIs ea (.ref CT) (some dx))) hea
    have sF:=sv.trans (s2.trans sA)
    exact ⟨_,rfl,_,rfl,kx x hx ea dx _ zab (sA _ _ e1) ((bg1.same sF).mono (by omega)) (k1.trans (.of sF))⟩
  ·refine ⟨_,rfl,_,rfl,_,rfl,_,rfl,p,5,n+1,rfl,bg1,by omega,by decide,by decide,fun d2 Y hd2 bgY k2=>?_⟩
   have k2:=k1.trans (zar k2)
   refine ⟨_,rfl,fun v dv hv hdv ne=>?_⟩
   have sv:Same Y (upd (upd Y dv (.own v)) v (.ins CM dv [])):=fun x u e=>zbl hv hdv x u e
   have hBv:=(hB.same k2.nob).same (noB_same.trans sv)
   obtain ⟨db,eb⟩:=((hB.same k2.nob).same noB_same).e
   refine ⟨v,dv,B,D,f0,s',t,(d2:Int),1,-1,rfl,zab,(fun z=>by rw [z,eb] at hv;cases hv),hBv,hs,ht,fun h1 h2 X2 ev fr=>⟨rfl,?_⟩,fun x hx dx X2 e1 s2=>⟨xb,fun ea hea=>?_⟩⟩
   ·have s12:Same Y X2:=fun a o e=>fr a o (zaj e hv) (sv _ _ e)
    exact ⟨_,rfl,kn h1 h2 X2 (bgY.same s12) (k2.trans (.of s12))⟩
   ·have sA:=zae (o:=.ext (xIs ea (.ref CT) (some dx))) hea
    have sF:=sv.trans (s2.trans sA)
    exact ⟨_,rfl,_,rfl,kx x hx ea dx _ zab (sA _ _ e1) (bgY.same sF) (k2.trans (.of sF))⟩
abbrev zb4:Stmt:=top 86
theorem sc_law_right:FnScope ["board","bits","bag","size","far","other","near","way","source","target","caught","mover"] ["board","bits","bag"] (zai zb4):=sck rfl rfl rfl (by decide +kernel)
inductive spRight48 (C:Addr)(vs:List V)(H:Hp)(Q:VK)(u3_:XK):Prop
 | mk (p:Addr) (n:Nat) (B:Bd) (D:Dt) (f:Nat) (z0_:vs=[.ref B.b,.int (B.bits:Int),.ref p]) (z1_:Bg H p n) (z2_:n<2 ^ 28) (z3_:BdAt C B D (noB p H) f) (z4_:2≤B.bits) (z5_:∀ H':Hp,KeepP p H H'→Q (.bl true) H')
theorem zeK {f C CT CM c1 c2 c3 c4 c5 c6 c7 c8 c9 c10:Addr}{fd:FuncData}(F:Fun K "_law_right" "_law_right" zb4 f fd)(T:Blt mg)(GBValueError:mg "ValueError" = none)(G_law_draw:Cal P w K mg base 1 "_law_draw" ["bag","many"] spDw)(G_law_caught:Cal P w K mg base 6 "_law_caught" ["board","source","target","bag"] (spCaught48 C CT))(GMMover_4:Mak P w K mg base 4 "Mover" CM [] (dP [.int 1,.int 1]) (fun vs H Q _=>spMvI C CT CM vs H Q fun _ _ _=>False))(M_left:Mth P w K mg base 1 CM "left" [] (fun vs _=>vs) (spMvL CM))(M_turn:Mth P w K mg base 2 CM "turn" [] (fun vs _=>vs) (spMvT CM))(M_places:Mth P w K mg base 1 CM "places" [] (fun vs _=>vs) (spMvP CM))(G_law_same:Cal P w K mg base 2 "_law_same" ["found","due"] (spSameL 1))
  (GNoAddress:mg "NoAddress" = some (.ref CT)) (GBadRow:mg "BadRow" = some (.ref c1)) (GClash:mg "Clash" = some (.ref c2)) (GNoCell:mg "NoCell" = some (.ref c3)) (GNoChip:mg "NoChip" = some (.ref c4)) (GNoMap:mg "NoMap" = some (.ref c5)) (GNoMover:mg "NoMover" = some (.ref c6)) (GNoText:mg "NoText" = some (.ref c7)) (GNoWatch:mg "NoWatch" = some (.ref c8)) (GNoWord:mg "NoWord" = some (.ref c9)) (GTooMany:mg "TooMany" = some (.ref c10))
  (xc:XCls K CT) (hh:PySem.W.hasDictIn K CT=true) (f1:PySem.W.findIn K (.ref CT) "address" = some none) (xk:PySem.W.kitOne K (.ref CT) (.ref CT)=some true) (xv:PySem.W.kitOne K (.ref CT) (.type "ValueError")=some true) (xa:PySem.W.kitAny K (.ref CT) [.ref c1,.ref c2,.ref c3,.ref c4,.ref c5,.ref c6,.ref c7,.ref c8,.ref c9,.ref c10]=some false):FnOk P w K mg base CX0 7 f fd ["board","bits","bag"] (spRight48 C):=by
 refine F.ok sc_law_right (by walk_at "l") (fun cdv A outer s H vs Q E hr h=>?_)
 ·obtain ⟨p,n,B,D,f0,rfl,bg,hn,hB,hb2,k⟩:=h
  refine ⟨_,(zad (@ps_L _ _ _ _ _ _ 3 sc_law_right.nd (@zaq _ _ _ _ _ _ _ _ zbN (@zaf _ _ _ _) (@pv _ 1 _ _ (by rfl) (by walk_at "o") (by decide) (by decide))) (by rfl) (by exact Or.inl rfl) (by rfl) (by walk_at "p"))
   (zad (@ps_L _ _ _ _ _ _ 4 sc_law_right.nd (@pe_x _ _ _ _ _ _ _ zau (@zav _ _ _ _ (@zaa _ _ _ _ _ (@pv _ 3 _ _ (by rfl) (by walk_at "o") (by decide) (by decide)) (@zaa _ _ _ _ _ (@zgb _ _ _ _ _ _ zdT (@zaf _ _ _ _)) (@zaa _ _ _ _ _ (@zaq _ _ _ _ _ _ _ _ za2 (@pv _ 3 _ _ (by rfl) (by walk_at "o") (by decide) (by decide)) (@pe_c _ _ _ _ _ _ _ _ _ _ G_law_draw (@zaa _ _ _ _ _ (@pv _ 2 _ _ (by rfl) (by walk_at "o") (by decide) (by decide)) (@zaa _ _ _ _ _ (@zaf _ _ _ _) (@zac _) (by rfl)) (by rfl)) (by exact hrm ( by assumption )) (by rfl) (by decide) (by rfl) (by rfl))) (@zaa _ _ _ _ _ (@zaq _ _ _ _ _ _ _ _ zfR (@zaf _ _ _ _) (@zaf _ _ _ _)) (@zaa _ _ _ _ _ (@zgb _ _ _ _ _ _ zdT (@zaq _ _ _ _ _ _ _ _ zfR (@zaf _ _ _ _) (@zaf _ _ _ _))) (@zaa _ _ _ _ _ (@zaq _ _ _ _ _ _ _ _ za2 (@zaf _ _ _ _) (@pv _ 3 _ _ (by rfl) (by walk_at "o") (by decide) (by decide))) (@zac _) (by rfl)) (by rfl)) (by rfl)) (by rfl)) (by rfl)) (by rfl))) (@pe_c _ _ _ _ _ _ _ _ _ _ G_law_draw (@zaa _ _ _ _ _ (@pv _ 2 _ _ (by rfl) (by walk_at "o") (by decide) (by decide)) (@zaa _ _ _ _ _ (@zaf _ _ _ _) (@zac _) (by rfl)) (by rfl)) (by exact hrm ( by assumption )) (by rfl) (by decide) (by rfl) (by rfl)) (by exact fun _ _=>rfl)) (by rfl) (by exact Or.inl rfl) (by rfl) (by walk_at "p"))
   (zad (@ps_L _ _ _ _ _ _ 5 sc_law_right.nd (@pe_x _ _ _ _ _ _ _ zau (@zav _ _ _ _ (@zaa _ _ _ _ _ (@pv _ 3 _ _ (by rfl) (by walk_at "o") (by decide) (by decide)) (@zaa _ _ _ _ _ (@zgb _ _ _ _ _ _ zdT (@zaf _ _ _ _)) (@zaa _ _ _ _ _ (@zaq _ _ _ _ _ _ _ _ zbp (@zaf _ _ _ _) (@pv _ 3 _ _ (by rfl) (by walk_at "o") (by decide) (by decide))) (@zaa _ _ _ _ _ (@zaq _ _ _ _ _ _ _ _ zfR (@zaf _ _ _ _) (@zaf _ _ _ _)) (@zac _) (by rfl)) (by rfl)) (by rfl)) (by rfl))) (@pe_c _ _ _ _ _ _ _ _ _ _ G_law_draw (@zaa _ _ _ _ _ (@pv _ 2 _ _ (by rfl) (by walk_at "o") (by decide) (by decide)) (@zaa _ _ _ _ _ (@zaf _ _ _ _) (@zac _) (by rfl)) (by rfl)) (by exact hrm ( by assumption )) (by rfl) (by decide) (by rfl) (by rfl)) (by exact fun _ _=>rfl)) (by rfl) (by exact Or.inl rfl) (by rfl) (by walk_at "p"))
   (zad (@ps_L _ _ _ _ _ _ 6 sc_law_right.nd (@pe_c _ _ _ _ _ _ _ _ _ _ G_law_draw (@zaa _ _ _ _ _ (@pv _ 2 _ _ (by rfl) (by walk_at "o") (by decide) (by decide)) (@zaa _ _ _ _ _ (@pv _ 3 _ _ (by rfl) (by walk_at "o") (by decide) (by decide)) (@zac _) (by rfl)) (by rfl)) (by exact hrm ( by assumption )) (by rfl) (by decide) (by rfl) (by rfl)) (by rfl) (by exact Or.inl rfl) (by rfl) (by walk_at "p"))
   (zad (@ps_L _ _ _ _ _ _ 7 sc_law_right.nd (@pe_c _ _ _ _ _ _ _ _ _ _ G_law_draw (@zaa _ _ _ _ _ (@pv _ 2 _ _ (by rfl) (by walk_at "o") (by decide) (by decide)) (@zaa _ _ _ _ _ (@zaf _ _ _ _) (@zac _) (by rfl)) (by rfl)) (by exact hrm ( by assumption )) (by rfl) (by decide) (by rfl) (by rfl)) (by rfl) (by exact Or.inl rfl) (by rfl) (by walk_at "p"))
   (zad (@zch _ _ _ _ _ _ (@pe_x _ _ _ _ _ _ _ zau (@zav _ _ _ _ (@zaa _ _ _ _ _ (@zaP _ _ _ _ _ (@zaa _ _ _ _ _ (@pv _ 4 _ _ (by rfl) (by walk_at "o") (by decide) (by decide)) (@zaa _ _ _ _ _ (@pv _ 6 _ _ (by rfl) (by walk_at "o") (by decide) (by decide)) (@zac _) (by rfl)) (by rfl))) (@zaa _ _ _ _ _ (@zaP _ _ _ _ _ (@zaa _ _ _ _ _ (@pv _ 6 _ _ (by rfl) (by walk_at "o") (by decide) (by decide)) (@zaa _ _ _ _ _ (@pv _ 4 _ _ (by rfl) (by walk_at "o") (by decide) (by decide)) (@zac _) (by rfl)) (by rfl))) (@zaa _ _ _ _ _ (@zaP _ _ _ _ _ (@zaa _ _ _ _ _ (@pv _ 4 _ _ (by rfl) (by walk_at "o") (by decide) (by decide)) (@zaa _ _ _ _ _ (@pv _ 5 _ _ (by rfl) (by walk_at "o") (by decide) (by decide)) (@zac _) (by rfl)) (by rfl))) (@zaa _ _ _ _ _ (@zaP _ _ _ _ _ (@zaa _ _ _ _ _ (@pv _ 6 _ _ (by rfl) (by walk_at "o") (by decide) (by decide)) (@zaa _ _ _ _ _ (@zaq _ _ _ _ _ _ _ _ zeG (@pv _ 3 _ _ (by rfl) (by walk_at "o") (by decide) (by decide)) (@zaf _ _ _ _)) (@zac _) (by rfl)) (by rfl))) (@zac _) (by rfl)) (by rfl)) (by rfl)) (by rfl))) (@pv _ 7 _ _ (by rfl) (by walk_at "o") (by decide) (by decide)) (by exact fun _ _=>rfl)) (@zbs _ _ _ _ _ _ rfl (@zan _ _ _ _ _ (@pg_L _ _ _ 8 sc_law_right.nd (by rfl) (by exact Or.inl rfl) (by walk_at "p")) (@zan _ _ _ _ _ (@pg_L _ _ _ 9 sc_law_right.nd (by rfl) (by exact Or.inl rfl) (by walk_at "p")) (@zaV _) (by rfl)) (by rfl)) (by rfl) (by rfl)) (by rfl) (by rfl) (by rfl))
   (zad (@ps_L _ _ _ _ _ _ 10 sc_law_right.nd (@pe_c _ _ _ _ _ _ _ _ _ _ G_law_caught (@zaa _ _ _ _ _ (@pv _ 0 _ _ (by rfl) (by walk_at "o") (by decide) (by decide)) (@zaa _ _ _ _ _ (@pv _ 8 _ _ (by rfl) (by walk_at "o") (by decide) (by decide)) (@zaa _ _ _ _ _ (@pv _ 9 _ _ (by rfl) (by walk_at "o") (by decide) (by decide)) (@zaa _ _ _ _ _ (@pv _ 2 _ _ (by rfl) (by walk_at "o") (by decide) (by decide)) (@zac _) (by rfl)) (by rfl)) (by rfl)) (by rfl)) (by exact hrm ( by assumption )) (by rfl) (by decide) (by rfl) (by rfl)) (by rfl) (by exact Or.inl rfl) (by rfl) (by walk_at "p"))
   (zad (@zaB _ _ _ _ _ _ _ _ (@zat _ _ _ _ _ _ _ _ zbO (@pv _ 7 _ _ (by rfl) (by walk_at "o") (by decide) (by decide)) (@zaf _ _ _ _) (zas _)) (@zad _ _ _ _ _ (@ps_L _ _ _ _ _ _ 11 sc_law_right.nd (@zcG _ _ _ _ _ _ _ _ _ _ _ GMMover_4 (hrm hr) rfl (@zaa _ _ _ _ _ (@pv _ 0 _ _ (by rfl) (by walk_at "o") (by decide) (by decide)) (@zaa _ _ _ _ _ (@pv _ 8 _ _ (by rfl) (by walk_at "o") (by decide) (by decide)) (@zaa _ _ _ _ _ (@pv _ 9 _ _ (by rfl) (by walk_at "o") (by decide) (by decide)) (@zaa _ _ _ _ _ (@zaf _ _ _ _) (@zac _) (by rfl)) (by rfl)) (by rfl)) (by rfl)) (by decide) (by rfl) (by rfl)) (by rfl) (by exact Or.inl rfl) (by rfl) (by walk_at "p")) (@zag _ _ _ (@zal _ _ _ _ (@za1 _ _ _ _ _ _ _ (@zeE _ _ _ _ _ _ (@zcI _ _ _ _ _ (@pv _ 10 _ _ (by rfl) (by walk_at "o") (by decide) (by decide))) (by first | exact zc3 _ (by decide) (by decide) | rfl)) (@za1 _ _ _ _ _ _ _ (@zbd _ _ _ _ _ _ _ _ zbO (@zcb _ _ _ _ _ _ _ _ _ _ _ 1 ⟨rfl,rfl,rfl,rfl,rfl⟩ (hrm hr) _ (@pv _ 11 _ _ (by rfl) (by walk_at "o") (by decide) (by decide)) (by rfl)) (@zaf _ _ _ _) (zas _)) (@za1 _ _ _ _ _ _ _ (@zeE _ _ _ _ _ _ (@zcI _ _ _ _ _ (@zcb _ _ _ _ _ _ _ _ _ _ _ 2 ⟨rfl,rfl,rfl,rfl,rfl⟩ (hrm hr) _ (@pv _ 11 _ _ (by rfl) (by walk_at "o") (by decide) (by decide)) (by rfl))) (by first | exact zc3 _ (by decide) (by decide) | rfl)) (@zbt _ _ _ _ _ (@zbd _ _ _ _ _ _ _ _ (zjC (Nat.lt_of_succ_lt (hu_of hr)) (K:=K) rfl) (@zcb _ _ _ _ _ _ _ _ _ _ _ 1 ⟨rfl,rfl,rfl,rfl,rfl⟩ (hrm hr) _ (@pv _ 11 _ _ (by rfl) (by walk_at "o") (by decide) (by decide)) (by rfl)) (@zaP _ _ _ _ _ (@zaa _ _ _ _ _ (@pv _ 8 _ _ (by rfl) (by walk_at "o") (by decide) (by decide)) (@zaa _ _ _ _ _ (@pv _ 9 _ _ (by rfl) (by walk_at "o") (by decide) (by decide)) (@zac _) (by rfl)) (by rfl))) (zas _))))))))) (@zap _))
   (zad (@zaB _ _ _ _ _ _ _ _ (@PW.pt _ _ _ (@zca _ _ _ _ _ _ _ (@zaK _ _ _ _ (@zaG _ _ _ (@zak _ _ _ _ _ _ _ _ _ (ze6 (K:=K) rfl) (by rfl) T.isinstance zaU (@zaa _ _ _ _ _ (@pv _ 10 _ _ (by rfl) (by walk_at "o") (by decide) (by decide)) (@zaa _ _ _ _ _ (@zaQ _ _ _ _ rfl GNoAddress (by decide)) (@zac _) (by rfl)) (by rfl)) (by decide) (by decide) (by rfl) (by rfl)) (by intro _;rfl))) (@zbG _ _ _ _ (@zaK _ _ _ _ (@zaG _ _ _ (@zak _ _ _ _ _ _ _ _ _ (ze6 (K:=K) rfl) (by rfl) T.isinstance zaU (@zaa _ _ _ _ _ (@pv _ 10 _ _ (by rfl) (by walk_at "o") (by decide) (by decide)) (@zaa _ _ _ _ _ (@zaN _ _ _ _ _ rfl GBValueError zeo zec (by decide) (by decide)) (@zac _) (by rfl)) (by rfl)) (by decide) (by decide) (by rfl) (by rfl)) (by intro _;rfl)))))) (@zag _ _ _ (@zal _ _ _ _ (@zcz _ _ _ _))) (@zap _))
   (zad (@zaB _ _ _ _ _ _ _ _ (@zaG _ _ _ (@zak _ _ _ _ _ _ _ _ _ (zgz (K:=K) rfl) (by rfl) T.isinstance zaU (@zaa _ _ _ _ _ (@pv _ 10 _ _ (by rfl) (by walk_at "o") (by decide) (by decide)) (@zaa _ _ _ _ _ (@zaP _ _ _ _ _ (@zaa _ _ _ _ _ (@zaQ _ _ _ _ rfl GBadRow (by decide)) (@zaa _ _ _ _ _ (@zaQ _ _ _ _ rfl GClash (by decide)) (@zaa _ _ _ _ _ (@zaQ _ _ _ _ rfl GNoCell (by decide)) (@zaa _ _ _ _ _ (@zaQ _ _ _ _ rfl GNoChip (by decide)) (@zaa _ _ _ _ _ (@zaQ _ _ _ _ rfl GNoMap (by decide)) (@zaa _ _ _ _ _ (@zaQ _ _ _ _ rfl GNoMover (by decide)) (@zaa _ _ _ _ _ (@zaQ _ _ _ _ rfl GNoText (by decide)) (@zaa _ _ _ _ _ (@zaQ _ _ _ _ rfl GNoWatch (by decide)) (@zaa _ _ _ _ _ (@zaQ _ _ _ _ rfl GNoWord (by decide)) (@zaa _ _ _ _ _ (@zaQ _ _ _ _ rfl GTooMany (by decide)) (@zac _) (by rfl)) (by rfl)) (by rfl)) (by rfl)) (by rfl)) (by rfl)) (by rfl)) (by rfl)) (by rfl)) (by rfl))) (@zac _) (by rfl)) (by rfl)) (by decide) (by decide) (by rfl) (by rfl)) (by intro _;rfl)) (@zag _ _ _ (@zal _ _ _ _ (@zcz _ _ _ _))) (@zap _))
   (zag (@zal _ _ _ _ (@pe_c _ _ _ _ _ _ _ _ _ _ G_law_same (@zaa _ _ _ _ _ (@zjz _ _ _ _ _ (@pv _ 10 _ _ (by rfl) (by walk_at "o") (by decide) (by decide)) rfl) (@zaa _ _ _ _ _ (@pe_x _ _ _ _ _ _ _ zau (@zav _ _ _ _ (@zaa _ _ _ _ _ (@pv _ 8 _ _ (by rfl) (by walk_at "o") (by decide) (by decide)) (@zaa _ _ _ _ _ (@pv _ 9 _ _ (by rfl) (by walk_at "o") (by decide) (by decide)) (@zac _) (by rfl)) (by rfl))) (@zaH _ _ _ _ _ _ _ _ _ zdI (by rfl) T.int zd3 (@zaa _ _ _ _ _ (@zbd _ _ _ _ _ _ _ _ zbO (@pv _ 7 _ _ (by rfl) (by walk_at "o") (by decide) (by decide)) (@zaf _ _ _ _) (zas _)) (@zac _) (by rfl)) (by decide) (by decide) (by rfl) (by rfl)) (by exact fun _ _=>rfl)) (@zac _) (by rfl)) (by rfl)) (by exact hrm ( by assumption )) (by rfl) (by decide) (by rfl) (by rfl)))))))))))))),?rd⟩
  have b16:=hB.b2
  have e1:(1:Int) * 2 ^ ((B.bits:Nat):Int).toNat=((2 ^ B.bits:Nat):Int):=by rw [Int.one_mul,Xai];norm_cast
  have hN4:2 ^ 2≤2 ^ B.bits:=XaH (by decide) hb2
  have hN16:2 ^ B.bits≤2 ^ 16:=XaH (by decide) b16
  have inb:∀ x:Int,InB B x↔0≤x∧x<((2 ^ B.bits:Nat):Int):=fun x=>Iff.rfl
  have h100:(2:Nat) ^ 100=1267650600228229401496703205376:=by decide
  have h60:(2:Int) ^ (60:Nat)=1152921504606846976:=by decide
  have h50:(2:Int) ^ (50:Nat)=1125899906842624:=by decide
  
  refine zaC (fun σ X=>σ=L2.start ["board","bits","bag","size","far","other","near","way","source","target","caught","mover"] [V.ref B.b,V.int (B.bits:Int),V.ref p]∧X=H) (fun σ X=>σ=[some (.ref B.b),some (.int (B.bits:Int)),some (.ref p),some (.int ((2 ^ B.bits:Nat):Int)),none,none,none,none,none,none,none,none]∧X=H) ?_ ?_ _ _ ⟨rfl,rfl⟩
  ·rintro σ X ⟨rfl,rfl⟩ N hN
   refine ⟨_,rfl,_,_,rfl,rfl,⟨by omega,by omega,by decide⟩,hN _ _ ⟨?_,rfl⟩⟩
   try dsimp only
   rw [e1];rfl
  rintro σ X ⟨rfl,rfl⟩
  generalize hS:2 ^ B.bits=S at *
  have hS4:4≤S:=by omega
  have hS16:S≤65536:=by
   have:(2:Nat) ^ 16=65536:=by decide
   omega
  refine zaC (fun σ Y=>σ=[some (.ref B.b),some (.int (B.bits:Int)),some (.ref p),some (.int (S:Int)),none,none,none,none,none,none,none,none]∧Y=X) (fun σ Y=>∃ far:Int,¬ (0≤far∧far<(S:Int))∧far.natAbs<2 ^ 100∧σ=[some (.ref B.b),some (.int (B.bits:Int)),some (.ref p),some (.int (S:Int)),some (.int far),none,none,none,none,none,none,none]∧Bg Y p (n+2)∧KeepP p X Y) ?_ ?_ _ _ ⟨rfl,rfl⟩
  ·rintro σ Y ⟨rfl,rfl⟩ N hN
   refine ⟨_,rfl,_,rfl,_,rfl,_,rfl,p,200,n,rfl,bg,by omega,by decide,by decide,fun d X1 hd bg1 k1=>?_⟩
   refine ⟨_,_,rfl,rfl,_,_,rfl,rfl,⟨by decide,by decide,by decide⟩,_,_,rfl,rfl,⟨by decide,by decide,by decide⟩,_,rfl,_,rfl,_,_,rfl,rfl,by show 6≤sizeLine;decide,fun l hl=>?_⟩
   refine ⟨_,rfl,p,6,n+1,rfl,bg1.same (zae hl),by omega,by decide,by decide,fun j X2 hj bg2 k2=>?_⟩
   have el:=k2 l (bg1.ne hl)
   rw [zab] at el
   obtain ⟨far,q1,q2,ec⟩:∃ far:Int,¬ (0≤far∧far<(S:Int))∧far.natAbs<2 ^ 100∧atI [V.int (S:Int),V.int (-1),V.int ((S:Int)+(d:Int)),V.int (2 ^ (60:Int).toNat),V.int (-(2 ^ (60:Int).toNat)),V.int (65536+(S:Int))] (j:Int)=some (.int far):=by
    rw [show (60:Int).toNat=60 from rfl,h60,h100]
    rcases (show j=0∨j=1∨j=2∨j=3∨j=4∨j=5 by omega) with rfl | rfl | rfl | rfl | rfl | rfl
    ·exact ⟨S,by omega,by omega,rfl⟩
    ·exact ⟨-1,by omega,by decide,rfl⟩
    ·exact ⟨(S:Int)+(d:Int),by omega,by omega,rfl⟩
    ·exact ⟨1152921504606846976,by omega,by decide,rfl⟩
    ·exact ⟨-1152921504606846976,by omega,by decide,rfl⟩
    ·exact ⟨65536+(S:Int),by omega,by omega,rfl⟩
   exact ⟨l,_,_,_,rfl,rfl,SqL.of el,ec,hN _ _ ⟨far,q1,q2,rfl,bg2,(zar k1).trans ((KeepP.of (zae hl)).trans (zar k2))⟩⟩
  rintro σ Y ⟨far,far1,far2,rfl,bgY,kY⟩
  refine zaC (fun σ Z=>σ=[some (.ref B.b),some (.int (B.bits:Int)),some (.ref p),some (.int (S:Int)),some (.int far),none,none,none,none,none,none,none]∧Z=Y) (fun σ Z=>∃ oth:Int,oth.natAbs<2 ^ 100∧σ=[some (.ref B.b),some (.int (B.bits:Int)),some (.ref p),some (.int (S:Int)),some (.int far),some (.int oth),none,none,none,none,none,none]∧Bg Z p (n+3)∧KeepP p X Z) ?_ ?_ _ _ ⟨rfl,rfl⟩
  ·rintro σ Z ⟨rfl,rfl⟩ N hN
   refine ⟨_,rfl,_,rfl,_,rfl,_,_,rfl,rfl,zbQ (by decide) (by omega),_,_,rfl,rfl,⟨by decide,by decide,by decide⟩,by show 4≤sizeLine;decide,fun l hl=>?_⟩
   refine ⟨_,rfl,p,4,n+2,rfl,bgY.same (zae hl),by omega,by decide,by decide,fun j X2 hj bg2 k2=>?_⟩
   have el:=k2 l (bgY.ne hl)
   rw [zab] at el
   obtain ⟨oth,q2,ec⟩:∃ oth:Int,oth.natAbs<2 ^ 100∧atI [V.int (S:Int),V.int (-1),V.int (2 * (S:Int)),V.int (2 ^ (50:Int).toNat)] (j:Int)=some (.int oth):=by
    rw [show (50:Int).toNat=50 from rfl,h50,h100]
    rcases (show j=0∨j=1∨j=2∨j=3 by omega) with rfl | rfl | rfl | rfl
    ·exact ⟨S,by omega,rfl⟩
    ·exact ⟨-1,by decide,rfl⟩
    ·exact ⟨2 * (S:Int),by omega,rfl⟩
    ·exact ⟨1125899906842624,by decide,rfl⟩
   exact ⟨l,_,_,_,rfl,rfl,SqL.of el,ec,hN _ _ ⟨oth,q2,rfl,bg2,kY.trans ((KeepP.of (zae hl)).trans (zar k2))⟩⟩
  rintro σ Z ⟨oth,oth2,rfl,bgZ,kZ⟩
  clear bgY kY
  refine ⟨_,rfl,_,rfl,p,(S:Int),n+3,rfl,bgZ,by omega,by omega,by omega,fun near X1 hnear bg1 k1=>?_⟩
  try dsimp only [zaA,List.set]
  refine ⟨_,rfl,p,4,n+4,rfl,bg1,by omega,by decide,by decide,fun way X2 hway bg2 k2=>?_⟩
  try dsimp only [zaA,List.set]
  have kX2:=kZ.trans ((zar k1).trans (zar k2))
  clear k1 k2 bg1 bgZ kZ
  have near2:(near:Int).natAbs<2 ^ 100:=by rw [h100];omega
  refine zaC (fun σ Y=>σ=[some (.ref B.b),some (.int (B.bits:Int)),some (.ref p),some (.int (S:Int)),some (.int far),some (.int oth),some (.int (near:Int)),some (.int (way:Int)),none,none,none,none]∧Y=X2)
   (fun σ Y=>∃ s t:Int,σ=[some (.ref B.b),some (.int (B.bits:Int)),some (.ref p),some (.int (S:Int)),some (.int far),some (.int oth),some (.int (near:Int)),some (.int (way:Int)),some (.int s),some (.int t),none,none]∧s.natAbs<2 ^ 100∧t.natAbs<2 ^ 100∧(way=3→InB B s∧InB B t)∧(way=1→InB B s∧¬ InB B t)∧(way≠3→way≠1→¬ InB B s)∧Same X2 Y) ?_ ?_ _ _ ⟨rfl,rfl⟩
  ·rintro σ Y ⟨rfl,rfl⟩ N hN
   refine ⟨_,rfl,_,rfl,by show 2≤sizeLine;decide,fun a0 h0=>⟨_,rfl,_,rfl,by show 2≤sizeLine;decide,fun a1 h1=>⟨_,rfl,_,rfl,by show 2≤sizeLine;decide,fun a2 h2=>⟨_,rfl,_,rfl,_,_,rfl,rfl,by show 2≤sizeLine;decide,fun a3 h3=>⟨by show 4≤sizeLine;decide,fun l hl=>?_⟩⟩⟩⟩⟩
   have s0:=zae (o:=.tup [.int far,.int (near:Int)]) h0
   have s1:=zae (o:=.tup [.int (near:Int),.int far]) h1
   have s2:=zae (o:=.tup [.int far,.int oth]) h2
   have s3:=zae (o:=.tup [.int (near:Int),.int ((S:Int) - 1)]) h3
   have s4:=zae (o:=.lst [.ref a0,.ref a1,.ref a2,.ref a3]) hl
   have sA:=s0.trans (s1.trans (s2.trans (s3.trans s4)))
   have e0:=s4 _ _ (s3 _ _ (s2 _ _ (s1 _ _ (zab (H:=Y) (a:=a0) (o:=.tup [.int far,.int (near:Int)])))))
   have e1':=s4 _ _ (s3 _ _ (s2 _ _ (zab (a:=a1) (o:=.tup [.int (near:Int),.int far]))))
   have e2:=s4 _ _ (s3 _ _ (zab (a:=a2) (o:=.tup [.int far,.int oth])))
   have e3:=s4 _ _ (zab (a:=a3) (o:=.tup [.int (near:Int),.int ((S:Int) - 1)]))
   have inN:InB B (near:Int):=⟨by omega,by rw [hS];omega⟩
   have inF:¬ InB B far:=fun z=>far1 ⟨z.1,by have:=z.2;rw [hS] at this;exact this⟩
   have inS:InB B ((S:Int) - 1):=⟨by omega,by rw [hS];omega⟩
   refine ⟨_,rfl,?_⟩
   rcases (show way=0∨way=1∨way=2∨way=3 by omega) with rfl | rfl | rfl | rfl
   ·exact ⟨l,_,_,.ref a0,rfl,rfl,SqL.of zab,rfl,zdE e0 (hN _ _ ⟨far,near,rfl,far2,near2,(fun z=>by omega),(fun z=>by omega),fun _ _=>inF,sA⟩)⟩
   ·exact ⟨l,_,_,.ref a1,rfl,rfl,SqL.of zab,rfl,zdE e1' (hN _ _ ⟨near,far,rfl,near2,far2,(fun z=>by omega),fun _=>⟨inN,inF⟩,fun _ z=>absurd rfl z,sA⟩)⟩
   ·exact ⟨l,_,_,.ref a2,rfl,rfl,SqL.of zab,rfl,zdE e2 (hN _ _ ⟨far,oth,rfl,far2,oth2,(fun z=>by omega),(fun z=>by omega),fun _ _=>inF,sA⟩)⟩
   ·exact ⟨l,_,_,.ref a3,rfl,rfl,SqL.of zab,rfl,zdE e3 (hN _ _ ⟨near,(S:Int) - 1,rfl,near2,by rw [h100];omega,fun _=>⟨inN,inS⟩,(fun z=>by omega),(fun z=>absurd rfl z),sA⟩)⟩
  rintro σ Y ⟨s',t,rfl,hs,ht,w3,w1,w0,sY⟩
  have kY:=kX2.trans (.of sY)
  have bgY:=bg2.same sY
  have hBY:=hB.same kY.nob
  by_cases hw3:way=3
  ·obtain ⟨i1,i2⟩:=w3 hw3
   refine ⟨_,rfl,_,rfl,_,rfl,_,rfl,p,n+5,B,D,f0,s',t,rfl,bgY,by omega,hBY,hs,ht,fun _ _ Z bgZ kZ=>?_,fun x hx=>?_⟩
   ·dsimp only [zaA,List.set]
    subst hw3
    refine ⟨_,rfl,rfl,_,rfl,iteT ?_⟩
    refine ⟨_,rfl,_,rfl,_,rfl,fun v dv hv hdv ne=>?_⟩
    have sv:Same Z (upd (upd Z dv (.own v)) v (.ins CM dv [])):=fun x u e=>zbl hv hdv x u e
    have hBZ:=hBY.same kZ.nob
    have hBv:=hBZ.same (noB_same.trans sv)
    obtain ⟨db,eb⟩:=(hBZ.same noB_same).e
    refine ⟨v,dv,B,D,f0,s',t,0,1,1,rfl,zab,(fun z=>by rw [z,eb] at hv;cases hv),hBv,hs,ht,fun _ _ W ev fr=>⟨rfl,?_⟩,fun x hx=>?_⟩
    ·have sW:Same Z W:=fun a o e=>fr a o (zaj e hv) (sv _ _ e)
     try dsimp only [zaA,List.set]
     refine ⟨_,rfl,_,rfl,iteT ⟨_,rfl,v,CM,dv,_,_,_,rfl,ev,M_left,rfl,v,dv,B.b,s',t,0,1,1,rfl,ev,rfl,_,rfl,ite2 (fun _=>?_) (fun h=>absurd (Xas rfl) h)⟩⟩
     refine ⟨_,rfl,v,CM,dv,_,_,_,rfl,ev,M_turn,rfl,v,dv,B.b,s',t,0,1,1,rfl,ev,Int.le_refl _,_,rfl,iteT ?_⟩
     refine ⟨_,rfl,v,CM,dv,_,_,_,rfl,ev,M_places,rfl,v,dv,B.b,s',t,0,1,1,rfl,ev,fun q hq=>⟨_,rfl,_,rfl,by show 2≤sizeLine;decide,fun q2 hq2=>⟨q,q2,[s',t],[s',t],rfl,rfl,SqT.of (zae hq2 _ _ zab),SqT.of zab,rfl,?_⟩⟩⟩
     rw [Xas rfl]
     exact k _ (kY.trans (kZ.trans (.of (sW.trans ((zae hq).trans (zae hq2))))))
    ·rcases hx with ⟨_,h⟩ | ⟨_,_,h⟩
     ·exact absurd i1 h
     ·exact absurd i2 h
   ·rcases hx with ⟨_,h⟩ | ⟨_,_,h⟩
    ·exact absurd i1 h
    ·exact absurd i2 h
  ·obtain ⟨x,hx,hxe⟩:∃ x:Int,((x=s'∧¬ InB B s')∨(x=t∧InB B s'∧¬ InB B t))∧atI [V.int s',V.int t] (if decide (V.int (way:Int)=V.int 1)=true then 1 else 0)=some (.int x):=by
    by_cases h1:way=1
    ·obtain ⟨i1,i2⟩:=w1 h1
     exact ⟨t,.inr ⟨rfl,i1,i2⟩,by rw [if_pos (Xas (by rw [h1];rfl))];rfl⟩
    ·exact ⟨s',.inl ⟨rfl,w0 hw3 h1⟩,by rw [if_neg (fun z=>h1 (by have:=XaN z;injection this with this;omega))];rfl⟩
   refine ⟨_,rfl,_,rfl,_,rfl,_,rfl,p,n+5,B,D,f0,s',t,rfl,bgY,by omega,hBY,hs,ht,fun i1 i2=>?_,fun x' hx' ea dx Z eea edx bgZ kZ=>?_⟩
   ·rcases hx with ⟨_,h⟩ | ⟨_,_,h⟩
    ·exact absurd i1 h
    ·exact absurd i2 h
   obtain rfl:x'=x:=by
    rcases hx with ⟨rfl,h⟩ | ⟨rfl,h,h2⟩ <;> rcases hx' with ⟨rfl,g⟩ | ⟨rfl,g,g2⟩
    ·rfl
    ·exact absurd g h
    ·exact absurd h g
    ·rfl
   try dsimp only [zaA,List.set]
   refine ⟨_,rfl,rfl,_,rfl,ite2 (fun h=>absurd (by have:=XaN h;injection this with this;omega) hw3) (fun _=>zax ?_)⟩
   try dsimp only [zaA,List.set]
   refine ⟨_,rfl,ea,CT,dx,_,_,_,true,rfl,eea,edx,xc,.inl ⟨CT,rfl,rfl⟩,xk,_,rfl,iteF ?_⟩
   refine ⟨_,rfl,ea,CT,dx,_,_,_,true,rfl,eea,edx,xc,.inr ⟨"ValueError",rfl,rfl⟩,xv,_,rfl,iteF (zax ?_)⟩
   try dsimp only [zaA,List.set]
   refine ⟨_,rfl,by show 10≤sizeLine;decide,fun tp htp=>⟨ea,CT,dx,tp,_,[c1,c2,c3,c4,c5,c6,c7,c8,c9,c10],false,rfl,zae htp _ _ eea,zae htp _ _ edx,xc,zab,xa,_,rfl,iteF (zax ?_)⟩⟩
   try dsimp only [zaA,List.set]
   refine ⟨_,rfl,ea,CT,dx,_,_,rfl,zae htp _ _ eea,zae htp _ _ edx,xc,hh,f1,rfl,_,rfl,_,rfl,by show 2≤sizeLine;decide,fun l hl=>⟨_,rfl,rfl,.inr ⟨_,rfl,l,_,_,.int x',rfl,rfl,SqL.of zab,hxe,.int x',.int x',rfl,.inr (.int _),fun W sW=>?_⟩⟩⟩
   exact k W (kY.trans (kZ.trans (.of ((zae htp).trans ((zae hl).trans sW)))))
abbrev slaw:Stmt:=top 87
theorem sclaw:FnScope ["script","cells","k","bag","board","model"] ["script"] (zai slaw):=sck rfl rfl rfl (by decide +kernel)
theorem oklaw {f C:Addr}{cs:Nat→Addr}{fd:FuncData}(F:Fun K "law" "law" slaw f fd)(T:Blt mg)(G_law_bag:Cal P w K mg base 1 "_law_bag" ["cell","k"] spBg)(G_law_begun:Cal P w K mg base 9 "_law_begun" ["bag"] (spBegun48 C cs))(G_law_right:Cal P w K mg base 7 "_law_right" ["board","bits","bag"] (spRight48 C))(G_law_states:Cal P w K mg base 3 "_law_states" ["board","model"] (spStates48 C cs)):FnOk P w K mg base CX0 10 f fd ["script"] (spLaw K):=by
 refine F.ok sclaw (by walk_at "l") (fun cdv A outer s H vs Q E hr h=>?_)
 ·obtain ⟨a,ns,rfl,hs,hln,_,k⟩:=h
  refine ⟨_,(zad (ps_L 1 sclaw.nd (zaq zhm (zci zgU (pv 0) zdm (zcy zaf)) (zaq zhj (zav (zaa zaf zac)) (zaH zdI (by rfl) T.int zd3 (zaa (zbd (zjD (Nat.lt_of_succ_lt (hu_of hr)) (K:=K) rfl) (pv 0) (zav zac) (zas _)) zac)))))
   (zad (zb0 PassesOwn.never rfl (zaX rfl T.range (zaa (zak zam (by rfl) T.len PySem.boot_len (zaa (pv 1) zac)) zac)) (pg_L 2 sclaw.nd)
   (zad (ps_L 3 sclaw.nd (pe_c G_law_bag (zaa (pe_x zau (pv 1) (pv 2)) (zaa (pv 2) zac))))
   (zad (zch (pe_c G_law_begun (zaa (pv 3) zac)) (zbs rfl (zan (pg_L 4 sclaw.nd) (zan (pg_L 5 sclaw.nd) zaV))))
   (zag (zaB (PW.pt (zca (zaK (zaG (pe_c G_law_right (zaa (pv 4) (zaa (pe_x zau (pv 5) zaf) (zaa (pv 3) zac)))))) (zbG (zaK (zaG (pe_c G_law_states (zaa (pv 4) (zaa (pv 5) zac)))))))) (zag (zal zcz)) zap)))))
   (zag (zal zcz)))),?rd⟩
  refine ⟨_,rfl,30,rfl,a,_,rfl,hs,fun q1 hq1=>?_⟩
  have s1:=zae (o:=.lst (cutV (ns.map V.int) none (some 30))) hq1
  refine ⟨by show 1≤sizeLine;decide,fun g hg=>?_⟩
  have s2:=s1.trans (zae (o:=.lst [V.int 0]) hg)
  refine ⟨_,rfl,by show 0≤sizeLine;decide,fun e he=>⟨a,e,_,rfl,rfl,(s2.trans (zae he)).seq hs,SqL.of zab,?_⟩⟩
  obtain ⟨cells,hc1,hc2,ecl⟩:∃ cells:List Int,1≤cells.length∧cells.length≤31∧cutV (ns.map V.int) none (some 30) ++ (List.replicate ((if (ns.map V.int).isEmpty=true then 1 else 0:Int)).toNat [V.int 0]).flatten=cells.map V.int:=by
   cases ns with
   | nil=>exact ⟨[0],by decide,by decide,by simp [cutV]⟩
   | cons y l =>
    refine ⟨(y :: l).take (min 30 (l.length+1)),?_,?_,?_⟩
    ·rw [Xa6,Xau];omega
    ·rw [Xa6];omega
    ·rw [if_neg (by simp)]
     unfold cutV
     rw [show (some (30:Int))=some ((30:Nat):Int) from rfl,HT.sIx_nat,HT.sIx_none,Xal]
     simp
  have hk:0≤(if (ns.map V.int).isEmpty=true then 1 else 0:Int)∧(if (ns.map V.int).isEmpty=true then 1 else 0:Int)≤1:=by split <;> decide
  have s3:=s2.trans (zae (o:=.lst []) he)
  refine .inr ⟨_,rfl,g,_,_,rfl,rfl,zae he _ _ zab,by omega,by omega,?_,fun r hr'=>⟨q1,r,_,_,rfl,rfl,SqL.of ((((zae hg).trans (zae he)).trans (zae hr')) _ _ zab),SqL.of zab,?_,fun c hc=>?_⟩⟩
  ·refine Xam (show 1 * _≤10 from ?_) (by decide);omega
  ·have:=congrArg List.length ecl
   rw [Xan,Xal] at this
   rw [this];exact Xam hc2 (by decide)
  rw [ecl]
  have s4:=s3.trans (zae (o:=.lst (List.replicate ((if (ns.map V.int).isEmpty=true then 1 else 0:Int)).toNat [V.int 0]).flatten) hr')
  generalize upd (upd (upd (upd H q1 (.lst (cutV (ns.map V.int) none (some 30)))) g (.lst [V.int 0])) e (.lst [])) r (.lst (List.replicate ((if (ns.map V.int).isEmpty=true then 1 else 0:Int)).toNat [V.int 0]).flatten)=H4 at *
  have ec:upd H4 c (.lst (cells.map V.int)) c=some (.lst (cells.map V.int)):=zab
  generalize upd H4 c (.lst (cells.map V.int))=H5 at *
  have cat:∀ i:Nat,i<cells.length→∃ z:Int,(cells.map V.int)[i]? = some (.int z):=fun i hi=>⟨cells[i],by rw [Xav,Xax hi];rfl⟩
  try dsimp (proj:=false) only [zaA,List.set]
  refine ⟨_,rfl,c,_,rfl,.inl (SqL.of ec),_,rfl,by omega,by rw [Xal];omega,?_⟩
  rw [Xai,Xal]
  refine zbT (n:=cells.length) (fun i σ X=>∃ (v2 v3 v4 v5:Option V),σ=[some (.ref a),some (.ref c),v2,v3,v4,v5]∧Same H5 X) ⟨_,_,_,_,rfl,Same.refl _⟩ ?_ ?_
  ·rintro i σ X hi ⟨v2,v3,v4,v5,rfl,sX⟩
   rw [Int.zero_add]
   obtain ⟨zi,hzi⟩:=cat i hi
   have ecX:=sX _ _ ec
   try dsimp (proj:=false) only [zaA,List.set]
   refine ⟨_,rfl,_,rfl,c,_,_,_,rfl,rfl,SqL.of ecX,zaT hzi,_,rfl,zi,i,rfl,by omega,fun p X1 hp bg1 s1=>?_⟩
   try dsimp (proj:=false) only [zaA,List.set]
   refine ⟨_,rfl,p,4000,rfl,bg1,by decide,fun t MA ML B cl fl X2 et hE hb bg2 k2=>zdE et ?_⟩
   try dsimp (proj:=false) only [zaA,List.set]
   have np:∀ {x:Addr} {o:HO},H5 x=some o→x≠p:=fun {x o} e=>zaj (sX _ _ e) hp
   obtain ⟨nA,eA⟩:=zaD hE.eA
   refine ⟨_,rfl,_,rfl,MA,_,_,_,rfl,rfl,SqL.of eA,zaT (j:=0) rfl,_,rfl,p,8000,B,dtC cl,fl,rfl,bg2,by decide,hE.b,hb,fun X3 k3=>⟨_,rfl,iteF ?_⟩⟩
   refine ⟨_,rfl,_,rfl,p,MA,ML,B,cl,fl,rfl,hE.keep k3,fun X4 s4=>⟨_,rfl,iteF (zax ⟨_,_,_,_,rfl,fun x o e=>?_⟩)⟩⟩
   exact s4 _ _ (k3 _ _ (np e) (k2 _ _ (np e) (s1 _ _ (sX _ _ e))))
  ·rintro σ X ⟨v2,v3,v4,v5,rfl,sX⟩
   exact k X
end
abbrev NsR (K:W.Frag)(x:Str)(f:Addr):Prop:=W.nsIn K mainGlobals x=some (some (.ref f))
abbrev FiR (K:W.Frag)(C:Addr)(m:Str)(f:Addr):Prop:=W.findIn K (.ref C) m=some (some (.ref f))
abbrev IsF (K:W.Frag)(f:Addr):Prop:=W.isFn K (.ref f)=true
theorem all_mk {l:W.OpenLaw}{w:World}{K:W.Frag}{h:Heap}{mg:Str→Option Value}{fa:Addr}(X:K.In h)(G:h.Ns mainGlobals mg)(hfa:mg "law" = some (.ref fa))
 {f_0 f_1 f_2 f_3 f_4 f_5 f_6 f_7 f_8 f_9 b6 b7 b8 cb aC aU cc cg ae au ar af aa ag ah aV aL ci aM aN cj aO ck aP cp cq cr cu ad aQ cv NT ac al av aY aR aZ a6 ai aw cw cx cy cz cA cC cD cE cF cG cH bb bc bd cI cJ be cK cL cM cO cP cQ cR cS cT cU bf:Addr} {d5 d6 d7 d8 d9 ek eE eF eG eH eJ eK eN eO eQ eS eU eW eX eY eZ ff fg fo fy fF fG fH fJ fR fS fU fV fW fX gc gf gh gi gj gk gm gn gp gq gt gu gw gy gz gG:FuncData} {e7 fh fq fz fK cN1 cB cN2 fY gH cV cW cX bh cY:Value} {e8 fj fu fA fL ddT dN1 ddB dN2 fZ gI cZ:Option Addr} {fb fk fv fB fM ep1 ep2 f9:Nat} {fc fm fw fD fO sl1 slB sl2 gb gJ:Array (Option Value)} {fe aW fx fE aX a7 a8 gK gL gM gO gP gQ gR gS gT:Tok} {nmT qT:Str} {bsT fP:List Value} {snT:List Str} {abT:Bool} {fQ:Option Bool} {k0T k1T k2T k3T k5T:Option Value} {es1 es2:Array DictEntry} {cdB:ClassData}
  (zS:W.nsIn K mainGlobals "sorted" = some none)
  (gU:NsR K "single_ones" f_0)
  (F_0:Fun K "single_ones" "single_ones" zbI f_0 d5)
  (gW:NsR K "ones_of" f_1)
  (F_1:Fun K "ones_of" "ones_of" zd7 f_1 d6)
  (gX:NsR K "is_number" f_2)
  (F_2:Fun K "is_number" "is_number" zco f_2 d7)
  (g6:NsR K "size_of" f_3)
  (F_3:Fun K "size_of" "size_of" zd6 f_3 d8)
  (g7:NsR K "is_choice" f_4)
  (F_4:Fun K "is_choice" "is_choice" zcp f_4 d9)
  (g8:NsR K "is_latch" f_5)
  (F_5:Fun K "is_latch" "is_latch" zdd f_5 ek)
  (hG:NsR K "is_row" f_6)
  (F_6:Fun K "is_row" "is_row" zfg f_6 eE)
  (hJ:NsR K "is_map" f_7)
  (F_7:Fun K "is_map" "is_map" zfh f_7 eF)
  (hV:NsR K "choices_agree" f_8)
  (F_8:Fun K "choices_agree" "choices_agree" zbk f_8 eG)
  (hW:NsR K "latches_agree" f_9)
  (F_9:Fun K "latches_agree" "latches_agree" zbj f_9 eH)
  (hZ:NsR K "rows_clash" b6)
  (bi:Fun K "rows_clash" "rows_clash" zb1 b6 eJ)
  (h8:NsR K "clash_of" b7)
  (bj:Fun K "clash_of" "clash_of" zdf b7 eK)
  (ia:NsR K "is_word" b8)
  (bn:Fun K "is_word" "is_word" zea b8 eN)
  (ib:NsR K "check_word" cb)
  (bo:Fun K "check_word" "check_word" zb2 cb eO)
  (ic:NsR K "Chip" aC)
  (ie:W.specialIn K (.ref aC) "__getattribute__" = some (some (.builtin "type.__getattribute__")))
  (ig:W.readsIn K aC (.type "type")=true)
  (ii:W.findCls K (.ref aC) (.type "type") "__init__" = some (.val (.ref aU)))
  (bp:Fun K "__init__" "Chip.__init__" zbn aU eQ)
  (ij:NsR K "by_figures" cc)
  (bq:Fun K "by_figures" "by_figures" zb3 cc eS)
  (ik:NsR K "two_figures" cg)
  (br:Fun K "two_figures" "two_figures" zbH cg eU)
  (il:NsR K "Store" ae)
  (aD:ClsOk K ae)
  (io:FiR K ae "__len__" au)
  (ak:Fun K "__len__" "Chip.__len__" zbz au eW)
  (aS:IsF K au)
  (ip:FiR K ae "state" ar)
  (aj:Fun K "state" "Chip.state" zb9 ar eX)
  (aE:IsF K ar)
  (iq:NsR K "Fixed" af)
  (aF:ClsOk K af)
  (ir:FiR K af "__len__" au)
  (iu:FiR K af "state" ar)
  (bu:NsR K "Latch" aa)
  (ax:ClsOk K aa)
  (iw:FiR K aa "__len__" au)
  (ix:FiR K aa "state" ar)
  (iy:NsR K "Meter" ag)
  (aG:ClsOk K ag)
  (iz:FiR K ag "__len__" au)
  (iA:FiR K ag "state" ar)
  (iB:NsR K "Pipe" ah)
  (aH:ClsOk K ah)
  (iC:FiR K ah "__len__" aV)
  (bv:Fun K "__len__" "Pipe.__len__" zbx aV eY)
  (iD:IsF K aV)
  (iE:FiR K ah "state" ar)
  (iF:W.makesIn K ae=true)
  (iG:W.keepIn K (.ref ae)=true)
  (iH:FiR K ae "__init__" aL)
  (da:FunD K "__init__" "Store.__init__" za5 (.ref ci) aL eZ)
  (iI:K.lookup ci=some ⟨e7,e8,.seq #[.int 0 fe] fb,fc⟩)
  (iJ:IsF K aL)
  (iK:W.makesIn K af=true)
  (iL:W.keepIn K (.ref af)=true)
  (iM:FiR K af "__init__" aM)
  (de:Fun K "__init__" "Fixed.__init__" za9 aM ff)
  (iN:IsF K aM)
  (df:W.makesIn K aa=true)
  (dg:W.keepIn K (.ref aa)=true)
  (dh:FiR K aa "__init__" aN)
  (bw:FunD K "__init__" "Latch.__init__" za8 (.ref cj) aN fg)
  (di:K.lookup cj=some ⟨fh,fj,.seq #[.int 0 aW] fk,fm⟩)
  (dk:IsF K aN)
  (iO:W.makesIn K ag=true)
  (iP:W.keepIn K (.ref ag)=true)
  (iQ:FiR K ag "__init__" aO)
  (dl:FunD K "__init__" "Meter.__init__" za7 (.ref ck) aO fo)
  (iR:K.lookup ck=some ⟨fq,fu,.seq #[.int 0 fx] fv,fw⟩)
  (iS:IsF K aO)
  (iT:W.makesIn K ah=true)
  (iU:W.keepIn K (.ref ah)=true)
  (iV:FiR K ah "__init__" aP)
  (dm:FunD K "__init__" "Pipe.__init__" zbm (.ref cp) aP fy)
  (iW:K.lookup cp=some ⟨fz,fA,.seq #[.int 4 fE] fB,fD⟩)
  (iX:IsF K aP)
  (iY:W.findIn K (.ref aa) "__class__" = some (some (.builtin "object.__class__")))
  (iZ:W.specialIn K (.builtin "object.__class__") "__get__" = some (some (.builtin "getset_descriptor.__get__")))
  (i4:W.takesIn K (.builtin "object.__class__")=some true)
  (i5:W.mroIn K aa (.type "object")=some true)
  (i6:W.isIn K (.ref aa) aa=true)
  (i7:NsR K "row_fits" cq)
  (bx:Fun K "row_fits" "row_fits" zc9 cq fF)
  (i9:NsR K "check_map" cr)
  (bA:Fun K "check_map" "check_map" zcr cr fG)
  (ja:NsR K "check_clash" cu)
  (bB:Fun K "check_clash" "check_clash" zbJ cu fH)
  (dq:NsR K "Board" ad)
  (am:ClsBd K ad)
  (du:W.makesIn K ad=true)
  (dz:W.keepIn K (.ref ad)=true)
  (dA:FiR K ad "__init__" aQ)
  (bC:FunD K "__init__" "Board.__init__" zbb (.ref cv) aQ fJ)
  (dB:K.lookup cv=some ⟨fK,fL,.seq #[.int 0 aX] fM,fO⟩)
  (dC:IsF K aQ)
  (dD:NsR K "NoAddress" ac)
  (dE:NsR K "BusError" al)
  (xl:K.lookup ac=some (excClassObj nmT qT ac NT bsT [.ref al,.type "ValueError",.type "Exception",.type "BaseException",.type "object"] true snT fP abT fQ ddT k0T k1T k2T k3T k5T "ValueError.__new__"))
  (xn:K.lookup NT=some ⟨cN1,dN1,.dict es1 ep1,sl1⟩)
  (xs:es1.toList.all (fun e=>match e.key with | .str _ _=>true | _=>false)=true)
  (yl:K.lookup al=some ⟨cB,ddB,.cls cdB,slB⟩)
  (yn:K.lookup cdB.ns=some ⟨cN2,dN2,.dict es2 ep2,sl2⟩)
  (ys:es2.toList.all (fun e=>match e.key with | .str _ _=>true | _=>false)=true)
  (yi:nsFind es2 "__init__" = none)
  (xa:W.findIn K (.ref ac) "__setattr__" = some (some (.builtin "object.__setattr__")))
  (jb:W.takerIn K ac "address" = some none)
  (c1_:W.findIn K (.ref ac) "__getattribute__" = some (some (.builtin "BaseException.__getattribute__")))
  (c2_:W.findIn K (.ref ac) "__getattr__" = some none)
  (c4_:W.subIn K (.ref ac) (.type "BaseException")=some true)
  (c5_:W.mroIn K ac (.type "object")=some true)
  (c3_:∀ oD:Option Obj,W.findObj K ac oD "__class__" = some (.bind (.builtin "getset_descriptor.__get__") (.builtin "object.__class__")))
  (m1_:W.exmOne K (.ref ac) (.ref ac)=some true)
  (xh:W.hasDictIn K ac=true)
  (jc:W.findIn K (.ref ac) "address" = some none)
  (s1_:W.specialIn K (.ref al) "__getattribute__" = some (some (.builtin "type.__getattribute__")))
  (s2_:W.readsIn K al (.type "type")=true)
  (s3_:W.findCls K (.ref al) (.type "type") "__init__" = some (.val (.builtin "ValueError.__init__")))
  (mG:FiR K ac "__init__" av)
  (jd:nsFind es1 "__init__" = some (.ref av))
  (dF:Fun K "__init__" "NoAddress.__init__" zaM av fR)
  (je:IsF K av)
  (jf:FiR K ad "in_bits" aY)
  (bD:Fun K "in_bits" "Board.in_bits" zbo aY fS)
  (jg:IsF K aY)
  (jh:FiR K ad "check_address" aR)
  (bE:Fun K "check_address" "Board.check_address" zaL aR fU)
  (ji:IsF K aR)
  (jj:FiR K ad "floats" aZ)
  (bF:Fun K "floats" "Board.floats" zbA aZ fV)
  (jk:IsF K aZ)
  (jl:FiR K ad "chips_of" a6)
  (bG:Fun K "chips_of" "Board.chips_of" zba a6 fW)
  (jm:IsF K a6)
  (dG:NsR K "Mover" ai)
  (ay:ClsMv K ai)
  (dH:W.makesIn K ai=true)
  (dI:W.keepIn K (.ref ai)=true)
  (dJ:FiR K ai "__init__" aw)
  (bH:FunD K "__init__" "Mover.__init__" za6 (.ref cw) aw fX)
  (dL:K.lookup cw=some ⟨fY,fZ,.seq #[.int 1 a7,.int 1 a8] f9,gb⟩)
  (dM:IsF K aw)
  (jn:NsR K "BadRow" cx)
  (jo:NsR K "Clash" cy)
  (jp:NsR K "NoCell" cz)
  (jq:NsR K "NoChip" cA)
  (jr:NsR K "NoMap" cC)
  (js:NsR K "NoMover" cD)
  (jt:NsR K "NoText" cE)
  (ju:NsR K "NoWatch" cF)
  (jv:NsR K "NoWord" cG)
  (jw:NsR K "TooMany" cH)
  (zV:W.nsIn K mainGlobals "ValueError" = some none)
  (m6_:W.exmOne K (.ref ac) (.ref al)=some true)
  (m2_:W.kitOne K (.ref ac) (.ref ac)=some true)
  (m3_:W.kitOne K (.ref ac) (.type "ValueError")=some true)
  (m4_:W.kitAny K (.ref ac) [.ref cx,.ref cy,.ref cz,.ref cA,.ref cC,.ref cD,.ref cE,.ref cF,.ref cG,.ref cH]=some false)
  (jx:FiR K ai "left" bb)
  (bI:Fun K "left" "Mover.left" zb8 bb gc)
  (jy:IsF K bb)
  (jz:FiR K ai "turn" bc)
  (bJ:Fun K "turn" "Mover.turn" zb7 bc gf)
  (jA:IsF K bc)
  (jB:FiR K ai "places" bd)
  (bK:Fun K "places" "Mover.places" zby bd gh)
  (jC:IsF K bd)
  (jD:NsR K "_law_bag" cI)
  (bL:Fun K "_law_bag" "_law_bag" zdl cI gi)
  (jE:NsR K "_law_draw" cJ)
  (bM:Fun K "_law_draw" "_law_draw" zcv cJ gj)
  (bN:NsR K "_law_same" be)
  (aA:Fun K "_law_same" "_law_same" zcs be gk)
  (jF:NsR K "_law_chip" cK)
  (bO:Fun K "_law_chip" "_law_chip" zcw cK gm)
  (jG:NsR K "_law_chips" cL)
  (bP:Fun K "_law_chips" "_law_chips" zb5 cL gn)
  (jH:NsR K "_law_room" cM)
  (bQ:Fun K "_law_room" "_law_room" zcu cM gp)
  (jI:NsR K "_law_row" cO)
  (bR:Fun K "_law_row" "_law_row" zdk cO gq)
  (jJ:NsR K "_law_latched" cP)
  (bS:Fun K "_law_latched" "_law_latched" zbw cP gt)
  (jK:NsR K "_law_rows" cQ)
  (bT:Fun K "_law_rows" "_law_rows" zct cQ gu)
  (jL:NsR K "_law_begun" cR)
  (bU:Fun K "_law_begun" "_law_begun" zb6 cR gw)
  (jM:NsR K "_law_states" cS)
  (bV:Fun K "_law_states" "_law_states" zbL cS gy)
  (jN:NsR K "_law_caught" cT)
  (bW:Fun K "_law_caught" "_law_caught" zbM cT gz)
  (jO:NsR K "_law_right" cU)
  (bX:Fun K "_law_right" "_law_right" zb4 cU gG)
  (jP:NsR K "law" bf)
  (jQ:K.lookup bf=some ⟨gH,gI,.func (W.fnOf "law" "law" (zbe slaw) (zaO slaw) (zai slaw) .none cV cW cX cZ bh cY),gJ⟩)
  (jR:W.codeIn K bh "law" = true)
  (jS:W.keepIn K (.ref bf)=true)
  (jT:W.nsIn K mainGlobals "MOST_BITS" = some (some (.int 16 gK)))
  (jU:W.nsIn K mainGlobals "LAST_CHIP" = some (some (.int 99 gL)))
  (jV:W.nsIn K mainGlobals "LAST_WORD" = some (some (.int 255 gM)))
  (jW:W.nsIn K mainGlobals "MOST_CELLS" = some (some (.int 4096 gO)))
  (jX:W.nsIn K mainGlobals "MOST_ROOM" = some (some (.int 255 gP)))
  (jY:W.nsIn K mainGlobals "SIXTEEN" = some (some (.str "0123456789abcdef" gQ)))
  (jZ:W.nsIn K mainGlobals "READ" = some (some (.str "read" gR)))
  (j0:W.nsIn K mainGlobals "WRITE" = some (some (.str "write" gS)))
  (j1:W.nsIn K mainGlobals "BOTH" = some (some (.str "both" gT)))
  (j3:W.nsIn K mainGlobals "len" = some none)
  (j4:W.nsIn K mainGlobals "sum" = some none)
  (j5:W.nsIn K mainGlobals "all" = some none)
  (j6:W.nsIn K mainGlobals "max" = some none)
  (j7:W.nsIn K mainGlobals "min" = some none)
  (j8:W.nsIn K mainGlobals "int" = some none)
  (j9:W.nsIn K mainGlobals "bool" = some none)
  (ka:W.nsIn K mainGlobals "isinstance" = some none)
  (kb:W.nsIn K mainGlobals "range" = some none)
  (ke:W.nsIn K mainGlobals "enumerate" = some none)
  (kf:W.nsIn K mainGlobals "zip" = some none)
  (kg:W.nsIn K mainGlobals "str" = some none)
  (kh:W.nsIn K mainGlobals "tuple" = some none)
  (kj:W.nsIn K mainGlobals "list" = some none) :
  ∃ fd:FuncData,(∀ (s:Shared) (v:Value),BindsTo s fd ⟨[v],[]⟩ [("script",v)])∧∀ base:Heap,K.In base→base.Ns mainGlobals mg→FnOk l.prog w K mg base CX0 10 fa fd ["script"] (spLaw K):=by
 have mo:∀ {x:Str} {v:Value},W.nsIn K mainGlobals x=some (some v)→mg x=some v:=fun a=>W.mg_of X G a
 have mn:∀ {x:Str},W.nsIn K mainGlobals x=some none→mg x=none:=fun a=>W.mg_none_of X G a
 have T:Blt mg:=⟨mn j3,mn j4,mn j5,mn j6,mn j7,mn j8,mn j9,mn ka,mn kb,mn ke,mn kf,mn kg,mn kh,mn kj⟩
 have N:Nums mg:=⟨⟨_,mo jT⟩,⟨_,mo jU⟩,⟨_,mo jV⟩,⟨_,mo jW⟩,⟨_,mo jX⟩,⟨_,mo jY⟩,⟨_,mo jZ⟩,⟨_,mo j0⟩,⟨_,mo j1⟩⟩
 have b_0:=F_0.binds (ps:=["mask"]) fun _ _ _ _ _ _=>lnB1 fun _=>rfl
 have b_1:=F_1.binds (ps:=["mask"]) fun _ _ _ _ _ _=>lnB1 fun _=>rfl
 have b_2:=F_2.binds (ps:=["thing","last"]) fun _ _ _ _ _ _=>lnB2 fun _ _=>rfl
 have b_3:=F_3.binds (ps:=["bits"]) fun _ _ _ _ _ _=>lnB1 fun _=>rfl
 have b_4:=F_4.binds (ps:=["mask","want","last"]) fun _ _ _ _ _ _=>lnB3 fun _ _ _=>rfl
 have b_5:=F_5.binds (ps:=["thing"]) fun _ _ _ _ _ _=>lnB1 fun _=>rfl
 have b_6:=F_6.binds (ps:=["bits","thing"]) fun _ _ _ _ _ _=>lnB2 fun _ _=>rfl
 have b_7:=F_7.binds (ps:=["bits","thing"]) fun _ _ _ _ _ _=>lnB2 fun _ _=>rfl
 have b_8:=F_8.binds (ps:=["mask","want","other_mask","other_want"]) fun _ _ _ _ _ _=>lnB4 fun _ _ _ _=>rfl
 have b_9:=F_9.binds (ps:=["latch","other"]) fun _ _ _ _ _ _=>lnB2 fun _ _=>rfl
 have km:=bi.binds (ps:=["row","other"]) fun _ _ _ _ _ _=>lnB2 fun _ _=>rfl
 have ko:=bj.binds (ps:=["rows"]) fun _ _ _ _ _ _=>lnB1 fun _=>rfl
 have kr:=bn.binds (ps:=["thing"]) fun _ _ _ _ _ _=>lnB1 fun _=>rfl
 have ku:=bo.binds (ps:=["word"]) fun _ _ _ _ _ _=>lnB1 fun _=>rfl
 have kv:=bp.binds (ps:=["self","head","held"]) fun _ _ _ _ _ _=>lnB3 fun _ _ _=>rfl
 have ky:=bq.binds (ps:=["number","many"]) fun _ _ _ _ _ _=>lnB2 fun _ _=>rfl
 have kz:=br.binds (ps:=["word"]) fun _ _ _ _ _ _=>lnB1 fun _=>rfl
 have aT:=ak.binds (ps:=["self"]) fun _ _ _ _ _ _=>lnB1 fun _=>rfl
 have aI:=aj.binds (ps:=["self"]) fun _ _ _ _ _ _=>lnB1 fun _=>rfl
 have kG:=bv.binds (ps:=["self"]) fun _ _ _ _ _ _=>lnB1 fun _=>rfl
 have kH:=bx.binds (ps:=["row","chips"]) fun _ _ _ _ _ _=>lnB2 fun _ _=>rfl
 have kI:=bA.binds (ps:=["bits","rows","chips"]) fun _ _ _ _ _ _=>lnB3 fun _ _ _=>rfl
 have kJ:=bB.binds (ps:=["rows"]) fun _ _ _ _ _ _=>lnB1 fun _=>rfl
 have kK:=dF.binds (ps:=["self","address"]) fun _ _ _ _ _ _=>lnB2 fun _ _=>rfl
 have kM:=bD.binds (ps:=["self","number"]) fun _ _ _ _ _ _=>lnB2 fun _ _=>rfl
 have kN:=bE.binds (ps:=["self","address"]) fun _ _ _ _ _ _=>lnB2 fun _ _=>rfl
 have kO:=bF.binds (ps:=["self"]) fun _ _ _ _ _ _=>lnB1 fun _=>rfl
 have kP:=bG.binds (ps:=["self"]) fun _ _ _ _ _ _=>lnB1 fun _=>rfl
 have kQ:=bI.binds (ps:=["self"]) fun _ _ _ _ _ _=>lnB1 fun _=>rfl
 have kR:=bJ.binds (ps:=["self"]) fun _ _ _ _ _ _=>lnB1 fun _=>rfl
 have kS:=bK.binds (ps:=["self"]) fun _ _ _ _ _ _=>lnB1 fun _=>rfl
 have kT:=bL.binds (ps:=["cell","k"]) fun _ _ _ _ _ _=>lnB2 fun _ _=>rfl
 have kU:=bM.binds (ps:=["bag","many"]) fun _ _ _ _ _ _=>lnB2 fun _ _=>rfl
 have bY:=aA.binds (ps:=["found","due"]) fun _ _ _ _ _ _=>lnB2 fun _ _=>rfl
 have k6:=bO.binds (ps:=["bag"]) fun _ _ _ _ _ _=>lnB1 fun _=>rfl
 have k7:=bP.binds (ps:=["bag"]) fun _ _ _ _ _ _=>lnB1 fun _=>rfl
 have k8:=bQ.binds (ps:=["model"]) fun _ _ _ _ _ _=>lnB1 fun _=>rfl
 have k9:=bR.binds (ps:=["bag","models","places","mask","want"]) fun _ _ _ _ _ _=>lnB5 fun _ _ _ _ _=>rfl
 have le:=bS.binds (ps:=["bag","models","row"]) fun _ _ _ _ _ _=>lnB3 fun _ _ _=>rfl
 have lf:=bT.binds (ps:=["bag","bits","models"]) fun _ _ _ _ _ _=>lnB3 fun _ _ _=>rfl
 have lg:=bU.binds (ps:=["bag"]) fun _ _ _ _ _ _=>lnB1 fun _=>rfl
 have lh:=bV.binds (ps:=["board","model"]) fun _ _ _ _ _ _=>lnB2 fun _ _=>rfl
 have li:=bW.binds (ps:=["board","source","target","bag"]) fun _ _ _ _ _ _=>lnB4 fun _ _ _ _=>rfl
 have lj:=bX.binds (ps:=["board","bits","bag"]) fun _ _ _ _ _ _=>lnB3 fun _ _ _=>rfl
 have ll:=zi6 (st:=slaw) jQ jR jS
 have e:=hfa.symm.trans (mo jP)
 cases e
 refine ⟨W.fnOf "law" "law" (zbe slaw) (zaO slaw) (zai slaw) .none cV cW cX cZ bh cY,fun s v=>.of_eq rfl,fun base _ _=>?_⟩
 have cm:=@zhO l.prog w K mg base
 have mm:=@mth_mk l.prog w K mg base
 have lp:=cm (zeg F_0 T) (mo gU) F_0.kp b_0
 have lq:=cm (zhq F_1 T lp) (mo gW) F_1.kp b_1
 have aB:=cm (zfq F_2 T) (mo gX) F_2.kp b_2
 have dN:=cm (zhp F_3 T) (mo g6) F_3.kp b_3
 have dO:=cm (zfr F_4 T aB) (mo g7) F_4.kp b_4
 have lr:=cm (zgi F_5 T N aB dO) (mo g8) F_5.kp b_5
 have lv:=cm (ziq F_6 T N aB dN dO lr) (mo hG) F_6.kp b_6
 have lw:=cm (zir F_7 T lv) (mo hJ) F_7.kp b_7
 have dQ:=cm (zdq F_8 T) (mo hV) F_8.kp b_8
 have lx:=cm (zdp F_9 T dQ) (mo hW) F_9.kp b_9
 have ly:=cm (zeH bi T dQ lx) (mo hZ) bi.kp km
 have lz:=cm (zgj bj T ly) (mo h8) bj.kp ko
 have bZ:=aB
 have aJ:=cm (zhr bn T N bZ) (mo ia) bn.kp kr
 have lA:=cm (zeI bo T aJ) (mo ib) bo.kp ku
 have aK:Clm l.prog w K mg base 1 "Chip" "__init__" (spInit K):=⟨⟨aC,aU,_,_,_,mo ic,ie,ig,ii,bp.kp,zdt bp T,kv⟩⟩
 have lB:=cm (zeJ bq T N) (mo ij) bq.kp ky
 have lC:=cm (zef br T lB) (mo ik) br.kp kz
 have lD:=mm aD.cl io aS ak.kp (zaW (C:=ae) ak T aD) aT
 have lE:=mm aD.cl ip aE aj.kp (zaY (C:=ae) aj T aD) aI
 have lF:=mm aF.cl ir aS ak.kp (zaW (C:=af) ak T aF) aT
 have lG:=mm aF.cl iu aE aj.kp (zaY (C:=af) aj T aF) aI
 have lH:=mm ax.cl iw aS ak.kp (zaW (C:=aa) ak T ax) aT
 have lI:=mm ax.cl ix aE aj.kp (zaY (C:=aa) aj T ax) aI
 have lJ:=mm aG.cl iz aS ak.kp (zaW (C:=ag) ak T aG) aT
 have lK:=mm aG.cl iA aE aj.kp (zaY (C:=ag) aj T aG) aI
 have lL:=mm aH.cl iC iD bv.kp (zdP (C:=ah) bv T aH) kG
 have lM:=mm aH.cl iE aE aj.kp (zaY (C:=ah) aj T aH) aI
 have lN:FnOk l.prog w K mg base CX0 3 aL _ ["self","cells","word"] (spMkSH ae):=zcS (C:=ae) da T N aD bZ aJ aK
 have lO:Mak l.prog w K mg base 3 "Store" ae [] (dP []) (spMkSH ae):=zcK (mo il) iF iH iJ iG lN (da.kbinds (ps:=["self","cells","word"]) (ks:=[]) (g:=dP []) iI rfl (fun _ _ _ _ _ _ us ws hl=>(by have hl':us.length=3:=(by have h:=hl;unfold dP at h;rw [Xan] at h;have h2:(["self","cells","word"]:List Str).length=3:=rfl;simp only [Xau,XaU] at h;omega);exact (by apply ln3 us hl';intro _ _ _;exact ⟨_,rfl,rfl⟩))) (Vals.dP (show Vals ([]:List V) ([]:List Value) from .nil)))
 have lP:FnOk l.prog w K mg base CX0 3 aM _ ["self","words"] (spMkFH af):=zcW (C:=af) de T N aF aJ aK
 have lQ:Mak l.prog w K mg base 3 "Fixed" af [] (dP []) (spMkFH af):=zcK (mo iq) iK iM iN iL lP (de.kbinds (ps:=["self","words"]) (ks:=[]) (g:=dP []) (fun _ _ _ _ _ _ us ws hl=>(by have hl':us.length=2:=(by have h:=hl;unfold dP at h;rw [Xan] at h;have h2:(["self","words"]:List Str).length=2:=rfl;simp only [Xau,XaU] at h;omega);exact (by apply ln2 us hl';intro _ _;exact rfl))) (Vals.dP (show Vals ([]:List V) ([]:List Value) from .nil)))
 have dR:FnOk l.prog w K mg base CX0 3 aN _ ["self","word"] (spMk1H aa "latch"):=zcV (C:=aa) bw T ax aJ aK
 have lR:Mak l.prog w K mg base 3 "Latch" aa [] (dP []) (spMk1H aa "latch"):=zcK (mo bu) df dh dk dg dR (bw.kbinds (ps:=["self","word"]) (ks:=[]) (g:=dP []) di rfl (fun _ _ _ _ _ _ us ws hl=>(by have hl':us.length=2:=(by have h:=hl;unfold dP at h;rw [Xan] at h;have h2:(["self","word"]:List Str).length=2:=rfl;simp only [Xau,XaU] at h;omega);exact (by apply ln2 us hl';intro _ _;exact ⟨_,rfl,rfl⟩))) (Vals.dP (show Vals ([]:List V) ([]:List Value) from .nil)))
 have lS:Mak l.prog w K mg base 3 "Latch" aa [] (dP [.int 0]) (spMk1H aa "latch"):=zcK (mo bu) df dh dk dg dR (bw.kbinds (ps:=["self","word"]) (ks:=[]) (g:=dP [.int 0 aW]) di rfl (fun _ _ _ _ _ _ us ws hl=>(by have hl':us.length=1:=(by have h:=hl;unfold dP at h;rw [Xan] at h;have h2:(["self","word"]:List Str).length=2:=rfl;simp only [Xau,XaU] at h;omega);exact (by apply ln1 us hl';intro _;exact ⟨_,rfl,rfl⟩))) (Vals.dP (show Vals [V.int 0] [Value.int 0 aW] from .cons ⟨_,rfl⟩ .nil)))
 have lT:FnOk l.prog w K mg base CX0 3 aO _ ["self","word"] (spMk1H ag "meter"):=zcU (C:=ag) dl T aG aJ aK
 have lU:Mak l.prog w K mg base 3 "Meter" ag [] (dP []) (spMk1H ag "meter"):=zcK (mo iy) iO iQ iS iP lT (dl.kbinds (ps:=["self","word"]) (ks:=[]) (g:=dP []) iR rfl (fun _ _ _ _ _ _ us ws hl=>(by have hl':us.length=2:=(by have h:=hl;unfold dP at h;rw [Xan] at h;have h2:(["self","word"]:List Str).length=2:=rfl;simp only [Xau,XaU] at h;omega);exact (by apply ln2 us hl';intro _ _;exact ⟨_,rfl,rfl⟩))) (Vals.dP (show Vals ([]:List V) ([]:List Value) from .nil)))
 have lV:FnOk l.prog w K mg base CX0 3 aP _ ["self","room"] (spMkP ah):=zds (C:=ah) dm T N aH bZ lC aK
 have lW:Mak l.prog w K mg base 3 "Pipe" ah [] (dP []) (spMkP ah):=zcK (mo iB) iT iV iX iU lV (dm.kbinds (ps:=["self","room"]) (ks:=[]) (g:=dP []) iW rfl (fun _ _ _ _ _ _ us ws hl=>(by have hl':us.length=2:=(by have h:=hl;unfold dP at h;rw [Xan] at h;have h2:(["self","room"]:List Str).length=2:=rfl;simp only [Xau,XaU] at h;omega);exact (by apply ln2 us hl';intro _ _;exact ⟨_,rfl,rfl⟩))) (Vals.dP (show Vals ([]:List V) ([]:List Value) from .nil)))
 have MS:∀ kd,kd<5→Mth l.prog w K mg base 1 ((csOf ae af aa ag ah) kd) "state" [] (fun vs _=>vs) (spState ((csOf ae af aa ag ah) kd)):=fun kd h=>by
  rcases (show kd=0∨kd=1∨kd=2∨kd=3∨kd=4 by omega) with rfl | rfl | rfl | rfl | rfl
  ·exact lE
  ·exact lG
  ·exact lI
  ·exact lK
  ·exact lM
 have ML:∀ kd,kd<5→Mth l.prog w K mg base 1 ((csOf ae af aa ag ah) kd) "__len__" [] (fun vs _=>vs) (spLen ((csOf ae af aa ag ah) kd) (lenK kd)):=fun kd h=>by
  rcases (show kd=0∨kd=1∨kd=2∨kd=3∨kd=4 by omega) with rfl | rfl | rfl | rfl | rfl
  ·exact lD
  ·exact lF
  ·exact lH
  ·exact lJ
  ·exact lL
 have lX:=cm (zgh (cs:=(csOf ae af aa ag ah)) bx T lq (mo bu) (ziy i6) (fun e=>.ins e ax.cl iY iZ i4 i5) ML) (mo i7) bx.kp kH
 have lY:=cm (zfs (cs:=(csOf ae af aa ag ah)) bA T N aB lw lX) (mo i9) bA.kp kI
 have lZ:=cm (zeh bB T lz) (mo ja) bB.kp kJ
 have dS:FnOk l.prog w K mg base CX0 7 aQ _ ["self","bits","rows","chips","floating"] (spInitB ad (csOf ae af aa ag ah)):=zcY (C:=ad) bC T (mn zS) am lY lZ lA
 have l4:Mak l.prog w K mg base 7 "Board" ad [] (dP [.int 0]) (spInitB ad (csOf ae af aa ag ah)):=zcK (mo dq) du dA dC dz dS (bC.kbinds (ps:=["self","bits","rows","chips","floating"]) (ks:=[]) (g:=dP [.int 0 aX]) dB rfl (fun _ _ _ _ _ _ us ws hl=>(by have hl':us.length=4:=(by have h:=hl;unfold dP at h;rw [Xan] at h;have h2:(["self","bits","rows","chips","floating"]:List Str).length=5:=rfl;simp only [Xau,XaU] at h;omega);exact (by apply ln4 us hl';intro _ _ _ _;exact ⟨_,rfl,rfl⟩))) (Vals.dP (show Vals [V.int 0] [Value.int 0 aX] from .cons ⟨_,rfl⟩ .nil)))
 have l5:Mak l.prog w K mg base 7 "Board" ad [] (dP []) (spInitB ad (csOf ae af aa ag ah)):=zcK (mo dq) du dA dC dz dS (bC.kbinds (ps:=["self","bits","rows","chips","floating"]) (ks:=[]) (g:=dP []) dB rfl (fun _ _ _ _ _ _ us ws hl=>(by have hl':us.length=5:=(by have h:=hl;unfold dP at h;rw [Xan] at h;have h2:(["self","bits","rows","chips","floating"]:List Str).length=5:=rfl;simp only [Xau,XaU] at h;omega);exact (by apply ln5 us hl';intro _ _ _ _ _;exact ⟨_,rfl,rfl⟩))) (Vals.dP (show Vals ([]:List V) ([]:List Value) from .nil)))
 have sk:∀ es:Array DictEntry,es.toList.all (fun e=>match e.key with | .str _ _=>true | _=>false)=true→StrKeys es:=fun es h e he=>strKey (Xbp.mp h e (Array.mem_toList_iff.mpr he))
 have xc:XCls K ac:=⟨⟨_,_,_,_,xl⟩,c1_,c2_,c3_,c4_,c5_⟩
 have GS:SupI K mg "BusError" := ⟨⟨al,mo dE,s1_,s2_,s3_⟩⟩
 have dU:ExcI K ac av:=⟨⟨_,_,_,_,_,_,_,_,_,_,_,_,_,_,_,xl,⟨_,_,_,_,_,xn,sk _ xs,jd⟩,.own yl ⟨_,_,_,_,_,yn,sk _ ys,yi⟩ .base⟩,xa⟩
 have l6:XIni l.prog w K mg base 1 "NoAddress" ac (spNaI ac):=by
  obtain ⟨oI,h1,h2⟩:=zhB je
  exact ⟨mo dD,av,_,_,oI,dU,⟨h1,h2⟩,zbY dF T GS dU jb,kK⟩
 have l7:=mm am.cls jf jg bD.kp (zdu (C:=ad) bD T am aB dN) kM
 have l8:FnOk l.prog w K mg base (CX1 l.prog w) 3 aR _ ["self","address"] (spChkAdX ad ac):=zbP (C:=ad) (CT:=ac) bE T l7 l6
 have dW:=zjI am.cls jh ji bE.kp l8 kN
 have mH:=dW.calm
 have l9:=mm am.cls jj jk bF.kp (zdR (C:=ad) bF T am) kO
 have me:=mm am.cls jl jm bG.kp (zcX (C:=ad) bG T am) kP
 have dX:FnOk l.prog w K mg base (CX1 l.prog w) 4 aw _ ["self","board","source","target","many","step","by"] (spMvI ad ac ai):=zcT (C:=ad) (CT:=ac) (CM:=ai) bH T ay dW
 have dY:MakX l.prog w K mg base 4 "Mover" ai [] (dP [.int 1,.int 1]) (spMvI ad ac ai):=⟨mo dG,aw,_,_,_,⟨dH,dJ,dM,dI⟩,dX,(bH.kbinds (ps:=["self","board","source","target","many","step","by"]) (ks:=[]) (g:=dP [.int 1 a7,.int 1 a8]) dL rfl (fun _ _ _ _ _ _ us ws hl=>(by have hl':us.length=5:=(by have h:=hl;unfold dP at h;rw [Xan] at h;have h2:(["self","board","source","target","many","step","by"]:List Str).length=7:=rfl;simp only [Xau,XaU] at h;omega);exact (by apply ln5 us hl';intro _ _ _ _ _;exact ⟨_,rfl,rfl⟩))) (Vals.dP (show Vals [V.int 1,V.int 1] [Value.int 1 a7,Value.int 1 a8] from .cons ⟨_,rfl⟩ (.cons ⟨_,rfl⟩ .nil))))⟩
 have mf:MakX l.prog w K mg base 4 "Mover" ai [] (dP []) (spMvI ad ac ai):=⟨mo dG,aw,_,_,_,⟨dH,dJ,dM,dI⟩,dX,(bH.kbinds (ps:=["self","board","source","target","many","step","by"]) (ks:=[]) (g:=dP []) dL rfl (fun _ _ _ _ _ _ us ws hl=>(by have hl':us.length=7:=(by have h:=hl;unfold dP at h;rw [Xan] at h;have h2:(["self","board","source","target","many","step","by"]:List Str).length=7:=rfl;simp only [Xau,XaU] at h;omega);exact (by apply ln7 us hl';intro _ _ _ _ _ _ _;exact ⟨_,rfl,rfl⟩))) (Vals.dP (show Vals ([]:List V) ([]:List Value) from .nil)))⟩
 have mh:=dY.calm
 have dZ:=mm ay.cls jx jy bI.kp (zeO (CM:=ai) bI T ay) kQ
 have mi:=mm ay.cls jz jA bJ.kp (zeN (CM:=ai) bJ T dZ) kR
 have mj:=mm ay.cls jB jC bK.kp (zdQ (CM:=ai) bK T ay) kS
 have ml:=cm (zgl bL T) (mo jD) bL.kp kT
 have aq:=cm (zfv bM T) (mo jE) bM.kp kU
 have mq:Cal l.prog w K mg base 0 "_law_same" ["found","due"] (fun _ _ _ _=>False):=⟨be,_,⟨fun _ _ _ _ h=>h.elim,fun _ _ _ _ _ _ _ _ _ _ _ _ _ h=>h.elim⟩,mo bN,aA.kp,bY⟩
 have mr:Cal l.prog w K mg base 1 "_law_same" ["found","due"] (spSameL 0):=zhO (zdr aA T mq (fun k e=>by cases e <;> rfl)) (mo bN) aA.kp bY
 have d3:Cal l.prog w K mg base 2 "_law_same" ["found","due"] (spSameL 1):=zhO (zdr aA T mr (fun k e=>by cases e <;> rfl)) (mo bN) aA.kp bY
 have mv:=cm (zfw (cs:=(csOf ae af aa ag ah)) bO T aq lQ lW lR lU lO) (mo jF) bO.kp k6
 have mw:=cm (zeL (cs:=(csOf ae af aa ag ah)) bP T aq mv lS) (mo jG) bP.kp k7
 have d4:=cm (zfu bQ T) (mo jH) bQ.kp k8
 have my:=cm (zgk bR T aq d4) (mo jI) bR.kp k9
 have mz:=cm (zdO bS T aq d4) (mo jJ) bS.kp le
 have mB:=cm (zft bT T aq my mz) (mo jK) bT.kp lf
 have mC:=cm (zeM (C:=ad) (cs:=(csOf ae af aa ag ah)) bU T aq mw mB l4 l5) (mo jL) bU.kp lg
 have mD:=cm (zei (C:=ad) (cs:=(csOf ae af aa ag ah)) bV T d3 l9 me MS) (mo jM) bV.kp lh
 have mE:=cm (zej (CM:=ai) bW T aq dY mf (mo dE) m6_) (mo jN) bW.kp li
 have mF:=cm (zeK (C:=ad) (CT:=ac) (CM:=ai) bX T (mn zV) aq mE mh dZ mi mj d3 (mo dD) (mo jn) (mo jo) (mo jp) (mo jq) (mo jr) (mo js) (mo jt) (mo ju) (mo jv) (mo jw) xc xh jc m2_ m3_ m4_) (mo jO) bX.kp lj
 exact oklaw (C:=ad) (cs:=(csOf ae af aa ag ah)) ll T ml mC mF mD
theorem walk {l:W.OpenLaw}{q:Program}{loose:List Str}{XP:(Str→Option Value)→Heap→Prop}{YP:World→Heap→Prop}{d:DefRec}{K:Params→W.Frag}(hn:l.most=some 63)(hdf:d.params.defaults=[])
  (hY:∀ (w:World) (h:Heap),YP w h→(K w.params).In h)
  (F:∀ (w:World) (mg:Str→Option Value) (fa:Addr) (h:Heap),(K w.params).In h→h.Ns mainGlobals mg→mg d.name=some (.ref fa) →
   ∃ fd:FuncData,(∀ (s:Shared) (u:Value),BindsTo s fd ⟨[u],[]⟩ [("script",u)])∧∀ base:Heap,(K w.params).In base→base.Ns mainGlobals mg→FnOk l.prog w (K w.params) mg base CX0 10 fa fd ["script"] (spLaw (K w.params))) :
  W.WalkO q loose XP YP l.row.toRowW d [] (fun f vs=>PySem.call f vs):=
 L2.walk_ofB (n:=63) (k:=10) (x := "script") (CX:=fun _=>CX0) (sp:=fun w=>spLaw (K w.params)) hn (by decide) hdf ⟨rfl,by decide,by decide,rfl⟩ hY F (fun _ _ a ns hl hb _ hS=>⟨a,ns,rfl,hS,hl,hb,fun _=>rfl⟩) fun _ _ _ _ _ z=>z
end Cb
open PySem PySem.W PyProof.Rows Cb L2
local macro_rules | `(tactic| walk_at "fm")=>`(tactic| (refine' zi6 ?l ?c ?k;(case l=>k_is);(case c=>k_is);(case k=>k_is)))
local macro_rules | `(tactic| walk_at "fd")=>`(tactic| (refine' zjS ?l ?c ?k;(case l=>k_is);(case c=>k_is);(case k=>k_is)))
local macro_rules | `(tactic| walk_at "na")=>`(tactic| (show W.findIn _ _ _=_;k_is))
local macro_rules | `(tactic| walk_at "nr")=>`(tactic| (show W.nsIn _ _ _=some (some _);k_is))
local macro_rules | `(tactic| walk_at "nf")=>`(tactic| (show W.findIn _ _ _=some (some _);k_is))
local macro_rules | `(tactic| walk_at "ni")=>`(tactic| (show W.isFn _ _=true;k_is))
local macro_rules | `(tactic| walk_at "cs")=>`(tactic| exact ⟨by k_is,by k_is,by k_is,by k_is⟩)
local macro_rules | `(tactic| walk_at "cl")=>`(tactic| exact ⟨by walk_at "cs",by walk_at "na",by walk_at "na",by walk_at "na"⟩)
local macro_rules | `(tactic| walk_at "cb")=>`(tactic| exact ⟨by walk_at "cs",by walk_at "na",by walk_at "na",by walk_at "na",by walk_at "na",by walk_at "na",by walk_at "na",by walk_at "na"⟩)
local macro_rules | `(tactic| walk_at "cw")=>`(tactic| exact ⟨by walk_at "cs",by walk_at "na",by walk_at "na",by walk_at "na",by walk_at "na"⟩)
local macro_rules | `(tactic| walk_at "cv")=>`(tactic| exact ⟨by walk_at "cs",by walk_at "na",by walk_at "na",by walk_at "na",by walk_at "na",by walk_at "na",by walk_at "na"⟩)
set_option maxRecDepth 1000000 in
set_option maxHeartbeats 0 in
theorem PySem.Challenge.cw_chipbus_k48_movers_refused_holds : PySem.Challenge.rw_chipbus_k48_movers_refused.Holds := by
 refine Hd.top ?_
 k_fill
 refine Cb.walk (l:=PySem.Challenge.rw_chipbus_k48_movers_refused) rfl rfl (fun w h Y=>PySem.W.kIn_of Y) ?F
 case F =>
  intro w mg fa h KX G hmg
  refine' Cb.all_mk KX G hmg ?_ ?_ ?_ ?_ ?_ ?_ ?_ ?_ ?_ ?_ ?_ ?_ ?_ ?_ ?_ ?_ ?_ ?_ ?_ ?_ ?_ ?_ ?_ ?_ ?_ ?_ ?_ ?_ ?_ ?_ ?_ ?_ ?_ ?_ ?_ ?_ ?_ ?_ ?_ ?_ ?_ ?_ ?_ ?_ ?_ ?_ ?_ ?_ ?_ ?_ ?_ ?_ ?_ ?_ ?_ ?_ ?_ ?_ ?_ ?_ ?_ ?_ ?_ ?_ ?_ ?_ ?_ ?_ ?_ ?_ ?_ ?_ ?_ ?_ ?_ ?_ ?_ ?_ ?_ ?_ ?_ ?_ ?_ ?_ ?_ ?_ ?_ ?_ ?_ ?_ ?_ ?_ ?_ ?_ ?_ ?_ ?_ ?_ ?_ ?_ ?_ ?_ ?_ ?_ ?_ ?_ ?_ ?_ ?_ ?_ ?_ ?_ ?_ ?_ ?_ ?_ ?_ ?_ ?_ ?_ ?_ ?_ ?_ ?_ ?_ ?_ ?_ ?_ ?_ ?_ ?_ ?_ ?_ ?_ ?_ ?_ ?_ ?_ ?_ ?_ ?_ ?_ ?_ ?_ ?_ ?_ ?_ ?_ ?_ ?_ ?_ ?_ ?_ ?_ ?_ ?_ ?_ ?_ ?_ ?_ ?_ ?_ ?_ ?_ ?_ ?_ ?_ ?_ ?_ ?_ ?_ ?_ ?_ ?_ ?_ ?_ ?_ ?_ ?_ ?_ ?_ ?_ ?_ ?_ ?_ ?_ ?_ ?_ ?_ ?_ ?_ ?_ ?_ ?_ ?_ ?_ ?_ ?_ ?_ ?_ ?_ ?_ ?_ ?_ ?_ ?_ ?_ ?_ ?_ ?_ ?_ ?_ ?_ ?_ ?_ ?_ ?_ ?_ ?_ ?_ ?_ ?_ ?_ ?_ ?_ ?_ ?_ ?_ ?_ ?_ ?_ ?_ ?_ ?_ ?_
  all_goals first | walk_at "nr" | walk_at "fm" | walk_at "cl" | walk_at "nf" | walk_at "ni" | walk_at "fd" | walk_at "cb" | walk_at "cv" | k_is | rfl | (intro _;rfl) | skip
#print axioms PySem.Challenge.cw_chipbus_k48_movers_refused_holds
