import PyProof.Rows.All
import Wide.All
import OpenK.AllK
import Wide.FinOn
import Lean
import PyProof.EqAt
import PyProof.EqKinds
import PyProof.TupleCall
import PyProof.NeKinds
import PyProof.DelItemList
import PyProof.StationsW
import PyProof.Rows.Own
import PyProof.RulesDel
import PyProof.RulesAs
import PyProof.ExcBaseAll.ValueError
import KE.KTryMore
import PyProof.ExcArgs
import KE.KIsAll
import PyProof.ListRange
import PyProof.Rows.RuleM_int
import PyProof.Draws
import PyProof.EnumMake
import KE.KDictSum
import KE.KItemsList
import KE.KSortTup
import PyProof.MinMaxWalk
import PyProof.WalkInts
import PyProof.CallTypeRange
import KE.KEqDict
import PyProof.FitsInt
import PyProof.Rows.StrNews
import KE.KIntText
import PyProof.StrWalks
import PyProof.Rows.StrRules
import KE.KUnpackStar
import PyProof.StrLawsTight
import PyProof.StrLawsChain
import PyProof.Rows.StrClose
import PyProof.SetRoads
import PyProof.DictCompW
import PyProof.ReprRoads
import PyProof.ReprLen
import PyProof.AttrMissHeap
import KE.KDictOf
import PySem.Challenge.RW_chipbus_k57_whole_clash_or_one
set_option Elab.async false
set_option linter.all false
set_option maxRecDepth 100000
set_option maxHeartbeats 4000000
section
set_option maxRecDepth 1000000
set_option maxHeartbeats 0
namespace Hd
open PySem PySem.W
noncomputable def runQ (p:Program) (w:World) (n₀:Nat) (ann:Option Value) (N:Nat):SharedT→Thread→Option SharedT:=
 @Nat.rec (fun _=>SharedT→Thread→Option SharedT) (fun _ _=>none) (fun _ ih s t=>match through t with
  | true=>some s
  | false=>match Fast.tw6613529449190102663 n₀ ann t with
   | false=>none
   | true=>match Fast.tw10156331382660048174 (Fast.tw11892475500146522536 Fast.tw14364793385576792824) p w s t with
    | some (s',t')=>ih s' t'
    | none=>none) N
theorem zjX {p:Program} {w:World} {n₀:Nat} {ann:Option Value}:∀ {N:Nat} {s s':SharedT} {t:Thread},runQ p w n₀ ann N s t=some s'→topRun treeTable p w n₀ ann N s.abs t=some s'.abs
 | 0,s,s',t,h=>by cases h
 | N+1,s,s',t,h=>by
  have h:(match through t with
  | true=>some s
  | false=>match Fast.tw6613529449190102663 n₀ ann t with
   | false=>none
   | true=>match Fast.tw10156331382660048174 (Fast.tw11892475500146522536 Fast.tw14364793385576792824) p w s t with
    | some (s',t')=>runQ p w n₀ ann N s' t'
    | none=>none)=some s':=h
  rw [← Fast.te6613529449190102663,← Fast.te10156331382660048174,← Fast.te11892475500146522536,← Fast.te14364793385576792824] at h
  unfold topRun
  cases ht:through t with
  | true=>rw [ht] at h;cases h;rfl
  | false =>
   rw [ht] at h
   cases hk:stepOk n₀ ann t with
   | false=>rw [hk] at h;cases h
   | true =>
    rw [hk] at h
    cases hs:stepT (denote treeTable) p w s t with
    | none=>rw [hs] at h;cases h
    | some r=>obtain ⟨s₂,t₂⟩:=r;rw [hs] at h;dsimp only;rw [stepT_spec hs];exact zjX h
noncomputable def treeL:List Obj→Nat→BT→BT:=@List.rec Obj (fun _=>Nat→BT→BT) (fun _ t=>t) (fun o _ ih n t=>ih (n+1) (t.ins n o))
noncomputable def zlv (P:Params):BT:=treeL (boot_heap P).objs.toList 0 .nil
theorem zjQ (P:Params):absHeap (zlv P) 11 (boot_heap P).life=boot_heap P:=by kernel_rfl
theorem ziF (P:Params):((boot_heap P).isNs mainGlobals && (Array.mk []:Array GenState).size == 0,(boot_heap P).objs.size,(boot_heap P).nsMap mainGlobals "__annotations__")=(true,11,some (.ref 6)):=by kernel_rfl
noncomputable def zg2 (P:Params) (os:OsState):SharedT:=⟨zlv P,11,(boot_heap P).life,Array.mk [],boot_drawn,boot_toks,os⟩
noncomputable def getT (s:SharedT) (a:Addr):Option Obj:=match Nat.blt a s.n with
 | true=>match s.tree.get a with
  | some o=>alive o
  | none=>none
 | false=>none
theorem zlo {s:SharedT} {a:Addr} {o:Obj} (h:getT s a=some o):s.abs.heap.get? a=some o:=by
 unfold getT at h
 cases e:Nat.blt a s.n with
 | false=>rw [e] at h;cases h
 | true =>
  rw [e] at h
  cases g:s.tree.get a with
  | none=>rw [g] at h;cases h
  | some x=>rw [g] at h;exact (abs_get (Nat.le_of_ble_eq_true e) g).trans h
theorem zgg {s:SharedT}:∀ {as:List Addr} {L:List (Nat×Obj)},as.map (getT s)=L.map (fun p=>some p.2)→as.map s.abs.heap.get? = L.map (fun p=>some p.2)
 | [],[],_=>rfl
 | [],_ :: _,h=>by cases h
 | _ :: _,[],h=>by cases h
 | a :: as,p :: L,h=>by
  obtain ⟨h1,h2⟩:=List.cons.inj h
  exact List.cons_eq_cons.mpr ⟨zlo h1,zgg h2⟩
abbrev ziN (p q:Program) (loose:List Str) (Xt:Shared→Bool) (N:Nat) (g0:Bool) (w:World) (os:OsState):Prop:=(runQ p w 11 (some (.ref 6)) N (zg2 w.params os) (topStub p)).map (fun s =>
   ((staticsOk (importedModules p.main.body) (boot_heap w.params) s.abs.heap && namesBound p s.abs.heap && gensDone s.abs && laidKept (boot_heap w.params) s.abs.heap),openSeen q loose (importedModules p.main.body) Xt g0 s.abs))=some (true,openGood q loose)
def zkt (p q:Program) (loose:List Str) (Xt:Shared→Bool) (N:Nat) (g0:Bool):Prop:=∀ (w:World) (os:OsState),ziN p q loose Xt N g0 w os
def SeenF (row:String) (b:Bool) (p q:Program) (loose:List Str) (Xt:Shared→Bool) (N:Nat) (g0:Bool):Prop:=∀ (w:World) (os:OsState),ziN p q loose Xt N g0 (w.withFollow row b) os
theorem zfI {p q:Program} {loose:List Str} {Xt:Shared→Bool} {K:Params→Frag} {as:List Addr} {ex:∀ P,as=(K P).map (·.1)} {N:Nat} {g0:Bool} {w:World} (h:∀ os,ziN p q loose Xt N g0 w os) (e:opening p=plainProg p.main.scope.names) (f:∀ s,fenceModules? p s=some s) (hN:Nat.ble 600 N=true)
  (hK:∀ os:OsState,(runQ p w 11 (some (.ref 6)) N (zg2 w.params os) (topStub p)).map (fun s=>as.map (getT s))=some ((K w.params).map fun p=>some p.2)) :
  (openEnds treeTable p w N).map (fun s=>(openSeen q loose (importedModules p.main.body) Xt g0 s,(kHook K as ex).obs s))=some (openGood q loose,(kHook K as ex).val w):=by
 have ho:=boot_open e hN f w
 obtain ⟨⟨hh,gs,d,k,os⟩,e1,e2⟩:=Option.map_eq_some_iff.mp ho
 obtain ⟨rfl,rfl,rfl,rfl⟩:hh=boot_heap w.params∧gs=Array.mk []∧d=boot_drawn∧k=boot_toks:=by simpa using e2
 obtain ⟨z1,z2,z3⟩:_∧_∧_:=by simpa only [Prod.mk.injEq] using ziF w.params
 obtain ⟨s,r,l⟩:=Option.map_eq_some_iff.mp (h os)
 obtain ⟨s',r',l'⟩:=Option.map_eq_some_iff.mp (hK os)
 rw [r] at r'
 cases r'
 have l3:=zgg l'
 obtain ⟨l1,l2⟩:_∧_:=by simpa only [Prod.mk.injEq] using l
 have r:=zjX r
 have ea:(zg2 w.params os).abs=⟨boot_heap w.params,Array.mk [],boot_drawn,boot_toks,os⟩:=by
  show (⟨absHeap (zlv w.params) 11 (boot_heap w.params).life,Array.mk [],boot_drawn,boot_toks,os⟩:Shared)=_
  rw [zjQ]
 rw [ea] at r
 have t:topFrom treeTable p w N ⟨boot_heap w.params,Array.mk [],boot_drawn,boot_toks,os⟩=some s.abs:=by
  unfold topFrom
  dsimp only
  rw [z1,z2,z3,r]
  show (match staticsOk (importedModules p.main.body) (boot_heap w.params) s.abs.heap && namesBound p s.abs.heap && gensDone s.abs && laidKept (boot_heap w.params) s.abs.heap with | true=>_ | false=>_)=_
  rw [l1]
 unfold openEnds
 rw [e1]
 show (topFrom treeTable p w N _).map _=_
 rw [t]
 exact congrArg some (Prod.ext l2 l3)
theorem left_of {p q:Program} {loose:List Str} {Xt:Shared→Bool} {K:Params→Frag} {as:List Addr} {ex:∀ P,as=(K P).map (·.1)} {N:Nat} {g0:Bool} (h:zkt p q loose Xt N g0) (e:opening p=plainProg p.main.scope.names) (f:∀ s,fenceModules? p s=some s) (hN:Nat.ble 600 N=true)
  (hK:∀ (w:World) (os:OsState),(runQ p w 11 (some (.ref 6)) N (zg2 w.params os) (topStub p)).map (fun s=>as.map (getT s))=some ((K w.params).map fun p=>some p.2)) :
  LeftO p q loose Xt (kHook K as ex).obs (kHook K as ex).val N g0:=fun w=>zfI (h w) e f hN (hK w)
theorem left_split {p q:Program} {loose:List Str} {Xt:Shared→Bool} {K:Params→Frag} {as:List Addr} {ex:∀ P,as=(K P).map (·.1)} {N:Nat} {g0:Bool} (row:String) (h:SeenF row false p q loose Xt N g0) (h':SeenF row true p q loose Xt N g0) (e:opening p=plainProg p.main.scope.names) (f:∀ s,fenceModules? p s=some s) (hN:Nat.ble 600 N=true)
  (hK:∀ (w:World) (os:OsState),(runQ p (w.withFollow row false) 11 (some (.ref 6)) N (zg2 (w.withFollow row false).params os) (topStub p)).map (fun s=>as.map (getT s))=some ((K (w.withFollow row false).params).map fun p=>some p.2))
  (hK':∀ (w:World) (os:OsState),(runQ p (w.withFollow row true) 11 (some (.ref 6)) N (zg2 (w.withFollow row true).params os) (topStub p)).map (fun s=>as.map (getT s))=some ((K (w.withFollow row true).params).map fun p=>some p.2)) :
  LeftO p q loose Xt (kHook K as ex).obs (kHook K as ex).val N g0:=fun w=>by
 have z:=World.withFollow_self w row
 cases hb:w.params.followText row <;> rw [hb] at z
 ·have:=zfI (ex:=ex) (h w) e f hN (hK w)
  rw [z] at this;exact this
 ·have:=zfI (ex:=ex) (h' w) e f hN (hK' w)
  rw [z] at this;exact this
end Hd
end
section
set_option maxRecDepth 1000000
set_option maxHeartbeats 0
namespace Hd
open PySem PySem.W
def vw:Program:=PySem.W.view PySem.Challenge.pw_chipbus_k57_whole_clash_or_one [0,2,3,4,5,6,7,8,9,11,12,13,15,16,17,18,20,21,22,23,24,25,26,27,29,30,31,32,33,34,35,36,37,39,40,41,43,44,45,46,48,49,50,51,52,53,54,55,56,58,59,60,61,62,63,64,65,66,67,68]
def ls:List Str:=["Store","Latch","Board"]
theorem h1:zkt PySem.Challenge.rw_chipbus_k57_whole_clash_or_one.row.prog vw ls (fun s=>xlAt vw [] s && recOk (RowW.records (OpenRow.toRowW (OpenLaw.row PySem.Challenge.rw_chipbus_k57_whole_clash_or_one))) s) 10384 true:=by
 intro w os
 kernel_rfl
end Hd
open PySem PySem.W in
local macro_rules | `(tactic| o_head $H)=>`(tactic| (
 refine holds_open (q:=Hd.vw) (loose:=Hd.ls) (Xt:=fun s=>xlAt Hd.vw [] s && recOk (RowW.records (OpenRow.toRowW (OpenLaw.row PySem.Challenge.rw_chipbus_k57_whole_clash_or_one))) s) (XP:=XL Hd.vw []) (Yf:=Hook.obs $H) (Ya:=Hook.val $H) (YP:=Hook.says $H) (N:=10384) ?hl (Hook.of $H) (Hook.keeps $H) (fun s e=>xl_of s (Bool.and_eq_true_iff.mp e).1) XL.keeps (by rfl) (by rfl) (by rfl) (fun s e=>recFacts_of (Bool.and_eq_true_iff.mp e).2) (by rfl) (by first | assumption | decide +kernel) (by decide +kernel) ⟨rfl,rfl,rfl,rfl,rfl,by decide +kernel⟩ ?hw ?hc
 (case hl=>refine Hd.left_of Hd.h1 (by kernel_rfl) (fun s=>by kernel_rfl) rfl ?h2;(case h2=>(intro w os;kernel_rfl)))))
open_top Hd.top for PySem.Challenge.rw_chipbus_k57_whole_clash_or_one
end
section
namespace L2
open PySem PySem.Spec PyProof.Rows
abbrev Key:=Sum Int Str
def zeQ:Key→Value→Bool
 | .inl k,v=>Value.isInt k v
 | .inr x,v=>Value.isStrOf x v
def keyH (w:World):Key→Int
 | .inl k=>hashInt k
 | .inr x=>hashStr w x
theorem zaB:∀ {k:Key} {v:Value},zeQ k v=true→(∃ i t,k=Sum.inl i∧v=Value.int i t)∨(∃ x t,k=Sum.inr x∧v=Value.str x t)
 | .inl i,v,h=>by
  obtain ⟨t,e⟩:=Value.isInt_shape (k:=i) (v:=v) h
  exact .inl ⟨i,t,rfl,e⟩
 | .inr x,v,h=>by
  obtain ⟨t,e⟩:=Value.isStrOf_shape (x:=x) (v:=v) h
  exact .inr ⟨x,t,rfl,e⟩
theorem zia (i:Int) (t:Tok):zeQ (.inl i) (.int i t)=true:=by simp [zeQ,Value.isInt]
theorem zh9 (x:Str) (t:Tok):zeQ (.inr x) (.str x t)=true:=by simp [zeQ,Value.isStrOf]
theorem key_ll (a b:Int):decide ((Sum.inl a:Key)=Sum.inl b)=(a == b):=by
 by_cases e:a=b
 ·subst e;simp
 ·have h:¬ (Sum.inl a:Key)=Sum.inl b:=fun q=>e (Sum.inl.inj q)
  rw [decide_eq_false h]
  exact (beq_eq_false_iff_ne.mpr e).symm
theorem key_rr (a b:Str):decide ((Sum.inr a:Key)=Sum.inr b)=decide (a=b):=by
 by_cases e:a=b
 ·subst e;simp
 ·have h:¬ (Sum.inr a:Key)=Sum.inr b:=fun q=>e (Sum.inr.inj q)
  rw [decide_eq_false h,decide_eq_false e]
theorem key_lr (a:Int) (b:Str):decide ((Sum.inl a:Key)=Sum.inr b)=false:=decide_eq_false (fun q=>nomatch q)
theorem key_rl (a:Str) (b:Int):decide ((Sum.inr a:Key)=Sum.inl b)=false:=decide_eq_false (fun q=>nomatch q)
def zaz (prog:Program) (w:World):PySem.KeyKind prog w Key where
 is:=zeQ
 hash:=keyH w
 inj:=fun v a b ha hb=>by
  rcases zaB ha with ⟨i,t,rfl,rfl⟩ | ⟨x,t,rfl,rfl⟩
  ·rcases zaB hb with ⟨j,u,rfl,e⟩ | ⟨y,u,rfl,e⟩
   ·injection e with e1 _;rw [e1]
   ·exact nomatch e
  ·rcases zaB hb with ⟨j,u,rfl,e⟩ | ⟨y,u,rfl,e⟩
   ·exact nomatch e
   ·injection e with e1 _;rw [e1]
 byValue:=fun k v h=>by
  rcases zaB h with ⟨i,t,rfl,rfl⟩ | ⟨x,t,rfl,rfl⟩ <;> rfl
 pyHash:=fun hv h=>by
  rcases zaB hv with ⟨i,t,rfl,rfl⟩ | ⟨x,t,rfl,rfl⟩
  ·exact wpAny_pyHash_int h
  ·exact wpAny_pyHash_str h
 eqBool:=fun hu hv h=>by
  rcases zaB hu with ⟨i,t,rfl,rfl⟩ | ⟨x,t,rfl,rfl⟩
  ·rcases zaB hv with ⟨j,u,rfl,rfl⟩ | ⟨y,u,rfl,rfl⟩
   ·rw [key_ll] at h;exact wpAny_eqBool_int h
   ·rw [key_lr] at h;exact SeqAt.EqAt.int_str i t y u _ _ _ _ h
  ·rcases zaB hv with ⟨j,u,rfl,rfl⟩ | ⟨y,u,rfl,rfl⟩
   ·rw [key_rl] at h;exact SeqAt.EqAt.str_int x t j u _ _ _ _ h
   ·rw [key_rr] at h;exact wpAny_eqBool_str h
 «strs»:=fun k x t v h=>by
  rcases zaB h with ⟨i,u,rfl,e⟩ | ⟨y,u,rfl,e⟩
  ·exact nomatch e
  ·injection e with e1 _
   subst e1
   cases v <;> rfl
theorem zfG (prog:Program) (w:World) (i:Int) (t:Tok):(zaz prog w).is (.inl i) (.int i t)=true:=zia i t
theorem zfF (prog:Program) (w:World) (x:Str) (t:Tok):(zaz prog w).is (.inr x) (.str x t)=true:=zh9 x t
end L2
namespace L2
open PySem PySem.Spec PyProof.Rows
inductive V where
 | non | bl (b:Bool) | int (i:Int) | str (x:Str) | byt (b:Array UInt8) | flt (b:UInt64) | ref (a:Addr) | ty (n:String)
 deriving DecidableEq
def RelV:V→Value→Prop
 | .non,u=>u=Value.none
 | .bl b,u=>u=Value.bool b
 | .int i,u=>∃ t,u=Value.int i t
 | .str x,u=>∃ t,u=Value.str x t
 | .byt b,u=>∃ t,u=Value.bytes b t
 | .flt b,u=>∃ t,u=Value.float b t
 | .ref a,u=>u=Value.ref a
 | .ty n,u=>u=Value.type n
abbrev Vals:List V→List Value→Prop:=Paired RelV
theorem Vals.length {xs:List V} {us:List Value} (r:Vals xs us):xs.length=us.length:=Paired.length r
theorem Vals.get:∀ {xs:List V} {us:List Value} {i:Nat} {x:V},Vals xs us→xs[i]? = some x→∃ u,us[i]? = some u∧RelV x u
 | _,_,_,_,.nil,e=>by simp at e
 | _,_,0,_,.cons r _,e=>by simp at e;subst e;exact ⟨_,rfl,r⟩
 | _,_,i+1,x,.cons _ t,e=>by
  obtain ⟨u,h1,h2⟩:=Vals.get (i:=i) (x:=x) t (by simpa using e)
  exact ⟨u,by simpa using h1,h2⟩
theorem Vals.set {x:V} {u:Value} (r:RelV x u):∀ {xs:List V} {us:List Value} (i:Nat),Vals xs us→Vals (xs.set i x) (us.set i u)
 | _,_,_,.nil=>.nil
 | _,_,0,.cons _ t=>.cons r t
 | _,_,i+1,.cons q t=>.cons q (Vals.set r i t)
theorem Vals.append:∀ {xs ys:List V} {us ws:List Value},Vals xs us→Vals ys ws→Vals (xs ++ ys) (us ++ ws)
 | _,_,_,_,.nil,s=>s
 | _,_,_,_,.cons r t,s=>.cons r (Vals.append t s)
theorem Vals.take:∀ {xs:List V} {us:List Value} (n:Nat),Vals xs us→Vals (xs.take n) (us.take n)
 | _,_,0,_=>.nil
 | _,_,_+1,.nil=>.nil
 | _,_,n+1,.cons r t=>.cons r (Vals.take n t)
theorem Vals.drop:∀ {xs:List V} {us:List Value} (n:Nat),Vals xs us→Vals (xs.drop n) (us.drop n)
 | _,_,0,r=>r
 | _,_,_+1,.nil=>.nil
 | _,_,n+1,.cons _ t=>Vals.drop n t
def RelO:Option V→Option Value→Prop
 | some v,some u=>RelV v u
 | none,none=>True
 | _,_=>False
def KV {κ:Type}:List (κ×V)→List (κ×Value)→Prop:=Paired fun (p:κ×V) (q:κ×Value)=>p.1=q.1∧RelV p.2 q.2
def kV:Key→V
 | .inl i=>.int i
 | .inr x=>.str x
inductive HO where
 
 | lst (xs:List V)
 
 | tup (xs:List V)
 
 | dK (kvs:List (Key×V)) | dT (kvs:List (List Key×V))
 
 | set (S:Int→Bool) (n:Nat)
 
 | ins (C dx:Addr) (fs:List (Str×V))
 
 | own (x:Addr)
 
 | xd (fs:List (Str×V))
 
 | met (f x:Addr)
 
 | rng (lo hi:Int)
 
 | frz (o:Obj) (u:HO)
 
 | tbl (ps:Array Value)
 
 | ext (φ:Heap→Prop)
abbrev Hp:=Addr→Option HO
def upd (H:Hp) (a:Addr) (o:HO):Hp:=fun b=>if b=a then some o else H b
theorem zab {H:Hp} {a:Addr} {o:HO}:upd H a o a=some o:=by unfold upd;rw [if_pos rfl]
theorem zah {H:Hp} {a b:Addr} {o:HO} (h:b≠a):upd H a o b=H b:=by unfold upd;rw [if_neg h]
theorem zfj {H:Hp} {a:Addr} {o u:HO}:upd (upd H a o) a u=upd H a u:=by
 funext b;unfold upd;split <;> rfl
theorem ne_of {H:Hp} {a b:Addr} {o u:HO} (h:H a=some o) (h':H b=some u) (d:o≠u):a≠b:=by
 intro e;subst e;rw [h] at h';exact d (Option.some.inj h')
theorem zaj {H:Hp} {a b:Addr} {o:HO} (h:H a=some o) (h':H b=none):a≠b:=by
 intro e;subst e;rw [h] at h';cases h'
section
variable (P:Program) (w:World)
def ObjOk (H:Hp) (h:Heap) (a:Addr):HO→Prop
 | .lst xs=>xs.length≤sizeLine∧∃ (its:List Value) (n:Nat),Vals xs its∧h.get? a=some { cls:=.type "list",data:=.seq its.toArray n }
 | .tup xs=>(xs.length≤sizeLine∧∃ o,h.get? a=some o∧o.dict=none)∧∃ its:List Value,Vals xs its∧IsTup h a its.toArray
 | .dK kvs=>kvs.length≤sizeLine∧(a == sysModules)=false∧∃ vs,KV kvs vs∧h.DictOf (zaz P w) a vs
 | .dT kvs=>kvs.length≤sizeLine∧(a == sysModules)=false∧∃ xs:List (List Key×Addr×Value),
   Paired (fun (p:List Key×V) (q:List Key×Addr×Value)=>p.1=q.1∧H q.2.1=some (.tup (p.1.map kV))∧RelV p.2 q.2.2) kvs xs ∧
   ∃ o es ep,h.get? a=some o∧o.ExactDict∧o.data = .dict es ep∧es.toList=xs.map (entryOfKey (tupleKind (zaz P w)))∧(xs.map (·.1)).Nodup
 | .set S n=>h.SetOf (intKind P w) a S n
 | .ins C dx fs=>H dx=some (.own a)∧fs.length≤1000∧dx≠a∧h.get? a=some (PySem.W.instObj C dx) ∧
   ∃ mA,h.Ns1 dx mA∧(∀ f,RelO (fs.lookup f) (mA f))∧PySem.Within mA (fs.map (·.1))
 | .own _=>∃ o,h.get? a=some o
 | .xd fs=>∃ mA,h.Ns1 a mA∧∀ f,RelO (fs.lookup f) (mA f)
 | .rng lo hi=>∃ t u v,h.get? a=some { cls:=.type "range",data:=.fields #[.int lo t,.int hi u,.int 1 v] }
 | .frz o u=>h.get? a=some o∧ObjOk H h a u
 | .tbl ps=>h.get? a=some { cls:=.none,data:=.fields ps }
 | .met f x=>h.get? a=some (PySem.W.methodObj (.ref f) (.ref x))
 | .ext φ=>φ h∧(∃ o,h.get? a=some o)∧∀ h1 h2:Heap,φ h1→(∀ o,h1.get? a=some o→h2.get? a=some o)→φ h2
def HOk (H:Hp) (h:Heap):Prop:=∀ a o,H a=some o→ObjOk P w H h a o
end
section
variable {P:Program} {w:World} {H H':Hp} {h h':Heap} {a:Addr} {o:HO}
theorem ObjOk.lt (x:ObjOk P w H h a o):a<h.objs.size:=by
 cases o with
 | lst xs=>obtain ⟨_,_,_,_,e⟩:=x;exact Heap.lt_size e
 | tup xs=>obtain ⟨_,_,_,p⟩:=x;exact p.lt
 | dK kvs=>obtain ⟨_,_,_,_,o,_,_,e,_⟩:=x;exact Heap.lt_size e
 | dT kvs=>obtain ⟨_,_,_,_,o,_,_,e,_⟩:=x;exact Heap.lt_size e
 | set S n=>obtain ⟨o,_,_,_,e,_⟩:=x;exact Heap.lt_size e
 | ins C dx fs=>obtain ⟨_,_,_,e,_⟩:=x;exact Heap.lt_size e
 | own y=>obtain ⟨_,e⟩:=x;exact Heap.lt_size e
 | xd fs=>obtain ⟨_,⟨_,_,_,e,_⟩,_⟩:=x;exact Heap.lt_size e
 | rng lo hi=>obtain ⟨_,_,_,e⟩:=x;exact Heap.lt_size e
 | frz ob u=>obtain ⟨e,_⟩:=x;exact Heap.lt_size e
 | tbl ps=>exact Heap.lt_size (show h.get? a=some _ from x)
 | met f y=>exact Heap.lt_size (show h.get? a=some _ from x)
 | ext φ=>obtain ⟨_,⟨_,e⟩,_⟩:=x;exact Heap.lt_size e
theorem Paired.mapP {α β:Type} {F G:α→β→Prop}:∀ {l₁:List α} {l₂:List β},Paired F l₁ l₂→(∀ a b,F a b→G a b)→Paired G l₁ l₂
 | _,_,.nil,_=>.nil
 | _,_,.cons r t,f=>.cons (f _ _ r) (Paired.mapP t f)
theorem ObjOk.stay (x:ObjOk P w H h a o) (k:∀ b u,(b=a∨H b=some (.own a))→h.get? b=some u→h'.get? b=some u)
  (ho:∀ b,H b=some (.own a)→H' b=some (.own a)) (ht:∀ b xs,H b=some (.tup xs)→H' b=some (.tup xs)):ObjOk P w H' h' a o:=by
 induction o with
 | lst xs=>obtain ⟨z,its,n,r,e⟩:=x;exact ⟨z,its,n,r,k _ _ (.inl rfl) e⟩
 | tup xs=>obtain ⟨⟨z,o,eo,dn⟩,its,r,ob,e,c⟩:=x;exact ⟨⟨z,o,k _ _ (.inl rfl) eo,dn⟩,its,r,ob,k _ _ (.inl rfl) e,c⟩
 | dK kvs=>obtain ⟨z,y,vs,r,ob,es,ep,e,c⟩:=x;exact ⟨z,y,vs,r,ob,es,ep,k _ _ (.inl rfl) e,c⟩
 | dT kvs =>
  obtain ⟨z,y,xs,r,ob,es,ep,e,c⟩:=x
  exact ⟨z,y,xs,Paired.mapP r fun p q z=>⟨z.1,ht _ _ z.2.1,z.2.2⟩,ob,es,ep,k _ _ (.inl rfl) e,c⟩
 | set S n=>obtain ⟨ob,es,ep,t,e,c⟩:=x;exact ⟨ob,es,ep,t,k _ _ (.inl rfl) e,c⟩
 | ins C dx fs =>
  obtain ⟨d,z,ne,e,mA,⟨od,es,ep,e2,c⟩,r⟩:=x
  exact ⟨ho _ d,z,ne,k _ _ (.inl rfl) e,mA,⟨od,es,ep,k _ _ (.inr d) e2,c⟩,r⟩
 | own y=>obtain ⟨ob,e⟩:=x;exact ⟨ob,k _ _ (.inl rfl) e⟩
 | xd fs=>obtain ⟨mA,⟨od,es,ep,e,c⟩,r⟩:=x;exact ⟨mA,⟨od,es,ep,k _ _ (.inl rfl) e,c⟩,r⟩
 | rng lo hi=>obtain ⟨t,u,v,e⟩:=x;exact ⟨t,u,v,k _ _ (.inl rfl) e⟩
 | frz ob u ih=>obtain ⟨e,q⟩:=x;exact ⟨k _ _ (.inl rfl) e,ih q⟩
 | tbl ps =>
  have e:h.get? a=some { cls:=.none,data:=.fields ps }:=x
  show h'.get? a=some { cls:=.none,data:=.fields ps }
  exact k a _ (.inl rfl) e
 | met f y =>
  have e:h.get? a=some (PySem.W.methodObj (.ref f) (.ref y)):=x
  show h'.get? a=some (PySem.W.methodObj (.ref f) (.ref y))
  exact k a _ (.inl rfl) e
 | ext φ=>obtain ⟨p,⟨o,e⟩,st⟩:=x;exact ⟨st _ _ p fun o q=>k _ _ (.inl rfl) q,⟨o,k _ _ (.inl rfl) e⟩,st⟩
theorem HOk.lt (x:HOk P w H h) (e:H a=some o):a<h.objs.size:=(x a o e).lt
theorem HOk.fresh (x:HOk P w H h) (e:h.objs.size≤a):H a=none:=by
 cases q:H a with
 | none=>rfl
 | some u=>exact absurd (Nat.lt_of_lt_of_le (x.lt q) e) (Nat.lt_irrefl _)
theorem HOk.kept (x:HOk P w H h) (k:∀ b u,h.get? b=some u→h'.get? b=some u):HOk P w H h':=fun a o e =>
 (x a o e).stay (fun b u _ q=>k b u q) (fun _ q=>q) fun _ _ q=>q
theorem HOk.laid (x:HOk P w H h) (k:∀ b u,h.get? b=some u→h'.get? b=some u) (hp:h.objs.size≤a) (new:ObjOk P w (upd H a o) h' a o):HOk P w (upd H a o) h':=fun b u e=>by
 have hn:=x.fresh hp
 by_cases hb:b=a
 ·subst hb;rw [zab] at e;cases e;exact new
 ·rw [zah hb] at e
  exact (x b u e).stay (fun c v _ q=>k c v q) (fun c q=>by rw [zah (zaj q hn)];exact q) fun c xs q=>by rw [zah (zaj q hn)];exact q
end
def Rd (H:Hp) (a:Addr) (u:HO):Prop:=H a=some u∨∃ o,H a=some (.frz o u)
theorem Rd.ok {P:Program} {w:World} {H:Hp} {h:Heap} {a:Addr} {u:HO} (r:Rd H a u) (x:HOk P w H h):ObjOk P w H h a u:=by
 rcases r with r | ⟨o,r⟩
 ·exact x a u r
 ·obtain ⟨_,q⟩:=x a _ r
  exact q
def Mut:Option HO→Prop
 | some (.lst _)=>True
 | some (.dK _)=>True
 | some (.dT _)=>True
 | some (.set _ _)=>True
 | some (.ins _ _ _)=>True
 | some (.ext _)=>True
 | _=>False
section
variable {P:Program} {w:World} {H:Hp} {h h':Heap} {x e:Addr} {o':HO}
theorem HOk.write (ok:HOk P w H h) (mu:Mut (H x)) (he:e=x∨H e=some (.own x)) (k:∀ b u,b≠e→h.get? b=some u→h'.get? b=some u) (heo:∃ u,h'.get? e=some u)
  (new:ObjOk P w (upd H x o') h' x o'):HOk P w (upd H x o') h':=fun b u q=>by
 have nown:∀ c y,H c=some (.own y)→c≠x:=fun c y r z=>by subst z;rw [r] at mu;exact mu
 have ntup:∀ c xs,H c=some (.tup xs)→c≠x:=fun c xs r z=>by subst z;rw [r] at mu;exact mu
 by_cases hb:b=x
 ·subst hb;rw [zab] at q;cases q;exact new
 ·rw [zah hb] at q
  by_cases hbe:b=e
  ·have q':H b=some (.own x):=by
    rcases he with z | z
    ·exact absurd (hbe.trans z) hb
    ·rw [hbe];exact z
   rw [q] at q';cases q'
   obtain ⟨v,hv⟩:=heo
   exact ⟨v,by rw [hbe];exact hv⟩
  ·refine (ok b u q).stay (fun c v hc r=>k c v ?_ r) (fun c r=>by rw [zah (nown c b r)];exact r) fun c xs r=>by rw [zah (ntup c xs r)];exact r
   rcases hc with rfl | hc
   ·exact hbe
   ·rintro rfl
    rcases he with z | z
    ·exact nown c b hc z
    ·rw [hc] at z;cases z;exact hb rfl
end
structure Un (fs ex:List Addr) (H H':Hp) (h h':Heap):Prop where
 keep:∀ b o,h.get? b=some o→H b=none→b ∉ fs→b ∉ ex→h'.get? b=some o
 slot:∀ b o,h.get? b=some o→H b=none→b∈fs→b ∉ ex→∃ sl,h'.get? b=some { o with slots:=sl }
 free:∀ b o,h.get? b=some o→H b=none→b ∉ ex→H' b=none
 there:∀ b o,h.get? b=some o→b ∉ ex→∃ o',h'.get? b=some o'
 tups:∀ b xs,H b=some (.tup xs)→H' b=some (.tup xs)
 frzs:∀ b o u,H b=some (.frz o u)→H' b=some (.frz o u)
 tbls:∀ b ps,H b=some (.tbl ps)→∃ more,H' b=some (.tbl (ps ++ more))
section
variable {fs fs' ex ex':List Addr} {H H1 H2:Hp} {h h1 h2 h':Heap} {a x e:Addr} {o:HO}
theorem Un.any (u:Un fs ex H H1 h h1) {b:Addr} {ob:Obj} (q:h.get? b=some ob) (n:H b=none) (hx:b ∉ ex):∃ sl,h1.get? b=some { ob with slots:=sl }:=by
 by_cases hb:b∈fs
 ·exact u.slot b ob q n hb hx
 ·exact ⟨ob.slots,u.keep b ob q n hb hx⟩
theorem Un.kept (k:∀ b u,h.get? b=some u→h'.get? b=some u):Un fs ex H H h h':=
 ⟨fun b ob q _ _ _=>k b ob q,fun b ob q _ _ _=>⟨ob.slots,k b ob q⟩,fun _ _ _ n _=>n,fun b ob q _=>⟨ob,k b ob q⟩,fun _ _ q=>q,fun _ _ _ q=>q,fun _ ps q=>⟨#[],by rw [q];simp⟩⟩
theorem Un.refl:Un fs ex H H h h:=Un.kept fun _ _ q=>q
theorem Un.laid (k:∀ b u,h.get? b=some u→h'.get? b=some u) (hp:h.objs.size≤a) (hn:H a=none):Un fs ex H (upd H a o) h h' where
 keep:=fun b u q _ _ _=>k b u q
 slot:=fun b u q _ _ _=>⟨u.slots,k b u q⟩
 free:=fun b u q n _=>by rw [zah (Nat.ne_of_lt (Nat.lt_of_lt_of_le (Heap.lt_size q) hp))];exact n
 there:=fun b u q _=>⟨u,k b u q⟩
 tups:=fun b xs q=>by rw [zah (zaj q hn)];exact q
 frzs:=fun b u xs q=>by rw [zah (zaj q hn)];exact q
 tbls:=fun b ps q=>⟨#[],by rw [zah (zaj q hn),q];simp⟩
theorem Un.write (mu:Mut (H x)) (he:e=x∨H e=some (.own x)) (k:∀ b u,b≠e→h.get? b=some u→h'.get? b=some u) (heo:∃ u,h'.get? e=some u):Un fs ex H (upd H x o) h h':=by
 have hx:∀ b,H b=none→b≠x:=fun b n z=>by subst z;rw [n] at mu;exact mu
 have hb:∀ b,H b=none→b≠e:=fun b n z=>by
  subst z
  rcases he with r | r
  ·exact hx b n r
  ·rw [n] at r;cases r
 have hm:∀ b u,H b=some u→¬ Mut (some u)→b≠x:=fun b u q nm z=>by subst z;rw [q] at mu;exact nm mu
 refine ⟨fun b u q n _ _=>k b u (hb b n) q,fun b u q n _ _=>⟨u.slots,k b u (hb b n) q⟩,fun b u q n _=>by rw [zah (hx b n)];exact n,fun b u q _=>?_,
  fun b xs q=>by rw [zah (hm b _ q fun z=>z)];exact q,fun b u xs q=>by rw [zah (hm b _ q fun z=>z)];exact q,fun b ps q=>⟨#[],by rw [zah (hm b _ q fun z=>z),q];simp⟩⟩
 by_cases hbe:b=e
 ·subst hbe;exact heo
 ·exact ⟨u,k b u hbe q⟩
end
def trk (h:Heap) (H:Hp):List Addr:=(List.range h.objs.size).filter fun a=>(H a).isSome
def hidT (h:Heap) (H:Hp):Heap:=PySem.W.hideAll h (trk h H)
theorem zig (h:Heap) (H:Hp):(hidT h H).objs.size=h.objs.size:=PySem.W.hideAll_size _ _
theorem zjD {h:Heap} {H:Hp} {b:Addr} {o:Obj} (e:h.get? b=some o) (n:H b=none):(hidT h H).get? b=some o:=
 PySem.W.hideAll_get _ e fun hm=>by
  have q:(H b).isSome=true:=(List.mem_filter.mp hm).2
  rw [n] at q;simp at q
theorem zk5 {h:Heap} {H:Hp} {b:Addr} {o:Obj} (e:(hidT h H).get? b=some o):h.get? b=some o∧H b=none:=by
 have e':h.get? b=some o:=PySem.W.of_hideAll (trk h H) e
 refine ⟨e',?_⟩
 cases q:H b with
 | none=>rfl
 | some x =>
  have hm:b∈trk h H:=List.mem_filter.mpr ⟨List.mem_range.mpr (Heap.lt_size e'),by simp [q]⟩
  have z:(hidT h H).get? b=none:=PySem.W.hideAll_none (trk h H) hm
  rw [z] at e;cases e
end L2
namespace L2
open PySem PySem.Spec PyProof.Rows
structure Mod (K:PySem.W.Frag) (mg:Str→Option Value) (base:Heap):Prop where
 kin:K.In base
 glob:base.Ns mainGlobals mg
 blt:∃ mb,base.Ns builtinsNs mb∧∀ x:Str,x ≠ "__name__" → mb x=bootBuiltins x
 nolimit:base.NoLimit
structure Cx where
 prog:Program
 w:World
 K:PySem.W.Frag
 mg:Str→Option Value
 base:Heap
 A:Around
 N:List Str
 s₀:Shared
 H₀:Hp
 env:Env
 outer:List Env
 stack:List Env
 ex:List Addr
 fn:Str→Bool
 calm:Bool
 pn:List (Addr×Obj)
 xe:Value→Shared→Prop
def frs (l:List Env):List Addr:=l.filterMap (·.frame)
abbrev Cx.fs (X:Cx):List Addr:=frs X.outer
def Vis (sc:Scope) (x:Str):Prop:=sc.names.lookup x=some .local∨sc.names.lookup x=some .cell∨sc.names.lookup x=some .free
def Loc (sc:Scope) (x:Str):Prop:=sc.names.lookup x=some .local∨sc.names.lookup x=some .cell
def Look (env:Env) (h:Heap) (m:Str→Option Value) (x:Str) (u:Value):Prop:=
 (env.kindOf x=some .local∧m x=some u)∨((env.kindOf x=some .cell∨env.kindOf x=some .free)∧∃ c,env.cells.lookup x=some c∧h.IsCell c (some u))
structure Cx.Ok (X:Cx):Prop where
 mod:Mod X.K X.mg X.base
 kind:X.env.scope.kind = .function
 glob:X.env.globals=mainGlobals
 blt:X.env.builtins=builtinsNs
 above:X.s₀.heap.objs.size≤X.env.locals
 inj:∀ x y c,X.env.cells.lookup x=some c→X.env.cells.lookup y=some c→x=y
 has:∀ x,(X.env.kindOf x=some .cell∨X.env.kindOf x=some .free)→∃ c,X.env.cells.lookup x=some c
 cab:∀ x c,X.fn x=true→X.env.cells.lookup x=some c→X.s₀.heap.objs.size≤c
 hd:X.calm=true→X.A.handled=none
 frames:X.A.frames=some X.stack
 stk:X.stack=X.outer∨(X.stack=X.env :: X.outer∧X.env.frame=some X.env.locals)
 exf:∀ b∈X.ex,b≠X.env.locals∧∀ x c,X.env.cells.lookup x=some c→c≠b
 bs:∀ b o,X.base.get? b=some o→X.s₀.heap.get? b=some o∧X.H₀ b=none
 bsz:X.base.objs.size≤X.s₀.heap.objs.size
 noex:∀ b o,X.base.get? b=some o→b ∉ X.ex
 exfs:∀ b∈X.ex,b ∉ X.fs
 funs:X.s₀.heap.FunFrames X.base X.outer
 frf:∀ b∈X.fs,X.H₀ b=none
structure Inv (X:Cx) (pins:List (Addr×Obj)) (σ:List (Option V)) (H:Hp) (s:Shared):Prop where
 ok:X.Ok
 os:s.os=X.s₀.os
 bare:AllBare s.gens
 base:Un X.fs X.ex X.H₀ H X.s₀.heap s.heap
 loc:∃ m,s.heap.Ns X.env.locals m∧∀ (i:Nat) (x:Str) (v:V),X.N[i]? = some x→σ[i]? = some (some v)→Vis X.env.scope x→∃ u,RelV v u∧Look X.env s.heap m x u
 cell:∀ x c,X.env.cells.lookup x=some c→∃ v,s.heap.IsCell c v
 free:H X.env.locals=none
 freeC:∀ x c,X.env.cells.lookup x=some c→H c=none
 pin:∀ p∈X.pn ++ pins,s.heap.get? p.1=some p.2∧H p.1=none∧p.1≠X.env.locals∧p.1 ∉ X.fs∧∀ v,p.2.data≠.cell v
 hok:HOk X.prog X.w H s.heap
 len:σ.length=X.N.length
section
variable {X:Cx} {pins:List (Addr×Obj)} {σ:List (Option V)} {H H':Hp} {s:Shared} {h':Heap}
theorem Cx.Ok.nofr (ok:X.Ok) {b:Addr} {o:Obj} (e:X.base.get? b=some o):b ∉ X.fs:=fun hb=>by
 have:=(ok.funs.mem hb).1
 rw [e] at this;cases this
theorem Inv.bs (I:Inv X pins σ H s):∀ b o,X.base.get? b=some o→s.heap.get? b=some o∧H b=none:=fun b o e =>
 ⟨I.base.keep b o (I.ok.bs b o e).1 (I.ok.bs b o e).2 (I.ok.nofr e) (I.ok.noex b o e),I.base.free b o (I.ok.bs b o e).1 (I.ok.bs b o e).2 (I.ok.noex b o e)⟩
theorem Inv.bk (I:Inv X pins σ H s):∀ b o,X.base.get? b=some o→s.heap.get? b=some o:=fun b o e=>(I.bs b o e).1
theorem Inv.mod (I:Inv X pins σ H s):Mod X.K X.mg X.base:=I.ok.mod
theorem Inv.kIn (I:Inv X pins σ H s):X.K.In s.heap:=I.ok.mod.kin.keeps I.bk
theorem Inv.lt (I:Inv X pins σ H s):X.env.locals<s.heap.objs.size:=let ⟨_,hn,_⟩:=I.loc;hn.lt
theorem Inv.sz (I:Inv X pins σ H s):X.s₀.heap.objs.size≤s.heap.objs.size:=Nat.le_trans I.ok.above (Nat.le_of_lt I.lt)
theorem Inv.nofs (I:Inv X pins σ H s) {a:Addr} (h:s.heap.objs.size≤a):a ∉ X.fs:=fun hb=>by
 obtain ⟨_,o,ho,_⟩:=I.ok.funs.mem hb
 exact absurd (Nat.lt_of_lt_of_le (Heap.lt_size ho) (Nat.le_trans I.sz h)) (Nat.lt_irrefl _)
theorem Inv.cne (I:Inv X pins σ H s):∀ x c,X.env.cells.lookup x=some c→c≠X.env.locals:=fun x c e z=>by
 obtain ⟨v,o,ho,hd⟩:=I.cell x c e
 obtain ⟨m,⟨o',es,ep,ho',hd',_⟩,_⟩:=I.loc
 rw [z,ho'] at ho;cases ho;rw [hd'] at hd;cases hd
theorem Inv.funs (I:Inv X pins σ H s):s.heap.FunFrames X.base X.outer:=by
 have all:∀ (l:List Env),(∀ b∈frs l,b∈X.fs)→X.s₀.heap.FunFrames X.base l→s.heap.FunFrames X.base l:=by
  intro l
  induction l with
  | nil=>intro _ _;trivial
  | cons env r ih =>
   intro hs hl
   obtain ⟨hk,⟨L,o,hf,hn,ho,hd⟩,hr⟩:=hl
   have hL:L∈X.fs:=hs L (by unfold frs;rw [List.filterMap_cons,hf];exact List.mem_cons_self)
   obtain ⟨sl,e⟩:=I.base.slot L o ho (I.ok.frf L hL) hL fun z=>I.ok.exfs L z hL
   exact ⟨hk,⟨L,_,hf,hn,e,hd⟩,ih (fun b hb=>hs b (by unfold frs;rw [List.filterMap_cons,hf];exact List.mem_cons_of_mem _ hb)) hr⟩
 exact all X.outer (fun _ hb=>hb) I.ok.funs
theorem Inv.stack (I:Inv X pins σ H s):s.heap.FunFrames X.base X.stack:=by
 rcases I.ok.stk with e | ⟨e,hf⟩
 ·rw [e];exact I.funs
 ·rw [e]
  obtain ⟨m,hn,_⟩:=I.loc
  refine .cons (by rw [I.ok.kind];decide) hf hn ?_ I.funs
  exact Heap.get?_none_of_le (Nat.le_trans I.ok.bsz I.ok.above)
theorem Inv.stkSub (I:Inv X pins σ H s):∀ b∈frs X.stack,b∈X.env.locals :: X.fs:=fun b hb=>by
 rcases I.ok.stk with e | ⟨e,hf⟩
 ·rw [e] at hb;exact List.mem_cons_of_mem _ hb
 ·rw [e] at hb
  unfold frs at hb
  rw [List.filterMap_cons,hf] at hb
  exact hb
theorem Inv.stkFree (I:Inv X pins σ H s):∀ b∈frs X.stack,H b=none:=fun b hb=>by
 rcases List.mem_cons.mp (I.stkSub b hb) with e | hb
 ·rw [e];exact I.free
 ·obtain ⟨_,o,ho,_⟩:=I.ok.funs.mem hb
  exact I.base.free b o ho (I.ok.frf b hb) fun z=>I.ok.exfs b z hb
theorem Inv.step {g':Array GenState} {t':Nat} {d':Drawn} {ch:List Addr} (I:Inv X pins σ H s)
  (hch:∀ b∈ch,(b∈X.ex∨X.s₀.heap.objs.size≤b)∧b≠X.env.locals∧(∀ x c,X.env.cells.lookup x=some c→c≠b)∧∀ p∈X.pn ++ pins,p.1≠b)
  (keep:∀ b o,b≠X.env.locals→b ∉ X.fs→b ∉ ch→s.heap.get? b=some o→H b=none→h'.get? b=some o)
  (slot:∀ b o,b≠X.env.locals→b∈X.fs→b ∉ ch→s.heap.get? b=some o→H b=none→∃ sl,h'.get? b=some { o with slots:=sl }) (free:∀ b o,b ∉ ch→s.heap.get? b=some o→H b=none→H' b=none)
  (there:∀ b o,b ∉ ch→s.heap.get? b=some o→∃ o',h'.get? b=some o')
  (tups:∀ b xs,H b=some (.tup xs)→H' b=some (.tup xs)) (frzs:∀ b o u,H b=some (.frz o u)→H' b=some (.frz o u)) (tbls:∀ b ps,H b=some (.tbl ps)→∃ more,H' b=some (.tbl (ps ++ more)))
  (ns:∀ m,s.heap.Ns X.env.locals m→h'.Ns X.env.locals m) (hok:HOk X.prog X.w H' h') (hg:AllBare g') :
  Inv X pins σ H' { s with heap:=h',gens:=g',drawn:=d',toks:=t' }:=by
 have neL:∀ b o,X.s₀.heap.get? b=some o→b≠X.env.locals:=fun b o e=>Nat.ne_of_lt (Nat.lt_of_lt_of_le (Heap.lt_size e) I.ok.above)
 have neC:∀ b o,X.s₀.heap.get? b=some o→b ∉ X.ex→b ∉ ch:=fun b o e hx hb=>by
  rcases (hch b hb).1 with z | z
  ·exact hx z
  ·exact absurd (Nat.lt_of_lt_of_le (Heap.lt_size e) z) (Nat.lt_irrefl _)
 have cellK:∀ x c,X.env.cells.lookup x=some c→∀ v,s.heap.IsCell c v→h'.IsCell c v:=fun x c e v ⟨o,ho,hd⟩=>by
  have nch:c ∉ ch:=fun z=>(hch c z).2.2.1 x c e rfl
  by_cases hc:c∈X.fs
  ·obtain ⟨sl,q⟩:=slot c o (I.cne x c e) hc nch ho (I.freeC x c e)
   exact ⟨_,q,hd⟩
  ·exact ⟨o,keep c o (I.cne x c e) hc nch ho (I.freeC x c e),hd⟩
 refine ⟨I.ok,I.os,hg,⟨fun b o e n hb hx=>?_,fun b o e n hb hx=>?_,fun b o e n hx=>?_,fun b o e hx=>?_,fun b xs e=>tups b xs (I.base.tups b xs e),fun b o xs e=>frzs b o xs (I.base.frzs b o xs e),fun b ps e=>?_⟩,?_,fun x c e=>?_,?_,fun x c e=>?_,fun p hp=>?_,hok,I.len⟩
 ·exact keep b o (neL b o e) hb (neC b o e hx) (I.base.keep b o e n hb hx) (I.base.free b o e n hx)
 ·obtain ⟨sl,e1⟩:=I.base.slot b o e n hb hx
  obtain ⟨sl',e2⟩:=slot b _ (neL b o e) hb (neC b o e hx) e1 (I.base.free b o e n hx)
  exact ⟨sl',e2⟩
 ·obtain ⟨o',e1⟩:=I.base.there b o e hx
  exact free b o' (neC b o e hx) e1 (I.base.free b o e n hx)
 ·obtain ⟨o',e1⟩:=I.base.there b o e hx
  exact there b o' (neC b o e hx) e1
 ·obtain ⟨m1,e1⟩:=I.base.tbls b ps e
  obtain ⟨m2,e2⟩:=tbls b _ e1
  exact ⟨m1 ++ m2,by rw [e2,Array.append_assoc]⟩
 ·obtain ⟨m,hn,hl⟩:=I.loc
  refine ⟨m,ns m hn,fun i x v e1 e2 e3=>?_⟩
  obtain ⟨u,r,l⟩:=hl i x v e1 e2 e3
  refine ⟨u,r,?_⟩
  rcases l with l | ⟨k,c,e,z⟩
  ·exact .inl l
  ·exact .inr ⟨k,c,e,cellK x c e _ z⟩
 ·obtain ⟨v,z⟩:=I.cell x c e
  exact ⟨v,cellK x c e v z⟩
 ·obtain ⟨m,⟨o,_,_,ho,_⟩,_⟩:=I.loc
  exact free _ o (fun z=>(hch _ z).2.1 rfl) ho I.free
 ·obtain ⟨v,o,ho,hd⟩:=I.cell x c e
  exact free c o (fun z=>(hch c z).2.2.1 x c e rfl) ho (I.freeC x c e)
 ·obtain ⟨e,n,ne,nf,d⟩:=I.pin p hp
  have nch:p.1 ∉ ch:=fun z=>(hch p.1 z).2.2.2 p hp rfl
  exact ⟨keep p.1 p.2 ne nf nch e n,free p.1 p.2 nch e n,ne,nf,d⟩
theorem Inv.un {t':Nat} (I:Inv X pins σ H s) (u:Un X.fs [] H H' s.heap h') (hok:HOk X.prog X.w H' h'):Inv X pins σ H' { s with heap:=h',toks:=t' }:=by
 obtain ⟨m,⟨o,es,ep,ho,r⟩,_⟩:=id I.loc
 obtain ⟨sl,hL⟩:=u.any ho I.free (by simp)
 exact I.step (g':=s.gens) (d':=s.drawn) (ch:=[]) (fun _ z=>nomatch z) (fun b o _ hb _ e n=>u.keep b o e n hb (by simp)) (fun b o _ hb _ e n=>u.slot b o e n hb (by simp)) (fun b o _ e n=>u.free b o e n (by simp)) (fun b o _ e=>u.there b o e (by simp)) u.tups u.frzs u.tbls (fun m' hm=>by
  obtain ⟨o',es',ep',ho',r'⟩:=hm
  rw [ho] at ho';cases ho'
  exact ⟨_,es',ep',hL,r'⟩) hok I.bare
theorem Inv.call {g':Array GenState} {t':Nat} {d':Drawn} {ch:List Addr} (I:Inv X pins σ H s) (u:Un (frs X.stack) ch H H' s.heap h') (hok:HOk X.prog X.w H' h') (hg:AllBare g')
  (hch:∀ b∈ch,(b∈X.ex∨X.s₀.heap.objs.size≤b)∧b≠X.env.locals∧(∀ x c,X.env.cells.lookup x=some c→c≠b)∧∀ p∈X.pn ++ pins,p.1≠b) :
  Inv X pins σ H' { s with heap:=h',gens:=g',drawn:=d',toks:=t' }:=by
 obtain ⟨m,⟨o,es,ep,ho,r⟩,_⟩:=id I.loc
 obtain ⟨sl,hL⟩:=u.any ho I.free fun z=>(hch _ z).2.1 rfl
 exact I.step (ch:=ch) hch (fun b o hL hb hc e n=>u.keep b o e n (fun z=>(List.mem_cons.mp (I.stkSub b z)).elim hL hb) hc) (fun b o _ _ hc e n=>u.any e n hc) (fun b o hc e n=>u.free b o e n hc) (fun b o hc e=>u.there b o e hc) u.tups u.frzs u.tbls (fun m' hm=>by
  obtain ⟨o',es',ep',ho',r'⟩:=hm
  rw [ho] at ho';cases ho'
  exact ⟨_,es',ep',hL,r'⟩) hok hg
theorem Inv.turned {t':Nat} {it:Addr} (I:Inv X pins σ H s) (k:∀ b o,b≠it→s.heap.get? b=some o→h'.get? b=some o) (hn:H it=none) (hL:it≠X.env.locals)
  (h1:it∈X.ex∨X.s₀.heap.objs.size≤it) (h2:∀ x c,X.env.cells.lookup x=some c→c≠it) (h3:∀ p∈X.pn ++ pins,p.1≠it):Inv X pins σ H { s with heap:=h',toks:=t' }:=by
 have nit:∀ b u,H b=some u→b≠it:=fun b u e z=>by rw [z,hn] at e;cases e
 refine I.step (g':=s.gens) (d':=s.drawn) (ch:=[it]) (fun b hb=>?_) (fun b o _ _ hc e _=>k b o (fun z=>hc (by simp [z])) e) (fun b o _ _ hc e _=>⟨o.slots,k b o (fun z=>hc (by simp [z])) e⟩) (fun _ _ _ _ n=>n)
  (fun b o hc e=>⟨o,k b o (fun z=>hc (by simp [z])) e⟩) (fun _ _ e=>e) (fun _ _ _ e=>e) (fun b ps e=>⟨#[],by rw [e];simp⟩) (fun m hm=>?_) (fun b u e=>?_) I.bare
 ·have e:b=it:=by simpa using hb
  subst e
  exact ⟨h1,hL,h2,h3⟩
 ·obtain ⟨o,es,ep,ho,r⟩:=hm
  exact ⟨o,es,ep,k _ o (Ne.symm hL) ho,r⟩
 ·refine (I.hok b u e).stay (fun c v hc q=>k c v ?_ q) (fun _ q=>q) fun _ _ q=>q
  rcases hc with z | z
  ·rw [z];exact nit b u e
  ·exact nit c _ z
theorem Inv.tok (I:Inv X pins σ H s) (t:Nat):Inv X pins σ H { s with toks:=t }:=I.un (h':=s.heap) (t':=t) Un.refl I.hok
theorem Inv.kept {t':Nat} (I:Inv X pins σ H s) (k:∀ b u,s.heap.get? b=some u→h'.get? b=some u):Inv X pins σ H { s with heap:=h',toks:=t' }:=I.un (Un.kept k) (I.hok.kept k)
theorem Inv.laid {a:Addr} {o:HO} {t':Nat} (I:Inv X pins σ H s) (k:∀ b u,s.heap.get? b=some u→h'.get? b=some u) (hp:s.heap.objs.size≤a) (new:ObjOk X.prog X.w (upd H a o) h' a o) :
  Inv X pins σ (upd H a o) { s with heap:=h',toks:=t' }:=I.un (Un.laid k hp (I.hok.fresh hp)) (I.hok.laid k hp new)
theorem Inv.write {x e:Addr} {o:HO} {t':Nat} (I:Inv X pins σ H s) (mu:Mut (H x)) (he:e=x∨H e=some (.own x)) (k:∀ b u,b≠e→s.heap.get? b=some u→h'.get? b=some u) (heo:∃ u,h'.get? e=some u)
  (new:ObjOk X.prog X.w (upd H x o) h' x o):Inv X pins σ (upd H x o) { s with heap:=h',toks:=t' }:=I.un (Un.write mu he k heo) (I.hok.write mu he k heo new)
theorem Inv.pins_of {pins':List (Addr×Obj)} (I:Inv X pins σ H s) (h:∀ p∈pins',s.heap.get? p.1=some p.2∧H p.1=none∧p.1≠X.env.locals∧p.1 ∉ X.fs∧∀ v,p.2.data≠.cell v):Inv X pins' σ H s:=
 ⟨I.ok,I.os,I.bare,I.base,I.loc,I.cell,I.free,I.freeC,fun p hp=>(List.mem_append.mp hp).elim (fun z=>I.pin p (List.mem_append_left _ z)) (h p),I.hok,I.len⟩
theorem zeh {N:List Str} (hN:N.Nodup) {i j:Nat} {x:Str} (a:N[i]? = some x) (b:N[j]? = some x):i=j:=by
 obtain ⟨h1,e1⟩:=List.getElem?_eq_some_iff.mp a
 obtain ⟨h2,e2⟩:=List.getElem?_eq_some_iff.mp b
 exact (List.getElem_inj hN).mp (e1.trans e2.symm)
theorem zev {M:Model} {A:Around} {E:Value→Shared→Prop} {i:Nat} {x:Str} {v:V} {u:Value} {Q:Unit→Shared→Prop} (I:Inv X pins σ H s) (hN:X.N.Nodup) (hi:X.N[i]? = some x) (hx:Loc X.env.scope x) (r:RelV v u)
  (h:∀ s',Inv X pins (σ.set i (some v)) H s'→(∃ a,Heap.SameBut a s.heap s'.heap∧(a=X.env.locals∨X.env.cells.lookup x=some a))→Q () s') (hf:X.fn x=true∨X.env.scope.names.lookup x=some .local:=by first | exact .inl rfl | exact .inr rfl | assumption):wpAny M A (storeName X.env x u) Q E s:=by
 obtain ⟨m,hn,hl⟩:=id I.loc
 have hcls:(X.env.scope.kind == .class || (X.env.scope.kind == .module && X.env.locals != X.env.globals))=false:=by rw [I.ok.kind];rfl
 have hiσ:i<σ.length:=by rw [I.len];exact (List.getElem?_eq_some_iff.mp hi).1
 have cne:=I.cne
 have tracked:∀ {a:Addr} {h':Heap},(∃ o,s.heap.get? a=some o∧H a=none)→Heap.SameBut a s.heap h'→HOk X.prog X.w H h':=fun {a h'} ha hs b ob e=>by
  obtain ⟨_,_,hfree⟩:=ha
  refine (I.hok b ob e).stay (fun c w' hc q=>(hs.2 c ?_).trans q) (fun _ q=>q) fun _ _ q=>q
  rintro rfl
  rcases hc with rfl | hc
  ·rw [hfree] at e;cases e
  ·rw [hfree] at hc;cases hc
 rcases hx with hk | hk
 ·refine wpAny_storeName_local hk hn (fun h' hn' hs=>?_) hcls
  obtain ⟨oL,_,_,hoL,_⟩:=id hn
  refine h _ ⟨I.ok,I.os,I.bare,⟨fun b o e n hb hx=>?_,fun b o e n hb hx=>?_,I.base.free,fun b o e hx=>?_,I.base.tups,I.base.frzs,I.base.tbls⟩,⟨_,hn',fun j y v' e1 e2 e3=>?_⟩,fun y c e=>?_,I.free,I.freeC,fun p hp=>?_,tracked ⟨oL,hoL,I.free⟩ hs,by simpa using I.len⟩ ⟨_,hs,.inl rfl⟩
  ·exact (hs.2 b (Nat.ne_of_lt (Nat.lt_of_lt_of_le (Heap.lt_size e) I.ok.above))).trans (I.base.keep b o e n hb hx)
  ·obtain ⟨sl,e1⟩:=I.base.slot b o e n hb hx
   exact ⟨sl,(hs.2 b (Nat.ne_of_lt (Nat.lt_of_lt_of_le (Heap.lt_size e) I.ok.above))).trans e1⟩
  ·obtain ⟨o',e1⟩:=I.base.there b o e hx
   exact ⟨o',(hs.2 b (Nat.ne_of_lt (Nat.lt_of_lt_of_le (Heap.lt_size e) I.ok.above))).trans e1⟩
  ·by_cases hj:j=i
   ·subst hj
    rw [hi] at e1;cases e1
    rw [List.getElem?_set_self hiσ] at e2
    cases e2
    exact ⟨u,r,.inl ⟨hk,by simp⟩⟩
   ·rw [List.getElem?_set_ne (Ne.symm hj)] at e2
    obtain ⟨u',r',q⟩:=hl j y v' e1 e2 e3
    refine ⟨u',r',?_⟩
    rcases q with ⟨k,e⟩ | ⟨k,c,e,z⟩
    ·refine .inl ⟨k,?_⟩
     have:y≠x:=fun e=>hj (zeh hN e1 (e ▸ hi))
     simp [this,e]
    ·exact .inr ⟨k,c,e,z.sameBut hs (cne y c e)⟩
  ·obtain ⟨w',z⟩:=I.cell y c e
   exact ⟨w',z.sameBut hs (cne y c e)⟩
  ·obtain ⟨e,n,ne,nf,d⟩:=I.pin p hp
   exact ⟨(hs.2 p.1 ne).trans e,n,ne,nf,d⟩
 ·have hfn:X.fn x=true:=by
   rcases hf with z | z
   ·exact z
   ·rw [z] at hk;cases hk
  obtain ⟨c,hc⟩:=I.ok.has x (.inl hk)
  obtain ⟨w',z⟩:=I.cell x c hc
  refine wpAny_storeName_cell I.ok.kind hk hc z (fun h' hc' hs=>?_)
  obtain ⟨oc,hoc,hocd⟩:=id z
  refine h { s with heap:=h' } ⟨I.ok,I.os,I.bare,⟨fun b o e n hb hx=>?_,fun b o e n hb hx=>?_,I.base.free,fun b o e hx=>?_,I.base.tups,I.base.frzs,I.base.tbls⟩,⟨m,hn.sameBut hs (Ne.symm (cne x c hc)),fun j y v' e1 e2 e3=>?_⟩,fun y c' e=>?_,I.free,I.freeC,fun p hp=>?_,tracked ⟨oc,hoc,I.freeC x c hc⟩ hs,by simpa using I.len⟩ ⟨c,hs,.inr hc⟩
  ·exact (hs.2 b (Nat.ne_of_lt (Nat.lt_of_lt_of_le (Heap.lt_size e) (I.ok.cab x c hfn hc)))).trans (I.base.keep b o e n hb hx)
  ·obtain ⟨sl,e1⟩:=I.base.slot b o e n hb hx
   exact ⟨sl,(hs.2 b (Nat.ne_of_lt (Nat.lt_of_lt_of_le (Heap.lt_size e) (I.ok.cab x c hfn hc)))).trans e1⟩
  ·obtain ⟨o',e1⟩:=I.base.there b o e hx
   exact ⟨o',(hs.2 b (Nat.ne_of_lt (Nat.lt_of_lt_of_le (Heap.lt_size e) (I.ok.cab x c hfn hc)))).trans e1⟩
  ·by_cases hj:j=i
   ·subst hj
    rw [hi] at e1;cases e1
    rw [List.getElem?_set_self hiσ] at e2
    cases e2
    exact ⟨u,r,.inr ⟨.inl hk,c,hc,hc'⟩⟩
   ·rw [List.getElem?_set_ne (Ne.symm hj)] at e2
    obtain ⟨u',r',q⟩:=hl j y v' e1 e2 e3
    refine ⟨u',r',?_⟩
    rcases q with q | ⟨k,c',e,z'⟩
    ·exact .inl q
    ·refine .inr ⟨k,c',e,z'.sameBut hs ?_⟩
     rintro rfl
     exact hj (zeh hN e1 (I.ok.inj _ _ _ e hc ▸ hi))
  ·by_cases hcc:c'=c
   ·subst hcc;exact ⟨_,hc'⟩
   ·obtain ⟨w2,z2⟩:=I.cell y c' e
    exact ⟨w2,z2.sameBut hs hcc⟩
  ·obtain ⟨e,n,ne,nf,d⟩:=I.pin p hp
   refine ⟨(hs.2 p.1 ?_).trans e,n,ne,nf,d⟩
   intro q
   rw [q,hoc] at e
   have q':oc=p.2:=Option.some.inj e
   exact d w' (by rw [← q'];exact hocd)
theorem zb0 {M:Model} {A:Around} {E:Value→Shared→Prop} {i:Nat} {x:Str} {v:V} {u:Value} {Q:Unit→Shared→Prop} (I:Inv X pins σ H s) (hN:X.N.Nodup) (hi:X.N[i]? = some x) (hx:Loc X.env.scope x) (r:RelV v u)
  (h:∀ s',Inv X pins (σ.set i (some v)) H s'→Q () s') (hf:X.fn x=true∨X.env.scope.names.lookup x=some .local:=by first | exact .inl rfl | exact .inr rfl | assumption):wpAny M A (storeName X.env x u) Q E s:=
 zev I hN hi hx r (fun s' I' _=>h s' I') hf
theorem Inv.call' {s':Shared} {ch:List Addr} (I:Inv X pins σ H s) (ho:s'.os=s.os) (u:Un (frs X.stack) ch H H' s.heap s'.heap) (hok:HOk X.prog X.w H' s'.heap) (hg:AllBare s'.gens)
  (hch:∀ b∈ch,(b∈X.ex∨X.s₀.heap.objs.size≤b)∧b≠X.env.locals∧(∀ x c,X.env.cells.lookup x=some c→c≠b)∧∀ p∈X.pn ++ pins,p.1≠b):Inv X pins σ H' s':=by
 obtain ⟨h',g',d',t',o'⟩:=s'
 have e:o'=s.os:=ho
 subst e
 exact I.call (g':=g') (t':=t') (d':=d') u hok hg hch
end
abbrev XK:=Value→Option Addr→Hp→Prop
abbrev St:=List (Option V)
abbrev VK:=V→Hp→Prop
abbrev TE:=St→Hp→VK→Prop
abbrev TT:=St→Hp→(Bool→Hp→Prop)→Prop
abbrev TA:=St→Hp→(List V→Hp→Prop)→Prop
structure Ends where
 nx:St→Hp→Prop
 rt:VK
 bk:St→Hp→Prop:=fun _ _=>False
 ct:St→Hp→Prop:=fun _ _=>False
abbrev TS:=Ends→St→Hp→Prop
def EP (X:Cx) (pins:List (Addr×Obj)) (σ:St) (Q:VK) (u:Value) (s':Shared):Prop:=∃ v H',Inv X pins σ H' s'∧RelV v u∧Q v H'
def TP (X:Cx) (pins:List (Addr×Obj)) (σ:St) (Q:Bool→Hp→Prop) (b:Bool) (s':Shared):Prop:=∃ H',Inv X pins σ H' s'∧Q b H'
def AP (X:Cx) (pins:List (Addr×Obj)) (σ:St) (Q:List V→Hp→Prop) (us:List Value) (s':Shared):Prop:=∃ vs H',Inv X pins σ H' s'∧Vals vs us∧Q vs H'
def SP (X:Cx) (pins:List (Addr×Obj)) (D:Ends) (f:Flow) (s':Shared):Prop:=
 match f with
 | .next=>∃ σ' H',Inv X pins σ' H' s'∧D.nx σ' H'
 | .brk=>∃ σ' H',Inv X pins σ' H' s'∧D.bk σ' H'
 | .cont=>∃ σ' H',Inv X pins σ' H' s'∧D.ct σ' H'
 | .ret u=>∃ v σ' H',Inv X pins σ' H' s'∧RelV v u∧D.rt v H'
def PE (X:Cx) (e:Expr) (t:TE):Prop:=
 ∀ (pins:List (Addr×Obj)) (s:Shared) (σ:St) (H:Hp) (Q:VK),Inv X pins σ H s→t σ H Q→wpAny (model X.prog X.w) X.A (eval e X.env) (EP X pins σ Q) X.xe s
def PT (X:Cx) (e:Expr) (t:TT):Prop:=
 ∀ (pins:List (Addr×Obj)) (s:Shared) (σ:St) (H:Hp) (Q:Bool→Hp→Prop),Inv X pins σ H s→t σ H Q→wpAny (model X.prog X.w) X.A (isTrue e X.env (eval e X.env)) (TP X pins σ Q) X.xe s
def PW (X:Cx) (e:Expr) (t:TT):Prop:=
 ∀ (whole:Sem Value) (pins:List (Addr×Obj)) (s:Shared) (σ:St) (H:Hp) (Q:Bool→Hp→Prop),Inv X pins σ H s→t σ H Q→wpAny (model X.prog X.w) X.A (isTrue e X.env whole) (TP X pins σ Q) X.xe s
theorem PW.pt {X:Cx} {e:Expr} {t:TT} (h:PW X e t):PT X e t:=h _
def PA (X:Cx) (es:List Expr) (t:TA):Prop:=
 ∀ (pos:Pos) (pins:List (Addr×Obj)) (s:Shared) (σ:St) (H:Hp) (Q:List V→Hp→Prop),Inv X pins σ H s→t σ H Q→wpAny (model X.prog X.w) X.A (spliced (backTo pos (starEach es X.env))) (AP X pins σ Q) X.xe s
def PS (X:Cx) (st:Stmt) (t:TS):Prop:=
 ∀ (pins:List (Addr×Obj)) (s:Shared) (σ:St) (H:Hp) (D:Ends),Inv X pins σ H s→t D σ H→wpAny (model X.prog X.w) X.A (exec st X.env) (SP X pins D) X.xe s
def PSs (X:Cx) (st:List Stmt) (t:TS):Prop:=
 ∀ (pins:List (Addr×Obj)) (s:Shared) (σ:St) (H:Hp) (D:Ends),Inv X pins σ H s→t D σ H→wpAny (model X.prog X.w) X.A (execs st X.env) (SP X pins D) X.xe s
theorem thn {α:Type} {t:Sem α} {Q Q':α→Shared→Prop} {M:Model} {A:Around} {E:Value→Shared→Prop} {s:Shared} (h:wpAny M A t Q E s) (hQ:∀ a s,Q a s→Q' a s):wpAny M A t Q' E s:=wpAny_mono h hQ fun _ _ x=>x
end L2
namespace L2
open PySem PySem.Spec PyProof.Rows
section
variable {X:Cx}
def tVar (i:Nat):TE:=fun σ H Q=>∃ v,σ[i]? = some (some v)∧Q v H
def tC (v:V):TE:=fun _ H Q=>Q v H
theorem pe_var {i:Nat} {x:Str} {pos:Pos} (hN:X.N[i]? = some x) (hv:Vis X.env.scope x) (hd:(x == ("__debug__" : Str))=false:=by decide) (hcd:(x == ("__classdict__" : Str))=false:=by decide):PE X (.Name x pos) (tVar i):=by
 intro pins s σ H Q I h
 obtain ⟨v,e,h⟩:=h
 obtain ⟨m,hn,hl⟩:=I.loc
 obtain ⟨u,r,l⟩:=hl i x v hN e hv
 have fin:EP X pins σ Q u s:=⟨v,H,I,r,h⟩
 rcases l with ⟨hk,hm⟩ | ⟨hk,c,hc,hcell⟩
 ·exact wpAny_Name (wpAny_loadName_local I.ok.kind hk hn hm fin) hd
 ·rcases hk with hk | hk
  ·exact wpAny_Name (wpAny_loadName_cell I.ok.kind hk hc hcell fin) hd
  ·exact wpAny_Name (wpAny_loadName_free I.ok.kind hk hc hcell fin hcd) hd
theorem zaf {i j pos}:PE X (.Constant (.int i) j pos) (tC (.int i)):=fun _ _ _ H _ I h=>wpAny_Constant_int ⟨.int i,H,I.tok _,⟨_,rfl⟩,h⟩
theorem zcs {b j pos}:PE X (.Constant (.bool b) j pos) (tC (.bl b)):=fun _ _ _ H _ I h=>Constant_bool ⟨.bl b,H,I,rfl,h⟩
theorem zca {j pos}:PE X (.Constant .none j pos) (tC .non):=fun _ _ _ H _ I h=>Constant_none ⟨.non,H,I,rfl,h⟩
theorem zdG {x j pos}:PE X (.Constant (.str x) j pos) (tC (.str x)):=fun _ _ _ H _ I h=>Calls.Constant_str ⟨.str x,H,I.tok _,⟨_,rfl⟩,h⟩
def Gl (X:Cx) (x:Str):Prop:=X.env.kindOf x=some .globalImplicit
theorem zbe {E:Value→Shared→Prop} {pins:List (Addr×Obj)} {s:Shared} {σ:St} {H:Hp} {x:Str} {u:Value} {pos:Pos} {Q:Value→Shared→Prop} (I:Inv X pins σ H s) (hg:Gl X x) (hm:X.mg x=some u) (h:Q u s)
  (hd:(x == ("__debug__" : Str))=false:=by decide):wpAny (model X.prog X.w) X.A (eval (.Name x pos) X.env) Q E s:=
 Calls.Name_function_global I.ok.kind hg (Calls.loadGlobal_global (by rw [I.ok.glob];exact I.mod.glob.keeps I.bk) hm h) hd
theorem zdn {E:Value→Shared→Prop} {pins:List (Addr×Obj)} {s:Shared} {σ:St} {H:Hp} {x:Str} {u:Value} {pos:Pos} {Q:Value→Shared→Prop} (I:Inv X pins σ H s) (hg:Gl X x) (hm:X.mg x=none) (hv:bootBuiltins x=some u) (h:Q u s)
  (hn:x ≠ "__name__" := by decide) (hd:(x == ("__debug__" : Str))=false:=by decide):wpAny (model X.prog X.w) X.A (eval (.Name x pos) X.env) Q E s:=by
 obtain ⟨mb,h1,h2⟩:=I.mod.blt
 exact Calls.Name_function_global I.ok.kind hg (Calls.loadGlobal_builtin (by rw [I.ok.glob];exact I.mod.glob.keeps I.bk) hm (by rw [I.ok.blt];exact h1.keeps I.bk) ((h2 x hn).trans hv) h) hd
theorem zhR {x:Str} {v:V} {u:Value} {pos:Pos} (hg:Gl X x) (hm:X.mg x=some u) (r:RelV v u) (hd:(x == ("__debug__" : Str))=false:=by decide):PE X (.Name x pos) (tC v):=
 fun _ _ _ H _ I h=>zbe I hg hm ⟨v,H,I,r,h⟩ hd
theorem zaI {x:Str} {v:V} {u:Value} {pos:Pos} (hg:Gl X x) (hm:X.mg x=none) (hv:bootBuiltins x=some u) (r:RelV v u) (hn:x ≠ "__name__" := by decide) (hd:(x == ("__debug__" : Str))=false:=by decide):PE X (.Name x pos) (tC v):=
 fun _ _ _ H _ I h=>zdn I hg hm hv ⟨v,H,I,r,h⟩ hn hd
variable {a b:Expr} {ta tb:TE} {pos:Pos}
def PC (X:Cx) (op:CmpOp) (a b:Expr) (t:TE):Prop:=
 ∀ (pins:List (Addr×Obj)) (s:Shared) (σ:St) (H:Hp) (Q:VK),Inv X pins σ H s→t σ H Q →
  wpAny (model X.prog X.w) X.A (eval a X.env) (fun v s₁=>wpAny (model X.prog X.w) X.A (eval b X.env) (fun u s₂=>wpAny (model X.prog X.w) X.A (compareOp op v u) (EP X pins σ Q) X.xe s₂) X.xe s₁) X.xe s
theorem zgb (b:Expr) {op:CmpOp} (h:op≠.In) (h2:op≠.NotIn):behindInMarks op b=false:=by
 have e1:(op == CmpOp.In)=false:=by cases op <;> first | rfl | exact absurd rfl h
 have e2:(op == CmpOp.NotIn)=false:=by cases op <;> first | rfl | exact absurd rfl h2
 cases b <;> simp [behindInMarks,e1,e2]
def tIsN (ta:TE):TE:=fun σ H Q=>ta σ H fun x H1=>Q (.bl (decide (x = .non))) H1
def tNotN (ta:TE):TE:=fun σ H Q=>ta σ H fun x H1=>Q (.bl (!decide (x = .non))) H1
theorem RelV.none_iff {x:V} {v:Value} (r:RelV x v):(v == Value.none)=decide (x = .non):=by
 cases x with
 | non=>cases r;rfl
 | bl _=>cases r;rfl
 | int _=>obtain ⟨t,rfl⟩:=r;rfl
 | str _=>obtain ⟨t,rfl⟩:=r;rfl
 | byt _=>obtain ⟨t,rfl⟩:=r;rfl
 | flt _=>obtain ⟨t,rfl⟩:=r;rfl
 | ref _=>cases r;rfl
 | ty _=>cases r;rfl
theorem zbJ {j pos'} (ha:PE X a ta):PC X .Is a (.Constant .none j pos') (tIsN ta):=by
 intro pins s σ H Q I h
 refine thn (ha pins s σ H _ I h) fun v s1 ⟨x,H1,I1,r1,q1⟩=>?_
 exact Constant_none (is_none_gen ⟨.bl _,H1,I1,by rw [r1.none_iff];rfl,q1⟩)
theorem zct {j pos'} (ha:PE X a ta):PC X .IsNot a (.Constant .none j pos') (tNotN ta):=by
 intro pins s σ H Q I h
 refine thn (ha pins s σ H _ I h) fun v s1 ⟨x,H1,I1,r1,q1⟩=>?_
 exact Constant_none (isnot_none_gen ⟨.bl _,H1,I1,by rw [r1.none_iff];rfl,q1⟩)
def tB (t:TE):TT:=fun σ H Q=>t σ H fun x H1=>∃ c,x = .bl c∧Q c H1
theorem zhS {op:CmpOp} {t:TE} (h:PC X op a b t) (h1:behindInMarks op b=false:=by first | exact zgb _ (by decide) (by decide) | rfl):PE X (.Compare a [op] [b] pos) t:=fun pins s σ H Q I hw=>wpAny_Compare1 (h pins s σ H Q I hw) h1
theorem za6 {op:CmpOp} {t:TE} (h:PC X op a b t) (h1:behindInMarks op b=false:=by first | exact zgb _ (by decide) (by decide) | rfl):PT X (.Compare a [op] [b] pos) (tB t):=by
 intro pins s σ H Q I hw
 refine wpAny_isTrue_Compare1 (thn (h pins s σ H _ I hw) fun v s1 h1=>thn h1 fun u s2 h2=>thn h2 fun c s3 ⟨x,H1,I1,r1,q1⟩=>?_) h1
 obtain ⟨d,rfl,q⟩:=q1
 cases r1
 exact wpAny_truthy_bool ⟨H1,I1,q⟩
theorem zaF {e:Expr} {t:TE} (h:PE X e t) (he:∀ whole,isTrue e X.env whole=(do let v ← whole;standAt e.pos;holding [v] (truthy v)):=by intro _;rfl):PT X e (tB t):=by
 intro pins s σ H Q I hw
 refine isTrue_plain (thn (h pins s σ H _ I hw) fun v s1 ⟨x,H1,I1,r1,q1⟩=>?_) (he _)
 obtain ⟨d,rfl,q⟩:=q1
 cases r1
 exact wpAny_truthy_bool ⟨H1,I1,q⟩
variable {tA tB':TT} {rest:List Expr}
def tAnd (t u:TT):TT:=fun σ H Q=>t σ H fun c H1=>if c=true then u σ H1 Q else Q false H1
def tOr (t u:TT):TT:=fun σ H Q=>t σ H fun c H1=>if c=true then Q true H1 else u σ H1 Q
def tNot (t:TT):TT:=fun σ H Q=>t σ H fun c H1=>Q (!c) H1
theorem zdc (ha:PT X a tA):PW X (.BoolOp .And [a] pos) tA:=by
 intro wh pins s σ H Q I h
 refine isTrue_and (thn (ha pins s σ H Q I h) fun c s1 e=>?_)
 cases c with
 | true=>exact isTrue_and_nil e
 | false=>exact e
theorem zbA (ha:PT X a tA):PW X (.BoolOp .Or [a] pos) tA:=by
 intro wh pins s σ H Q I h
 refine isTrue_or (thn (ha pins s σ H Q I h) fun c s1 e=>?_)
 cases c with
 | false=>exact isTrue_or_nil e
 | true=>exact e
theorem zeC (ha:PT X a tA) (hb:PW X (.BoolOp .And (b :: rest) pos) tB'):PW X (.BoolOp .And (a :: b :: rest) pos) (tAnd tA tB'):=by
 intro wh pins s σ H Q I h
 refine isTrue_and (thn (ha pins s σ H _ I h) fun c s1 ⟨H1,I1,q1⟩=>?_)
 cases c with
 | true=>exact hb wh pins s1 σ H1 Q I1 q1
 | false=>exact ⟨H1,I1,q1⟩
theorem zb6 (ha:PT X a tA) (hb:PW X (.BoolOp .Or (b :: rest) pos) tB'):PW X (.BoolOp .Or (a :: b :: rest) pos) (tOr tA tB'):=by
 intro wh pins s σ H Q I h
 refine isTrue_or (thn (ha pins s σ H _ I h) fun c s1 ⟨H1,I1,q1⟩=>?_)
 cases c with
 | true=>exact ⟨H1,I1,q1⟩
 | false=>exact hb wh pins s1 σ H1 Q I1 q1
theorem zaP (ha:PT X a tA):PT X (.UnaryOp .Not a pos) (tNot tA):=by
 intro pins s σ H Q I h
 exact isTrue_not (ha pins s σ H (fun c H1=>Q (!c) H1) I h)
def tAndV (ta tb:TE):TE:=fun σ H Q=>ta σ H fun x H1=>∃ c,x = .bl c∧if c=true then tb σ H1 Q else Q (.bl false) H1
def tOrV (ta tb:TE):TE:=fun σ H Q=>ta σ H fun x H1=>∃ c,x = .bl c∧if c=true then Q (.bl true) H1 else tb σ H1 Q
def tNotV (ta:TE):TE:=fun σ H Q=>ta σ H fun x H1=>∃ c,x = .bl c∧Q (.bl (!c)) H1
theorem zbj {op} {t:TE} (h:PE X a t):PE X (.BoolOp op [a] pos) t:=fun pins s σ H Q I hw=>BoolOp_one (h pins s σ H Q I hw)
theorem za7 (ha:PE X a ta) (hb:PE X (.BoolOp .And (b :: rest) pos) tb):PE X (.BoolOp .And (a :: b :: rest) pos) (tAndV ta tb):=by
 intro pins s σ H Q I h
 refine BoolOp_and (thn (ha pins s σ H _ I h) fun v s1 ⟨x,H1,I1,r1,q1⟩=>?_)
 obtain ⟨c,rfl,q1⟩:=q1
 cases r1
 refine wpAny_truthy_bool ?_
 cases c with
 | true=>exact hb pins s1 σ H1 Q I1 q1
 | false=>exact ⟨.bl false,H1,I1,rfl,q1⟩
theorem pe_or (ha:PE X a ta) (hb:PE X (.BoolOp .Or (b :: rest) pos) tb):PE X (.BoolOp .Or (a :: b :: rest) pos) (tOrV ta tb):=by
 intro pins s σ H Q I h
 refine BoolOp_or (thn (ha pins s σ H _ I h) fun v s1 ⟨x,H1,I1,r1,q1⟩=>?_)
 obtain ⟨c,rfl,q1⟩:=q1
 cases r1
 refine wpAny_truthy_bool ?_
 cases c with
 | false=>exact hb pins s1 σ H1 Q I1 q1
 | true=>exact ⟨.bl true,H1,I1,rfl,q1⟩
theorem zj3 (ha:PE X a ta):PE X (.UnaryOp .Not a pos) (tNotV ta):=by
 intro pins s σ H Q I h
 refine UnaryOp_ (thn (ha pins s σ H _ I h) fun v s1 ⟨x,H1,I1,r1,q1⟩=>?_)
 obtain ⟨c,rfl,q1⟩:=q1
 cases r1
 exact not_of (wpAny_truthy_bool ⟨.bl (!c),H1,I1,rfl,q1⟩)
end
end L2
namespace L2
open PySem PySem.Spec PyProof.Rows
def SqL (K:PySem.W.Frag) (H:Hp) (a:Addr) (xs:List V):Prop:=
 Rd H a (.lst xs) ∨
  ∃ (o:Obj) (its:Array Value) (n:Nat),K.lookup a=some o∧o.cls = .type "list" ∧ o.dict=none∧o.data = .seq its n∧its.size≤sizeLine∧Vals xs its.toList
def SqT (K:PySem.W.Frag) (H:Hp) (a:Addr) (xs:List V):Prop:=
 Rd H a (.tup xs) ∨
  ∃ (o:Obj) (its:Array Value) (n:Nat),K.lookup a=some o∧o.cls = .type "tuple" ∧ o.data = .seq its n∧its.size≤sizeLine∧Vals xs its.toList
def absV:Value→Option V
 | .none=>some .non
 | .bool b=>some (.bl b)
 | .int i _=>some (.int i)
 | .str x _=>some (.str x)
 | .bytes b _=>some (.byt b)
 | .float b _=>some (.flt b)
 | .ref a=>some (.ref a)
 | .type n=>some (.ty n)
 | _=>none
theorem RelV.abs {x:V} {u:Value} (r:RelV x u):absV u=some x:=by
 cases x with
 | non=>cases r;rfl
 | bl _=>cases r;rfl
 | int _=>obtain ⟨t,rfl⟩:=r;rfl
 | str _=>obtain ⟨t,rfl⟩:=r;rfl
 | byt _=>obtain ⟨t,rfl⟩:=r;rfl
 | flt _=>obtain ⟨t,rfl⟩:=r;rfl
 | ref _=>cases r;rfl
 | ty _=>cases r;rfl
theorem RelV.inj {x y:V} {u:Value} (r:RelV x u) (q:RelV y u):x=y:=Option.some.inj (r.abs.symm.trans q.abs)
theorem Vals.inj:∀ {xs ys:List V} {us:List Value},Vals xs us→Vals ys us→xs=ys
 | _,_,_,.nil,.nil=>rfl
 | _,_,_,.cons r t,.cons r' t'=>by rw [r.inj r',Vals.inj t t']
section
variable {X:Cx} {pins:List (Addr×Obj)} {σ:St} {H:Hp} {s:Shared} {a:Addr} {xs ys:List V}
theorem SqL.of {K:PySem.W.Frag} (h:H a=some (.lst xs)):SqL K H a xs:=.inl (.inl h)
theorem SqT.of {K:PySem.W.Frag} (h:H a=some (.tup xs)):SqT K H a xs:=.inl (.inl h)
theorem Inv.list (I:Inv X pins σ H s) (h:SqL X.K H a xs):∃ its:List Value,Vals xs its∧PlainL s.heap a its.toArray∧xs.length≤sizeLine:=by
 rcases h with h | ⟨o,its,n,hk,hc,hd,hs,hz,r⟩
 ·obtain ⟨z,its,n,r,e⟩:=h.ok I.hok
  exact ⟨its,r,⟨_,n,e,rfl,rfl,rfl⟩,z⟩
 ·refine ⟨its.toList,r,⟨o,n,I.kIn a o hk,hc,hd,by simpa using hs⟩,?_⟩
  have e:=r.length
  simp only [Array.length_toList] at e
  omega
theorem Inv.tuple (I:Inv X pins σ H s) (h:SqT X.K H a xs):∃ its:List Value,Vals xs its∧IsTup s.heap a its.toArray∧xs.length≤sizeLine:=by
 rcases h with h | ⟨o,its,n,hk,hc,hs,hz,r⟩
 ·obtain ⟨z,its,r,p⟩:=h.ok I.hok
  exact ⟨its,r,p,z.1⟩
 ·refine ⟨its.toList,r,⟨o,I.kIn a o hk,hc,n,by simpa using hs⟩,?_⟩
  have e:=r.length
  simp only [Array.length_toList] at e
  omega
theorem Inv.list_inj (I:Inv X pins σ H s) (h:SqL X.K H a xs) (h':SqL X.K H a ys):xs=ys:=by
 obtain ⟨its,r,⟨o,n,e,_,_,d⟩,_⟩:=I.list h
 obtain ⟨its',r',⟨o',n',e',_,_,d'⟩,_⟩:=I.list h'
 rw [e] at e';cases e'
 rw [d] at d'
 injection d' with d1 _
 have:its=its':=by simpa using congrArg Array.toList d1
 subst this
 exact r.inj r'
theorem Inv.tuple_inj (I:Inv X pins σ H s) (h:SqT X.K H a xs) (h':SqT X.K H a ys):xs=ys:=by
 obtain ⟨its,r,⟨o,e,_,n,d⟩,_⟩:=I.tuple h
 obtain ⟨its',r',⟨o',e',_,n',d'⟩,_⟩:=I.tuple h'
 rw [e] at e';cases e'
 rw [d] at d'
 injection d' with d1 _
 have:its=its':=by simpa using congrArg Array.toList d1
 subst this
 exact r.inj r'
end
abbrev Cx.wish (X:Cx) (E:Value→Shared→Prop):Cx:={ X with xe:=E }
abbrev Cx.nox (X:Cx):Cx:=X.wish fun _ _=>False
theorem Cx.Ok.wish {X:Cx} (ok:X.Ok) (E:Value→Shared→Prop):(X.wish E).Ok:=
 ⟨ok.mod,ok.kind,ok.glob,ok.blt,ok.above,ok.inj,ok.has,ok.cab,ok.hd,ok.frames,ok.stk,ok.exf,ok.bs,ok.bsz,ok.noex,ok.exfs,ok.funs,ok.frf⟩
theorem Cx.Ok.unwish {X:Cx} {E:Value→Shared→Prop} (ok:(X.wish E).Ok):X.Ok:=
 ⟨ok.mod,ok.kind,ok.glob,ok.blt,ok.above,ok.inj,ok.has,ok.cab,ok.hd,ok.frames,ok.stk,ok.exf,ok.bs,ok.bsz,ok.noex,ok.exfs,ok.funs,ok.frf⟩
section
variable {X:Cx} {pins:List (Addr×Obj)} {σ:St} {H:Hp} {s:Shared} {E:Value→Shared→Prop}
theorem Inv.wish (I:Inv X pins σ H s) (E:Value→Shared→Prop):Inv (X.wish E) pins σ H s:=⟨I.ok.wish E,I.os,I.bare,I.base,I.loc,I.cell,I.free,I.freeC,I.pin,I.hok,I.len⟩
theorem Inv.unwish (I:Inv (X.wish E) pins σ H s):Inv X pins σ H s:=⟨I.ok.unwish,I.os,I.bare,I.base,I.loc,I.cell,I.free,I.freeC,I.pin,I.hok,I.len⟩
theorem SP.unwish {D:Ends} {f:Flow} {s':Shared} (h:SP (X.wish E) pins D f s'):SP X pins D f s':=by
 cases f with
 | next=>obtain ⟨σ',H',I,q⟩:=h;exact ⟨σ',H',I.unwish,q⟩
 | brk=>obtain ⟨σ',H',I,q⟩:=h;exact ⟨σ',H',I.unwish,q⟩
 | cont=>obtain ⟨σ',H',I,q⟩:=h;exact ⟨σ',H',I.unwish,q⟩
 | ret u=>obtain ⟨v,σ',H',I,r,q⟩:=h;exact ⟨v,σ',H',I.unwish,r,q⟩
theorem PT.nox {e:Expr} {t:TT} (h:PT X.nox e t):PT X e t:=fun pins s σ H Q I hw =>
 wpAny_mono (h pins s σ H Q (I.wish _) hw) (fun _ _ ⟨H',I',q⟩=>⟨H',I'.unwish,q⟩) fun _ _ z=>False.elim z
theorem PSs.nox {st:List Stmt} {t:TS} (h:PSs X.nox st t):PSs X st t:=fun pins s σ H D I hw =>
 wpAny_mono (h pins s σ H D (I.wish _) hw) (fun _ _ q=>q.unwish) fun _ _ z=>False.elim z
end
section
variable {X:Cx} {st:Stmt} {rest:List Stmt} {t u:TS} {e:Expr} {te:TE} {pos:Pos}
def tNext:TS:=fun D σ H=>D.nx σ H
def tSeq (t u:TS):TS:=fun D σ H=>t { D with nx:=u D } σ H
theorem zaq:PSs X [] tNext:=fun _ _ σ H _ I h=>wpAny_execs_nil ⟨σ,H,I,h⟩
theorem zac (h1:PS X st t) (h2:PSs X rest u):PSs X (st :: rest) (tSeq t u):=by
 intro pins s σ H D I h
 refine wpAny_execs_cons (thn (h1 pins s σ H { D with nx:=u D } I h) fun f s1 q=>?_)
 cases f with
 | next =>
  obtain ⟨σ',H',I',q⟩:=q
  exact h2 pins s1 σ' H' D I' q
 | ret v=>exact q
 | brk=>exact q
 | cont=>exact q
theorem zag (h1:PS X st t):PSs X [st] t:=by
 intro pins s σ H D I h
 refine wpAny_execs_cons (thn (h1 pins s σ H D I h) fun f s1 q=>?_)
 cases f with
 | next=>exact wpAny_execs_nil q
 | ret v=>exact q
 | brk=>exact q
 | cont=>exact q
theorem Inv.quiet {pins:List (Addr×Obj)} {σ:St} {H:Hp} {s:Shared} (I:Inv X pins σ H s):interactive X.env=false:=by simp [interactive,I.ok.kind]
def tDrop (te:TE):TS:=fun D σ H=>te σ H fun _ H1=>D.nx σ H1
theorem zaZ (he:PE X e te) (hs:swapsWith e none pos.line X.env=pure false:=by rfl):PS X (.Expr e pos) (tDrop te):=by
 intro pins s σ H D I h
 exact wpAny_Expr_any (thn (he pins s σ H _ I h) fun v s1 ⟨x,H1,I1,r1,q1⟩=>⟨σ,H1,I1,q1⟩) I.quiet hs
def tRet (te:TE):TS:=fun D σ H=>te σ H D.rt
theorem zao (he:PE X e te):PS X (.Return (some e) pos) (tRet te):=by
 intro pins s σ H D I h
 exact wpAny_Return_some (thn (he pins s σ H _ I h) fun v s1 ⟨x,H1,I1,r1,q1⟩=>⟨x,σ,H1,I1,r1,q1⟩)
def tIfS (c:TT) (t u:TS):TS:=fun D σ H=>c σ H fun b H1=>if b=true then t D σ H1 else u D σ H1
theorem zaD {c:Expr} {a b:List Stmt} {tc:TT} (hc:PT X c tc) (ha:PSs X a t) (hb:PSs X b u):PS X (.If c a b pos) (tIfS tc t u):=by
 intro pins s σ H D I h
 refine wpAny_If (thn (hc pins s σ H _ I h) fun d s1 ⟨H1,I1,q1⟩=>?_)
 cases d with
 | true=>exact ha pins s1 σ H1 D I1 q1
 | false=>exact hb pins s1 σ H1 D I1 q1
def tNever:TS:=fun _ _ _=>False
theorem zbF:PS X st tNever:=fun _ _ _ _ _ _ h=>h.elim
end
abbrev TG:=V→St→Hp→(St→Hp→Prop)→Prop
abbrev TGs:=List V→St→Hp→(St→Hp→Prop)→Prop
def PG (X:Cx) (target:Expr) (t:TG):Prop:=
 ∀ (pins:List (Addr×Obj)) (s:Shared) (σ:St) (H:Hp) (v:V) (u:Value) (Q:St→Hp→Prop),Inv X pins σ H s→RelV v u→t v σ H Q →
  wpAny (model X.prog X.w) X.A (assign target X.env u) (fun _ s'=>∃ σ' H',Inv X pins σ' H' s'∧Q σ' H') X.xe s
def PGs (X:Cx) (ts:List Expr) (t:TGs):Prop:=
 ∀ (pins:List (Addr×Obj)) (s:Shared) (σ:St) (H:Hp) (vs:List V) (us:List Value) (Q:St→Hp→Prop),Inv X pins σ H s→Vals vs us→t vs σ H Q →
  wpAny (model X.prog X.w) X.A (assignInOrder ((assignEach ts X.env).map (·.2)) us) (fun _ s'=>∃ σ' H',Inv X pins σ' H' s'∧Q σ' H') X.xe s
abbrev TSet:=V→V→V→Hp→(Hp→Prop)→Prop
def PSet (X:Cx) (t:TSet):Prop:=
 ∀ (pins:List (Addr×Obj)) (s:Shared) (σ:St) (H:Hp) (o i v:V) (ov iv u:Value) (Q:Hp→Prop),Inv X pins σ H s→RelV o ov→RelV i iv→RelV v u→t o i v H Q →
  wpAny (model X.prog X.w) X.A (setItem ov iv u) (fun _ s'=>∃ H',Inv X pins σ H' s'∧Q H') X.xe s
abbrev TIp:=V→V→Hp→VK→Prop
def PIp (X:Cx) (op:Operator) (t:TIp):Prop:=
 ∀ (pins:List (Addr×Obj)) (s:Shared) (σ:St) (H:Hp) (x y:V) (v u:Value) (Q:VK),Inv X pins σ H s→RelV x v→RelV y u→t x y H Q →
  wpAny (model X.prog X.w) X.A (inplaceOp op v u) (EP X pins σ Q) X.xe s
section
variable {X:Cx} {pos:Pos}
def za1 (i:Nat):TG:=fun v σ H Q=>Q (σ.set i (some v)) H
theorem zak {i:Nat} {x:Str} (hN:X.N.Nodup) (hi:X.N[i]? = some x) (hx:Loc X.env.scope x) (hf:X.fn x=true∨X.env.scope.names.lookup x=some .local:=by first | exact .inl rfl | exact .inr rfl | assumption):PG X (.Name x pos) (za1 i):=by
 intro pins s σ H v u Q I r h
 exact wpAny_assign_Name (zb0 I hN hi hx r (fun s' I'=>⟨_,H,I',h⟩) hf)
def gNil:TGs:=fun vs σ H Q=>vs=[]∧Q σ H
def zdA (t:TG) (u:TGs):TGs:=fun vs σ H Q=>∃ v r,vs=v :: r∧t v σ H fun σ' H'=>u r σ' H' Q
theorem zaM:PGs X [] gNil:=by
 intro pins s σ H vs us Q I r h
 obtain ⟨e,h⟩:=h
 subst e
 cases r
 exact assignInOrder_nil ⟨σ,H,I,h⟩
theorem zam {e:Expr} {es:List Expr} {t:TG} {u:TGs} (h1:PG X e t) (h2:PGs X es u)
  (hs:(assignEach (e :: es) X.env).map (·.2)=assign e X.env :: (assignEach es X.env).map (·.2):=by rfl):PGs X (e :: es) (zdA t u):=by
 intro pins s σ H vs us Q I r h
 obtain ⟨v,vr,e1,h⟩:=h
 subst e1
 cases r with
 | cons r rr =>
  rw [hs]
  refine assignInOrder_cons (thn (h1 pins s σ H _ _ _ I r h) fun _ s1 ⟨σ1,H1,I1,q1⟩=>?_)
  exact h2 pins s1 σ1 H1 _ _ Q I1 rr q1
def gTup (K:PySem.W.Frag) (n:Nat) (t:TGs):TG:=fun v σ H Q=>∃ a xs,v = .ref a∧SqT K H a xs∧xs.length=n∧t xs σ H Q
theorem zbi {es:List Expr} {k:Nat} {t:TGs} {n:Nat} (hc:X.calm=true) (h:PGs X es t)
  (hn:(assignEach es X.env).length=n:=by rfl) (hst:(assignEach es X.env).findIdx? (·.1)=none:=by rfl):PG X (.Tuple es k pos) (gTup X.K n t):=by
 intro pins s σ H v u Q I r hw
 obtain ⟨a,xs,e1,hq,hl,hw⟩:=hw
 subst e1
 cases r
 obtain ⟨its,rv,ht,hz⟩:=I.tuple hq
 refine assign_Tuple_tuple (I.ok.hd hc) ht (by simp [hn,← hl,rv.length]) hst fun h' hx=>?_
 have I1:Inv X pins σ H { s with heap:=h' }:=I.kept (t':=s.toks) fun b o e=>hx b o (Nat.ne_of_lt (Heap.lt_size e)) e
 exact h pins _ σ H xs _ Q I1 (by simpa using rv) hw
def gSub (to ti:TE) (t:TSet):TG:=fun v σ H Q=>to σ H fun o H1=>ti σ H1 fun i H2=>t o i v H2 fun H3=>Q σ H3
theorem pg_sub {o i:Expr} {to ti:TE} {t:TSet} (ho:PE X o to) (hi:PE X i ti) (hs:PSet X t)
  (ha:∀ v,assign (.Subscript o i pos) X.env v=(do
   let ov ← holding [v] (eval o X.env)
   let iv ← holding [v,ov] (eval i X.env)
   standAt pos
   holding [v,ov,iv] (setItem ov iv v)
   release [v,ov,iv] []):=by intro _;rfl):PG X (.Subscript o i pos) (gSub to ti t):=by
 intro pins s σ H v u Q I r h
 rw [ha]
 refine wpAny_bind (wpAny_holding (thn (ho pins s σ H _ I h) fun ov s1 ⟨x,H1,I1,r1,q1⟩=>?_))
 refine wpAny_bind (wpAny_holding (thn (hi pins s1 σ H1 _ I1 q1) fun iv s2 ⟨y,H2,I2,r2,q2⟩=>?_))
 refine wpAny_bind (wpAny_standAt (wpAny_bind (wpAny_holding (thn (hs pins s2 σ H2 x y v ov iv u _ I2 r1 r2 r q2) fun _ s3 ⟨H3,I3,q3⟩=>?_))))
 exact wpAny_release ⟨σ,H3,I3,q3⟩
def tAsg (te:TE) (g:TG):TS:=fun D σ H=>te σ H fun x H1=>g x σ H1 D.nx
theorem zb8 {tg e:Expr} {te:TE} {g:TG} (he:PE X e te) (hg:PG X tg g) (hs:swapsWithSole [tg] e pos.line X.env=pure false:=by rfl) (hw:swappedStores [tg] e X.env=pure none:=by rfl)
  (h1:(assignEach [tg] X.env).map (·.2)=[assign tg X.env]:=by rfl):PS X (.Assign [tg] e pos) (tAsg te g):=by
 intro pins s σ H D I h
 refine wpAny_Assign_stores (thn (he pins s σ H _ I h) fun v s1 ⟨x,H1,I1,r1,q1⟩=>?_) hs hw
 rw [h1]
 exact thn (hg pins s1 σ H1 x v _ I1 r1 q1) fun _ s2 q=>q
theorem zat {i:Nat} {x:Str} {e:Expr} {te:TE} {pos':Pos} (hN:X.N.Nodup) (hi:X.N[i]? = some x) (hx:Loc X.env.scope x) (he:PE X e te) (hs:swapsWith e (some (.Name x pos')) pos.line X.env=pure false:=by rfl) (hf:X.fn x=true∨X.env.scope.names.lookup x=some .local:=by first | exact .inl rfl | exact .inr rfl | assumption) :
  PS X (.Assign [.Name x pos'] e pos) (tAsg te (za1 i)):=by
 intro pins s σ H D I h
 refine wpAny_Assign_Name (thn (he pins s σ H _ I h) fun v s1 ⟨y,H1,I1,r1,q1⟩=>?_) hs
 exact zb0 I1 hN hi hx r1 (fun s2 I2=>⟨_,H1,I2,q1⟩) hf
def tAug (i:Nat) (te:TE) (ti:TIp):TS:=fun D σ H=>∃ x,σ[i]? = some (some x)∧te σ H fun y H1=>ti x y H1 fun z H2=>D.nx (σ.set i (some z)) H2
theorem zj2 {i:Nat} {x:Str} {e:Expr} {te:TE} {op:Operator} {ti:TIp} {pos':Pos} (hN:X.N.Nodup) (hi:X.N[i]? = some x) (hx:Loc X.env.scope x) (he:PE X e te) (ho:PIp X op ti) (hf:X.fn x=true∨X.env.scope.names.lookup x=some .local:=by first | exact .inl rfl | exact .inr rfl | assumption) :
  PS X (.AugAssign (.Name x pos') op e pos) (tAug i te ti):=by
 intro pins s σ H D I h
 obtain ⟨v,e1,h⟩:=h
 obtain ⟨m,hn,hl⟩:=I.loc
 have vis:Vis X.env.scope x:=by rcases hx with k | k;exact .inl k;exact .inr (.inl k)
 obtain ⟨u,r,l⟩:=hl i x v hi e1 vis
 refine wpAny_AugAssign_Name ?_
 have go:wpAny (model X.prog X.w) X.A (eval e X.env) (fun w s₂=>wpAny (model X.prog X.w) X.A (inplaceOp op u w) (fun r s₃=>wpAny (model X.prog X.w) X.A (storeName X.env x r) (fun _=>SP X pins D .next) X.xe s₃) X.xe s₂) X.xe s:=by
  refine thn (he pins s σ H _ I h) fun w s1 ⟨y,H1,I1,r1,q1⟩=>?_
  refine thn (ho pins s1 σ H1 v y u w _ I1 r r1 q1) fun z s2 ⟨zv,H2,I2,r2,q2⟩=>?_
  exact zb0 I2 hN hi hx r2 (fun s3 I3=>⟨_,H2,I3,q2⟩) hf
 rcases l with ⟨hk,hm⟩ | ⟨hk,c,hc,hcell⟩
 ·exact wpAny_loadName_local I.ok.kind hk hn hm go
 ·rcases hk with hk | hk
  ·exact wpAny_loadName_cell I.ok.kind hk hc hcell go
  ·rcases hx with k | k
   ·have:X.env.scope.names.lookup x=some .free:=hk
    rw [k] at this;cases this
   ·have:X.env.scope.names.lookup x=some .free:=hk
    rw [k] at this;cases this
def tAugS (to ti te:TE) (tget:V→V→Hp→VK→Prop) (tip:TIp) (tset:TSet):TS:=fun D σ H=>to σ H fun o H1=>ti σ H1 fun i H2=>tget o i H2 fun x H3=>te σ H3 fun y H4=>tip x y H4 fun z H5=>tset o i z H5 fun H6=>D.nx σ H6
def PGet (X:Cx) (t:V→V→Hp→VK→Prop):Prop:=
 ∀ (pins:List (Addr×Obj)) (s:Shared) (σ:St) (H:Hp) (o i:V) (ov iv:Value) (Q:VK),Inv X pins σ H s→RelV o ov→RelV i iv→t o i H Q →
  wpAny (model X.prog X.w) X.A (getItem ov iv) (EP X pins σ Q) X.xe s
theorem zkQ {o i e:Expr} {to ti te:TE} {tget:V→V→Hp→VK→Prop} {tip:TIp} {tset:TSet} {op:Operator} {tpos:Pos} (ho:PE X o to) (hi:PE X i ti) (hg:PGet X tget) (he:PE X e te) (hp:PIp X op tip) (hs:PSet X tset)
  (ha:∀ ov iv new,augStore i ov iv new=(do holding [new,ov,iv] (setItem ov iv new);release [new,ov,iv] [];pure .next):=by intros;rfl):PS X (.AugAssign (.Subscript o i tpos) op e pos) (tAugS to ti te tget tip tset):=by
 intro pins s σ H D I h
 refine wpAny_AugAssign_SubscriptAny (thn (ho pins s σ H _ I h) fun ov s1 ⟨x1,H1,I1,r1,q1⟩=>?_) ha
 refine thn (hi pins s1 σ H1 _ I1 q1) fun iv s2 ⟨x2,H2,I2,r2,q2⟩=>?_
 refine thn (hg pins s2 σ H2 x1 x2 ov iv _ I2 r1 r2 q2) fun old s3 ⟨x3,H3,I3,r3,q3⟩=>?_
 refine thn (he pins s3 σ H3 _ I3 q3) fun v s4 ⟨x4,H4,I4,r4,q4⟩=>?_
 refine thn (hp pins s4 σ H4 x3 x4 old v _ I4 r3 r4 q4) fun new s5 ⟨x5,H5,I5,r5,q5⟩=>?_
 exact thn (hs pins s5 σ H5 x1 x2 x5 ov iv new _ I5 r1 r2 r5 q5) fun _ s6 ⟨H6,I6,q6⟩=>⟨σ,H6,I6,q6⟩
def ipI (f:Int→Int→Int):TIp:=fun x y H Q=>∃ i j,x = .int i∧y = .int j∧Q (.int (f i j)) H
theorem ip_add:PIp X .Add (ipI fun i j=>i+j):=by
 intro pins s σ H x y v u Q I r1 r2 h
 obtain ⟨i,j,e1,e2,q⟩:=h
 subst e1;subst e2
 obtain ⟨t,rfl⟩:=r1
 obtain ⟨t',rfl⟩:=r2
 exact iadd_int ⟨.int _,H,I.tok _,⟨_,rfl⟩,q⟩
end
section
variable {X:Cx} {pos:Pos}
def zjW (c:TT) (tb:TS):TS:=fun D σ H=>∃ W:Nat→St→Hp→Prop,(∃ m,W m σ H)∧∀ m σ H,W m σ H →
 c σ H fun b H1=>if b=true then ∃ N:St→Hp→Prop,(∀ σ' H',N σ' H'→∃ m',m'<m∧W m' σ' H')∧tb { D with nx:=N,ct:=N,bk:=D.nx } σ H1 else D.nx σ H1
theorem zjd {c:Expr} {body:List Stmt} {tc:TT} {tb:TS} (hp:PassesOwn (model X.prog X.w) X.A X.env X.xe) (hc:PT X c tc) (hb:PSs X body tb):PS X (.While c body [] pos) (zjW tc tb):=by
 intro pins s σ H D I h
 obtain ⟨W,⟨m0,w0⟩,turn⟩:=h
 refine wpAny_While (codeAny_whileLoop (fun n s'=>∃ σ' H',Inv X pins σ' H' s'∧W n σ' H') ?_ m0 ⟨σ,H,I,w0⟩)
 rintro n s1 ⟨σ1,H1,I1,w1⟩
 refine wpAny_passesOwn hp (thn (hc pins s1 σ1 H1 _ I1 (turn n σ1 H1 w1)) fun b s2 ⟨H2,I2,q2⟩=>?_)
 cases b with
 | true =>
  obtain ⟨N,hN,q2⟩:=q2
  rw [if_pos rfl]
  refine wpAny_passesOwn hp (thn (hb pins s2 σ1 H2 _ I2 q2) fun f s3 q3=>?_)
  cases f with
  | next =>
   obtain ⟨σ3,H3,I3,n3⟩:=q3
   obtain ⟨m',hm,w3⟩:=hN σ3 H3 n3
   exact ⟨m',hm,σ3,H3,I3,w3⟩
  | cont =>
   obtain ⟨σ3,H3,I3,n3⟩:=q3
   obtain ⟨m',hm,w3⟩:=hN σ3 H3 n3
   exact ⟨m',hm,σ3,H3,I3,w3⟩
  | brk=>exact q3
  | ret v=>exact q3
 | false =>
  rw [if_neg Bool.false_ne_true]
  exact wpAny_execs_nil ⟨σ1,H2,I2,q2⟩
end
structure It where
 go:Nat→Hp→Prop
 yld:Nat→Hp→V→Hp→Prop
 stop:Nat→Hp→Prop
def FpOk (X:Cx) (pins:List (Addr×Obj)) (H:Hp) (b:Addr):Prop:=
 H b=none∧b≠X.env.locals∧b ∉ X.fs∧(b∈X.ex∨X.s₀.heap.objs.size≤b)∧(∀ x c,X.env.cells.lookup x=some c→c≠b)∧∀ p∈X.pn ++ pins,p.1≠b
theorem Inv.fpOk {X:Cx} {pins:List (Addr×Obj)} {σ:St} {H H':Hp} {s:Shared} {b:Addr} (I:Inv X pins σ H s) (hb:s.heap.objs.size≤b) (hn:H' b=none):FpOk X pins H' b:=by
 refine ⟨hn,Nat.ne_of_gt (Nat.lt_of_lt_of_le I.lt hb),I.nofs hb,.inr (Nat.le_trans I.sz hb),fun x c e z=>?_,fun p hp z=>?_⟩
 ·obtain ⟨v,q⟩:=I.cell x c e
  exact absurd (Nat.lt_of_lt_of_le q.lt (by rw [z];exact hb)) (Nat.lt_irrefl _)
 ·exact absurd (Nat.lt_of_lt_of_le (Heap.lt_size (I.pin p hp).1) (by rw [z];exact hb)) (Nat.lt_irrefl _)
structure Turn (P:Program) (w:World) (K:PySem.W.Frag) (tg:Expr) (J:It) (fp:List Addr) (it:Addr) (tn:Nat→Heap→Prop):Prop where
 mem:it∈fp
 obj:∀ i h,tn i h→∀ b∈fp,∃ o,h.get? b=some o∧∀ v,o.data≠.cell v
 keep:∀ i h h',tn i h→(∀ b∈fp,∀ o,h.get? b=some o→h'.get? b=some o)→tn i h'
 item:∀ (X:Cx),X.prog=P→X.w=w→X.K=K→X.calm=true→∀ (i:Nat) (pins:List (Addr×Obj)) (s:Shared) (σ:St) (H:Hp) (E:Value→Shared→Prop),Inv X pins σ H s→(∀ b∈fp,FpOk X pins H b)→tn i s.heap→J.go i H →
  wpAny (model P w) X.A (pyNext (.ref it)) (fun r s1=>∃ u,r=some u ∧
   wpAny (model P w) X.A (letOwnedTupleGo tg (.ref it) u) (fun _ s2=>∃ x H',Inv X pins σ H' s2∧RelV x u∧J.yld i H x H'∧tn (i+1) s2.heap∧∀ b∈fp,H' b=none) E s1) E s
 done:∀ (X:Cx),X.prog=P→X.w=w→X.K=K→X.calm=true→∀ (i:Nat) (pins:List (Addr×Obj)) (s:Shared) (σ:St) (H:Hp) (E:Value→Shared→Prop),Inv X pins σ H s→(∀ b∈fp,FpOk X pins H b)→tn i s.heap→J.stop i H →
  wpAny (model P w) X.A (pyNext (.ref it)) (fun r s1=>r=none∧Inv X pins σ H s1) E s
 self:∀ (A:Around) (i:Nat) (s:Shared) (Q:Value→Shared→Prop) (E:Value→Shared→Prop),tn i s.heap→Q (.ref it) s→wpAny (model P w) A (pyIter (.ref it)) Q E s
abbrev TI:=St→Hp→(It→Hp→Prop)→Prop
def PIE (X:Cx) (pins:List (Addr×Obj)) (σ:St) (tg:Expr) (R:It→Hp→Prop) (itv:Value) (s2:Shared):Prop:=
 ∃ (it:Addr) (fp:List Addr) (tn:Nat→Heap→Prop) (J:It) (H':Hp),itv = .ref it∧Inv X pins σ H' s2∧Turn X.prog X.w X.K tg J fp it tn∧tn 0 s2.heap∧(∀ b∈fp,FpOk X pins H' b)∧R J H'
def PI (X:Cx) (tg iter:Expr) (wi:TI):Prop:=
 ∀ (pins:List (Addr×Obj)) (s:Shared) (σ:St) (H:Hp) (R:It→Hp→Prop),Inv X pins σ H s→wi σ H R →
  wpAny (model X.prog X.w) X.A (eval iter X.env) (fun v s1=>wpAny (model X.prog X.w) X.A (pyIter v) (PIE X pins σ tg R) X.xe s1) X.xe s
theorem zlm {M:Model} {A:Around} {E:Value→Shared→Prop} {s:Shared} {tg:Expr} {it:Addr} {u:Value} {o:Obj} {n:String} {vs:Array Value} {Q:Unit→Shared→Prop} (ho:s.heap.get? it=some o) (hc:o.cls = .type n) (hd:o.data = .fields vs)
    (hn:["enumerate","zip","dict_itemiterator","dict_reverseitemiterator","odict_iterator","itertools.zip_longest","itertools.pairwise"].contains n=false) (hQ:Q () s):wpAny M A (letOwnedTupleGo tg (.ref it) u) Q E s:=by
  unfold letOwnedTupleGo
  cases tg <;> first
    | exact wpAny_pure hQ
    | (cases u <;> first
        | exact wpAny_pure hQ
        | (refine wpAny_bind (wpAny_load ho ?_)
           rw [hc,hd]
           show wpAny M A (if (["enumerate","zip","dict_itemiterator","dict_reverseitemiterator","odict_iterator","itertools.zip_longest","itertools.pairwise"].contains n && vs[0]? == some (rawInt _))=true then _ else _) Q E s
           rw [if_neg (by intro h;rw [hn,Bool.false_and] at h;cases h)]
           exact wpAny_pure hQ))
def Itl (K:PySem.W.Frag) (a:Addr):It:=
 ⟨fun i H=>∃ xs x,SqL K H a xs∧xs[i]? = some x,fun i H x H'=>H'=H∧∀ xs,SqL K H a xs→xs[i]? = some x,fun i H=>∃ xs,SqL K H a xs∧xs.length≤i⟩
def Itt (K:PySem.W.Frag) (a:Addr):It:=
 ⟨fun i H=>∃ xs x,SqT K H a xs∧xs[i]? = some x,fun i H x H'=>H'=H∧∀ xs,SqT K H a xs→xs[i]? = some x,fun i H=>∃ xs,SqT K H a xs∧xs.length≤i⟩
def Itr (lo:Int) (n:Nat):It:=⟨fun i _=>i<n,fun i H x H'=>H'=H∧x = .int (lo+i),fun i _=>n≤i⟩
theorem zhf {P:Program} {w:World} {K:PySem.W.Frag} {tg:Expr} (a it:Addr):Turn P w K tg (Itl K a) [it] it (fun i h=>h.IsListIter it a i) where
 mem:=by simp
 obj:=fun i h st b hb=>by
  have e:b=it:=by simpa using hb
  subst e
  obtain ⟨o,e,c,d⟩:=st
  exact ⟨o,e,fun v z=>by rw [d] at z;cases z⟩
 keep:=fun i h h' st k=>st.at fun o e=>k it (by simp) o e
 item:=by
  intro X hP hw hK hc i pins s σ H E I hf st hg
  subst hP hw hK
  obtain ⟨xs,x,hq,hx⟩:=hg
  obtain ⟨its,rv,p,hz⟩:=I.list hq
  obtain ⟨u,hu,ru⟩:=rv.get hx
  obtain ⟨f0,f1,f2,f3,f4,f5⟩:=hf it (by simp)
  refine wpAny_pyNext_list_item st p.isList (x:=u) (by simpa using hu) fun h' st' sb=>?_
  have I1:Inv X pins σ H { s with heap:=h' }:=I.turned (t':=s.toks) (fun b o hb e=>(sb.2 b hb).trans e) f0 f1 f3 f4 f5
  obtain ⟨o,e,c,d⟩:=id st'
  exact ⟨u,rfl,zlm (s:={ s with heap:=h' }) e c d (by decide) ⟨x,H,I1,ru,⟨rfl,fun ys hy=>by rw [I.list_inj hy hq];exact hx⟩,st',fun b hb=>(hf b hb).1⟩⟩
 done:=by
  intro X hP hw hK hc i pins s σ H E I hf st hg
  subst hP hw hK
  obtain ⟨xs,hq,hx⟩:=hg
  obtain ⟨its,rv,p,hz⟩:=I.list hq
  obtain ⟨f0,f1,f2,f3,f4,f5⟩:=hf it (by simp)
  have hl:=rv.length
  exact wpAny_pyNext_list_end (I.ok.hd hc) st p.isList (by simp;omega) fun h' eb=>⟨rfl,I.turned (t':=s.toks) (fun b o hb e=>eb b o hb e) f0 f1 f3 f4 f5⟩
 self:=fun _ _ _ _ _ st h=>wpAny_pyIter_listiter st h
theorem zgu {P:Program} {w:World} {K:PySem.W.Frag} {tg:Expr} (a it:Addr):Turn P w K tg (Itt K a) [it] it (fun i h=>h.IsTupleIter it a i) where
 mem:=by simp
 obj:=fun i h st b hb=>by
  have e:b=it:=by simpa using hb
  subst e
  obtain ⟨o,e,c,d⟩:=st
  exact ⟨o,e,fun v z=>by rw [d] at z;cases z⟩
 keep:=fun i h h' st k=>st.at fun o e=>k it (by simp) o e
 item:=by
  intro X hP hw hK hc i pins s σ H E I hf st hg
  subst hP hw hK
  obtain ⟨xs,x,hq,hx⟩:=hg
  obtain ⟨its,rv,p,hz⟩:=I.tuple hq
  obtain ⟨u,hu,ru⟩:=rv.get hx
  obtain ⟨f0,f1,f2,f3,f4,f5⟩:=hf it (by simp)
  refine wpAny_pyNext_tuple_item st (show s.heap.IsTuple a its.toArray from p) (x:=u) (by simpa using hu) fun h' st' sb=>?_
  have I1:Inv X pins σ H { s with heap:=h' }:=I.turned (t':=s.toks) (fun b o hb e=>(sb.2 b hb).trans e) f0 f1 f3 f4 f5
  obtain ⟨o,e,c,d⟩:=id st'
  exact ⟨u,rfl,zlm (s:={ s with heap:=h' }) e c d (by decide) ⟨x,H,I1,ru,⟨rfl,fun ys hy=>by rw [I.tuple_inj hy hq];exact hx⟩,st',fun b hb=>(hf b hb).1⟩⟩
 done:=by
  intro X hP hw hK hc i pins s σ H E I hf st hg
  subst hP hw hK
  obtain ⟨xs,hq,hx⟩:=hg
  obtain ⟨its,rv,p,hz⟩:=I.tuple hq
  obtain ⟨f0,f1,f2,f3,f4,f5⟩:=hf it (by simp)
  have hl:=rv.length
  exact wpAny_pyNext_tuple_end (I.ok.hd hc) st (show s.heap.IsTuple a its.toArray from p) (by simp;omega) fun h' eb=>⟨rfl,I.turned (t':=s.toks) (fun b o hb e=>eb b o hb e) f0 f1 f3 f4 f5⟩
 self:=fun _ _ _ _ _ st h=>wpAny_pyIter_tupleiter st h
theorem zgv {P:Program} {w:World} {K:PySem.W.Frag} {tg:Expr} (it:Addr) (lo:Int) (n:Nat):Turn P w K tg (Itr lo n) [it] it (fun i h=>IsRangeIter h it (lo+(i:Nat) * 1) ((n:Int) - (i:Nat)) 1) where
 mem:=by simp
 obj:=fun i h st b hb=>by
  have e:b=it:=by simpa using hb
  subst e
  exact ⟨_,st,fun v z=>by
   have z':Data.fields _=Data.cell v:=z
   cases z'⟩
 keep:=fun i h h' st k=>k it (by simp) _ st
 item:=by
  intro X hP hw hK hc i pins s σ H E I hf st hg
  subst hP hw hK
  obtain ⟨f0,f1,f2,f3,f4,f5⟩:=hf it (by simp)
  have W:=Walks.range (prog:=X.prog) (w:=X.w) (I.ok.hd hc) it lo 1 n
  refine W.item i s _ _ hg st fun v h' tk hv st' kk=>?_
  obtain ⟨t,rfl⟩:=hv
  have I1:Inv X pins σ H { s with heap:=h',toks:=tk }:=I.turned (fun b o hb e=>kk b o (by simpa using hb) e) f0 f1 f3 f4 f5
  refine ⟨_,rfl,zlm (s:={ s with heap:=h',toks:=tk }) (n := "range_iterator") st' rfl rfl (by decide) ⟨.int (lo+i),H,I1,⟨t,?_⟩,⟨rfl,rfl⟩,st',fun b hb=>(hf b hb).1⟩⟩
  rw [Int.mul_one]
 done:=by
  intro X hP hw hK hc i pins s σ H E I hf st hg
  subst hP hw hK
  obtain ⟨f0,f1,f2,f3,f4,f5⟩:=hf it (by simp)
  exact wpAny_pyNext_range_end (I.ok.hd hc) st (by have:n≤i:=hg;omega) fun h' eb=>⟨rfl,I.turned (t':=s.toks) (fun b o hb e=>eb b o hb e) f0 f1 f3 f4 f5⟩
 self:=fun _ _ _ _ _ st h=>wpAny_pyIter_rangeiter st h
end L2
namespace L2
open PySem PySem.Spec PyProof.Rows
section
variable {X:Cx} {tg:Expr}
def iList (K:PySem.W.Frag) (tl:TE):TI:=fun σ H R=>tl σ H fun x H1=>∃ a,x = .ref a∧(∃ xs,SqL K H1 a xs)∧R (Itl K a) H1
def iTup (K:PySem.W.Frag) (tl:TE):TI:=fun σ H R=>tl σ H fun x H1=>∃ a,x = .ref a∧(∃ xs,SqT K H1 a xs)∧R (Itt K a) H1
theorem zdd {l:Expr} {tl:TE} (hl:PE X l tl):PI X tg l (iList X.K tl):=by
 intro pins s σ H R I h
 refine thn (hl pins s σ H _ I h) fun v s1 ⟨x,H1,I1,r1,q1⟩=>?_
 obtain ⟨a,e,⟨xs,hq⟩,q⟩:=q1
 subst e
 cases r1
 obtain ⟨its,rv,p,hz⟩:=I1.list hq
 refine wpAny_pyIter_list p.isList ?_
 refine ⟨s1.heap.objs.size,[s1.heap.objs.size],_,_,H1,rfl,I1.kept (t':=s1.toks) fun b o e=>Heap.get?_push_of_some _ e,zhf a _,⟨_,Heap.get?_push_size _ rfl,rfl,rfl⟩,fun b hb=>?_,q⟩
 have e:b=s1.heap.objs.size:=by simpa using hb
 subst e
 exact I1.fpOk (Nat.le_refl _) (I1.hok.fresh (Nat.le_refl _))
theorem zf8 {l:Expr} {tl:TE} (hl:PE X l tl):PI X tg l (iTup X.K tl):=by
 intro pins s σ H R I h
 refine thn (hl pins s σ H _ I h) fun v s1 ⟨x,H1,I1,r1,q1⟩=>?_
 obtain ⟨a,e,⟨xs,hq⟩,q⟩:=q1
 subst e
 cases r1
 obtain ⟨its,rv,p,hz⟩:=I1.tuple hq
 refine wpAny_pyIter_tuple (show s1.heap.IsTuple a its.toArray from p) ?_
 refine ⟨s1.heap.objs.size,[s1.heap.objs.size],_,_,H1,rfl,I1.kept (t':=s1.toks) fun b o e=>Heap.get?_push_of_some _ e,zgu a _,⟨_,Heap.get?_push_size _ rfl,rfl,rfl⟩,fun b hb=>?_,q⟩
 have e:b=s1.heap.objs.size:=by simpa using hb
 subst e
 exact I1.fpOk (Nat.le_refl _) (I1.hok.fresh (Nat.le_refl _))
theorem zja {pins:List (Addr×Obj)} {σ:St} {H:Hp} {s:Shared} {R:It→Hp→Prop} {E:Value→Shared→Prop} {lo hi:Int} {t u v:Tok} {tk:Nat} (I:Inv X pins σ H s) (h1:-(2 ^ 62)≤lo) (h2:lo<2 ^ 62) (h3:-(2 ^ 62)≤hi) (h4:hi<2 ^ 62)
  (q:R (Itr lo (hi - lo).toNat) H):wpAny (model X.prog X.w) X.A (pyIter (.ref s.heap.objs.size)) (PIE X pins σ tg R) E { s with heap:=s.heap.push { cls:=.type "range",data:=.fields #[.int lo t,.int hi u,.int 1 v] },toks:=tk }:=by
 refine wpAny_pyIter_range (IsRange.new ..) (small_one h1 h2 h3 h4) ?_
 have I1:Inv X pins σ H { s with heap:=s.heap.push { cls:=.type "range",data:=.fields #[.int lo t,.int hi u,.int 1 v] },toks:=tk }:=I.kept fun b o e=>Heap.get?_push_of_some _ e
 refine ⟨(s.heap.push { cls:=.type "range",data:=.fields #[.int lo t,.int hi u,.int 1 v] }).objs.size,[(s.heap.push { cls:=.type "range",data:=.fields #[.int lo t,.int hi u,.int 1 v] }).objs.size],_,_,H,rfl,
  I1.kept (t':=tk) fun b o e=>Heap.get?_push_of_some _ e,zgv _ lo (hi - lo).toNat,?_,fun b hb=>?_,q⟩
 ·have e1:lo+((0:Nat):Int) * 1=lo:=by simp
  have e2:(((hi - lo).toNat:Nat):Int) - ((0:Nat):Int)=Builtin.Range.rangeSize lo hi 1:=by rw [rangeSize_one];split <;> omega
  show IsRangeIter _ _ (lo+((0:Nat):Int) * 1) ((((hi - lo).toNat:Nat):Int) - ((0:Nat):Int)) 1
  rw [e1,e2]
  exact Heap.get?_push_size _ rfl
 ·have e:b=(s.heap.push { cls:=.type "range",data:=.fields #[.int lo t,.int hi u,.int 1 v] }).objs.size:=by simpa using hb
  subst e
  exact I1.fpOk (Nat.le_refl _) (I1.hok.fresh (Nat.le_refl _))
def iRng1 (ta:TA):TI:=fun σ H R=>ta σ H fun vs H1=>∃ j:Int,vs=[.int j]∧-(2 ^ 62)≤j∧j<2 ^ 62∧R (Itr 0 j.toNat) H1
theorem zaH {a:Expr} {ta:TA} {p pos:Pos} (hg:Gl X "range") (hm:X.mg "range" = none) (ha:PA X [a] ta) (hs:starEach [a] X.env=[(false,eval a X.env)]:=by rfl):PI X tg (.Call (.Name "range" p) [a] [] pos) (iRng1 ta):=by
 intro pins s σ H R I h
 refine Call_ (zdn I hg hm boot_range (PyProof.Rows.callWith_type1 (thn (ha pos pins s σ H _ I h) fun us s1 ⟨vs,H1,I1,r1,q1⟩=>?_) hs rfl))
 obtain ⟨j,e,q1,q2,q⟩:=q1
 subst e
 cases r1 with
 | cons r rr =>
  cases rr
  obtain ⟨t,rfl⟩:=r
  exact call_range_1 (zja I1 (by omega) (by omega) q1 q2 (by simpa using q))
def tFor (wi:TI) (g:TG) (tb:TS):TS:=fun D σ H=>wi σ H fun J H1=>∃ W:Nat→Nat→St→Hp→Prop,(∃ m,W 0 m σ H1)∧∀ i m σ H,W i m σ H →
 (J.stop i H∧D.nx σ H)∨(J.go i H∧∃ N:St→Hp→Prop,(∀ σ' H',N σ' H'→∃ m',m'<m∧W (i+1) m' σ' H')∧∀ x H',J.yld i H x H'→g x σ H' fun σ2 H2=>tb { D with nx:=N,ct:=N,bk:=D.nx } σ2 H2)
def zdF (fp:List Addr) (h:Heap):List (Addr×Obj):=fp.filterMap fun b=>(h.get? b).map fun o=>(b,o)
theorem zaU {fp:List Addr} {h:Heap} {b:Addr} {o:Obj} (hb:b∈fp) (e:h.get? b=some o):(b,o)∈zdF fp h:=List.mem_filterMap.mpr ⟨b,hb,by rw [e];rfl⟩
theorem zh0 {fp:List Addr} {h:Heap} {p:Addr×Obj} (hp:p∈zdF fp h):p.1∈fp∧h.get? p.1=some p.2:=by
 obtain ⟨b,hb,e⟩:=List.mem_filterMap.mp hp
 cases q:h.get? b with
 | none=>rw [q] at e;cases e
 | some o =>
  rw [q] at e
  have e':(b,o)=p:=Option.some.inj e
  subst e'
  exact ⟨hb,q⟩
theorem Inv.pinned {pins:List (Addr×Obj)} {σ:St} {H:Hp} {s:Shared} {fp:List Addr} (I:Inv X pins σ H s) (hf:∀ b∈fp,FpOk X pins H b) (ho:∀ b∈fp,∃ o,s.heap.get? b=some o∧∀ v,o.data≠.cell v):Inv X (pins ++ zdF fp s.heap) σ H s:=
 I.pins_of fun p hp=>(List.mem_append.mp hp).elim (fun z=>I.pin p (List.mem_append_right _ z)) fun z=>by
  obtain ⟨hb,e⟩:=zh0 z
  obtain ⟨f0,f1,f2,_⟩:=hf p.1 hb
  obtain ⟨o,e',d⟩:=ho p.1 hb
  rw [e] at e';cases e'
  exact ⟨e,f0,f1,f2,d⟩
theorem Inv.unpinned {pins pl:List (Addr×Obj)} {σ:St} {H:Hp} {s:Shared} (I:Inv X (pins ++ pl) σ H s):Inv X pins σ H s:=I.pins_of fun p hp=>I.pin p (List.mem_append_right _ (List.mem_append_left _ hp))
theorem zaS {iter:Expr} {body:List Stmt} {wi:TI} {g:TG} {tb:TS} {pos:Pos} (hp:PassesOwn (model X.prog X.w) X.A X.env X.xe) (hc:X.calm=true) (hi:PI X tg iter wi) (hg:PG X tg g) (hb:PSs X body tb)
  (hs:∀ x,foldedSetIterable iter X.env x=pure x:=by intro _;rfl):PS X (.For tg iter body [] pos) (tFor wi g tb):=by
 intro pins s σ H D I h
 refine wpAny_For (thn (hi pins s σ H _ I h) fun v s1 h1=>thn h1 fun itv s2 h2=>?_) hs
 obtain ⟨it,fp,tn,J,H2,e,I2,T,st2,f2,W,⟨m0,w0⟩,turn⟩:=h2
 subst e
 
 have stat:∀ {H':Hp},(∀ b∈fp,H' b=none)→∀ b∈fp,FpOk X pins H' b:=fun hn b hb=>⟨hn b hb,(f2 b hb).2⟩
 refine codeAny_forLoop_any (fun n s'=>∃ i σ' H',Inv X pins σ' H' s'∧tn i s'.heap∧(∀ b∈fp,H' b=none)∧W i n σ' H') ?_ m0 ⟨0,σ,H2,I2,st2,fun b hb=>(f2 b hb).1,w0⟩
 rintro n s3 ⟨i,σ3,H3,I3,st3,fr3,w3⟩
 rcases turn i n σ3 H3 w3 with ⟨stop,qn⟩ | ⟨go,N,hN,step⟩
 ·refine wpAny_passesOwn hp (thn (T.done X rfl rfl rfl hc i pins s3 σ3 H3 X.xe I3 (stat fr3) st3 stop) fun r s4 ⟨hr,I4⟩=>?_)
  subst hr
  exact wpAny_execs_nil ⟨σ3,H3,I4,qn⟩
 ·refine wpAny_passesOwn hp (thn (T.item X rfl rfl rfl hc i pins s3 σ3 H3 X.xe I3 (stat fr3) st3 go) fun r s4 ⟨u,hr,h4⟩=>?_)
  subst hr
  refine wpAny_passesOwn hp (thn h4 fun _ s5 ⟨x,H5,I5,r5,y5,st5,fr5⟩=>?_)
  have I5':=I5.pinned (stat fr5) (T.obj _ _ st5)
  refine wpAny_passesOwn hp (thn (hg _ s5 σ3 H5 x u _ I5' r5 (step x H5 y5)) fun _ s6 ⟨σ6,H6,I6,q6⟩=>?_)
  refine wpAny_passesOwn hp (thn (hb _ s6 σ6 H6 _ I6 q6) fun f s7 q7=>?_)
  have again:∀ {σ7:St} {H7:Hp},Inv X (pins ++ zdF fp s5.heap) σ7 H7 s7→N σ7 H7→∃ m,m<n∧∃ i σ' H',Inv X pins σ' H' s7∧tn i s7.heap∧(∀ b∈fp,H' b=none)∧W i m σ' H':=fun {σ7 H7} I7 n7=>by
   obtain ⟨m',hm,w7⟩:=hN σ7 H7 n7
   refine ⟨m',hm,i+1,σ7,H7,I7.unpinned,T.keep _ _ _ st5 fun b hb o e=>(I7.pin (b,o) (List.mem_append_right _ (List.mem_append_right _ (zaU hb e)))).1,fun b hb=>?_,w7⟩
   obtain ⟨o,e,d⟩:=T.obj _ _ st5 b hb
   exact (I7.pin (b,o) (List.mem_append_right _ (List.mem_append_right _ (zaU hb e)))).2.1
  cases f with
  | next=>obtain ⟨σ7,H7,I7,n7⟩:=q7;exact again I7 n7
  | cont=>obtain ⟨σ7,H7,I7,n7⟩:=q7;exact again I7 n7
  | brk=>obtain ⟨σ7,H7,I7,q7⟩:=q7;exact ⟨σ7,H7,I7.unpinned,q7⟩
  | ret v=>obtain ⟨x7,σ7,H7,I7,r7,q7⟩:=q7;exact ⟨x7,σ7,H7,I7.unpinned,r7,q7⟩
end
theorem zcS {K:PySem.W.Frag} {a:Addr} {xs:List V} {g:TG} {tb:TS} {D:Ends} {σ:St} {H:Hp} (Pv:Nat→St→Hp→Prop) (h0:Pv 0 σ H) (hl:∀ i σ H,i≤xs.length→Pv i σ H→SqL K H a xs)
  (hs:∀ i x σ H,xs[i]? = some x→Pv i σ H→g x σ H fun σ2 H2=>tb { D with nx:=Pv (i+1),ct:=Pv (i+1),bk:=D.nx } σ2 H2) (hd:∀ σ H,Pv xs.length σ H→D.nx σ H) :
  ∃ W:Nat→Nat→St→Hp→Prop,(∃ m,W 0 m σ H)∧∀ i m σ H,W i m σ H →
   ((Itl K a).stop i H∧D.nx σ H)∨((Itl K a).go i H∧∃ N:St→Hp→Prop,(∀ σ' H',N σ' H'→∃ m',m'<m∧W (i+1) m' σ' H')∧∀ x H',(Itl K a).yld i H x H'→g x σ H' fun σ2 H2=>tb { D with nx:=N,ct:=N,bk:=D.nx } σ2 H2):=by
 refine ⟨fun i m σ H=>m=xs.length - i∧i≤xs.length∧Pv i σ H,⟨xs.length,by simp,Nat.zero_le _,h0⟩,?_⟩
 rintro i m σ H ⟨rfl,hi,p⟩
 have q:=hl i σ H hi p
 by_cases hlt:i<xs.length
 ·refine .inr ⟨⟨xs,xs[i],q,by simp [hlt]⟩,Pv (i+1),fun σ' H' p'=>⟨xs.length - (i+1),by omega,rfl,hlt,p'⟩,fun x H' y=>?_⟩
  obtain ⟨e,y⟩:=y
  subst e
  exact hs i x σ _ (y xs q) p
 ·have e:i=xs.length:=by omega
  subst e
  exact .inl ⟨⟨xs,q,Nat.le_refl _⟩,hd σ H p⟩
theorem zlr {K:PySem.W.Frag} {a:Addr} {xs:List V} {g:TG} {tb:TS} {D:Ends} {σ:St} {H:Hp} (Pv:Nat→St→Hp→Prop) (h0:Pv 0 σ H) (hl:∀ i σ H,i≤xs.length→Pv i σ H→SqT K H a xs)
  (hs:∀ i x σ H,xs[i]? = some x→Pv i σ H→g x σ H fun σ2 H2=>tb { D with nx:=Pv (i+1),ct:=Pv (i+1),bk:=D.nx } σ2 H2) (hd:∀ σ H,Pv xs.length σ H→D.nx σ H) :
  ∃ W:Nat→Nat→St→Hp→Prop,(∃ m,W 0 m σ H)∧∀ i m σ H,W i m σ H →
   ((Itt K a).stop i H∧D.nx σ H)∨((Itt K a).go i H∧∃ N:St→Hp→Prop,(∀ σ' H',N σ' H'→∃ m',m'<m∧W (i+1) m' σ' H')∧∀ x H',(Itt K a).yld i H x H'→g x σ H' fun σ2 H2=>tb { D with nx:=N,ct:=N,bk:=D.nx } σ2 H2):=by
 refine ⟨fun i m σ H=>m=xs.length - i∧i≤xs.length∧Pv i σ H,⟨xs.length,by simp,Nat.zero_le _,h0⟩,?_⟩
 rintro i m σ H ⟨rfl,hi,p⟩
 have q:=hl i σ H hi p
 by_cases hlt:i<xs.length
 ·refine .inr ⟨⟨xs,xs[i],q,by simp [hlt]⟩,Pv (i+1),fun σ' H' p'=>⟨xs.length - (i+1),by omega,rfl,hlt,p'⟩,fun x H' y=>?_⟩
  obtain ⟨e,y⟩:=y
  subst e
  exact hs i x σ _ (y xs q) p
 ·have e:i=xs.length:=by omega
  subst e
  exact .inl ⟨⟨xs,q,Nat.le_refl _⟩,hd σ H p⟩
theorem za2 {lo:Int} {n:Nat} {g:TG} {tb:TS} {D:Ends} {σ:St} {H:Hp} (Pv:Nat→St→Hp→Prop) (h0:Pv 0 σ H)
  (hs:∀ i σ H,i<n→Pv i σ H→g (.int (lo+i)) σ H fun σ2 H2=>tb { D with nx:=Pv (i+1),ct:=Pv (i+1),bk:=D.nx } σ2 H2) (hd:∀ σ H,Pv n σ H→D.nx σ H) :
  ∃ W:Nat→Nat→St→Hp→Prop,(∃ m,W 0 m σ H)∧∀ i m σ H,W i m σ H →
   ((Itr lo n).stop i H∧D.nx σ H)∨((Itr lo n).go i H∧∃ N:St→Hp→Prop,(∀ σ' H',N σ' H'→∃ m',m'<m∧W (i+1) m' σ' H')∧∀ x H',(Itr lo n).yld i H x H'→g x σ H' fun σ2 H2=>tb { D with nx:=N,ct:=N,bk:=D.nx } σ2 H2):=by
 refine ⟨fun i m σ H=>m=n - i∧i≤n∧Pv i σ H,⟨n,by simp,Nat.zero_le _,h0⟩,?_⟩
 rintro i m σ H ⟨rfl,hi,p⟩
 by_cases hlt:i<n
 ·refine .inr ⟨hlt,Pv (i+1),fun σ' H' p'=>⟨n - (i+1),by omega,rfl,hlt,p'⟩,fun x H' y=>?_⟩
  obtain ⟨e,y⟩:=y
  subst e y
  exact hs i σ _ hlt p
 ·have e:i=n:=by omega
  subst e
  exact .inl ⟨Nat.le_refl _,hd σ H p⟩
theorem ziU {c:TT} {tb:TS} {D:Ends} {σ:St} {H:Hp} (Pv:St→Hp→Prop) (μ:St→Hp→Nat) (h0:Pv σ H)
  (hs:∀ σ H,Pv σ H→c σ H fun b H1=>if b=true then tb { D with nx:=fun σ' H'=>Pv σ' H'∧μ σ' H'<μ σ H,ct:=fun σ' H'=>Pv σ' H'∧μ σ' H'<μ σ H,bk:=D.nx } σ H1 else D.nx σ H1)
  (mono:∀ σ H Q Q',(∀ b H1,Q b H1→Q' b H1)→c σ H Q→c σ H Q'):zjW c tb D σ H:=by
 refine ⟨fun m σ H=>m=μ σ H∧Pv σ H,⟨_,rfl,h0⟩,?_⟩
 rintro m σ H ⟨rfl,p⟩
 refine mono σ H _ _ (fun b H1 q=>?_) (hs σ H p)
 cases b with
 | true=>exact ⟨_,fun σ' H' ⟨p',l⟩=>⟨_,l,rfl,p'⟩,q⟩
 | false=>exact q
end L2
namespace L2
open PySem PySem.Spec PyProof.Rows
abbrev R2:=V→V→Hp→VK→Prop
def OpR (X:Cx) (f:Value→Value→Sem Value) (r:R2):Prop:=
 ∀ (pins:List (Addr×Obj)) (s:Shared) (σ:St) (H:Hp) (x y:V) (v u:Value) (Q:VK),Inv X pins σ H s→RelV x v→RelV y u→r x y H Q →
  wpAny (model X.prog X.w) X.A (f v u) (EP X pins σ Q) X.xe s
def UnR (X:Cx) (f:Value→Sem Value) (r:V→Hp→VK→Prop):Prop:=
 ∀ (pins:List (Addr×Obj)) (s:Shared) (σ:St) (H:Hp) (x:V) (v:Value) (Q:VK),Inv X pins σ H s→RelV x v→r x H Q →
  wpAny (model X.prog X.w) X.A (f v) (EP X pins σ Q) X.xe s
def zbY (X:Cx) (f:Value) (r:List V→Hp→VK→Prop):Prop:=
 ∀ (pins:List (Addr×Obj)) (s:Shared) (σ:St) (H:Hp) (xs:List V) (us:List Value) (Q:VK),Inv X pins σ H s→Vals xs us→r xs H Q →
  wpAny (model X.prog X.w) X.A (call f us) (EP X pins σ Q) X.xe s
def TruR (X:Cx) (r:V→Hp→(Bool→Hp→Prop)→Prop):Prop:=
 ∀ (pins:List (Addr×Obj)) (s:Shared) (σ:St) (H:Hp) (x:V) (v:Value) (Q:Bool→Hp→Prop),Inv X pins σ H s→RelV x v→r x H Q →
  wpAny (model X.prog X.w) X.A (truthy v) (TP X pins σ Q) X.xe s
def tOp (r:R2) (ta tb:TE):TE:=fun σ H Q=>ta σ H fun x H1=>tb σ H1 fun y H2=>r x y H2 Q
def tUn (r:V→Hp→VK→Prop) (ta:TE):TE:=fun σ H Q=>ta σ H fun x H1=>r x H1 Q
def rI (C:Int→Int→Prop) (g:Int→Int→V):R2:=fun x y H Q=>∃ i j,x = .int i∧y = .int j∧C i j∧Q (g i j) H
def rI0 (g:Int→Int→V):R2:=fun x y H Q=>∃ i j,x = .int i∧y = .int j∧Q (g i j) H
def rU (g:Int→V):V→Hp→VK→Prop:=fun x H Q=>∃ i,x = .int i∧Q (g i) H
section
variable {X:Cx} {a b c:Expr} {ta tb tc:TE} {pos:Pos}
theorem binT (ha:PE X a ta) (hb:PE X b tb) {pins:List (Addr×Obj)} {s:Shared} {σ:St} {H:Hp} {R:V→V→Hp→Prop} (I:Inv X pins σ H s)
  (h:ta σ H fun x H1=>tb σ H1 fun y H2=>R x y H2) {Q:Value→Shared→Prop} {f:Value→Value→Sem Value}
  (hf:∀ v u s2 x y H2,Inv X pins σ H2 s2→RelV x v→RelV y u→R x y H2→wpAny (model X.prog X.w) X.A (f v u) Q X.xe s2) :
  wpAny (model X.prog X.w) X.A (eval a X.env) (fun v s₁=>wpAny (model X.prog X.w) X.A (eval b X.env) (fun u s₂=>wpAny (model X.prog X.w) X.A (f v u) Q X.xe s₂) X.xe s₁) X.xe s:=by
 refine thn (ha pins s σ H _ I h) fun v s1 ⟨x,H1,I1,r1,q1⟩=>?_
 refine thn (hb pins s1 σ H1 _ I1 q1) fun u s2 ⟨y,H2,I2,r2,q2⟩=>?_
 exact hf v u s2 x y H2 I2 r1 r2 q2
theorem zar {op:Operator} {r:R2} (ho:OpR X (binaryOp op) r) (ha:PE X a ta) (hb:PE X b tb):PE X (.BinOp a op b pos) (tOp r ta tb):=by
 intro pins s σ H Q I h
 exact wpAny_BinOp (binT ha hb I h fun v u s2 x y H2 I2 rx ry q=>ho pins s2 σ H2 x y v u Q I2 rx ry q)
theorem zkV {op:UnaryOp} {r:V→Hp→VK→Prop} (ho:UnR X (unaryOp op) r) (ha:PE X a ta):PE X (.UnaryOp op a pos) (tUn r ta):=by
 intro pins s σ H Q I h
 exact UnaryOp_ (thn (ha pins s σ H _ I h) fun v s1 ⟨x,H1,I1,r1,q1⟩=>ho pins s1 σ H1 x v Q I1 r1 q1)
theorem opI {f:Value→Value→Sem Value} {C:Int→Int→Prop} {g:Int→Int→Int}
  (rule:∀ (i j:Int) (t u:Tok) (s:Shared) (Q:Value→Shared→Prop) (E:Value→Shared→Prop),C i j→Q (.int (g i j) s.toks) { s with toks:=s.toks+1 }→wpAny (model X.prog X.w) X.A (f (.int i t) (.int j u)) Q E s) :
  OpR X f (rI C fun i j=>.int (g i j)):=by
 intro pins s σ H x y v u Q I rx ry h
 obtain ⟨i,j,rfl,rfl,hc,q⟩:=h
 obtain ⟨t,rfl⟩:=rx
 obtain ⟨t',rfl⟩:=ry
 exact rule i j t t' s _ _ hc ⟨.int (g i j),H,I.tok _,⟨_,rfl⟩,q⟩
theorem opI0 {f:Value→Value→Sem Value} {g:Int→Int→Int}
  (rule:∀ (i j:Int) (t u:Tok) (s:Shared) (Q:Value→Shared→Prop) (E:Value→Shared→Prop),Q (.int (g i j) s.toks) { s with toks:=s.toks+1 }→wpAny (model X.prog X.w) X.A (f (.int i t) (.int j u)) Q E s) :
  OpR X f (rI0 fun i j=>.int (g i j)):=by
 intro pins s σ H x y v u Q I rx ry h
 obtain ⟨i,j,rfl,rfl,q⟩:=h
 obtain ⟨t,rfl⟩:=rx
 obtain ⟨t',rfl⟩:=ry
 exact rule i j t t' s _ _ ⟨.int (g i j),H,I.tok _,⟨_,rfl⟩,q⟩
theorem opB0 {f:Value→Value→Sem Value} {g:Int→Int→Bool}
  (rule:∀ (i j:Int) (t u:Tok) (s:Shared) (Q:Value→Shared→Prop) (E:Value→Shared→Prop),Q (.bool (g i j)) s→wpAny (model X.prog X.w) X.A (f (.int i t) (.int j u)) Q E s) :
  OpR X f (rI0 fun i j=>.bl (g i j)):=by
 intro pins s σ H x y v u Q I rx ry h
 obtain ⟨i,j,rfl,rfl,q⟩:=h
 obtain ⟨t,rfl⟩:=rx
 obtain ⟨t',rfl⟩:=ry
 exact rule i j t t' s _ _ ⟨.bl (g i j),H,I,rfl,q⟩
def CPow (i j:Int):Prop:=0≤j∧j≤1000000∧i.natAbs<2 ^ 64
theorem zgt (k:Nat):(0:Int)≤2 ^ k:=by
 rw [two_pow_cast]
 exact Int.natCast_nonneg _
theorem zcA:OpR X (binaryOp .Add) (rI0 fun i j=>.int (i+j)):=opI0 fun _ _ _ _ _ _ _ q=>add_int q
theorem zdH:OpR X (binaryOp .Sub) (rI0 fun i j=>.int (i - j)):=opI0 fun _ _ _ _ _ _ _ q=>sub_int q
theorem zdf:OpR X (binaryOp .Mod) (rI (fun _ j=>0<j) fun i j=>.int (i % j)):=opI fun i j _ _ _ _ _ hc q=>by
 have h1:(0:Int)<j:=hc
 exact mod_int' (by omega) (by rw [Int.fmod_eq_emod_of_nonneg i (by omega)];exact q)
theorem op_pow:OpR X (binaryOp .Pow) (rI CPow fun i j=>.int (i ^ j.toNat)):=opI fun _ _ _ _ _ _ _ hc q=>pow_int_small hc.1 hc.2.1 hc.2.2 q
theorem zbK:OpR X (binaryOp .LShift) (rI CPow fun i j=>.int (i * 2 ^ j.toNat)):=opI fun _ _ _ _ _ _ _ hc q=>lshift_int_small hc.1 hc.2.1 hc.2.2 q
theorem op_shr:OpR X (binaryOp .RShift) (rI (fun _ j=>0≤j) fun i j=>.int (i / 2 ^ j.toNat)):=opI fun i j _ _ _ _ _ hc q =>
 rshift_int hc (by rw [Int.fdiv_eq_ediv_of_nonneg i (zgt _)];exact q)
theorem zaJ:OpR X (binaryOp .BitAnd) (rI0 fun i j=>.int (Builtin.bitAnd i j)):=opI0 fun _ _ _ _ _ _ _ q=>and_int q
theorem zhT:OpR X (binaryOp .BitOr) (rI0 fun i j=>.int (Builtin.bitOr i j)):=opI0 fun _ _ _ _ _ _ _ q=>or_int q
theorem zeE:OpR X (binaryOp .BitXor) (rI0 fun i j=>.int (Builtin.bitXor i j)):=opI0 fun _ _ _ _ _ _ _ q=>xor_int q
theorem zid:OpR X (inplaceOp .Add) (rI0 fun i j=>.int (i+j)):=opI0 fun _ _ _ _ _ _ _ q=>iadd_int q
theorem unI {f:Value→Sem Value} {g:Int→Int}
  (rule:∀ (i:Int) (t:Tok) (s:Shared) (Q:Value→Shared→Prop) (E:Value→Shared→Prop),Q (.int (g i) s.toks) { s with toks:=s.toks+1 }→wpAny (model X.prog X.w) X.A (f (.int i t)) Q E s) :
  UnR X f (rU fun i=>.int (g i)):=by
 intro pins s σ H x v Q I rx h
 obtain ⟨i,rfl,q⟩:=h
 obtain ⟨t,rfl⟩:=rx
 exact rule i t s _ _ ⟨.int (g i),H,I.tok _,⟨_,rfl⟩,q⟩
theorem zjU:UnR X (unaryOp .USub) (rU fun i=>.int (-i)):=unI fun _ _ _ _ _ q=>neg_int q
theorem un_inv:UnR X (unaryOp .Invert) (rU fun i=>.int (Builtin.bitNot i)):=unI fun _ _ _ _ _ q=>invert_int q
end
def scal:V→V→Bool
 | .non,.non=>true | .non,.int _=>true | .int _,.non=>true | .non,.bl _=>true | .bl _,.non=>true | .non,.str _=>true | .str _,.non=>true
 | .int _,.int _=>true | .bl _,.bl _=>true | .str _,.str _=>true | .byt _,.byt _=>true
 | .int _,.str _=>true | .str _,.int _=>true | .bl _,.str _=>true | .str _,.bl _=>true
 | _,_=>false
def rEq:R2:=fun x y H Q=>scal x y=true∧Q (.bl (decide (x=y))) H
def rNe:R2:=fun x y H Q=>scal x y=true∧Q (.bl (!decide (x=y))) H
theorem zio {i j:Int}:decide (V.int i=V.int j)=(i == j):=by
 rw [Bool.eq_iff_iff]
 simp
theorem zkh {i j:Bool}:decide (V.bl i=V.bl j)=(i == j):=by
 rw [Bool.eq_iff_iff]
 simp
theorem zin {i j:Str}:decide (V.str i=V.str j)=(i == j):=by
 rw [Bool.eq_iff_iff]
 simp
theorem ziq {i j:Array UInt8}:decide (V.byt i=V.byt j)=(i.toList == j.toList):=by
 rw [Bool.eq_iff_iff]
 cases i
 cases j
 simp
section
variable {X:Cx} {a b c:Expr} {ta tb tc:TE} {pos:Pos}
theorem zaC {pins:List (Addr×Obj)} {σ:St} {H:Hp} {s:Shared} {Q:VK} {k k':Bool} (I:Inv X pins σ H s) (q:Q (.bl k) H) (e:k=k'):EP X pins σ Q (.bool k') s:=by
 subst e
 exact ⟨.bl k,H,I,rfl,q⟩
theorem zcH:OpR X (compareOp .Eq) rEq:=by
 intro pins s σ H x y v u Q I rx ry h
 obtain ⟨hs,q⟩:=h
 cases x with
 | non =>
  cases rx
  cases y with
  | non=>cases ry;exact PySem.EqNone.eq_none_none (zaC I q (by simp))
  | bl j=>cases ry;exact PySem.EqNone.eq_none_bool (zaC I q (by simp))
  | int j=>obtain ⟨t',rfl⟩:=ry;exact PySem.EqNone.eq_none_int (zaC I q (by simp))
  | str j=>obtain ⟨t',rfl⟩:=ry;exact PySem.EqNone.eq_none_str (zaC I q (by simp))
  | _=>exact absurd (show false=true from hs) Bool.false_ne_true
 | bl i =>
  cases rx
  cases y with
  | non=>cases ry;exact PySem.EqNone.eq_bool_none (zaC I q (by simp))
  | bl j=>cases ry;exact eq_bool (zaC I q zkh)
  | str j=>obtain ⟨t',rfl⟩:=ry;exact PySem.EqMixed.eq_bool_str (zaC I q (by simp))
  | _=>exact absurd (show false=true from hs) Bool.false_ne_true
 | int i =>
  obtain ⟨t,rfl⟩:=rx
  cases y with
  | non=>cases ry;exact PySem.EqNone.eq_int_none (zaC I q (by simp))
  | int j=>obtain ⟨t',rfl⟩:=ry;exact eq_int (zaC I q zio)
  | str j=>obtain ⟨t',rfl⟩:=ry;exact PySem.EqMixed.eq_int_str (zaC I q (by simp))
  | _=>exact absurd (show false=true from hs) Bool.false_ne_true
 | str i =>
  obtain ⟨t,rfl⟩:=rx
  cases y with
  | non=>cases ry;exact PySem.EqNone.eq_str_none (zaC I q (by simp))
  | bl j=>cases ry;exact PySem.EqMixed.eq_str_bool (zaC I q (by simp))
  | int j=>obtain ⟨t',rfl⟩:=ry;exact PySem.EqMixed.eq_str_int (zaC I q (by simp))
  | str j=>obtain ⟨t',rfl⟩:=ry;exact eq_str (zaC I q zin)
  | _=>exact absurd (show false=true from hs) Bool.false_ne_true
 | byt i =>
  obtain ⟨t,rfl⟩:=rx
  cases y with
  | byt j=>obtain ⟨t',rfl⟩:=ry;exact PySem.W.eq_bytes (zaC I q ziq)
  | _=>exact absurd (show false=true from hs) Bool.false_ne_true
 | _=>cases y <;> exact absurd (show false=true from hs) Bool.false_ne_true
theorem zfx:OpR X (compareOp .NotEq) rNe:=by
 intro pins s σ H x y v u Q I rx ry h
 obtain ⟨hs,q⟩:=h
 cases x with
 | non =>
  cases rx
  cases y with
  | non=>cases ry;exact PySem.EqNone.ne_none_none (zaC I q (by simp))
  | bl j=>cases ry;exact PySem.EqNone.ne_none_bool (zaC I q (by simp))
  | int j=>obtain ⟨t',rfl⟩:=ry;exact PySem.EqNone.ne_none_int (zaC I q (by simp))
  | str j=>obtain ⟨t',rfl⟩:=ry;exact PySem.EqNone.ne_none_str (zaC I q (by simp))
  | _=>exact absurd (show false=true from hs) Bool.false_ne_true
 | bl i =>
  cases rx
  cases y with
  | non=>cases ry;exact PySem.EqNone.ne_bool_none (zaC I q (by simp))
  | bl j=>cases ry;exact ne_bool (zaC I q (congrArg not zkh))
  | str j=>obtain ⟨t',rfl⟩:=ry;exact PySem.EqMixed.ne_bool_str (zaC I q (by simp))
  | _=>exact absurd (show false=true from hs) Bool.false_ne_true
 | int i =>
  obtain ⟨t,rfl⟩:=rx
  cases y with
  | non=>cases ry;exact PySem.EqNone.ne_int_none (zaC I q (by simp))
  | int j=>obtain ⟨t',rfl⟩:=ry;exact ne_int (zaC I q (congrArg not zio))
  | str j=>obtain ⟨t',rfl⟩:=ry;exact PySem.EqMixed.ne_int_str (zaC I q (by simp))
  | _=>exact absurd (show false=true from hs) Bool.false_ne_true
 | str i =>
  obtain ⟨t,rfl⟩:=rx
  cases y with
  | non=>cases ry;exact PySem.EqNone.ne_str_none (zaC I q (by simp))
  | bl j=>cases ry;exact PySem.EqMixed.ne_str_bool (zaC I q (by simp))
  | int j=>obtain ⟨t',rfl⟩:=ry;exact PySem.EqMixed.ne_str_int (zaC I q (by simp))
  | str j=>obtain ⟨t',rfl⟩:=ry;exact ne_str (zaC I q (congrArg not zin))
  | _=>exact absurd (show false=true from hs) Bool.false_ne_true
 | byt i =>
  obtain ⟨t,rfl⟩:=rx
  cases y with
  | byt j=>obtain ⟨t',rfl⟩:=ry;exact PySem.W.ne_bytes (zaC I q (congrArg not ziq))
  | _=>exact absurd (show false=true from hs) Bool.false_ne_true
 | _=>cases y <;> exact absurd (show false=true from hs) Bool.false_ne_true
theorem zgF:OpR X (compareOp .Lt) (rI0 fun i j=>.bl (decide (i<j))):=opB0 fun _ _ _ _ _ _ _ q=>lt_int q
theorem op_le:OpR X (compareOp .LtE) (rI0 fun i j=>.bl (decide (i≤j))):=opB0 fun _ _ _ _ _ _ _ q=>le_int q
theorem zjk:OpR X (compareOp .Gt) (rI0 fun i j=>.bl (decide (j<i))):=opB0 fun _ _ _ _ _ _ _ q=>gt_int q
theorem op_ge:OpR X (compareOp .GtE) (rI0 fun i j=>.bl (decide (j≤i))):=opB0 fun _ _ _ _ _ _ _ q=>ge_int q
theorem zay (b:Expr) {op:CmpOp} (h:op≠.In:=by decide) (h2:op≠.NotIn:=by decide):behindInMarks op b=false:=by
 have e1:(op == CmpOp.In)=false:=by cases op <;> first | rfl | exact absurd rfl h
 have e2:(op == CmpOp.NotIn)=false:=by cases op <;> first | rfl | exact absurd rfl h2
 cases b <;> simp [behindInMarks,e1,e2]
theorem zaR {op:CmpOp} {r:R2} (ho:OpR X (compareOp op) r) (ha:PE X a ta) (hb:PE X b tb) (hm:behindInMarks op b=false):PE X (.Compare a [op] [b] pos) (tOp r ta tb):=by
 intro pins s σ H Q I h
 exact wpAny_Compare1 (binT ha hb I h fun v u s2 x y H2 I2 rx ry q=>ho pins s2 σ H2 x y v u Q I2 rx ry q) hm
def tTest (t:TE):TT:=fun σ H Q=>t σ H fun x H'=>∃ k,x = .bl k∧Q k H'
theorem zaA {op:CmpOp} {r:R2} (ho:OpR X (compareOp op) r) (ha:PE X a ta) (hb:PE X b tb) (hm:behindInMarks op b=false):PT X (.Compare a [op] [b] pos) (tTest (tOp r ta tb)):=by
 intro pins s σ H Q I h
 refine wpAny_isTrue_Compare1 (thn (ha pins s σ H _ I h) fun v s1 ⟨x,H1,I1,r1,q1⟩=>thn (hb pins s1 σ H1 _ I1 q1) fun u s2 ⟨y,H2,I2,r2,q2⟩ =>
  thn (ho pins s2 σ H2 x y v u _ I2 r1 r2 q2) fun c s3 ⟨z,H3,I3,r3,k,e,q3⟩=>?_) hm
 subst e
 cases r3
 exact wpAny_truthy_bool ⟨H3,I3,q3⟩
def tChain (r r':R2) (ta tb tc:TE):TE:=fun σ H Q=>ta σ H fun x H1=>tb σ H1 fun y H2=>r x y H2 fun z H3=>∃ k,z = .bl k ∧
 (if k=true then tc σ H3 fun w' H4=>r' y w' H4 Q else Q (.bl false) H3)
theorem zjh {op op':CmpOp} {r r':R2} (ho:OpR X (compareOp op) r) (ho':OpR X (compareOp op') r') (ha:PE X a ta) (hb:PE X b tb) (hc:PE X c tc)
  (hm:lastMarks [op,op'] [b,c]=false:=by with_unfolding_all rfl):PE X (.Compare a [op,op'] [b,c] pos) (tChain r r' ta tb tc):=by
 intro pins s σ H Q I h
 refine Compare_chain (thn (ha pins s σ H _ I h) fun v s1 ⟨x,H1,I1,r1,q1⟩=>chain_link (thn (hb pins s1 σ H1 _ I1 q1) fun u s2 ⟨y,H2,I2,r2,q2⟩ =>
  thn (ho pins s2 σ H2 x y v u _ I2 r1 r2 q2) fun d s3 ⟨z,H3,I3,r3,k,e,q3⟩=>?_)) hm
 subst e
 cases r3
 refine wpAny_truthy_bool ?_
 cases k with
 | false=>exact ite_ff ⟨.bl false,H3,I3,rfl,q3⟩
 | true=>exact ite_tt (chain_last (thn (hc pins s3 σ H3 _ I3 q3) fun w' s4 ⟨z',H4,I4,r4,q4⟩=>ho' pins s4 σ H4 y z' u w' Q I4 r2 r4 q4))
def TruV (K:PySem.W.Frag) (x:V) (H:Hp) (k:Bool):Prop:=
 match x with
 | .non=>k=false
 | .bl b=>k=b
 | .int i=>k=(i != 0)
 | .str y=>y.length≤sizeLine∧k=((y.length:Int) != 0)
 | .byt y=>y.size≤sizeLine∧k=((y.size:Int) != 0)
 | .ref p=>(∃ xs,SqL K H p xs∧k = !xs.isEmpty)∨(∃ xs,SqT K H p xs∧k = !xs.isEmpty)∨∃ kvs,H p=some (.dK kvs)∧k = !kvs.isEmpty
 | _=>False
theorem zgS {κ:Type} {kvs:List (κ×V)} {vs:List (κ×Value)} (r:KV kvs vs):(!vs.isEmpty) = !kvs.isEmpty:=by
 cases r <;> rfl
theorem zdL {xs:List V} {its:List Value} (r:Vals xs its):(!its.toArray.isEmpty) = !xs.isEmpty:=by
 cases r <;> simp
theorem zdK:(sizeLine:Nat)<2 ^ 63:=by rw [sizeLine_eq];decide
theorem tru_ok:TruR X (fun x H Q=>∃ k,TruV X.K x H k∧Q k H):=by
 intro pins s σ H x v Q I rx h
 obtain ⟨k,e,q⟩:=h
 have hl:=zdK
 have hs:sizeLine=16777216:=sizeLine_eq
 cases x with
 | non =>
  cases rx
  have e':k=false:=e
  subst e'
  exact truthy_none ⟨H,I,q⟩
 | bl b =>
  cases rx
  have e':k=b:=e
  subst e'
  exact wpAny_truthy_bool ⟨H,I,q⟩
 | int i =>
  obtain ⟨t,rfl⟩:=rx
  have e':k=(i != 0):=e
  subst e'
  exact PySem.P.truthy_int ⟨H,I,q⟩
 | str y =>
  obtain ⟨t,rfl⟩:=rx
  obtain ⟨hy,e'⟩:y.length≤sizeLine∧k=((y.length:Int) != 0):=e
  subst e'
  exact PySem.P.truthy_str (by omega) ⟨H,I.tok _,q⟩
 | byt y =>
  obtain ⟨t,rfl⟩:=rx
  obtain ⟨hy,e'⟩:y.size≤sizeLine∧k=((y.size:Int) != 0):=e
  subst e'
  exact PySem.W.truthy_bytes (by omega) ⟨H,I.tok _,q⟩
 | ref p =>
  cases rx
  have e':(∃ xs,SqL X.K H p xs∧k = !xs.isEmpty)∨(∃ xs,SqT X.K H p xs∧k = !xs.isEmpty)∨∃ kvs,H p=some (.dK kvs)∧k = !kvs.isEmpty:=e
  rcases e' with ⟨xs,hx,e'⟩ | ⟨xs,hx,e'⟩ | ⟨kvs,hx,e'⟩
  ·subst e'
   obtain ⟨its,r,pl,hz⟩:=I.list hx
   have hlen:=r.length
   exact wpAny_truthy_list pl.isList (by simp only [List.size_toArray];omega) ⟨H,I.tok _,by rw [zdL r];exact q⟩
  ·subst e'
   obtain ⟨its,r,pl,hz⟩:=I.tuple hx
   have hlen:=r.length
   exact truthy_tuple pl (by simp only [List.size_toArray];omega) ⟨H,I.tok _,by rw [zdL r];exact q⟩
  ·subst e'
   obtain ⟨hz,hS,vs,r,m⟩:kvs.length≤sizeLine∧(p == sysModules)=false∧∃ vs,KV kvs vs∧s.heap.DictOf (zaz X.prog X.w) p vs:=I.hok p _ hx
   have hlen:kvs.length=vs.length:=Paired.length r
   exact wpAny_truthy_dict hS m (by omega) ⟨H,I.tok _,by rw [zgS r];exact q⟩
 | _=>exact (show False from e).elim
theorem zjc (ha:PE X a ta) (he:∀ whole,isTrue a X.env whole=(do let v ← whole;standAt a.pos;holding [v] (truthy v))) :
  PT X a (fun σ H Q=>ta σ H fun x H'=>∃ k,TruV X.K x H' k∧Q k H'):=by
 intro pins s σ H Q I h
 exact isTrue_plain (thn (ha pins s σ H _ I h) fun v s1 ⟨x,H1,I1,r1,q1⟩=>tru_ok pins s1 σ H1 x v Q I1 r1 q1) (he _)
theorem zcC {x:V} {us:List Value} (r:Vals [x] us):∃ u,us=[u]∧RelV x u:=by
 cases r with
 | cons r1 r2=>cases r2;exact ⟨_,rfl,r1⟩
theorem zgs {x y:V} {us:List Value} (r:Vals [x,y] us):∃ u w',us=[u,w']∧RelV x u∧RelV y w':=by
 cases r with
 | cons r1 r2 =>
  cases r2 with
  | cons r3 r4=>cases r4;exact ⟨_,_,rfl,r1,r3⟩
theorem ziD (hc:X.calm=true):zbY X (.builtin "max") (fun xs H Q=>∃ i j,xs=[.int i,.int j]∧Q (.int (if j > i then j else i)) H):=by
 intro pins s σ H xs us Q I r h
 obtain ⟨i,j,rfl,q⟩:=h
 obtain ⟨u,w',rfl,⟨t,rfl⟩,⟨t',rfl⟩⟩:=zgs r
 refine max_two_ints (I.ok.hd hc) fun h' tk k=>⟨_,H,I.kept k,?_,q⟩
 by_cases hj:j > i
 ·rw [if_pos hj,if_pos hj];exact ⟨_,rfl⟩
 ·rw [if_neg hj,if_neg hj];exact ⟨_,rfl⟩
theorem ze7:zbY X (.type "int") (fun xs H Q=>(∃ i,xs=[.int i]∧Q (.int i) H)∨∃ k,xs=[.bl k]∧Q (.int (if k then 1 else 0)) H):=by
 intro pins s σ H xs us Q I r h
 rcases h with ⟨i,rfl,q⟩ | ⟨k,rfl,q⟩
 ·obtain ⟨u,rfl,t,rfl⟩:=zcC r
  exact call_int_int ⟨.int i,H,I,⟨_,rfl⟩,q⟩
 ·obtain ⟨u,rfl,r1⟩:=zcC r
  cases r1
  exact call_int_bool ⟨.int (if k then 1 else 0),H,I.tok _,⟨_,rfl⟩,q⟩
end
end L2
namespace L2
open PySem PySem.Spec PyProof.Rows
structure ObjM (h:Heap) (x dx C:Addr) (mA:Str→Option Value):Prop where
 obj:h.get? x=some (PySem.W.instObj C dx)
 ns:h.Ns1 dx mA
 ne:dx≠x
theorem zdl {h:Heap} {dx:Addr} {mA:Str→Option Value} (n:h.Ns1 dx mA):∃ od,h.get? dx=some od∧∀ name,PySem.W.lookIn name od=some (mA name):=by
 obtain ⟨o,es,ep,ho,hd,hk,_,hm⟩:=n
 refine ⟨o,ho,fun name=>?_⟩
 have e:=hm name
 unfold nsFind findBy at e
 rw [← Array.find?_toList] at e
 unfold PySem.W.lookIn
 rw [hd]
 dsimp only
 split
 ·rename_i y q
  rw [q] at e
  exact congrArg some e
 ·rename_i q
  rw [q] at e
  have a:es.toList.any (·.refKey)=false:=by
   rw [List.any_eq_false]
   intro y hy
   obtain ⟨z,t,hkey⟩:=hk y (Array.mem_toList_iff.mp hy)
   simp [DictEntry.refKey,hkey]
  have a':¬ es.toList.any (·.refKey)=true:=by rw [a];exact Bool.false_ne_true
  rw [if_neg a']
  exact congrArg some e
theorem ObjM.look {h:Heap} {x dx C:Addr} {mA:Str→Option Value} (I:ObjM h x dx C mA):∃ od,PySem.W.InstAt h x (PySem.W.instObj C dx) C (some od)∧∀ name,PySem.W.lookIn name od=some (mA name):=
 let ⟨od,ho,hl⟩:=zdl I.ns
 ⟨od,⟨I.obj,rfl,rfl,ho⟩,hl⟩
section
variable {prog:Program} {w:World} {A:Around} {E:Value→Shared→Prop} {s:Shared} {K:PySem.W.Frag} {x dx C f:Addr} {mA:Str→Option Value} {name:Str} {v:Value}
theorem zln {expr:Bool} {Q:Value→Shared→Prop} (X:K.In s.heap) (I:ObjM s.heap x dx C mA) (hg:PySem.W.plainGet K C name=true) (hh:PySem.W.hasDictIn K C=true)
  (ha:PySem.W.findIn K (.ref C) name=some none) (hv:mA name=some v) (hv':PySem.W.handedIn v=true) (h:Q v { s with toks:=s.toks+1 }) :
  wpAny (model prog w) A (getAttr (.ref x) name expr) Q E s:=by
 obtain ⟨od,J,hl⟩:=I.look
 exact PySem.W.get_value X J (PySem.W.plainGet_of hg).1 (PySem.W.findObj_own hh ha rfl (by rw [hl,hv])) hv' h
theorem zkL {ns:List Str} {Q:Unit→Shared→Prop} (X:K.In s.heap) (I:ObjM s.heap x dx C mA)
  (hs:PySem.W.findIn K (.ref C) "__setattr__" = some (some (.builtin "object.__setattr__"))) (hp:PySem.W.plainOver K C=true) (ht:PySem.W.takerIn K C name=some none) (hh:PySem.W.hasDictIn K C=true)
  (hw:PySem.Within mA ns) (hsz:ns.length≤sizeLine)
  (h:∀ h',ObjM h' x dx C (fun y=>if y=name then some v else mA y)→Heap.SameBut dx s.heap h'→Q () { s with heap:=h',toks:=s.toks+2 }) :
  wpAny (model prog w) A (setAttr (.ref x) name v) Q E s:=by
 obtain ⟨od,J,hl⟩:=I.look
 refine PySem.W.set_plain X J hs (PySem.W.osa_open (s:={ s with toks:=s.toks+1 }) (r:=none) X J hp ht fun b=>?_)
 obtain ⟨cd,hc,hd'⟩:=PySem.W.any_some hh
 have hx:s.heap.get? x=some ⟨.ref C,some dx,.plain,#[]⟩:=I.obj
 refine wpAny_bind (wpAny_pure (wpAny_bind (wpAny_bind (wpAny_loadPart hx (wpAny_bind (PySem.W.Looks.here (s:={ s with toks:=s.toks+1 }) (PySem.W.looks_clsIn X hc) ?_))))))
 rw [hd']
 refine wpAny_pure (a:=some dx) (wpAny_bind (wpAny_pure (wpAny_bind ?_)))
 refine wpAny_nsSet1 (s:={ s with toks:=s.toks+1 }) I.ns fun h' hn2 hs2=>?_
 obtain ⟨oD,esD,epD,hoD,hdD,hcD⟩:=hn2.count (PySem.Within.cons name v hw)
 refine wpAny_bind (wpAny_lookBehind hoD (by rw [hdD];exact pastItsLine_dict (Nat.le_trans hcD (by rw [List.length_cons];omega))) ?_)
 exact wpAny_pure (h _ ⟨(hs2.2 _ (Ne.symm I.ne)).trans I.obj,hn2,I.ne⟩ hs2)
theorem zgd {R:Result→Shared→Prop} {vs:List Value} {kw:List (Str×Value)} (X:K.In s.heap) (hm:PySem.W.makesIn K C=true)
  (hi:PySem.W.findIn K (.ref C) "__init__" = some (some (.ref f))) (hf:PySem.W.typeIn K (.ref f)=some (.type "function"))
  (h:codeAny (model prog w) (A.under (.builtin "type.__call__" ⟨.ref C :: vs,kw⟩)) (.call (.ref f) ⟨.ref (s.heap.objs.size+1) :: vs,kw⟩) (PySem.W.InitBack (s.heap.objs.size+1) R)
   { s with heap:=(s.heap.push PySem.W.emptyDict).push (PySem.W.instObj C s.heap.objs.size) }) :
  codeAny (model prog w) A (.call (.ref C) ⟨vs,kw⟩) R s:=by
 obtain ⟨hh,g,d,t,os⟩:=s
 exact PySem.W.make_core (PySem.W.makes_of X hm) (PySem.W.looks_findIn X hi) (fun self=>PySem.W.bind_fn X self hf) (.inl rfl) h
end
def putF (f:Str) (v:V):List (Str×V)→List (Str×V)
 | []=>[(f,v)]
 | (g,x) :: r=>if g=f then (g,v) :: r else (g,x) :: putF f v r
theorem zbU (f g:Str) (v:V):∀ fs:List (Str×V),(putF f v fs).lookup g=if g=f then some v else fs.lookup g
 | []=>by
  show List.lookup g [(f,v)]=_
  by_cases h:g=f
  ·have hb:(g == f)=true:=beq_iff_eq.mpr h
   simp only [List.lookup,hb,if_pos h]
  ·have hb:(g == f)=false:=beq_eq_false_iff_ne.mpr h
   simp only [List.lookup,hb,if_neg h]
 | (k,x) :: r=>by
  have ih:=zbU f g v r
  rw [show putF f v ((k,x) :: r)=(if k=f then (k,v) :: r else (k,x) :: putF f v r) from rfl]
  by_cases hk:k=f
  ·rw [if_pos hk]
   by_cases h:g=k
   ·have hb:(g == k)=true:=beq_iff_eq.mpr h
    simp only [List.lookup,hb,if_pos (h.trans hk)]
   ·have hb:(g == k)=false:=beq_eq_false_iff_ne.mpr h
    simp only [List.lookup,hb,if_neg (fun e:g=f=>h (e.trans hk.symm))]
  ·rw [if_neg hk]
   by_cases h:g=k
   ·have hb:(g == k)=true:=beq_iff_eq.mpr h
    simp only [List.lookup,hb,if_neg (fun e:g=f=>hk (h.symm.trans e))]
   ·have hb:(g == k)=false:=beq_eq_false_iff_ne.mpr h
    simp only [List.lookup,hb]
    exact ih
theorem zbB (f:Str) (v:V):∀ fs:List (Str×V),f∈(putF f v fs).map (·.1)∧∀ g,g∈fs.map (·.1)→g∈(putF f v fs).map (·.1)
 | []=>⟨by simp [putF],fun g h=>by simp at h⟩
 | (k,x) :: r=>by
  obtain ⟨i1,i2⟩:=zbB f v r
  rw [show putF f v ((k,x) :: r)=(if k=f then (k,v) :: r else (k,x) :: putF f v r) from rfl]
  by_cases hk:k=f
  ·rw [if_pos hk]
   subst hk
   exact ⟨by simp,fun g h=>by simpa using h⟩
  ·rw [if_neg hk]
   refine ⟨?_,fun g h=>?_⟩
   ·rw [List.map_cons]
    exact List.mem_cons_of_mem _ i1
   ·rw [List.map_cons] at h ⊢
    rcases List.mem_cons.mp h with e | e
    ·exact List.mem_cons.mpr (.inl e)
    ·exact List.mem_cons_of_mem _ (i2 g e)
theorem zbV (f:Str) (v:V):∀ fs:List (Str×V),(putF f v fs).length≤fs.length+1
 | []=>by simp [putF]
 | (k,x) :: r=>by
  have ih:=zbV f v r
  rw [show putF f v ((k,x) :: r)=(if k=f then (k,v) :: r else (k,x) :: putF f v r) from rfl]
  by_cases hk:k=f
  ·rw [if_pos hk,List.length_cons,List.length_cons];omega
  ·rw [if_neg hk,List.length_cons,List.length_cons];omega
theorem RelO.some_of {v:V} {o:Option Value} (r:RelO (some v) o):∃ u,o=some u∧RelV v u:=by
 cases o with
 | none=>exact (show False from r).elim
 | some u=>exact ⟨u,rfl,r⟩
theorem zeU {v:V} {u:Value} (r:RelV v u):PySem.W.handedIn u=true:=by
 cases v with
 | non=>cases (show u=Value.none from r);rfl
 | bl b=>cases (show u=Value.bool b from r);rfl
 | int i=>obtain ⟨t,e⟩:=(show ∃ t,u=Value.int i t from r);cases e;rfl
 | str x=>obtain ⟨t,e⟩:=(show ∃ t,u=Value.str x t from r);cases e;rfl
 | byt b=>obtain ⟨t,e⟩:=(show ∃ t,u=Value.bytes b t from r);cases e;rfl
 | flt b=>obtain ⟨t,e⟩:=(show ∃ t,u=Value.float b t from r);cases e;rfl
 | ref a=>cases (show u=Value.ref a from r);rfl
 | ty n=>cases (show u=Value.type n from r);rfl
section
variable {P:Program} {w:World} {H H':Hp} {h h':Heap} {a C dx:Addr} {fs fs':List (Str×V)}
theorem zej (hok:HOk P w H h) (e:H a=some (.ins C dx fs)):∃ mA,ObjM h a dx C mA∧(∀ f,RelO (fs.lookup f) (mA f))∧PySem.Within mA (fs.map (·.1))∧fs.length≤1000∧H dx=some (.own a):=by
 obtain ⟨d,z,ne,ob,mA,n,r,q⟩:=(show ObjOk P w H h a (.ins C dx fs) from hok a _ e)
 exact ⟨mA,⟨ob,n,ne⟩,r,q,z,d⟩
end
structure Cls (K:PySem.W.Frag) (C:Addr):Prop where
 pg:PySem.W.plainGet K C Str.empty=true
 hd:PySem.W.hasDictIn K C=true
 po:PySem.W.plainOver K C=true
 sa:PySem.W.findIn K (.ref C) "__setattr__" = some (some (.builtin "object.__setattr__"))
theorem Cls.get {K:PySem.W.Frag} {C:Addr} (c:Cls K C) (f:Str):PySem.W.plainGet K C f=true:=c.pg
def NoAttr (K:PySem.W.Frag) (C:Addr) (f:Str):Prop:=PySem.W.findIn K (.ref C) f=some none
theorem NoAttr.taker {K:PySem.W.Frag} {C:Addr} {f:Str} (n:NoAttr K C f):PySem.W.takerIn K C f=some none:=by
 unfold PySem.W.takerIn
 rw [show PySem.W.findIn K (.ref C) f=some none from n]
 rfl
structure Meth (K:PySem.W.Frag) (C:Addr) (m:Str) (f:Addr):Prop where
 at_:PySem.W.findIn K (.ref C) m=some (some (.ref f))
 fn:PySem.W.isFn K (.ref f)=true
 kp:PySem.W.keepIn K (.ref f)=true
section
variable {X:Cx} {pins:List (Addr×Obj)} {σ:St} {H:Hp} {s:Shared} {a C dx:Addr} {fs:List (Str×V)} {f:Str} {v:V} {A:Around} {E:Value→Shared→Prop}
theorem zgV {b:Bool} {Q:Value→Shared→Prop} (I:Inv X pins σ H s) (e:H a=some (.ins C dx fs)) (c:Cls X.K C) (n:NoAttr X.K C f) (l:fs.lookup f=some v)
  (h:∀ u s',Inv X pins σ H s'→RelV v u→Q u s'):wpAny (model X.prog X.w) A (getAttr (.ref a) f b) Q E s:=by
 obtain ⟨mA,O,r,_,_,_⟩:=zej I.hok e
 obtain ⟨u,hu,ru⟩:=RelO.some_of (v:=v) (o:=mA f) (by rw [← l];exact r f)
 exact zln I.kIn O (c.get f) c.hd n hu (zeU ru) (h u _ (I.tok _) ru)
theorem zgy {y:V} {u:Value} {Q:Unit→Shared→Prop} (I:Inv X pins σ H s) (e:H a=some (.ins C dx fs)) (c:Cls X.K C) (n:NoAttr X.K C f) (hl:fs.length<1000) (ry:RelV y u)
  (h:∀ s',Inv X pins σ (upd H a (.ins C dx (putF f y fs))) s'→Q () s'):wpAny (model X.prog X.w) A (setAttr (.ref a) f u) Q E s:=by
 obtain ⟨mA,O,r,wi,_,ho⟩:=zej I.hok e
 have hz:(fs.map (·.1)).length≤sizeLine:=by rw [List.length_map,sizeLine_eq];omega
 refine zkL I.kIn O c.sa c.po n.taker c.hd wi hz fun h' O' sb=>h _ ?_
 have hd:∃ o,h'.get? dx=some o:=let ⟨o,_,_,e',_⟩:=O'.ns;⟨o,e'⟩
 refine I.write (x:=a) (e:=dx) (by rw [e];exact True.intro) (.inr ho) (fun b q hb z=>(sb.2 b hb).trans z) hd ?_
 refine ⟨by rw [zah O.ne];exact ho,?_,O.ne,O'.obj,_,O'.ns,fun g=>?_,fun g hg=>?_⟩
 ·have:=zbV f y fs;omega
 ·show RelO ((putF f y fs).lookup g) (if g=f then some u else mA g)
  rw [zbU]
  by_cases q:g=f
  ·rw [if_pos q,if_pos q];exact ry
  ·rw [if_neg q,if_neg q];exact r g
 ·by_cases q:g=f
  ·rw [q];exact (zbB f y fs).1
  ·refine (zbB f y fs).2 g (wi g fun z=>hg ?_)
   show (if g=f then some u else mA g)=none
   rw [if_neg q];exact z
theorem Inv.made (I:Inv X pins σ H s):Inv X pins σ (upd (upd H s.heap.objs.size (.own (s.heap.objs.size+1))) (s.heap.objs.size+1) (.ins C s.heap.objs.size []))
  { s with heap:=(s.heap.push PySem.W.emptyDict).push (PySem.W.instObj C s.heap.objs.size) }:=by
 have e1:(s.heap.push PySem.W.emptyDict).get? s.heap.objs.size=some PySem.W.emptyDict:=Heap.get?_push_size s.heap rfl
 have e2:((s.heap.push PySem.W.emptyDict).push (PySem.W.instObj C s.heap.objs.size)).get? (s.heap.objs.size+1)=some (PySem.W.instObj C s.heap.objs.size):=by
  have:=Heap.get?_push_size (s.heap.push PySem.W.emptyDict) (o:=PySem.W.instObj C s.heap.objs.size) rfl
  rwa [Heap.size_push] at this
 have e3:(s.heap.push PySem.W.emptyDict).Ns s.heap.objs.size (fun _=>none):=⟨PySem.W.emptyDict,#[],_,e1,rfl,(fun e he=>absurd he (by simp)),fun _=>rfl⟩
 have I1:=I.laid (a:=s.heap.objs.size) (o:=.own (s.heap.objs.size+1)) (h':=s.heap.push PySem.W.emptyDict) (t':=s.toks) (fun b u q=>Heap.get?_push_of_some _ q) (Nat.le_refl _) ⟨_,e1⟩
 refine I1.laid (a:=s.heap.objs.size+1) (o:=.ins C s.heap.objs.size []) (t':=s.toks) (fun b u q=>Heap.get?_push_of_some _ q) (Nat.le_of_eq (Heap.size_push _ _)) ?_
 have ne:s.heap.objs.size≠s.heap.objs.size+1:=Nat.ne_of_lt (Nat.lt_succ_self _)
 refine ⟨by rw [zah ne,zab],Nat.zero_le _,ne,e2,fun _=>none,(Heap.Ns1.of_empty e3).at fun o q=>Heap.get?_push_of_some _ q,fun _=>True.intro,fun y hy=>absurd rfl hy⟩
theorem ziI {prog:Program} {w:World} {env:Env} {e:Expr} {f:Str} {pos:Pos} {s:Shared} {Q:Value→Shared→Prop} (hb:attributeBase e f env (eval e env)=eval e env)
  (h:wpAny (model prog w) A (eval e env) (fun o s₁=>wpAny (model prog w) A (getAttr o f true) Q E s₁) E s):wpAny (model prog w) A (eval (.Attribute e f pos) env) Q E s:=
 Attribute_any_ h (by rw [arm_eval_Attribute,hb])
end
def tFld (K:PySem.W.Frag) (ta:TE) (f:Str):TE:=fun σ H Q=>ta σ H fun x H1=>∃ a C dx fs v,x = .ref a∧H1 a=some (.ins C dx fs)∧Cls K C∧NoAttr K C f∧fs.lookup f=some v∧Q v H1
def sFld (K:PySem.W.Frag) (ta tv:TE) (f:Str):TS:=fun D σ H=>tv σ H fun y H1=>ta σ H1 fun x H2=>∃ a C dx fs,x = .ref a∧H2 a=some (.ins C dx fs)∧Cls K C∧NoAttr K C f∧fs.length<1000 ∧
 D.nx σ (upd H2 a (.ins C dx (putF f y fs)))
section
variable {X:Cx} {o e value:Expr} {f:Str} {pos pos' tpos:Pos} {ta tv:TE}
theorem pe_fld (he:PE X e ta) (hb:attributeBase e f X.env (eval e X.env)=eval e X.env):PE X (.Attribute e f pos) (tFld X.K ta f):=by
 intro pins s σ H Q I h
 refine ziI hb (thn (he pins s σ H _ I h) fun u s1 ⟨x,H1,I1,rx,a,C,dx,fs,v,ex,ea,c,n,l,q⟩=>?_)
 subst ex
 obtain rfl:u=Value.ref a:=rx
 exact zgV I1 ea c n l fun u' s2 I2 ru=>⟨v,H1,I2,ru,q⟩
theorem zb7 (ha:PE X o ta) (hv:PE X value tv) (hs:swapsWith value (some (.Attribute o f pos')) pos.line X.env=pure false):PS X (.Assign [.Attribute o f pos'] value pos) (sFld X.K ta tv f):=by
 intro pins s σ H D I h
 refine plainObj_wpAny_Assign_Attribute (thn (hv pins s σ H _ I h) fun u s1 ⟨y,H1,I1,ry,q⟩=>thn (ha pins s1 σ H1 _ I1 q) fun ov s2 ⟨x,H2,I2,rx,a,C,dx,fs,ex,ea,c,n,l,q2⟩=>?_) hs
 subst ex
 obtain rfl:ov=Value.ref a:=rx
 exact zgy I2 ea c n l ry fun s3 I3=>⟨σ,_,I3,q2⟩
end
section
variable {X:Cx} {pins:List (Addr×Obj)} {σ:St} {H:Hp} {s:Shared} {A:Around} {E:Value→Shared→Prop} {Q:Value→Shared→Prop} {c:Value} {b:Bool}
inductive TyOf (K:PySem.W.Frag) (H:Hp):V→Value→Prop where
 | non:TyOf K H .non (.type "NoneType")
 | bl (x:Bool):TyOf K H (.bl x) (.type "bool")
 | int (i:Int):TyOf K H (.int i) (.type "int")
 | str (x:Str):TyOf K H (.str x) (.type "str")
 | flt (x:UInt64):TyOf K H (.flt x) (.type "float")
 | lst {a:Addr} {xs:List V} (e:H a=some (.lst xs)):TyOf K H (.ref a) (.type "list")
 | frz {a:Addr} {o:Obj} {xs:List V} (e:H a=some (.frz o (.lst xs))):TyOf K H (.ref a) (.type "list")
 | tup {a:Addr} {xs:List V} (e:H a=some (.tup xs)):TyOf K H (.ref a) (.type "tuple")
 | dK {a:Addr} {kvs:List (Key×V)} (e:H a=some (.dK kvs)):TyOf K H (.ref a) (.type "dict")
 | dT {a:Addr} {kvs:List (List Key×V)} (e:H a=some (.dT kvs)):TyOf K H (.ref a) (.type "dict")
 | ins {a C dx:Addr} {fs:List (Str×V)} (e:H a=some (.ins C dx fs)) (cl:Cls K C) (ha:PySem.W.findIn K (.ref C) "__class__" = some (some (.builtin "object.__class__")))
   (hn:PySem.W.specialIn K (.builtin "object.__class__") "__get__" = some (some (.builtin "getset_descriptor.__get__"))) (htk:PySem.W.takesIn K (.builtin "object.__class__")=some true)
   (hm:PySem.W.mroIn K C (.type "object")=some true):TyOf K H (.ref a) (.ref C)
theorem zeS {x:V} {u t:Value} (I:Inv X pins σ H s) (rx:RelV x u) (ty:TyOf X.K H x t) (e:PySem.W.kitOne X.K t c=some b) (h:∀ tk,Q (.bool b) { s with toks:=tk }) :
  wpAny (model X.prog X.w) A (call (.builtin "isinstance") [u,c]) Q E s:=by
 cases ty with
 | non=>cases (show u=Value.none from rx);exact PySem.W.kia_one PySem.W.kitx_none I.kIn True.intro e (fun z=>nomatch z) h
 | bl y=>cases (show u=Value.bool y from rx);exact PySem.W.kia_one PySem.W.kitx_bool I.kIn True.intro e (fun z=>nomatch z) h
 | int i=>obtain ⟨t,q⟩:=(show ∃ t,u=Value.int i t from rx);cases q;exact PySem.W.kia_one PySem.W.kitx_int I.kIn True.intro e (fun z=>nomatch z) h
 | str y=>obtain ⟨t,q⟩:=(show ∃ t,u=Value.str y t from rx);cases q;exact PySem.W.kia_one PySem.W.kitx_str I.kIn True.intro e (fun z=>nomatch z) h
 | flt y=>obtain ⟨t,q⟩:=(show ∃ t,u=Value.float y t from rx);cases q;exact PySem.W.kia_one PySem.W.kitx_float I.kIn True.intro e (fun z=>nomatch z) h
 | @lst a xs ea =>
  cases (show u=Value.ref a from rx)
  obtain ⟨_,_,n,_,h1⟩:=(show ObjOk X.prog X.w H s.heap a (.lst xs) from I.hok a _ ea)
  exact PySem.W.kia_one PySem.W.kitx_list I.kIn ⟨_,h1,rfl⟩ e (fun z=>nomatch z) h
 | @frz a ob xs ea =>
  cases (show u=Value.ref a from rx)
  obtain ⟨_,_,_,n,_,h1⟩:=(show ObjOk X.prog X.w H s.heap a (.frz ob (.lst xs)) from I.hok a _ ea)
  exact PySem.W.kia_one PySem.W.kitx_list I.kIn ⟨_,h1,rfl⟩ e (fun z=>nomatch z) h
 | @tup a xs ea =>
  cases (show u=Value.ref a from rx)
  obtain ⟨_,_,_,p⟩:=(show ObjOk X.prog X.w H s.heap a (.tup xs) from I.hok a _ ea)
  obtain ⟨o,h1,h2,_⟩:=p
  exact PySem.W.kia_one PySem.W.kitx_tuple I.kIn ⟨o,h1,h2⟩ e (fun z=>nomatch z) h
 | @dK a kvs ea =>
  cases (show u=Value.ref a from rx)
  obtain ⟨_,_,vs,_,p⟩:=(show ObjOk X.prog X.w H s.heap a (.dK kvs) from I.hok a _ ea)
  obtain ⟨o,es,ep,h1,h2,_⟩:=p
  exact PySem.W.kia_one PySem.W.kitx_dict I.kIn ⟨o,h1,h2.1⟩ e (fun z=>nomatch z) h
 | @dT a kvs ea =>
  cases (show u=Value.ref a from rx)
  obtain ⟨_,_,xs,_,o,es,ep,h1,h2,_⟩:=(show ObjOk X.prog X.w H s.heap a (.dT kvs) from I.hok a _ ea)
  exact PySem.W.kia_one PySem.W.kitx_dict I.kIn ⟨o,h1,h2.1⟩ e (fun z=>nomatch z) h
 | @ins a C dx fs ea cl ha hn htk hm =>
  cases (show u=Value.ref a from rx)
  obtain ⟨mA,O,_⟩:=zej I.hok ea
  obtain ⟨od,J,_⟩:=O.look
  exact PySem.W.kia_one (PySem.W.kitx_own (cl.get _) cl.hd ha hn htk hm) I.kIn J e (fun z=>nomatch z) h
end
end L2
namespace L2
open PySem PySem.Spec PyProof.Rows
structure Room (k:Nat) (A:Around):Prop where
 hd:A.handled=none
 dp:A.depth+3 * k+5<recursionLimit
 un:A.units+16 * k+200<cLine
 gd:A.guards=some []
theorem Room.mono {j k:Nat} {A:Around} (r:Room k A) (h:j≤k):Room j A:=⟨r.hd,by have:=r.dp;omega,by have:=r.un;omega,r.gd⟩
theorem Room.deeper {k:Nat} {A:Around} (r:Room (k+1) A) (env:Env):Room k (A.deeper env):=
 ⟨r.hd,by have:=r.dp;show A.depth+1+3 * k+5<_;omega,by have:=r.un;show A.units+3+16 * k+200<_;omega,r.gd⟩
theorem Room.in1 {k:Nat} {A:Around} (r:Room (k+1) A):Room k A.in1:=
 ⟨r.hd,by have:=r.dp;show A.depth+3 * k+5<_;omega,by have:=r.un;show A.units+1+16 * k+200<_;omega,r.gd⟩
theorem zgP {A:Around} {C:Addr} {us:List Value} {kw:List (Str×Value)}:(A.under (.builtin "type.__call__" ⟨.ref C :: us,kw⟩)).depth=A.depth+1:=by
 first | rfl | simp [Around.under,Code.weight,Code.isCreation,Code.isGuard,Code.isCaller,Code.frames,Code.isFrame,guardIds]
theorem zgO {A:Around} {C:Addr} {us:List Value} {kw:List (Str×Value)}:(A.under (.builtin "type.__call__" ⟨.ref C :: us,kw⟩)).units=A.units+1:=by
 first | rfl | simp [Around.under,Code.cUnits,Code.frames,Code.isFrame]
theorem zfH {A:Around} {C:Addr} {us:List Value} {kw:List (Str×Value)} (h:A.guards=some []):(A.under (.builtin "type.__call__" ⟨.ref C :: us,kw⟩)).guards=some []:=by
 have hc:(Code.builtin "type.__call__" ⟨Value.ref C :: us,kw⟩).guards=[]:=by
  first | rfl | (simp [Code.guards,Code.isGuard,guardIds];done) | (unfold Code.guards;rw [if_neg];decide +kernel) | skip
 simp only [Around.under,h,hc]
 rfl
theorem Room.make {k:Nat} {A:Around} (r:Room (k+1) A) (C:Addr) (us:List Value) (kw:List (Str×Value)):Room k (A.under (.builtin "type.__call__" ⟨.ref C :: us,kw⟩)):=
 ⟨r.hd,by have:=r.dp;rw [zgP];omega,by have:=r.un;rw [zgO];omega,zfH r.gd⟩
theorem Room.depth {k:Nat} {A:Around} (r:Room k A):A.depth<recursionLimit:=by have:=r.dp;omega
theorem Room.units {k:Nat} {A:Around} (r:Room k A):A.units+64<cLine:=by have:=r.un;omega
def tNil:TA:=fun _ H Q=>Q [] H
def tCons (ta:TE) (tr:TA):TA:=fun σ H Q=>ta σ H fun x H1=>tr σ H1 fun xs H2=>Q (x :: xs) H2
section
variable {X:Cx} {e:Expr} {es:List Expr} {te:TE} {t:TA} {pos:Pos}
theorem zae:PA X [] tNil:=fun _ _ _ _ H Q I h=>Calls.spliced_nil ⟨[],H,I,.nil,h⟩
theorem zaa (ha:PE X e te) (hr:PA X es t) (hs:starEach (e :: es) X.env=(false,eval e X.env) :: starEach es X.env:=by rfl):PA X (e :: es) (tCons te t):=by
 intro pos pins s σ H Q I h
 rw [hs]
 show wpAny _ _ (spliced ((false,eval e X.env) :: backTo pos (starEach es X.env))) _ _ s
 refine Calls.spliced_cons (thn (ha pins s σ H _ I h) fun u s1 ⟨x,H1,I1,r1,q1⟩=>?_)
 exact thn (hr pos pins s1 σ H1 _ I1 q1) fun us s2 ⟨xs,H2,I2,r2,q2⟩=>⟨x :: xs,H2,I2,.cons r1 r2,q2⟩
def tTup (t:TA):TE:=fun σ H Q=>t σ H fun xs H1=>xs.length≤sizeLine∧∀ p,H1 p=none→Q (.ref p) (upd H1 p (.tup xs))
def tLst (t:TA):TE:=fun σ H Q=>t σ H fun xs H1=>xs.length≤sizeLine∧∀ p,H1 p=none→Q (.ref p) (upd H1 p (.lst xs))
theorem zb9 {x1} (h:PA X es t):PE X (.Tuple es x1 pos) (tTup t):=by
 intro pins s σ H Q I hq
 refine wpAny_Tuple_spliced (thn (h pos pins s σ H _ I hq) fun us s1 ⟨xs,H1,I1,r,z,q⟩=>⟨by rw [← r.length];exact z,?_⟩)
 have hf:H1 s1.heap.objs.size=none:=I1.hok.fresh (Nat.le_refl _)
 refine ⟨.ref s1.heap.objs.size,upd H1 s1.heap.objs.size (.tup xs),I1.laid (t':=s1.toks) (fun b u e=>Heap.get?_push_of_some _ e) (Nat.le_refl _) ?_,rfl,q _ hf⟩
 exact ⟨⟨z,_,Heap.get?_push_size _ rfl,rfl⟩,us,r,⟨_,Heap.get?_push_size _ rfl,rfl,_,rfl⟩⟩
theorem zaQ (h:PA X es t):PE X (.List es pos) (tLst t):=by
 intro pins s σ H Q I hq
 refine wpAny_List_spliced (thn (h pos pins s σ H _ I hq) fun us s1 ⟨xs,H1,I1,r,z,q⟩=>⟨by rw [← r.length];exact z,?_⟩)
 have hf:H1 s1.heap.objs.size=none:=I1.hok.fresh (Nat.le_refl _)
 refine ⟨.ref s1.heap.objs.size,upd H1 s1.heap.objs.size (.lst xs),I1.laid (t':=s1.toks) (fun b u e=>Heap.get?_push_of_some _ e) (Nat.le_refl _) ?_,rfl,q _ hf⟩
 exact ⟨z,us,0,r,Heap.get?_push_size _ rfl⟩
end
abbrev Sp:=List V→Hp→VK→XK→Prop
abbrev CXT:=List Env→Hp→Shared→XK→Value→Shared→Prop
structure Env0 (P:Program) (w:World) (K:PySem.W.Frag) (mg:Str→Option Value) (base:Heap) (A:Around) (outer:List Env) (s:Shared) (H:Hp):Prop where
 frames:A.frames=some outer
 mod:Mod K mg base
 bs:∀ b o,base.get? b=some o→s.heap.get? b=some o∧H b=none
 bsz:base.objs.size≤s.heap.objs.size
 funs:s.heap.FunFrames base outer
 frf:∀ b∈frs outer,H b=none
 hok:HOk P w H s.heap
 bare:AllBare s.gens
def CE (outer:List Env) (P:Program) (w:World) (H:Hp) (s:Shared) (Q:VK) (u:Value) (s':Shared):Prop:=
 ∃ v H',s'.os=s.os∧AllBare s'.gens∧Un (frs outer) [] H H' s.heap s'.heap∧HOk P w H' s'.heap∧RelV v u∧Q v H'
def CR (CX:CXT) (outer:List Env) (P:Program) (w:World) (H:Hp) (s:Shared) (Q:VK) (E:XK) (r:Result) (s':Shared):Prop:=
 match r with
 | .ok (.ret u)=>CE outer P w H s Q u s'
 | .ok _=>False
 | .error e=>CX outer H s E e s'
structure FnOk (P:Program) (w:World) (K:PySem.W.Frag) (mg:Str→Option Value) (base:Heap) (CX:CXT) (k:Nat) (f:Addr) (fd:FuncData) (ps:List Str) (sp:Sp):Prop where
 len:∀ vs H Q E,sp vs H Q E→vs.length=ps.length
 run:∀ (A:Around) (outer:List Env) (s:Shared) (H:Hp) (args:Args) (us:List Value) (vs:List V) (Q:VK) (E:XK),Room k A→Env0 P w K mg base A outer s H→BindsTo s fd args (ps.zip us)→Vals vs us→sp vs H Q E →
  codeAny (model P w) A (.call (.ref f) args) (CR CX outer P w H s Q E) s
theorem FnOk.imp {P:Program} {w:World} {K:PySem.W.Frag} {mg:Str→Option Value} {base:Heap} {CX:CXT} {k:Nat} {f:Addr} {fd:FuncData} {ps:List Str} {sp sp':Sp} (F:FnOk P w K mg base CX k f fd ps sp)
  (h:∀ vs H Q E,sp' vs H Q E→sp vs H Q E):FnOk P w K mg base CX k f fd ps sp':=
 ⟨fun vs H Q E q=>F.len vs H Q E (h _ _ _ _ q),fun A outer s H args us vs Q E hr he hb hv hs=>F.run A outer s H args us vs Q E hr he hb hv (h _ _ _ _ hs)⟩
theorem Env0.make {P:Program} {w:World} {K:PySem.W.Frag} {mg:Str→Option Value} {base:Heap} {A:Around} {outer:List Env} {s:Shared} {H:Hp} (e:Env0 P w K mg base A outer s H) (C:Addr) (us:List Value) (kw:List (Str×Value)) :
  Env0 P w K mg base (A.under (.builtin "type.__call__" ⟨.ref C :: us,kw⟩)) outer s H:=⟨by first | exact e.frames | (simpa [Around.under,Code.envs,Code.isFrame,pushEnvs] using e.frames),e.mod,e.bs,e.bsz,e.funs,e.frf,e.hok,e.bare⟩
theorem Env0.in1 {P:Program} {w:World} {K:PySem.W.Frag} {mg:Str→Option Value} {base:Heap} {A:Around} {outer:List Env} {s:Shared} {H:Hp} (e:Env0 P w K mg base A outer s H) :
  Env0 P w K mg base A.in1 outer s H:=⟨e.frames,e.mod,e.bs,e.bsz,e.funs,e.frf,e.hok,e.bare⟩
section
variable {X:Cx} {pins:List (Addr×Obj)} {σ:St} {H:Hp} {s s':Shared}
theorem Inv.env0 (I:Inv X pins σ H s):Env0 X.prog X.w X.K X.mg X.base X.A X.stack s H:=
 ⟨I.ok.frames,I.ok.mod,I.bs,Nat.le_trans I.ok.bsz I.sz,I.stack,I.stkFree,I.hok,I.bare⟩
theorem Inv.after {Q:VK} {u:Value} (I:Inv X pins σ H s) (h:CE X.stack X.prog X.w H s Q u s'):EP X pins σ Q u s':=by
 obtain ⟨v,H',os,bare,un,hok,r,q⟩:=h
 obtain ⟨hh,g,d,t,os'⟩:=s'
 obtain rfl:os'=s.os:=os
 exact ⟨v,H',I.call (h':=hh) (g':=g) (d':=d) (t':=t) (ch:=[]) un hok bare (fun b z=>absurd z (by simp)),r,q⟩
end
def zkC (sp:Sp) (dvs:List V) (E:XK) (t:TA):TE:=fun σ H Q=>t σ H fun vs H1=>sp (vs ++ dvs) H1 Q E
def Binds (K:PySem.W.Frag) (fd:FuncData) (ps:List Str) (ds:List Value):Prop:=
 ∀ (s:Shared) (us:List Value),K.In s.heap→(us ++ ds).length=ps.length→BindsTo s fd ⟨us,[]⟩ (ps.zip (us ++ ds))
theorem Binds.all {K:PySem.W.Frag} {fd:FuncData} {ps:List Str} (h:∀ us:List Value,us.length=ps.length→bindArgs fd ⟨us,[]⟩=pure (ps.zip us)):Binds K fd ps []:=fun s us _ hl=>by
 rw [List.append_nil] at hl ⊢
 exact .of_eq (h us hl)
def Passes (CX:CXT) (X:Cx) (E:XK):Prop:=∀ (pins:List (Addr×Obj)) (σ:St) (H:Hp) (s:Shared) (e:Value) (s':Shared),Inv X pins σ H s→CX X.stack H s E e s'→X.xe e s'
section
variable {X:Cx} {CX:CXT} {k:Nat} {f C:Addr} {fd:FuncData} {ps:List Str} {sp:Sp} {dvs:List V} {ds:List Value} {E:XK} {x m:Str} {p pos apos:Pos} {e o:Expr} {es:List Expr} {ta:TE} {t:TA}
theorem zjY {pins:List (Addr×Obj)} {σ:St} {H:Hp} {s:Shared} {Q:VK} {us:List Value} {vs:List V} (F:FnOk X.prog X.w X.K X.mg X.base CX k f fd ps sp) (hr:Room k X.A) (hb:Binds X.K fd ps ds) (hd:Vals dvs ds) (hx:Passes CX X E)
  (I:Inv X pins σ H s) (r:Vals vs us) (h:sp (vs ++ dvs) H Q E):wpAny (model X.prog X.w) X.A (call (.ref f) us) (EP X pins σ Q) X.xe s:=by
 have r2:Vals (vs ++ dvs) (us ++ ds):=r.append hd
 have hl:(us ++ ds).length=ps.length:=by rw [← r2.length];exact F.len _ _ _ _ h
 refine wpAny_call (codeAny_mono (F.run X.A X.stack s H ⟨us,[]⟩ (us ++ ds) (vs ++ dvs) Q E hr I.env0 (hb s us I.kIn hl) r2 h) fun r s' hq=>?_)
 cases r with
 | error e=>exact hx pins σ H s e s' I hq
 | ok fl =>
  cases fl with
  | ret u=>exact I.after hq
  | next=>exact False.elim hq
  | brk=>exact False.elim hq
  | cont=>exact False.elim hq
theorem zkZ (F:FnOk X.prog X.w X.K X.mg X.base CX k f fd ps sp) (hr:Room k X.A) (hg:Gl X x) (hm:X.mg x=some (.ref f)) (hk:PySem.W.keepIn X.K (.ref f)=true) (hb:Binds X.K fd ps ds) (hd:Vals dvs ds) (hx:Passes CX X E)
  (ha:PA X (e :: es) t) (hdb:(x == ("__debug__" : Str))=false:=by decide) (he:starEach (e :: es) X.env=(false,eval e X.env) :: starEach es X.env:=by rfl) (hpl:(backTo pos (starEach es X.env)).any (·.1)=false:=by rfl) :
  PE X (.Call (.Name x p) (e :: es) [] pos) (zkC sp dvs E t):=by
 intro pins s σ H Q I h
 refine wpAny_Call_Name_kw (zbe I hg hm ?_ hdb)
 refine PySem.W.callWith_K (h₀:=X.base) I.ok.mod.kin hk (thn (ha pos pins s σ H _ I h) fun us s1 ⟨vs,H1,I1,r,q⟩=>⟨I1.kIn,?_⟩) he hpl
 exact zjY F hr hb hd hx I1 r q
structure Mk (K:PySem.W.Frag) (C f:Addr):Prop where
 makes:PySem.W.makesIn K C=true
 init:PySem.W.findIn K (.ref C) "__init__" = some (some (.ref f))
 fn:PySem.W.isFn K (.ref f)=true
 kp:PySem.W.keepIn K (.ref C)=true
end
section
variable {X:Cx} {CX:CXT} {k:Nat} {f C:Addr} {fd:FuncData} {ps ks:List Str} {sp:Sp} {E:XK} {x m:Str} {p pos apos kpos:Pos} {e o:Expr} {es:List Expr} {kws:List Keyword} {te ta:TE} {t tk:TA} {nm:Option Str}
structure KBinds (K:PySem.W.Frag) (fd:FuncData) (ps ks:List Str) (g:List Value→List Value→List Value) (gV:List V→List V→List V):Prop where
 to:∀ (s:Shared) (us ws:List Value),K.In s.heap→(g us ws).length=ps.length→BindsTo s fd ⟨us,ks.zip ws⟩ (ps.zip (g us ws))
 rel:∀ {vs:List V} {us:List Value} {zs:List V} {ws:List Value},Vals vs us→Vals zs ws→Vals (gV vs zs) (g us ws)
variable {g:List Value→List Value→List Value} {gV:List V→List V→List V}
end
structure FnScope (N P:List Str) (sc:Scope):Prop where
 kind:sc.kind = .function
 co:sc.isCoroutine=false
 gen:sc.isGenerator=false
 nd:N.Nodup
 pre:N.take P.length=P
 par:∀ x∈P,sc.names.lookup x=some .local∨sc.names.lookup x=some .cell
 nofree:∀ y∈sc.names,y.2≠.free
theorem zfb {kindOf:Str→Option NameKind} {x:Str}:∀ {binds:List (Str×Value)} {m:Str→Option Value},(∀ v,(x,v) ∉ binds)→bindL kindOf binds m x=m x
 | [],_,_=>rfl
 | (n,v) :: r,m,h=>by
  unfold bindL
  rw [zfb fun w hw=>h w (List.mem_cons_of_mem _ hw)]
  split
  ·have:x≠n:=by rintro rfl;exact h v List.mem_cons_self
   simp [this]
  ·rfl
theorem zfd {kindOf:Str→Option NameKind} {x:Str}:∀ {binds:List (Str×Value)} {m:Str→Option Value},(∀ v,(x,v) ∉ binds)→bindC kindOf binds m x=m x
 | [],_,_=>rfl
 | (n,v) :: r,m,h=>by
  unfold bindC
  rw [zfd fun w hw=>h w (List.mem_cons_of_mem _ hw)]
  split
  ·rfl
  ·have:x≠n:=by rintro rfl;exact h v List.mem_cons_self
   simp [this]
theorem zfc {kindOf:Str→Option NameKind} {x:Str} {v:Value}:∀ {P:List Str} {vs:List Value} {i:Nat} {m:Str→Option Value},P.Nodup→P[i]? = some x→vs[i]? = some v→kindOf x=some .local →
  bindL kindOf (P.zip vs) m x=some v
 | [],_,_,_,_,h,_,_=>by simp at h
 | _ :: _,[],_,_,_,_,h,_=>by simp at h
 | p :: P,w :: vs,0,m,nd,h1,h2,hk=>by
  simp at h1 h2;subst h1;subst h2
  show bindL kindOf ((p,w) :: P.zip vs) m p=_
  unfold bindL
  rw [zfb fun v hv=>(List.nodup_cons.mp nd).1 (List.of_mem_zip hv).1,if_pos hk]
  simp
 | p :: P,w :: vs,i+1,m,nd,h1,h2,hk=>by
  show bindL kindOf ((p,w) :: P.zip vs) m x=_
  unfold bindL
  exact zfc (i:=i) (List.nodup_cons.mp nd).2 (by simpa using h1) (by simpa using h2) hk
theorem zfe {kindOf:Str→Option NameKind} {x:Str} {v:Value}:∀ {P:List Str} {vs:List Value} {i:Nat} {m:Str→Option Value},P.Nodup→P[i]? = some x→vs[i]? = some v→kindOf x≠some .local →
  bindC kindOf (P.zip vs) m x=some v
 | [],_,_,_,_,h,_,_=>by simp at h
 | _ :: _,[],_,_,_,_,h,_=>by simp at h
 | p :: P,w :: vs,0,m,nd,h1,h2,hk=>by
  simp at h1 h2;subst h1;subst h2
  show bindC kindOf ((p,w) :: P.zip vs) m p=_
  unfold bindC
  rw [zfd fun v hv=>(List.nodup_cons.mp nd).1 (List.of_mem_zip hv).1,if_neg hk]
  simp
 | p :: P,w :: vs,i+1,m,nd,h1,h2,hk=>by
  show bindC kindOf ((p,w) :: P.zip vs) m x=_
  unfold bindC
  exact zfe (i:=i) (List.nodup_cons.mp nd).2 (by simpa using h1) (by simpa using h2) hk
def start (N:List Str) (vs:List V):St:=vs.map some ++ List.replicate (N.length - vs.length) none
def cxOf (CX:CXT) (P:Program) (w:World) (K:PySem.W.Frag) (mg:Str→Option Value) (base:Heap) (N:List Str) (qual:Str) (scope:Scope) (f:Addr) (cd:Value) (A:Around) (outer:List Env) (s:Shared) (H:Hp) (E:XK):Cx where
 prog:=P
 w:=w
 K:=K
 mg:=mg
 base:=base
 A:=A.deeper (envOfC qual scope s.heap.objs.size f cd)
 N:=N
 s₀:=s
 H₀:=H
 env:=envOfC qual scope s.heap.objs.size f cd
 outer:=outer
 stack:=envOfC qual scope s.heap.objs.size f cd :: outer
 ex:=[]
 calm:=true
 fn:=fun _=>true
 pn:=[]
 xe:=fun e s'=>wpAny (model P w) (A.deeper (envOfC qual scope s.heap.objs.size f cd)) (leaving (envOfC qual scope s.heap.objs.size f cd) e) (fun _ s''=>CX outer H s E e s'') (fun e' s''=>CX outer H s E e' s'') s'
theorem zgm {sc:Scope} {n:Nat} {x:Str} (h:sc.names.lookup x=some .cell):∃ c,(cellsFrom n sc.names []).lookup x=some c:=by
 have q:=PySem.W.cellsFrom_some sc.names n [] (.inl h)
 exact Option.isSome_iff_exists.mp q
theorem zie {CX:CXT} {P:Program} {w:World} {K:PySem.W.Frag} {mg:Str→Option Value} {base:Heap} {N ps:List Str} {qual:Str} {scope:Scope} {f:Addr} {cd:Value} {A:Around} {outer:List Env} {s s1:Shared} {H:Hp} {E:XK} {us:List Value} {vs:List V}
  (S:FnScope N ps scope) (hd:A.handled=none) (e0:Env0 P w K mg base A outer s H) (hl:vs.length=ps.length) (r:Vals vs us)
  (x:InCallC s s.heap.objs.size (bindL (envOfC qual scope s.heap.objs.size f cd).kindOf (ps.zip us) fun _=>none) (cellsFrom (s.heap.objs.size+1) scope.names []) (bindC (envOfC qual scope s.heap.objs.size f cd).kindOf (ps.zip us) fun _=>none) s1) :
  Inv (cxOf CX P w K mg base N qual scope f cd A outer s H E) [] (start N vs) H s1:=by
 have hpl:ps.length≤N.length:=by have:=congrArg List.length S.pre;rw [List.length_take] at this;omega
 obtain ⟨h1,tk,rfl,hk⟩:=x.done
 have noA:∀ b:Addr,b ∉ (cxOf CX P w K mg base N qual scope f cd A outer s H E).ex:=fun b z=>absurd (show b∈([]:List Addr) from z) (by simp)
 refine ⟨⟨e0.mod,S.kind,rfl,rfl,Nat.le_refl _,fun y z c h1 h2=>?_,fun y hy=>?_,fun y c _ h=>?_,fun _=>hd,Around.frames_deeper e0.frames,.inr ⟨rfl,rfl⟩,fun b z=>absurd z (noA b),e0.bs,e0.bsz,fun b _ _=>noA b,fun b z=>absurd z (noA b),e0.funs,e0.frf⟩,
  rfl,e0.bare,Un.kept hk,⟨_,x.toInCall.ns,fun i y v h1 h2 h3=>?_⟩,fun y c h=>⟨_,x.cell y c h⟩,e0.hok.fresh (Nat.le_refl _),fun y c h=>?_,fun p hp=>absurd (show p∈([]:List (Addr×Obj)) from hp) (by simp),e0.hok.kept hk,?_⟩
 ·exact name_of_addr x.apart (PySem.mem_of_lookup h1) (PySem.mem_of_lookup h2)
 ·have hy:scope.names.lookup y=some .cell∨scope.names.lookup y=some .free:=hy
  rcases hy with hy | hy
  ·exact zgm hy
  ·exact absurd rfl (S.nofree _ (PySem.mem_of_lookup hy))
 ·exact Nat.le_of_lt (x.above y c (PySem.mem_of_lookup h))
 ·have hi:i<vs.length:=by
   unfold start at h2
   by_cases hi:i<vs.length
   ·exact hi
   ·rw [List.getElem?_append_right (by simpa using hi)] at h2
    rw [List.getElem?_replicate] at h2
    split at h2 <;> cases h2
  have ha:vs[i]? = some v:=by
   unfold start at h2
   rw [List.getElem?_append_left (by simpa using hi),List.getElem?_map] at h2
   cases e:vs[i]? with
   | none=>rw [e] at h2;cases h2
   | some a=>rw [e] at h2;cases h2;rfl
  obtain ⟨u,hu,rv⟩:=r.get ha
  have hp:ps[i]? = some y:=by
   rw [← S.pre,List.getElem?_take_of_lt (by omega)];exact h1
  have ndP:ps.Nodup:=by rw [← S.pre];exact S.nd.sublist (List.take_sublist _ _)
  refine ⟨u,rv,?_⟩
  rcases S.par y (List.mem_of_getElem? hp) with k | k
  ·exact .inl ⟨k,zfc ndP hp hu k⟩
  ·obtain ⟨c,e⟩:=zgm (n:=s.heap.objs.size+1) k
   refine .inr ⟨.inl k,c,e,?_⟩
   have q:=x.cell y c e
   rw [zfe ndP hp hu (by show scope.names.lookup y≠_;rw [k];decide)] at q
   exact q
 ·exact e0.hok.fresh (Nat.le_of_lt (x.above y c (PySem.mem_of_lookup h)))
 ·unfold start
  show _=N.length
  rw [List.length_append,List.length_map,List.length_replicate]
  omega
theorem zjI {CX:CXT} {P:Program} {w:World} {K:PySem.W.Frag} {mg:Str→Option Value} {base:Heap} {k:Nat} {f:Addr} {name qual:Str} {params:Arguments} {body:List Stmt} {scope:Scope} {dV kV doc pm cdv ct oc:Value} {an od:Option Addr}
  {osl:Array (Option Value)} {N ps:List Str} {sp:Sp} (lk:K.lookup f=some ⟨oc,od,.func (PySem.W.fnOf name qual params body scope dV kV doc pm an cdv ct),osl⟩) (hcd:PySem.W.codeIn K cdv qual=true) (S:FnScope N ps scope)
  (len:∀ vs H Q E,sp vs H Q E→vs.length=ps.length)
  (hbody:∀ (A:Around) (outer:List Env) (s:Shared) (H:Hp) (vs:List V) (Q:VK) (E:XK),Room k (A.deeper (envOfC qual scope s.heap.objs.size f cdv))→sp vs H Q E →
   ∃ t,PSs (cxOf CX P w K mg base N qual scope f cdv A outer s H E) body t∧t { nx:=fun _ H'=>Q .non H',rt:=Q } (start N vs) H) :
  FnOk P w K mg base CX (k+1) f (PySem.W.fnOf name qual params body scope dV kV doc pm an cdv ct) ps sp:=by
 refine ⟨len,fun A outer s H args us vs Q E hr e0 hb r hsp=>?_⟩
 have hl:=len _ _ _ _ hsp
 have KX:K.In s.heap:=e0.mod.kin.keeps fun b o e=>(e0.bs b o e).1
 have lim:s.heap.NoLimit:=e0.mod.nolimit.keeps fun b o e=>(e0.bs b o e).1
 have hkind:∀ y∈ps.zip us,scope.names.lookup y.1=some .local∨(scope.names.lookup y.1=some .cell∧((cellsFrom (s.heap.objs.size+1) scope.names []).lookup y.1).isSome=true):=fun ⟨n,v⟩ hy=>by
  rcases S.par n (List.of_mem_zip hy).1 with q | q
  ·exact .inl q
  ·exact .inr ⟨q,PySem.W.cellsFrom_some _ _ _ (.inl q)⟩
 refine codeAny_call_function hr.depth (KX _ _ lk) rfl S.co S.gen rfl (PySem.W.codeRec_of KX hcd) (hb _ _ _ _ ?_)
 refine wpAny_newFunctionEnv_cells S.kind hkind fun env he s1 x=>?_
 subst he
 refine ⟨lim.keeps x.toInCall.keep,codeAny_func ?_⟩
 obtain ⟨t,ht,hq⟩:=hbody A outer s H vs Q E (hr.deeper _) hsp
 have I:Inv (cxOf CX P w K mg base N qual scope f cdv A outer s H E) [] (start N vs) H s1:=zie S hr.hd e0 hl r x
 refine wpAny_mono (ht [] s1 (start N vs) H _ I hq) (fun fl s' hs=>?_) fun e s' hs=>hs
 have fin:∀ {σ':St} {H':Hp} {v:V} {u:Value},Inv (cxOf CX P w K mg base N qual scope f cdv A outer s H E) [] σ' H' s'→RelV v u→Q v H'→CE outer P w H s Q u s':=
  fun {σ' H' v u} J rv q=>⟨v,H',J.os,J.bare,J.base,J.hok,rv,q⟩
 cases fl with
 | ret u =>
  obtain ⟨v,σ',H',J,rv,q⟩:=hs
  exact fin J rv q
 | next =>
  obtain ⟨σ',H',J,q⟩:=hs
  exact fin (v:=V.non) (u:=Value.none) J rfl q
 | brk =>
  obtain ⟨_,_,_,q⟩:=hs
  exact False.elim q
 | cont =>
  obtain ⟨_,_,_,q⟩:=hs
  exact False.elim q
end L2
namespace L2
open PySem PySem.Spec PyProof.Rows
section
variable {X:Cx} {x:Str} {p pos:Pos} {e:Expr} {es:List Expr} {t:TA} {id T:String} {r:List V→Hp→VK→Prop}
def tCB (r:List V→Hp→VK→Prop) (t:TA):TE:=fun σ H Q=>t σ H fun vs H1=>r vs H1 Q
theorem zan (hc:zbY X (.builtin id) r) (hg:Gl X x) (hm:X.mg x=none) (hv:bootBuiltins x=some (.builtin id)) (ha:PA X (e :: es) t) (hn:x ≠ "__name__" := by decide) (hdb:(x == ("__debug__" : Str))=false:=by decide)
  (he:starEach (e :: es) X.env=(false,eval e X.env) :: starEach es X.env:=by rfl) (hpl:(backTo pos (starEach es X.env)).any (·.1)=false:=by rfl):PE X (.Call (.Name x p) (e :: es) [] pos) (tCB r t):=by
 intro pins s σ H Q I h
 refine wpAny_Call_Name_kw (zdn I hg hm hv ?_ hn hdb)
 exact PyProof.Rows.callWith_builtin1 (thn (ha pos pins s σ H _ I h) fun us s1 ⟨vs,H1,I1,r1,q1⟩=>hc pins s1 σ H1 vs us Q I1 r1 q1) he hpl
theorem za0 (hc:zbY X (.type T) r) (hg:Gl X x) (hm:X.mg x=none) (hv:bootBuiltins x=some (.type T)) (ha:PA X (e :: es) t) (hn:x ≠ "__name__" := by decide) (hdb:(x == ("__debug__" : Str))=false:=by decide)
  (he:starEach (e :: es) X.env=(false,eval e X.env) :: starEach es X.env:=by rfl) (hpl:(backTo pos (starEach es X.env)).any (·.1)=false:=by rfl):PE X (.Call (.Name x p) (e :: es) [] pos) (tCB r t):=by
 intro pins s σ H Q I h
 refine wpAny_Call_Name_kw (zdn I hg hm hv ?_ hn hdb)
 exact PyProof.Rows.callWith_type1 (thn (ha pos pins s σ H _ I h) fun us s1 ⟨vs,H1,I1,r1,q1⟩=>hc pins s1 σ H1 vs us Q I1 r1 q1) he hpl
end
end L2
namespace HT
open PySem PyProof.Rows
def lexLt:List Int→List Int→Bool
 | [],[]=>false
 | [],_ :: _=>true
 | _ :: _,[]=>false
 | x :: xs,y :: ys=>if x=y then lexLt xs ys else decide (x<y)
theorem lexLt_cons (x y:Int) (xs ys:List Int):lexLt (x :: xs) (y :: ys)=if x=y then lexLt xs ys else decide (x<y):=rfl
theorem lexLt_nil_nil:lexLt [] []=false:=rfl
theorem zdy (y:Int) (ys:List Int):lexLt [] (y :: ys)=true:=rfl
theorem zdz (x:Int) (xs:List Int):lexLt (x :: xs) []=false:=rfl
theorem zjJ (A:Around) (s:Shared) (a:Int) (t:Tok) (c:Int) (u:Tok):∃ e,SeqAt.EqAt A s (.int a t) (.int c u) e∧(e=true↔a=c):=
 ⟨(a == c),SeqAt.EqAt.int_int a t c u,by simp⟩
theorem zi9 (A:Around) (s:Shared) (a:Int) (t:Tok) (c:Int) (u:Tok) (prog:Program) (w:World) (E:Value→Shared→Prop) (Q:Value→Shared→Prop) (h:Q (.bool (decide (a<c))) s) :
  wpAny (model prog w) A (richCompare .Lt (.int a t) (.int c u)) Q E s:=
 (PyProof.Rows.lt_int h:wpAny (model prog w) A (compareOp .Lt (.int a t) (.int c u)) Q E s)
section
open PySem.SeqAt
open PySem.AutoSeq1 (wpAny_loadPart')
open PySem.MeetsSeq PySem.MeetsSeq2 PySem.MeetsSeq3
theorem zdU (l b:Addr) (items items2:Array Value) (n n2:Nat) (dd dd2:Option Addr) (sl sl2:Array (Option Value)) (ns ms:List Int) (hi:IntsAre items.toList ns) (hj:IntsAre items2.toList ms) :
  Meets (Builtin.«tuple.__lt__» ⟨[.ref l,.ref b],[]⟩)
   (fun _ R s=>s.heap.get? l=some { cls:=.type "tuple",dict:=dd,data:=.seq items n,slots:=sl }∧s.heap.get? b=some { cls:=.type "tuple",dict:=dd2,data:=.seq items2 n2,slots:=sl2 } ∧
    R (.ok (.ret (.bool (lexLt ns ms)))) s):=
 .of_wp fun prog w A R s h=>by
  obtain ⟨hp,g,d,tk,os⟩:=s;obtain ⟨hl,hb,h⟩:=h
  have f2:=AutoSeq1.sub_tuple_tuple
  have z1:items.size=ns.length:=by rw [← hi.length];simp
  have z2:items2.size=ms.length:=by rw [← hj.length];simp
  wp_walk using wpAny_loadPart' hl,wpAny_loadPart' hb,wpAny_forIn_list _ (fun rest b s'=>b.1=none∧s'=⟨hp,g,d,tk,os⟩∧∃ (vs ws:List Value) (ns' ms':List Int),rest=vs.zip ws ∧
   IntsAre vs ns'∧IntsAre ws ms'∧ns'.length+items2.size=ms'.length+items.size∧R (.ok (.ret (.bool (lexLt ns' ms')))) ⟨hp,g,d,tk,os⟩) _
  case turn =>
   rintro ⟨y,x⟩ rest b s' ⟨hb',rfl,vs,ws,ns',ms',hz,hvi,hwi,hlen,hR⟩
   cases hvi with
   | nil=>rw [List.zip_nil_left] at hz;cases hz
   | cons a t hvi' =>
    cases hwi with
    | nil=>rw [List.zip_nil_right] at hz;cases hz
    | cons c u hwi' =>
     rw [List.zip_cons_cons] at hz
     injection hz with hyx hrest
     injection hyx with hy hx
     subst hy hx
     rw [lexLt_cons] at hR
     simp only [List.length_cons] at hlen
     obtain ⟨e,he,hiff⟩:=zjJ A.in1 ⟨hp,g,d,tk,os⟩ a t c u
     refine wpAny_bind (he prog w _ _ ?_)
     cases e with
     | true =>
      rw [if_pos (hiff.mp rfl)] at hR
      wp_walk
      exact ⟨rfl,rfl,_,_,_,_,hrest,hvi',hwi',by omega,hR⟩
     | false =>
      rw [if_neg (fun q=>absurd (hiff.mpr q) Bool.false_ne_true)] at hR
      have hri:=zi9 A.in1 ⟨hp,g,d,tk,os⟩ a t c u prog w
      wp_walk using hri
      exact ⟨_,rfl,by simpa using hR⟩
  case fin =>
   rintro ⟨b1,b2⟩ s' ⟨hb',rfl,vs,ws,ns',ms',hz,hvi,hwi,hlen,hR⟩
   simp only at hb'
   subst hb'
   have hv:lexLt ns' ms'=decide (items.size<items2.size):=by
    cases hvi with
    | nil =>
     cases hwi with
     | nil =>
      simp only [List.length_nil] at hlen
      rw [lexLt_nil_nil]
      exact (decide_eq_false (by omega)).symm
     | cons c u hw =>
      simp only [List.length_nil,List.length_cons] at hlen
      rw [zdy]
      exact (decide_eq_true (by omega)).symm
    | cons a t hv =>
     cases hwi with
     | nil =>
      simp only [List.length_nil,List.length_cons] at hlen
      rw [zdz]
      exact (decide_eq_false (by omega)).symm
     | cons c u hw =>
      rw [List.zip_cons_cons] at hz
      cases hz
   rw [hv] at hR
   wp_walk
   exact ⟨_,rfl,by simpa [Builtin.Tuple.tupleCompareSizes] using hR⟩
  case h =>
   exact ⟨rfl,rfl,items.toList,items2.toList,ns,ms,rfl,hi,hj,by omega,h⟩
end
section
variable {prog:Program} {w:World} {A:Around} {E:Value→Shared→Prop} {s:Shared}
theorem lt_tupInts {l b:Addr} {items items2:Array Value} {ns ms:List Int} {Q:Value→Shared→Prop} (hl:IsTup s.heap l items) (hb:IsTup s.heap b items2) (hi:IntsAre items.toList ns) (hj:IntsAre items2.toList ms)
  (hu:A.units<cLine) (h:Q (.bool (lexLt ns ms)) s):wpAny (model prog w) A (compareOp .Lt (.ref l) (.ref b)) Q E s:=by
 obtain ⟨⟨cls,dd,data,sl⟩,ho,hc,n,hd⟩:=id hl
 obtain ⟨⟨cls2,dd2,data2,sl2⟩,ho2,hc2,n2,hd2⟩:=id hb
 simp only at hc hd hc2 hd2
 subst hc hd hc2 hd2
 exact richCompare_meets_room (op:=.Lt) ⟨_,ho,rfl⟩ ⟨_,ho2,rfl⟩ PySem.F.slot_tuple_lt PySem.F.entry_tuple_lt (PySem.F.args_tuple_lt_2 _ _) (zdU l b items items2 n n2 dd dd2 sl sl2 ns ms hi hj)
  ⟨ho,ho2,show Value.bool (lexLt ns ms)≠Value.notImplemented∧Q (.bool (lexLt ns ms)) s from ⟨(fun x=>nomatch x),h⟩⟩ hu
def sIx (n d:Nat):Option Int→Nat
 | none=>d
 | some v=>if v<0 then (v+(n:Int)).toNat else min v.toNat n
theorem sIx_none (n d:Nat):sIx n d none=d:=rfl
theorem sIx_nat (n d k:Nat):sIx n d (some (k:Int))=min k n:=by
 show (if (k:Int)<0 then ((k:Int)+(n:Int)).toNat else min (k:Int).toNat n)=min k n
 rw [if_neg (by omega),Int.toNat_natCast]
theorem sIx_le (n d:Nat) (hd:d≤n) (o:Option Int):sIx n d o≤n:=by
 cases o with
 | none=>exact hd
 | some v =>
  show (if v<0 then (v+(n:Int)).toNat else min v.toNat n)≤n
  by_cases hv:v<0
  ·rw [if_pos hv];omega
  ·rw [if_neg hv];exact Nat.min_le_right _ _
theorem ziz (v:Int) (n d:Nat):(if v<0 then max (v+(n:Int)) 0 else min v (n:Int))=((sIx n d (some v):Nat):Int):=by
 show (if v<0 then max (v+(n:Int)) 0 else min v (n:Int))=(((if v<0 then (v+(n:Int)).toNat else min v.toNat n):Nat):Int)
 by_cases hv:v<0
 ·simp only [if_pos hv];omega
 ·simp only [if_neg hv];omega
theorem zg7 (lo hi:Option Int) (n:Nat):Builtin.Slice.sliceAdjust lo hi 1 (n:Int)=(((sIx n 0 lo:Nat):Int),((sIx n n hi:Nat):Int)):=by
 have h1:¬ ((1:Int)<0):=by omega
 unfold Builtin.Slice.sliceAdjust
 simp only [h1,if_false]
 refine Prod.ext ?_ ?_
 ·cases lo with
  | none=>rfl
  | some v=>exact ziz v n 0
 ·cases hi with
  | none=>rfl
  | some v=>exact ziz v n n
theorem zgC (i j:Nat):Builtin.Slice.slicePlaces (i:Int) (j:Int) 1=j - i:=by
 unfold Builtin.Slice.slicePlaces
 have h1:(1:Int) > 0:=by omega
 simp only [h1,if_true,Int.ediv_one]
 split <;> omega
theorem zdD {v:Value} {o:Option Int} {Q:Option Int→Shared→Prop} (p:IsPart v o) (h:Q o s):wpAny (model prog w) A (Builtin.Slice.slicePartIndex v) Q E s:=by
 cases p with
 | none=>exact slicePart_none h
 | int i t=>exact slicePart_int h
theorem zbs {sl:Addr} {vl vu:Value} {lo hi:Option Int} {n:Nat} {Q:Int×Int×Nat→Shared→Prop} (hs:s.heap.IsSliceOf sl vl vu .none) (pl:IsPart vl lo) (pu:IsPart vu hi)
  (h:Q (((sIx n 0 lo:Nat):Int),1,sIx n n hi - sIx n 0 lo) s):wpAny (model prog w) A (Builtin.Slice.sliceApplied (.ref sl) (pure (n:Int))) Q E s:=by
 obtain ⟨os,hos,hcs,hds⟩:=id hs
 unfold Builtin.Slice.sliceApplied Builtin.Slice.sliceFields
 refine wpAny_bind (wpAny_bind (wpAny_field hos hds (x:=vl) rfl (wpAny_bind (wpAny_field hos hds (x:=vu) rfl (wpAny_bind (wpAny_field hos hds (x:=.none) rfl (wpAny_pure ?_)))))))
 refine wpAny_bind (slicePart_none ?_)
 show wpAny _ _ (if ((1:Int) == 0)=true then _ else _) _ _ s
 rw [if_neg (by decide)]
 refine wpAny_bind (zdD pl (wpAny_bind (zdD pu (wpAny_bind (wpAny_pure ?_)))))
 show wpAny _ _ (match Builtin.Slice.sliceAdjust lo hi 1 (n:Int) with | (lo,hi)=>pure (lo,(1:Int),Builtin.Slice.slicePlaces lo hi 1)) _ _ s
 rw [zg7 lo hi n]
 show wpAny _ _ (pure (((sIx n 0 lo:Nat):Int),(1:Int),Builtin.Slice.slicePlaces ((sIx n 0 lo:Nat):Int) ((sIx n n hi:Nat):Int) 1)) _ _ s
 rw [zgC]
 exact wpAny_pure h
theorem zjf (xs:Array Value) (i k:Nat):((List.range k).filterMap fun (m:Nat)=>xs[((i:Int)+(m:Int) * 1).toNat]?).toArray=((xs.toList.drop i).take k).toArray:=by
 have e:(fun (m:Nat)=>xs[((i:Int)+(m:Int) * 1).toNat]?)=fun m=>xs[i+m]?:=by
  funext m
  have:((i:Int)+(m:Int) * 1).toNat=i+m:=by omega
  rw [this]
 rw [e]
 have:=pick_run xs i k
 rw [List.filterMap_map] at this
 have e2:((fun x=>xs[x]?) ∘ fun x=>i+x)=fun m=>xs[i+m]?:=rfl
 rw [e2] at this
 rw [this]
theorem getItem_tuple_cut {t sl:Addr} {items:Array Value} {vl vu:Value} {lo hi:Option Int} {Q:Value→Shared→Prop} (ht:IsTup s.heap t items) (hs:s.heap.IsSliceOf sl vl vu .none) (pl:IsPart vl lo) (pu:IsPart vu hi)
  (hw:¬ (sIx items.size 0 lo=0∧sIx items.size items.size hi=items.size))
  (h:Q (.ref s.heap.objs.size) { s with heap:=s.heap.push { cls:=.type "tuple",data:=.seq ((items.toList.drop (sIx items.size 0 lo)).take (sIx items.size items.size hi - sIx items.size 0 lo)).toArray } })
  (hsz:items.size≤sizeLine):wpAny (model prog w) A (getItem (.ref t) (.ref sl)) Q E s:=by
 have htake:sizeOk (.seq ((items.toList.drop (sIx items.size 0 lo)).take (sIx items.size items.size hi - sIx items.size 0 lo)).toArray):=by
  show ((items.toList.drop (sIx items.size 0 lo)).take (sIx items.size items.size hi - sIx items.size 0 lo)).toArray.size≤sizeLine
  rw [List.size_toArray,List.length_take,List.length_drop,Array.length_toList]
  omega
 have hj:sIx items.size items.size hi≤items.size:=sIx_le _ _ (Nat.le_refl _) hi
 obtain ⟨os,hos,hcs,hds⟩:=id hs
 have hTs:s.TypeIs (.ref sl) "slice" := ⟨os,hos,hcs⟩
 unfold getItem
 try with_reducible refine wpAny_holding ?_
 first | refine wpAny_bind (wpAny_pure ?_) | skip
 refine wpAny_bind (wpAny_sequenceKey ht.typeIs (by decide) ?_)
 refine wpAny_bind (wpAny_callSpecial?_slot (name:=Str.ofString "__getitem__") ht.typeIs PyProof.Rows.slot_tuple_getitem
  (wpAny_call_entry PyProof.Rows.slot_tuple_getitem ht.typeIs entry_tuple_getitem ?_ (args_tuple_getitem _ _)))
 show wpAny _ _ (Builtin.Tuple.tupleItemsOf (.ref t) >>= _) _ _ s
 refine wpAny_bind (tupleItemsOf_ ht ?_)
 refine wpAny_bind (wpAny_typeOf hTs ?_)
 rw [if_pos (by decide)]
 refine wpAny_bind (zbs hs pl pu ?_)
 have hno:¬ ((((sIx items.size 0 lo:Nat):Int) == 0 && (1:Int) == 1 && (sIx items.size items.size hi - sIx items.size 0 lo) == items.size)=true):=by
  intro q
  rw [Bool.and_eq_true,Bool.and_eq_true] at q
  have q1:((sIx items.size 0 lo:Nat):Int)=0:=eq_of_beq q.1.1
  have q2:sIx items.size items.size hi - sIx items.size 0 lo=items.size:=eq_of_beq q.2
  exact hw ⟨by omega,by omega⟩
 show wpAny _ _ (if (((sIx items.size 0 lo:Nat):Int) == 0 && (1:Int) == 1 && (sIx items.size items.size hi - sIx items.size 0 lo) == items.size)=true then _ else _) _ _ s
 rw [if_neg hno,zjf]
 first
  | exact wpAny_bind (m:=Builtin.Tuple.tupleExact _) (wpAny_newObj_type (wpAny_pure ⟨_,rfl,wpAny_pure h⟩) htake)
  | exact wpAny_bind (m:=Builtin.Tuple.tupleExact _) (wpAny_newObj_type (wpAny_bind (wpAny_pure (wpAny_pure ⟨_,rfl,wpAny_pure h⟩))) htake)
  | exact wpAny_bind (wpAny_bind (m:=Builtin.Tuple.tupleExact _) (wpAny_newObj_type (wpAny_pure (wpAny_pure ⟨_,rfl,wpAny_pure h⟩)) htake))
  | exact wpAny_bind (wpAny_bind (m:=Builtin.Tuple.tupleExact _) (wpAny_newObj_type (wpAny_pure ⟨_,rfl,wpAny_pure h⟩) htake))
end
end HT
namespace L2
open PySem PySem.Spec PyProof.Rows
abbrev TO:=St→Hp→(Option Int→Hp→Prop)→Prop
def PO (X:Cx) (e:Option Expr) (t:TO):Prop:=
 ∀ (pins:List (Addr×Obj)) (s:Shared) (σ:St) (H:Hp) (Q:Option Int→Hp→Prop),Inv X pins σ H s→t σ H Q →
  wpAny (model X.prog X.w) X.A (evalPart e X.env) (fun u s'=>∃ o H',Inv X pins σ H' s'∧IsPart u o∧Q o H') X.xe s
def zkB:TO:=fun _ H Q=>Q none H
def tPart (t:TE):TO:=fun σ H Q=>t σ H fun x H1=>∃ i,x = .int i∧Q (some i) H1
theorem zgT {ns:List Int}:∀ {us:List Value},Vals (ns.map V.int) us→IntsAre us ns:=by
 induction ns with
 | nil=>intro us r;rw [List.map_nil] at r;cases r;exact .nil
 | cons n ns ih =>
  intro us r
  rw [List.map_cons] at r
  cases r with
  | cons r1 r2 =>
   obtain ⟨t,e⟩:=r1
   subst e
   exact .cons n t (ih r2)
section
variable {X:Cx} {e:Expr} {te:TE} {lo hi:Option Expr} {tl th:TO} {pos p2:Pos}
theorem zd9:PO X none zkB:=by
 intro pins s σ H Q I h
 rw [evalPart_none]
 exact wpAny_pure ⟨none,H,I,.none,h⟩
theorem zd8 (h:PE X e te):PO X (some e) (tPart te):=by
 intro pins s σ H Q I hw
 rw [evalPart_some]
 refine thn (h pins s σ H _ I hw) fun u s1 ⟨x,H1,I1,r1,q1⟩=>?_
 obtain ⟨i,rfl,q⟩:=q1
 obtain ⟨t,rfl⟩:=r1
 exact ⟨some i,H1,I1,.int i t,q⟩
def SlR (X:Cx) (r:V→Option Int→Option Int→Hp→VK→Prop):Prop:=
 ∀ (pins:List (Addr×Obj)) (s:Shared) (σ:St) (H:Hp) (x:V) (v vl vu:Value) (lo hi:Option Int) (sl:Addr) (Q:VK),Inv X pins σ H s→RelV x v→s.heap.IsSliceOf sl vl vu .none→IsPart vl lo→IsPart vu hi→r x lo hi H Q →
  ∃ T id,typeLookup (.type T) "__getitem__" = pure (some (.builtin id))∧s.TypeIs v T∧wpAny (model X.prog X.w) X.A (getItem v (.ref sl)) (EP X pins σ Q) X.xe s
def tSl (r:V→Option Int→Option Int→Hp→VK→Prop) (te:TE) (tl th:TO):TE:=fun σ H Q=>te σ H fun x H1=>tl σ H1 fun l H2=>th σ H2 fun u H3=>r x l u H3 Q
theorem zcQ {r:V→Option Int→Option Int→Hp→VK→Prop} (hr:SlR X r) (he:PE X e te) (hl:PO X lo tl) (hu:PO X hi th):PE X (.Subscript e (.Slice lo hi none p2) pos) (tSl r te tl th):=by
 intro pins s σ H Q I h
 refine Subscript_ (thn (he pins s σ H _ I h) fun v s1 ⟨x,H1,I1,r1,q1⟩=>?_)
 refine wpAny_Slice (thn (hl pins s1 σ H1 _ I1 q1) fun vl s2 ⟨l,H2,I2,pl,q2⟩=>thn (hu pins s2 σ H2 _ I2 q2) fun vu s3 ⟨u,H3,I3,pu,q3⟩=>?_)
 rw [evalPart_none]
 refine wpAny_pure ?_
 have I4:Inv X pins σ H3 { s3 with heap:=s3.heap.push { cls:=.type "slice",data:=.fields #[vl,vu,.none] } }:=I3.kept (t':=s3.toks) fun b ob q=>Heap.get?_push_of_some _ q
 obtain ⟨T,id,hT,ht,hg⟩:=hr pins { s3 with heap:=s3.heap.push { cls:=.type "slice",data:=.fields #[vl,vu,.none] } } σ H3 x v vl vu l u s3.heap.objs.size Q I4 r1 (Heap.IsSliceOf.new ..) pl pu q3
 show wpAny (model X.prog X.w) X.A (subscriptTail e (.Slice lo hi none p2) v (.ref s3.heap.objs.size)) (EP X pins σ Q) X.xe { s3 with heap:=s3.heap.push { cls:=.type "slice",data:=.fields #[vl,vu,.none] } }
 exact tail_any (ops:=[.ref s3.heap.objs.size,v]) ht hT hg (by with_unfolding_all rfl)
def cutV (xs:List V) (lo hi:Option Int):List V:=(xs.drop (HT.sIx xs.length 0 lo)).take (HT.sIx xs.length xs.length hi - HT.sIx xs.length 0 lo)
theorem zds (xs:List V) (lo hi:Option Int):(cutV xs lo hi).length≤xs.length:=by
 unfold cutV
 rw [List.length_take,List.length_drop]
 omega
def rSlT (K:PySem.W.Frag):V→Option Int→Option Int→Hp→VK→Prop:=fun x lo hi H Q=>∃ a xs,x = .ref a∧SqT K H a xs ∧
 ¬ (HT.sIx xs.length 0 lo=0∧HT.sIx xs.length xs.length hi=xs.length)∧∀ p,H p=none→Q (.ref p) (upd H p (.tup (cutV xs lo hi)))
theorem sl_tup:SlR X (rSlT X.K):=by
 intro pins s σ H x v vl vu lo hi sl Q I rx hs pl pu h
 obtain ⟨a,xs,rfl,hx,hw,q⟩:=h
 cases rx
 obtain ⟨its,r,ht,hz⟩:=I.tuple hx
 have hlen:its.toArray.size=xs.length:=by rw [List.size_toArray];exact r.length.symm
 refine ⟨"tuple",_,PyProof.Rows.slot_tuple_getitem.lookup,ht.typeIs,?_⟩
 refine HT.getItem_tuple_cut ht hs pl pu (by rw [hlen];exact hw) ?_ (by rw [hlen];exact hz)
 rw [hlen]
 refine ⟨.ref s.heap.objs.size,_,I.laid (t':=s.toks) (o:=.tup (cutV xs lo hi)) (fun b ob q=>Heap.get?_push_of_some _ q) (Nat.le_refl _) ?_,rfl,q _ (I.hok.fresh (Nat.le_refl _))⟩
 exact ⟨⟨Nat.le_trans (zds xs lo hi) hz,_,Heap.get?_push_size _ rfl,rfl⟩,_,(r.drop (HT.sIx xs.length 0 lo)).take (HT.sIx xs.length xs.length hi - HT.sIx xs.length 0 lo),IsTup.new _ _⟩
theorem Vals.nil_iff {xs:List V} {us:List Value} (r:Vals xs us):us=[]↔xs=[]:=by
 cases r with
 | nil=>simp
 | cons _ _=>simp
end
end L2
namespace L2
open PySem PySem.Spec PyProof.Rows
def ixN (n:Nat) (i:Int):Option Nat:=if 0≤i then (if i<n then some i.toNat else none) else if -(n:Int)≤i then some (i+n).toNat else none
def atI {α:Type} (xs:List α) (i:Int):Option α:=(ixN xs.length i).bind fun j=>xs[j]?
theorem zib {n:Nat} {i:Int} {j:Nat} (h:ixN n i=some j):seqIndex? i n=some j∧j<n∧-(n:Int)≤i∧i<n:=by
 unfold ixN at h
 by_cases h0:0≤i
 ·rw [if_pos h0] at h
  by_cases h1:i<n
  ·rw [if_pos h1] at h
   have e:i.toNat=j:=Option.some.inj h
   exact ⟨by rw [seqIndex_of h0 h1,e],by omega,by omega,h1⟩
  ·rw [if_neg h1] at h;cases h
 ·rw [if_neg h0] at h
  by_cases h1:-(n:Int)≤i
  ·rw [if_pos h1] at h
   have e:(i+n).toNat=j:=Option.some.inj h
   exact ⟨by rw [seqIndex_neg (by omega) h1,e],by omega,h1,by omega⟩
  ·rw [if_neg h1] at h;cases h
theorem zfO {α:Type} {xs:List α} {i:Int} {v:α} (h:atI xs i=some v):∃ j,seqIndex? i xs.length=some j∧xs[j]? = some v∧j<xs.length∧-(xs.length:Int)≤i∧i<xs.length:=by
 unfold atI at h
 cases e:ixN xs.length i with
 | none=>rw [e] at h;cases h
 | some j =>
  rw [e] at h
  obtain ⟨h1,h2,h3,h4⟩:=zib e
  exact ⟨j,h1,h,h2,h3,h4⟩
theorem zaL {α:Type} {xs:List α} {j:Nat} {v:α} (h:xs[j]? = some v):atI xs (j:Int)=some v:=by
 have hj:j<xs.length:=(List.getElem?_eq_some_iff.mp h).1
 have e:ixN xs.length (j:Int)=some j:=by
  unfold ixN
  rw [if_pos (by omega),if_pos (by omega)];simp
 unfold atI;rw [e];exact h
def zly (b:Expr):Prop:=∀ o i,subscripted b false o i=operate [o,i] (getItem o i)
def IxR (X:Cx) (r:R2):Prop:=
 ∀ (value slice:Expr) (pins:List (Addr×Obj)) (s:Shared) (σ:St) (H:Hp) (x y:V) (v u:Value) (Q:VK),Inv X pins σ H s→RelV x v→RelV y u→r x y H Q →
  subscripted slice false v u=operate [v,u] (getItem v u)→wpAny (model X.prog X.w) X.A (subscriptTail value slice v u) (EP X pins σ Q) X.xe s
def MtR (X:Cx) (id:String) (r:V→List V→Hp→VK→Prop):Prop:=
 ∀ (pins:List (Addr×Obj)) (s:Shared) (σ:St) (H:Hp) (x:V) (xs:List V) (v:Value) (us:List Value) (Q:VK),Inv X pins σ H s→RelV x v→Vals xs us→r x xs H Q →
  wpAny (model X.prog X.w) X.A (call (.builtin id) (v :: us)) (EP X pins σ Q) X.xe s
section
variable {X:Cx} {a b:Expr} {ta tb:TE} {pos:Pos}
theorem zas {r:R2} (hr:IxR X r) (ha:PE X a ta) (hb:PE X b tb) (hs:zly b):PE X (.Subscript a b pos) (tOp r ta tb):=by
 intro pins s σ H Q I h
 exact Subscript_ (binT ha hb I h fun v u s2 x y H2 I2 rx ry q=>hr a b pins s2 σ H2 x y v u Q I2 rx ry q (hs _ _))
def rIxL (K:PySem.W.Frag):R2:=fun x y H Q=>∃ p xs i v,x = .ref p∧y = .int i∧SqL K H p xs∧atI xs i=some v∧Q v H
def rIxT (K:PySem.W.Frag):R2:=fun x y H Q=>∃ p xs i v,x = .ref p∧y = .int i∧SqT K H p xs∧atI xs i=some v∧Q v H
theorem zaO:IxR X (rIxL X.K):=by
 intro value slice pins s σ H x y v u Q I rx ry h hs
 obtain ⟨p,xs,i,z,rfl,rfl,hq,he,q⟩:=h
 cases rx
 obtain ⟨t,rfl⟩:=ry
 obtain ⟨its,r,pl,hz⟩:=I.list hq
 obtain ⟨j,h1,h2,h3,h4,h5⟩:=zfO he
 obtain ⟨w,ew,rw'⟩:=r.get h2
 have hl:=r.length
 have hn:=zdK
 have fin:EP X pins σ Q w s:=⟨z,H,I,rw',q⟩
 by_cases h0:0≤i
 ·have hj:i.toNat=j:=by
   rw [seqIndex_of h0 h5] at h1
   exact Option.some.inj h1
  exact item_listR pl.isList h0 (by omega) (by rw [hj];simpa using ew) fin hs
 ·have hj:(i+(its.toArray.size:Int)).toNat=j:=by
   rw [seqIndex_neg (by omega) h4] at h1
   rw [List.size_toArray,← hl]
   exact Option.some.inj h1
  exact subscriptTail_builtinR (x:=w) pl.isList.typeIs slot_list_getitem.lookup
   (wpAny_getItem_list_neg (Q:=fun r s'=>r=w∧EP X pins σ Q r s') pl.isList (by omega) (by rw [List.size_toArray] <;> omega) (by omega) (by rw [hj];simpa using ew) ⟨rfl,fin⟩) hs
theorem zap:IxR X (rIxT X.K):=by
 intro value slice pins s σ H x y v u Q I rx ry h hs
 obtain ⟨p,xs,i,z,rfl,rfl,hq,he,q⟩:=h
 cases rx
 obtain ⟨t,rfl⟩:=ry
 obtain ⟨its,r,pl,hz⟩:=I.tuple hq
 obtain ⟨j,h1,h2,h3,h4,h5⟩:=zfO he
 obtain ⟨w,ew,rw'⟩:=r.get h2
 have hl:=r.length
 have hn:=zdK
 have fin:EP X pins σ Q w s:=⟨z,H,I,rw',q⟩
 exact subscriptTail_builtinR (x:=w) pl.typeIs slot_tuple_getitem.lookup
  (getItem_tuple (j:=j) (Q:=fun r s'=>r=w∧EP X pins σ Q r s') pl (by omega) (by omega) (by rw [List.size_toArray,← hl];exact h1) (by simpa using ew) ⟨rfl,fin⟩) hs
theorem zgN (its:List Value) (n j:Nat) (u:Value):Obj.mapSeq (·.setIfInBounds j u) { cls:=.type "list",data:=.seq its.toArray n }={ cls:=.type "list",data:=.seq (its.set j u).toArray n }:=by
 simp [Obj.mapSeq]
theorem Inv.lst {pins:List (Addr×Obj)} {σ:St} {H:Hp} {s:Shared} {p:Addr} {xs:List V} (I:Inv X pins σ H s) (h:H p=some (.lst xs)) :
  ∃ (its:List Value) (n:Nat),Vals xs its∧s.heap.get? p=some { cls:=.type "list",data:=.seq its.toArray n }∧xs.length≤sizeLine:=by
 obtain ⟨z,its,n,r,e⟩:=I.hok p _ h
 exact ⟨its,n,r,e,z⟩
theorem Inv.lstUpd {pins:List (Addr×Obj)} {σ:St} {H:Hp} {s:Shared} {p:Addr} {xs ys:List V} {its its':List Value} {n n':Nat} {f:Obj→Obj} (I:Inv X pins σ H s) (h:H p=some (.lst xs))
  (ho:s.heap.get? p=some { cls:=.type "list",data:=.seq its.toArray n }) (hf:f { cls:=.type "list",data:=.seq its.toArray n }={ cls:=.type "list",data:=.seq its'.toArray n' }) (r:Vals ys its') (hz:ys.length≤sizeLine) (t:Nat) :
  Inv X pins σ (upd H p (.lst ys)) { s with heap:=s.heap.update p f,toks:=t }:=by
 have e:(s.heap.update p f).get? p=some { cls:=.type "list",data:=.seq its'.toArray n' }:=by
  rw [Heap.get?_update_self f ho (by rw [hf] <;> rfl),hf]
 refine I.write (x:=p) (e:=p) (by rw [h];trivial) (.inl rfl) (fun b u hb q=>(Heap.get?_update_other _ _ (Ne.symm hb)).trans q) ⟨_,e⟩ ?_
 exact ⟨hz,its',n',r,e⟩
def rSetL:V→V→V→Hp→(Hp→Prop)→Prop:=fun o i v H Q=>∃ p xs k j,o = .ref p∧i = .int k∧H p=some (.lst xs)∧ixN xs.length k=some j∧Q (upd H p (.lst (xs.set j v)))
theorem zf4:PSet X rSetL:=by
 intro pins s σ H o i v ov iv u Q I ro ri rv h
 obtain ⟨p,xs,k,j,rfl,rfl,hp,hj,q⟩:=h
 cases ro
 obtain ⟨t,rfl⟩:=ri
 obtain ⟨its,n,r,ho,hz⟩:=I.lst hp
 obtain ⟨h1,h2,h3,h4⟩:=zib hj
 have hl:=r.length
 have hn:=zdK
 have I':Inv X pins σ (upd H p (.lst (xs.set j v))) { s with heap:=s.heap.update p (Obj.mapSeq (·.setIfInBounds j u)) }:=
  I.lstUpd hp ho (zgN its n j u) (r.set rv j) (by rw [List.length_set];exact hz) s.toks
 by_cases h0:0≤k
 ·have hk:k.toNat=j:=by
   rw [seqIndex_of h0 h4] at h1
   exact Option.some.inj h1
  exact PySem.W.ki_setAt ho h0 (by omega) (by rw [List.size_toArray,← hl];exact h4) (by rw [hk];exact ⟨_,I',q⟩)
 ·have hk:(k+(its.toArray.size:Int)).toNat=j:=by
   rw [seqIndex_neg (by omega) h3] at h1
   rw [List.size_toArray,← hl]
   exact Option.some.inj h1
  exact PySem.W.ki_setBack ho (by omega) (by rw [List.size_toArray,← hl];exact h3) (by omega) (by rw [hk];exact ⟨_,I',q⟩)
theorem zex (lo hi:Option Int) (n:Nat):(sliceBounds lo hi none n).1=((HT.sIx n 0 lo:Nat):Int)∧(sliceBounds lo hi none n).2.1=((HT.sIx n n hi:Nat):Int)∧(sliceBounds lo hi none n).2.2=1:=by
 refine ⟨?_,?_,rfl⟩
 ·cases lo with
  | none=>simp [sliceBounds,HT.sIx]
  | some i =>
   simp only [sliceBounds,HT.sIx,Option.getD_none,show (1:Int) > 0 by decide,if_true]
   by_cases h:i<0
   ·simp only [h,if_true] <;> omega
   ·simp only [h,if_false] <;> omega
 ·cases hi with
  | none=>simp [sliceBounds,HT.sIx]
  | some i =>
   simp only [sliceBounds,HT.sIx,Option.getD_none,show (1:Int) > 0 by decide,if_true]
   by_cases h:i<0
   ·simp only [h,if_true] <;> omega
   ·simp only [h,if_false] <;> omega
theorem zd4 (its:List Value) (lo hi:Option Int):slicePick its.toArray lo hi none=((its.drop (HT.sIx its.length 0 lo)).take (HT.sIx its.length its.length hi - HT.sIx its.length 0 lo)).toArray:=by
 obtain ⟨h1,h2,h3⟩:=zex lo hi its.toArray.size
 unfold slicePick
 rw [h1,h2,h3]
 simp only [sliceRange_one,pick_run,List.size_toArray] <;> rfl
def rSlL (K:PySem.W.Frag):V→Option Int→Option Int→Hp→VK→Prop:=fun x lo hi H Q=>∃ a xs,x = .ref a∧SqL K H a xs∧∀ p,H p=none→Q (.ref p) (upd H p (.lst (cutV xs lo hi)))
theorem zkI:SlR X (rSlL X.K):=by
 intro pins s σ H x v vl vu lo hi sl Q I rx hs pl pu h
 obtain ⟨a,xs,rfl,hx,q⟩:=h
 cases rx
 obtain ⟨its,r,ht,hz⟩:=I.list hx
 have hlen:=r.length
 refine ⟨"list",_,slot_list_getitem.lookup,ht.isList.typeIs,?_⟩
 refine wpAny_getItem_list_slice ht.isList hs pl pu .none (by simp) ?_ (by rw [List.size_toArray] <;> omega)
 rw [zd4,← hlen]
 refine ⟨.ref s.heap.objs.size,_,I.laid (t':=s.toks) (o:=.lst (cutV xs lo hi)) (fun b ob q=>Heap.get?_push_of_some _ q) (Nat.le_refl _) ?_,rfl,q _ (I.hok.fresh (Nat.le_refl _))⟩
 exact ⟨Nat.le_trans (zds xs lo hi) hz,_,0,(r.drop (HT.sIx xs.length 0 lo)).take (HT.sIx xs.length xs.length hi - HT.sIx xs.length 0 lo),Heap.get?_push_size _ rfl⟩
def zem:V→Bool
 | .non=>true
 | .bl _=>true
 | .int _=>true
 | .str _=>true
 | _=>false
def eqV:V→V→Bool
 | .non,.non=>true
 | .bl a,.bl b=>a == b
 | .bl a,.int b=>(if a then 1 else 0) == b
 | .int a,.bl b=>a == (if b then 1 else 0)
 | .int a,.int b=>a == b
 | .str a,.str b=>a == b
 | _,_=>false
theorem eqAt_V {A:Around} {s:Shared} {y x:V} {u v:Value} (ry:RelV y u) (rx:RelV x v) (fy:zem y=true) (fx:zem x=true):SeqAt.EqAt A s u v (eqV y x):=by
 cases y with
 | non =>
  cases ry
  cases x with
  | non=>cases rx;exact SeqAt.EqAt.same _
  | bl b=>cases rx;exact SeqAt.EqAt.none_bool b
  | int b=>obtain ⟨t,rfl⟩:=rx;exact SeqAt.EqAt.none_int b t
  | str b=>obtain ⟨t,rfl⟩:=rx;exact SeqAt.EqAt.none_str b t
  | _=>exact absurd (show false=true from fx) Bool.false_ne_true
 | bl a =>
  cases ry
  cases x with
  | non=>cases rx;exact SeqAt.EqAt.bool_none a
  | bl b=>cases rx;exact SeqAt.EqAt.bool_bool a b
  | int b=>obtain ⟨t,rfl⟩:=rx;exact SeqAt.EqAt.bool_int a b t
  | str b=>obtain ⟨t,rfl⟩:=rx;exact SeqAt.EqAt.bool_str a b t
  | _=>exact absurd (show false=true from fx) Bool.false_ne_true
 | int a =>
  obtain ⟨t',rfl⟩:=ry
  cases x with
  | non=>cases rx;exact SeqAt.EqAt.int_none a t'
  | bl b=>cases rx;exact SeqAt.EqAt.int_bool a t' b
  | int b=>obtain ⟨t,rfl⟩:=rx;exact SeqAt.EqAt.int_int a t' b t
  | str b=>obtain ⟨t,rfl⟩:=rx;exact SeqAt.EqAt.int_str a t' b t
  | _=>exact absurd (show false=true from fx) Bool.false_ne_true
 | str a =>
  obtain ⟨t',rfl⟩:=ry
  cases x with
  | non=>cases rx;exact SeqAt.EqAt.str_none a t'
  | bl b=>cases rx;exact SeqAt.EqAt.str_bool a t' b
  | int b=>obtain ⟨t,rfl⟩:=rx;exact SeqAt.EqAt.str_int a t' b t
  | str b=>obtain ⟨t,rfl⟩:=rx;exact SeqAt.EqAt.str_str a t' b t
  | _=>exact absurd (show false=true from fx) Bool.false_ne_true
 | _=>exact absurd (show false=true from fy) Bool.false_ne_true
def eqU (x:V) (u:Value):Bool:=match u with
 | .none=>eqV .non x
 | .bool b=>eqV (.bl b) x
 | .int i _=>eqV (.int i) x
 | .str z _=>eqV (.str z) x
 | _=>false
theorem zke {x y:V} {u:Value} (r:RelV y u) (f:zem y=true):eqU x u=eqV y x:=by
 cases y with
 | non=>cases r;rfl
 | bl b=>cases r;rfl
 | int i=>obtain ⟨t,rfl⟩:=r;rfl
 | str z=>obtain ⟨t,rfl⟩:=r;rfl
 | _=>exact absurd (show false=true from f) Bool.false_ne_true
theorem zfP {x:V}:∀ {xs:List V} {us:List Value},Vals xs us→xs.all zem=true→us.any (eqU x)=xs.any fun y=>eqV y x
 | _,_,.nil,_=>rfl
 | y :: xs,u :: us,.cons r t,f=>by
  rw [List.all_cons,Bool.and_eq_true] at f
  rw [List.any_cons,List.any_cons,zke r f.1,zfP t f.2]
theorem zei {A:Around} {s:Shared} {x:V} {v:Value} (rx:RelV x v) (fx:zem x=true):∀ {xs:List V} {us:List Value},Vals xs us→xs.all zem=true→∀ u∈us,SeqAt.EqAt A s u v (eqU x u)
 | _,_,.nil,_=>fun u hu=>by cases hu
 | y :: xs,u :: us,.cons r t,f=>fun u' hu=>by
  rw [List.all_cons,Bool.and_eq_true] at f
  rcases List.mem_cons.mp hu with rfl | hu
  ·rw [zke r f.1];exact eqAt_V r rx f.1 fx
  ·exact zei rx fx t f.2 u' hu
def inV (x:V) (xs:List V):Bool:=xs.any fun y=>eqV y x
def rIn (K:PySem.W.Frag) (neg:Bool):R2:=fun x y H Q=>∃ p xs,y = .ref p∧(SqL K H p xs∨SqT K H p xs)∧zem x=true∧xs.all zem=true∧Q (.bl (if neg then !inV x xs else inV x xs)) H
theorem zhU:OpR X (compareOp .In) (rIn X.K false):=by
 intro pins s σ H x y v u Q I rx ry h
 obtain ⟨p,xs,rfl,hq,fx,fs,q⟩:=h
 cases ry
 rcases hq with hq | hq
 ·obtain ⟨its,r,pl,hz⟩:=I.list hq
  refine SeqAt.in_listAt (eqU x) pl.isList (fun w hw=>zei rx fx r fs w (by simpa using hw)) ⟨.bl _,H,I,rfl,?_⟩
  rw [show its.toArray.any (eqU x)=its.any (eqU x) by simp,zfP r fs]
  exact q
 ·obtain ⟨its,r,pl,hz⟩:=I.tuple hq
  refine SeqAt.in_tupleAt (eqU x) pl (fun w hw=>zei rx fx r fs w (by simpa using hw)) ⟨.bl _,H,I,rfl,?_⟩
  rw [show its.toArray.any (eqU x)=its.any (eqU x) by simp,zfP r fs]
  exact q
theorem zav:zbY X (.builtin "len") (fun xs H Q=>∃ p ys,xs=[.ref p]∧(SqL X.K H p ys∨SqT X.K H p ys)∧Q (.int ys.length) H):=by
 intro pins s σ H xs us Q I r h
 obtain ⟨p,ys,rfl,hq,q⟩:=h
 obtain ⟨u,rfl,rx⟩:=zcC r
 cases rx
 have hn:=zdK
 rcases hq with hq | hq
 ·obtain ⟨its,r',pl,hz⟩:=I.list hq
  have hlen:=r'.length
  exact Calls.call_len_list pl.isList (by simp only [List.size_toArray] <;> omega) ⟨.int ys.length,H,I.tok _,⟨s.toks+1,by rw [List.size_toArray,hlen]⟩,q⟩
 ·obtain ⟨its,r',pl,hz⟩:=I.tuple hq
  have hlen:=r'.length
  exact len_tuple pl (by simp only [List.size_toArray] <;> omega) ⟨.int ys.length,H,I.tok _,⟨s.toks+1,by rw [List.size_toArray,hlen]⟩,q⟩
theorem ze6:zbY X (.type "list") (fun xs H Q=>∃ p ys,xs=[.ref p]∧(SqL X.K H p ys∨SqT X.K H p ys)∧∀ l,H l=none→Q (.ref l) (upd H l (.lst ys))):=by
 intro pins s σ H xs us Q I r h
 obtain ⟨p,ys,rfl,hq,q⟩:=h
 obtain ⟨u,rfl,rx⟩:=zcC r
 cases rx
 have fin:∀ (its:List Value),Vals ys its→ys.length≤sizeLine→∀ (h':Heap) (c':Nat),(∀ b o',s.heap.get? b=some o'→h'.get? b=some o') →
   h'.get? s.heap.objs.size=some { cls:=.type "list",dict:=none,data:=.seq its.toArray c',slots:=#[] }→EP X pins σ Q (.ref s.heap.objs.size) { s with heap:=h' }:=fun its r' hz h' c' kp e =>
  ⟨.ref s.heap.objs.size,_,I.laid (t':=s.toks) kp (Nat.le_refl _) (show ObjOk X.prog X.w _ h' _ (.lst ys) from ⟨hz,its,c',r',e⟩),rfl,q _ (I.hok.fresh (Nat.le_refl _))⟩
 rcases hq with hq | hq
 ·obtain ⟨its,r',pl,hz⟩:=I.list hq
  have hlen:=r'.length
  obtain ⟨o,ho,hc,n,hd⟩:=pl.isList
  exact call_list_seq p (.inl rfl) ho hc hd (fun h' c' kp e=>fin its r' hz h' c' kp e) (by simp only [List.size_toArray] <;> omega)
 ·obtain ⟨its,r',pl,hz⟩:=I.tuple hq
  have hlen:=r'.length
  obtain ⟨o,ho,hc,n,hd⟩:=pl
  exact call_list_seq p (.inr rfl) ho hc hd (fun h' c' kp e=>fin its r' hz h' c' kp e) (by simp only [List.size_toArray] <;> omega)
theorem zbr:zbY X (.type "tuple") (fun xs H Q=>∃ p ys,xs=[.ref p]∧((SqL X.K H p ys∧∀ l,H l=none→Q (.ref l) (upd H l (.tup ys)))∨(SqT X.K H p ys∧Q (.ref p) H))):=by
 intro pins s σ H xs us Q I r h
 obtain ⟨p,ys,rfl,h⟩:=h
 obtain ⟨u,rfl,rx⟩:=zcC r
 cases rx
 rcases h with ⟨hq,q⟩ | ⟨hq,q⟩
 ·obtain ⟨its,r',pl,hz⟩:=I.list hq
  have hlen:=r'.length
  refine call_tuple_list pl.isList (fun h' kp=>?_) (by simp only [List.size_toArray] <;> omega)
  have I1:Inv X pins σ H { s with heap:=h' }:=I.kept (t':=s.toks) kp
  have I2:Inv X pins σ (upd H h'.objs.size (.tup ys)) { s with heap:=h'.push { cls:=.type "tuple",data:=.seq its.toArray } }:=
   I1.laid (t':=s.toks) (fun b o e=>Heap.get?_push_of_some _ e) (Nat.le_refl _) (show ObjOk X.prog X.w _ _ _ (.tup ys) from ⟨⟨hz,_,Heap.get?_push_size _ rfl,rfl⟩,its,r',IsTup.new _ _⟩)
  exact ⟨.ref h'.objs.size,_,I2,rfl,q _ (I1.hok.fresh (Nat.le_refl _))⟩
 ·obtain ⟨its,r',pl,hz⟩:=I.tuple hq
  exact call_tuple_same pl ⟨.ref p,H,I,rfl,q⟩
def tyV (K:PySem.W.Frag) (T:String) (x:V) (H:Hp):Prop:=match x with
 | .str _=>T = "str"
 | .int _=>T = "int"
 | .ref p=>(T = "list" ∧ ∃ xs,SqL K H p xs)∨(T = "tuple" ∧ ∃ o,K.lookup p=some o∧o.cls = .type "tuple" ∧ o.dict=none) ∨
   (T = "dict" ∧ ((∃ kvs,H p=some (.dK kvs))∨∃ kvs,H p=some (.dT kvs)))∨(T = "set" ∧ ∃ S n,H p=some (.set S n))
 | _=>False
theorem zjV {pins:List (Addr×Obj)} {σ:St} {H:Hp} {s:Shared} {T:String} {x:V} {v:Value} (I:Inv X pins σ H s) (r:RelV x v) (ty:tyV X.K T x H) :
  s.TypeIs v T∧∀ a,v = .ref a→∃ ob,s.heap.get? a=some ob∧ob.dict=none:=by
 cases x with
 | str z =>
  obtain ⟨t,rfl⟩:=r
  cases (show T = "str" from ty)
  exact ⟨typeIs_str s z t,fun _ e=>nomatch e⟩
 | int i =>
  obtain ⟨t,rfl⟩:=r
  cases (show T = "int" from ty)
  exact ⟨typeIs_int s i t,fun _ e=>nomatch e⟩
 | ref p =>
  cases r
  rcases ty with ⟨rfl,xs,hq⟩ | ⟨rfl,o,hk,hc,hd⟩ | ⟨rfl,hk⟩ | ⟨rfl,S,n,hk⟩
  ·obtain ⟨its,_,pl,_⟩:=I.list hq
   refine ⟨pl.isList.typeIs,fun a e=>?_⟩
   cases e
   obtain ⟨o,n,e,c,hd,_⟩:=pl
   exact ⟨o,e,hd⟩
  ·refine ⟨⟨o,I.kIn p o hk,hc⟩,fun a e=>?_⟩
   cases e
   exact ⟨o,I.kIn _ o hk,hd⟩
  ·have z:∃ o,s.heap.get? p=some o∧o.ExactDict:=by
    rcases hk with ⟨kvs,hk⟩ | ⟨kvs,hk⟩
    ·obtain ⟨_,_,_,_,o,_,_,e,ex,_⟩:=I.hok p _ hk
     exact ⟨o,e,ex⟩
    ·obtain ⟨_,_,_,_,o,_,_,e,ex,_⟩:=I.hok p _ hk
     exact ⟨o,e,ex⟩
   obtain ⟨o,e,ex⟩:=z
   refine ⟨⟨o,e,ex.1⟩,fun a e2=>?_⟩
   cases e2
   exact ⟨o,e,ex.2.1⟩
  ·obtain ⟨o,_,_,_,e,ex,_⟩:=I.hok p _ hk
   refine ⟨⟨o,e,ex.1⟩,fun a e2=>?_⟩
   cases e2
   exact ⟨o,e,ex.2.1⟩
 | _=>exact False.elim ty
def tBM0 (K:PySem.W.Frag) (T:String) (r:V→List V→Hp→VK→Prop) (to:TE):TE:=fun σ H Q=>to σ H fun x H1=>tyV K T x H1∧r x [] H1 Q
def tBM (K:PySem.W.Frag) (T:String) (r:V→List V→Hp→VK→Prop) (to:TE) (t:TA):TE:=fun σ H Q=>to σ H fun x H1=>tyV K T x H1∧t σ H1 fun xs H2=>r x xs H2 Q
variable {o e:Expr} {es:List Expr} {to:TE} {t:TA} {name:Str} {apos cpos:Pos} {T id:String} {r:V→List V→Hp→VK→Prop}
theorem pe_bm0 (pa:PlainAttrs T) (slot:Slot T name id) (hty:typeOf (.builtin id)=pure (.type "method_descriptor")) (hm:MtR X id r) (ho:PE X o to)
  (hbase:attributeBase o name X.env (eval o X.env)=eval o X.env:=by rfl) (hline:(apos.endLine == cpos.line)=true:=by rfl):PE X (.Call (.Attribute o name apos) [] [] cpos) (tBM0 X.K T r to):=by
 intro pins s σ H Q I h
 refine wpAny_Call_method0_late hbase hline (thn (ho pins s σ H _ I h) fun v s1 ⟨x,H1,I1,r1,ty,q1⟩=>?_)
 obtain ⟨h1,h2⟩:=zjV I1 r1 ty
 exact ⟨T,id,pa,slot,hty,h1,h2,Calls.callWith_builtin rfl (PySem.evalArgs_none (hm pins s1 σ H1 x [] v [] Q I1 r1 .nil q1))⟩
theorem zji (pa:PlainAttrs T) (slot:Slot T name id) (hty:typeOf (.builtin id)=pure (.type "method_descriptor")) (hm:MtR X id r) (ho:PE X o to) (ha:PA X (e :: es) t)
  (hbase:attributeBase o name X.env (eval o X.env)=eval o X.env:=by rfl)
  (hfew:((backTo cpos (starEach (e :: es) X.env)).all (fun x=>!x.1) && (backToKw cpos (keywordEach [] X.env)).all (fun x=>x.1.isSome)
   && decide ((e :: es).length+([]:List Keyword).length+(if ([]:List Keyword).isEmpty then 0 else 1)<30))=true:=by rfl)
  (hline:(apos.endLine == cpos.line)=true:=by rfl) (hs:starEach (e :: es) X.env=(false,eval e X.env) :: starEach es X.env:=by rfl) (hplain:(backTo cpos (starEach es X.env)).any (·.1)=false:=by rfl) :
  PE X (.Call (.Attribute o name apos) (e :: es) [] cpos) (tBM X.K T r to t):=by
 intro pins s σ H Q I h
 refine wpAny_Call_method_late hbase hfew hline rfl (thn (ho pins s σ H _ I h) fun v s1 ⟨x,H1,I1,r1,ty,q1⟩=>?_)
 obtain ⟨h1,h2⟩:=zjV I1 r1 ty
 refine ⟨T,id,pa,slot,hty,h1,h2,?_⟩
 have hA:=ha cpos pins s1 σ H1 _ I1 q1
 rw [hs] at hA ⊢
 refine Calls.callWith_builtin (by show (false || (backTo cpos (starEach es X.env)).any (·.1))=false;rw [hplain] <;> rfl) (Calls.evalArgs_plain ?_)
 exact thn hA fun us s2 ⟨vs,H2,I2,r2,q2⟩=>hm pins s2 σ H2 x vs v us Q I2 r1 r2 q2
end
end L2
namespace L2
open PySem PySem.Spec PyProof.Rows
def MtM (X:Cx) (id:String) (r:V→List V→Hp→VK→Prop):Prop:=
 ∀ (pins:List (Addr×Obj)) (s:Shared) (σ:St) (H:Hp) (x:V) (xs:List V) (v:Value) (us:List Value) (Q:VK),Inv X pins σ H s→RelV x v→Vals xs us→r x xs H Q →
  wpAny (model X.prog X.w) X.A (call (.builtin id) (v :: us)) (EP X pins σ Q) X.xe s
theorem Vals.one:∀ {x:V} {us:List Value},Vals [x] us→∃ u,us=[u]∧RelV x u
 | _,_,.cons r .nil=>⟨_,rfl,r⟩
theorem Vals.zero:∀ {us:List Value},Vals [] us→us=[]
 | _,.nil=>rfl
theorem Vals.rep {xs:List V} {us:List Value} (h:Vals xs us):∀ k:Nat,Vals (List.replicate k xs).flatten (List.replicate k us).flatten
 | 0=>.nil
 | k+1=>by
  rw [List.replicate_succ,List.replicate_succ,List.flatten_cons,List.flatten_cons]
  exact Vals.append h (Vals.rep h k)
theorem zeX (its:List Value):∀ (k:Nat) (acc:List Value),
  List.foldl (fun x1 x2=>x1 ++ x2) acc.toArray (List.replicate k its.toArray)=(acc ++ (List.replicate k its).flatten).toArray
 | 0,acc=>by simp
 | k+1,acc=>by
  have e:acc.toArray ++ its.toArray=(acc ++ its).toArray:=by simp
  have e2:(acc ++ its) ++ (List.replicate k its).flatten=acc ++ (List.replicate (k+1) its).flatten:=by
   rw [List.replicate_succ,List.flatten_cons,List.append_assoc]
  rw [← e2,← zeX its k (acc ++ its),← e,List.replicate_succ,List.foldl_cons]
section
variable {X:Cx} {pins:List (Addr×Obj)} {σ:St} {H:Hp} {s:Shared} {l b:Addr} {xs ys zs:List V}
theorem Inv.lset {its its':List Value} {n:Nat} {f:Array Value→Array Value} {t':Nat} (I:Inv X pins σ H s) (hH:H l=some (.lst xs))
  (e:s.heap.get? l=some { cls:=.type "list",data:=.seq its.toArray n }) (hf:f its.toArray=its'.toArray) (hv:Vals ys its') (hz:ys.length≤sizeLine) :
  Inv X pins σ (upd H l (.lst ys)) { s with heap:=s.heap.update l (Obj.mapSeq f),toks:=t' }:=by
 have q:=PySem.IsL.update e f
 rw [hf] at q
 refine I.write (x:=l) (e:=l) (by rw [hH];exact trivial) (.inl rfl) (fun b' u hb hu=>(Heap.get?_update_other s.heap (Obj.mapSeq f) (Ne.symm hb)).trans hu) ⟨_,q⟩ ?_
 exact ⟨hz,its',_,hv,q⟩
theorem Inv.lnew {its:List Value} {t':Nat} (I:Inv X pins σ H s) (hv:Vals ys its) (hz:ys.length≤sizeLine) :
  Inv X pins σ (upd H s.heap.objs.size (.lst ys)) { s with heap:=s.heap.push { cls:=.type "list",data:=.seq its.toArray },toks:=t' }:=
 I.laid (fun _ _ q=>Heap.get?_push_of_some _ q) (Nat.le_refl _) ⟨hz,its,0,hv,Heap.get?_push_size _ rfl⟩
theorem Inv.fresh (I:Inv X pins σ H s):H s.heap.objs.size=none:=I.hok.fresh (Nat.le_refl _)
theorem Inv.lstM (I:Inv X pins σ H s) (hH:H l=some (.lst xs)):xs.length≤sizeLine∧∃ (its:List Value) (n:Nat),Vals xs its∧xs.length=its.length∧s.heap.get? l=some { cls:=.type "list",data:=.seq its.toArray n }:=by
 obtain ⟨z,its,n,r,e⟩:=I.hok l _ hH
 exact ⟨z,its,n,r,r.length,e⟩
theorem zjp {n:Nat} (h:n≤sizeLine):Builtin.List.listTooLong n=false:=by
 unfold Builtin.List.listTooLong
 exact decide_eq_false (by omega)
end
section
variable {X:Cx}
def zhG:V→List V→Hp→VK→Prop:=fun x vs H Q=>∃ l xs y,x = .ref l∧vs=[y]∧H l=some (.lst xs)∧xs.length<sizeLine∧Q .non (upd H l (.lst (xs ++ [y])))
theorem zcd:MtM X "list.append" zhG:=by
 intro pins s σ H x vs v us Q I rx rv h
 obtain ⟨l,xs,y,rfl,rfl,hH,hz,q⟩:=h
 cases rx
 obtain ⟨u,rfl,ru⟩:=rv.one
 obtain ⟨z,its,n,r,hl,e⟩:=I.lstM hH
 refine call_meets F.slot_list_append ⟨_,e,rfl⟩ F.entry_list_append (F.args_list_append_2 _ _) (PySem.list_append l its.toArray n u (by rw [List.size_toArray];omega)) ⟨e,?_⟩
 refine ⟨.non,_,I.lset (its':=its ++ [u]) hH e (by simp) (r.append (.cons ru .nil)) ?_,rfl,q⟩
 rw [List.length_append,List.length_singleton]
 omega
def rRep:R2:=fun x y H Q=>∃ l k xs,x = .ref l∧y = .int k∧H l=some (.lst xs)∧-(2 ^ 63)≤k∧k<2 ^ 63∧xs.length * k.toNat≤sizeLine ∧
 ∀ p,H p=none→Q (.ref p) (upd H p (.lst (List.replicate k.toNat xs).flatten))
theorem zlg {α:Type} (xs:List α) (k:Nat):(List.replicate k xs).flatten.length=k * xs.length:=by
 induction k with
 | zero=>simp
 | succ k ih=>rw [List.replicate_succ,List.flatten_cons,List.length_append,ih,Nat.succ_mul,Nat.add_comm]
theorem zj6:OpR X (binaryOp .Mult) rRep:=by
 intro pins s σ H x y v u Q I rx ry h
 obtain ⟨l,k,xs,rfl,rfl,hH,h1,h2,hz,q⟩:=h
 cases rx
 obtain ⟨t,rfl⟩:=ry
 obtain ⟨z,its,n,r,hl,e⟩:=I.lstM hH
 have hlen:its.toArray.size * k.toNat≤sizeLine:=by rw [List.size_toArray,← hl];exact hz
 have hcap:¬ its.toArray.size * k.toNat > (2 ^ 63 - 1) / 8:=by
  have:(sizeLine:Nat)≤(2 ^ 63 - 1) / 8:=by decide
  omega
 have hfit:¬ (!Builtin.List.listFitsIndex k)=true:=by
  rw [fitsIndex_both h1 h2]
  exact Bool.false_ne_true
 have hlong:¬ Builtin.List.listTooLong (its.toArray.size * k.toNat)=true:=by
  rw [zjp hlen]
  exact Bool.false_ne_true
 have hnew:List.foldl (fun x1 x2=>x1 ++ x2) #[] (List.replicate (if its.toArray.isEmpty=true then 0 else k.toNat) its.toArray)=(List.replicate k.toNat its).flatten.toArray:=by
  have f0:∀ m:Nat,List.foldl (fun x1 x2=>x1 ++ x2) #[] (List.replicate m its.toArray)=(List.replicate m its).flatten.toArray:=fun m=>by
   have:=zeX its m []
   rw [List.nil_append] at this
   exact this
  rw [f0]
  cases its with
  | nil=>simp
  | cons a r'=>rw [if_neg (by simp)]
 refine wpAny_binaryOp_repeat_ref (T := "list") (U := "int") (by decide) ⟨_,e,rfl⟩ (fun s'=>typeIs_int s' k t) noFill_list_mul F.fills_int_mul F.slot_int_rmul repeat_list F.slot_int_index.lookup
  (call_meets F.slot_int_rmul (typeIs_int s k t) F.entry_int_rmul (F.args_int_rmul_2 _ _) (int___rmul___int_list k t l its.toArray n)
   ⟨e,rfl,⟨_,e,rfl⟩,call_meets F.slot_list_mul ⟨_,e,rfl⟩ F.entry_list_mul (F.args_list_mul_2 _ _) (AutoListH.list___mul___list_int_3 l its.toArray n k t hfit hcap hlong) ⟨e,?_⟩⟩)
 rw [hnew]
 exact ⟨.ref _,_,I.lnew (t':=s.toks) (r.rep k.toNat) (by rw [zlg,Nat.mul_comm];exact hz),rfl,q _ I.fresh⟩
end
section
variable {prog:Program} {w:World} {A:Around} {E:Value→Shared→Prop} {s:Shared}
end
section
variable {X:Cx}
end
end L2
namespace L2
open PySem PySem.Spec PyProof.Rows
section
variable {κ:Type} [DecidableEq κ]
def valV (kvs:List (κ×V)) (k:κ):Option V:=(kvs.find? fun kv=>decide (kv.1=k)).map (·.2)
def putK (kvs:List (κ×V)) (k:κ) (v:V):List (κ×V):=
 if (kvs.any fun kv=>decide (kv.1=k))=true then kvs.map (fun kv=>if kv.1=k then (kv.1,v) else kv) else kvs ++ [(k,v)]
theorem zdS {p:κ×V} {r:List (κ×V)} {k:κ} (e:p.1=k):valV (p :: r) k=some p.2:=by simp [valV,List.find?_cons,e]
theorem zdT {p:κ×V} {r:List (κ×V)} {k:κ} (e:¬ p.1=k):valV (p :: r) k=valV r k:=by simp [valV,List.find?_cons,e]
theorem zfR (k:κ):∀ kvs:List (κ×V),(kvs.any fun kv=>decide (kv.1=k))=(valV kvs k).isSome
 | []=>rfl
 | p :: r=>by
  rw [List.any_cons]
  by_cases e:p.1=k
  ·simp only [zdS e,decide_eq_true e,Bool.true_or,Option.isSome_some]
  ·rw [zdT e,decide_eq_false e,Bool.false_or];exact zfR k r
theorem zdm (kvs:List (κ×V)) (k:κ) (v:V):(putK kvs k v).length≤kvs.length+1:=by
 unfold putK
 split
 ·rw [List.length_map];omega
 ·rw [List.length_append,List.length_cons,List.length_nil];omega
theorem RelO.isSome_eq {o:Option V} {u:Option Value} (r:RelO o u):o.isSome=u.isSome:=by
 cases o with
 | none=>cases u with
  | none=>rfl
  | some _=>exact (show False from r).elim
 | some _=>cases u with
  | none=>exact (show False from r).elim
  | some _=>rfl
theorem RelO.getD {o:Option V} {u:Option Value} {d:V} {d':Value} (r:RelO o u) (rd:RelV d d'):RelV (o.getD d) (u.getD d'):=by
 cases o with
 | none=>cases u with
  | none=>exact rd
  | some _=>exact (show False from r).elim
 | some _=>cases u with
  | none=>exact (show False from r).elim
  | some _=>exact r
theorem KV.val {kvs:List (κ×V)} {vs:List (κ×Value)} (r:KV kvs vs) (k:κ):RelO (valV kvs k) (valueAt vs k):=by
 unfold KV at r
 induction r with
 | nil=>exact True.intro
 | @cons p q ps qs h t ih =>
  obtain ⟨h1,h2⟩:=h
  by_cases e:p.1=k
  ·have e':q.1=k:=h1.symm.trans e
   have b:valueAt (q :: qs) k=some q.2:=by simp [valueAt,List.find?_cons,e']
   rw [zdS e,b];exact h2
  ·have e':¬ q.1=k:=fun z=>e (h1.trans z)
   have b:valueAt (q :: qs) k=valueAt qs k:=by simp [valueAt,List.find?_cons,e']
   rw [zdT e,b];exact ih
theorem KV.any {kvs:List (κ×V)} {vs:List (κ×Value)} (r:KV kvs vs) (k:κ):(kvs.any fun kv=>decide (kv.1=k))=vs.any fun kv=>decide (kv.1=k):=by
 unfold KV at r
 induction r with
 | nil=>rfl
 | cons h t ih=>rw [List.any_cons,List.any_cons,ih,h.1]
theorem KV.repl {kvs:List (κ×V)} {vs:List (κ×Value)} (r:KV kvs vs) (k:κ) {y:V} {u:Value} (ry:RelV y u) :
  KV (kvs.map fun kv=>if kv.1=k then (kv.1,y) else kv) (vs.map fun kv=>if kv.1=k then (kv.1,u) else kv):=by
 unfold KV at r ⊢
 induction r with
 | nil=>exact .nil
 | @cons p q ps qs h t ih =>
  rw [List.map_cons,List.map_cons]
  refine .cons ?_ ih
  obtain ⟨h1,h2⟩:=h
  by_cases e:p.1=k
  ·rw [if_pos e,if_pos (h1.symm.trans e)];exact ⟨h1,ry⟩
  ·rw [if_neg e,if_neg (fun z=>e (h1.trans z))];exact ⟨h1,h2⟩
theorem KV.put {kvs:List (κ×V)} {vs:List (κ×Value)} (r:KV kvs vs) (k:κ) {y:V} {u:Value} (ry:RelV y u):KV (putK kvs k y) (stored vs k u):=by
 unfold putK stored
 rw [r.any k]
 by_cases e:(vs.any fun kv=>decide (kv.1=k))=true
 ·rw [if_pos e,if_pos e];exact r.repl k ry
 ·rw [if_neg e,if_neg e];exact Paired.snoc r ⟨rfl,ry⟩
theorem KV.length {kvs:List (κ×V)} {vs:List (κ×Value)} (r:KV kvs vs):kvs.length=vs.length:=Paired.length r
end
theorem zgR {P:Program} {w:World} {k:Key} {u:Value} (r:RelV (kV k) u):(zaz P w).is k u=true:=by
 cases k with
 | inl i=>obtain ⟨t,e⟩:=(show ∃ t,u=Value.int i t from r);subst e;exact zfG P w i t
 | inr x=>obtain ⟨t,e⟩:=(show ∃ t,u=Value.str x t from r);subst e;exact zfF P w x t
theorem zeR {P:Program} {w:World}:∀ {ks:List Key} {us:List Value},Vals (ks.map kV) us→ItemsAre (zaz P w) ks us
 | [],_,r=>by rw [List.map_nil] at r;cases r;exact .nil
 | k :: ks,_,r=>by
  rw [List.map_cons] at r
  cases r with
  | cons h t=>exact .cons (zgR h) (zeR t)
abbrev KT (H:Hp):List (List Key×V)→List (List Key×Addr×Value)→Prop:=Paired fun p q=>p.1=q.1∧H q.2.1=some (.tup (p.1.map kV))∧RelV p.2 q.2.2
theorem KT.val {H:Hp} {kvs:List (List Key×V)} {xs:List (List Key×Addr×Value)} (r:KT H kvs xs) (k:List Key):RelO (valV kvs k) ((atKey xs k).map (·.2)):=by
 induction r with
 | nil=>exact True.intro
 | @cons p q ps qs h t ih =>
  obtain ⟨h1,_,h2⟩:=h
  by_cases e:p.1=k
  ·have e':q.1=k:=h1.symm.trans e
   have b:atKey (q :: qs) k=some q.2:=by simp [atKey,List.find?_cons,e']
   rw [zdS e,b];exact h2
  ·have e':¬ q.1=k:=fun z=>e (h1.trans z)
   have b:atKey (q :: qs) k=atKey qs k:=by simp [atKey,List.find?_cons,e']
   rw [zdT e,b];exact ih
theorem KT.repl {H:Hp} {kvs:List (List Key×V)} {xs:List (List Key×Addr×Value)} (r:KT H kvs xs) (k:List Key) {y:V} {u:Value} (ry:RelV y u) :
  KT H (kvs.map fun kv=>if kv.1=k then (kv.1,y) else kv) (xs.map (putAt k u)):=by
 induction r with
 | nil=>exact .nil
 | @cons p q ps qs h t ih =>
  rw [List.map_cons,List.map_cons]
  refine .cons ?_ ih
  obtain ⟨h1,h2,h3⟩:=h
  unfold putAt
  by_cases e:p.1=k
  ·rw [if_pos e,if_pos (h1.symm.trans e)];exact ⟨h1,h2,ry⟩
  ·rw [if_neg e,if_neg (fun z=>e (h1.trans z))];exact ⟨h1,h2,h3⟩
theorem KT.put {H:Hp} {kvs:List (List Key×V)} {xs:List (List Key×Addr×Value)} (r:KT H kvs xs) (k:List Key) {b:Addr} {y:V} {u:Value} (hb:H b=some (.tup (k.map kV))) (ry:RelV y u) :
  KT H (putK kvs k y) (storedH xs k b u):=by
 have e:(kvs.any fun kv=>decide (kv.1=k))=(atKey xs k).isSome:=by
  rw [zfR,(r.val k).isSome_eq,Option.isSome_map]
 unfold putK storedH
 rw [e]
 by_cases q:(atKey xs k).isSome=true
 ·rw [if_pos q,if_pos q];exact r.repl k ry
 ·rw [if_neg q,if_neg q];exact Paired.snoc r ⟨rfl,hb,ry⟩
theorem KT.keeps {H H':Hp} {kvs:List (List Key×V)} {xs:List (List Key×Addr×Value)} (r:KT H kvs xs) (ht:∀ b ys,H b=some (.tup ys)→H' b=some (.tup ys)):KT H' kvs xs:=
 Paired.mapP r fun _ _ z=>⟨z.1,ht _ _ z.2.1,z.2.2⟩
section
variable {P:Program} {w:World} {H:Hp} {h:Heap} {a:Addr}
theorem rd_of {u:HO} (ok:HOk P w H h) (e:Rd H a u):ObjOk P w H h a u:=e.ok ok
theorem zgX {kvs:List (Key×V)} (ok:HOk P w H h) (e:Rd H a (.dK kvs)):kvs.length≤sizeLine∧(a == sysModules)=false∧∃ vs,KV kvs vs∧h.DictOf (zaz P w) a vs:=
 show ObjOk P w H h a (.dK kvs) from rd_of ok e
theorem zjK {kvs:List (Key×V)} (ok:HOk P w H h) (e:H a=some (.dK kvs)):kvs.length≤sizeLine∧(a == sysModules)=false∧∃ vs,KV kvs vs∧h.DictOf (zaz P w) a vs:=zgX ok (.inl e)
theorem zeP {ks:List Key} (ok:HOk P w H h) (e:H a=some (.tup (ks.map kV))):(tupleKind (zaz P w)).is h ks a:=by
 obtain ⟨_,its,r,o,h1,h2,n,h3⟩:=(show ObjOk P w H h a (.tup (ks.map kV)) from ok a _ e)
 exact ⟨o,its.toArray,n,h1,h2,h3,by simpa using zeR r⟩
theorem zgW {kvs:List (List Key×V)} (ok:HOk P w H h) (e:Rd H a (.dT kvs)):kvs.length≤sizeLine∧(a == sysModules)=false ∧
  ∃ xs,KT H kvs xs∧h.DictOfH (tupleKind (zaz P w)) a xs:=by
 obtain ⟨z,y,xs,r,o,es,ep,h1,h2,h3,h4,h5⟩:=(show ObjOk P w H h a (.dT kvs) from rd_of ok e)
 refine ⟨z,y,xs,r,o,es,ep,h1,h2,h3,h4,fun x hx=>?_,h5⟩
 have all:∀ {l:List (List Key×V)} {m:List (List Key×Addr×Value)},KT H l m→∀ x∈m,(tupleKind (zaz P w)).is h x.1 x.2.1:=by
  intro l m q
  induction q with
  | nil=>intro x hx;exact nomatch hx
  | @cons p q ps qs hq t ih =>
   intro x hx
   rcases List.mem_cons.mp hx with e | hx
   ·subst e
    exact zeP ok (by rw [← hq.1];exact hq.2.1)
   ·exact ih x hx
 exact all r x hx
theorem dt_of {kvs:List (List Key×V)} (ok:HOk P w H h) (e:H a=some (.dT kvs)):kvs.length≤sizeLine∧(a == sysModules)=false ∧
  ∃ xs,KT H kvs xs∧h.DictOfH (tupleKind (zaz P w)) a xs:=zgW ok (.inl e)
end
def DGet (H:Hp) (a:Addr) (y:V) (r:Option V):Prop:=
 (∃ kvs k,Rd H a (.dK kvs)∧y=kV k∧r=valV kvs k)∨∃ kvs k b,Rd H a (.dT kvs)∧y = .ref b∧H b=some (.tup (k.map kV))∧r=valV kvs k
def DPut (H:Hp) (a:Addr) (y v:V) (H':Hp):Prop:=
 (∃ kvs k,H a=some (.dK kvs)∧y=kV k∧kvs.length<sizeLine∧H'=upd H a (.dK (putK kvs k v))) ∨
 ∃ kvs k b,H a=some (.dT kvs)∧y = .ref b∧H b=some (.tup (k.map kV))∧kvs.length<sizeLine∧H'=upd H a (.dT (putK kvs k v))
theorem DGet.k {H:Hp} {a:Addr} {kvs:List (Key×V)} {k:Key} (e:H a=some (.dK kvs)):DGet H a (kV k) (valV kvs k):=.inl ⟨kvs,k,.inl e,rfl,rfl⟩
theorem DPut.k {H:Hp} {a:Addr} {kvs:List (Key×V)} {k:Key} {v:V} (e:H a=some (.dK kvs)) (hl:kvs.length<sizeLine):DPut H a (kV k) v (upd H a (.dK (putK kvs k v))):=.inl ⟨kvs,k,e,rfl,hl,rfl⟩
section
variable {X:Cx} {pins:List (Addr×Obj)} {σ:St} {H:Hp} {s:Shared} {a:Addr} {y v:V} {u r:Value} {o:Option V} {A:Around} {E:Value→Shared→Prop}
theorem Inv.big (I:Inv X pins σ H s):sysModules<s.heap.objs.size:=by
 have h:mainGlobals<s.heap.objs.size:=(I.mod.glob.keeps I.bk).lt
 exact Nat.lt_trans (by decide) h
theorem zit {Q:Value→Shared→Prop} (hu:A.units+1<cLine) (I:Inv X pins σ H s) (g:DGet H a y (some v)) (ry:RelV y u) (h:∀ w' s',Inv X pins σ H s'→RelV v w'→Q w' s') :
  wpAny (model X.prog X.w) A (getItem (.ref a) u) Q E s:=by
 rcases g with ⟨kvs,k,e,ey,l⟩ | ⟨kvs,k,b,e,ey,eb,l⟩
 ·subst ey
  obtain ⟨z,hd,vs,rel,dd⟩:=zgX I.hok e
  obtain ⟨w',hw,rw'⟩:=RelO.some_of (v:=v) (o:=valueAt vs k) (by rw [l];exact rel.val k)
  exact wpAny_getItem_of (zgR ry) dd.mapOf hw (h w' _ (I.tok _) rw')
 ·subst ey
  cases (show u=Value.ref b from ry)
  obtain ⟨z,hd,xs,rel,dd⟩:=zgW I.hok e
  obtain ⟨w',hw,rw'⟩:=RelO.some_of (v:=v) (o:=(atKey xs k).map (·.2)) (by rw [l];exact rel.val k)
  obtain ⟨p,hp,hp2⟩:=Option.map_eq_some_iff.mp hw
  refine wpAny_getItem_heap (tupleKind_room_in1 hu) (zeP I.hok eb) dd hp ?_
  rw [hp2]
  exact h w' _ (I.tok _) rw'
theorem d_in {Q:Value→Shared→Prop} (hu:A.units+1<cLine) (I:Inv X pins σ H s) (g:DGet H a y o) (ry:RelV y u) (h:∀ s',Inv X pins σ H s'→Q (.bool o.isSome) s') :
  wpAny (model X.prog X.w) A (compareOp .In u (.ref a)) Q E s:=by
 rcases g with ⟨kvs,k,e,ey,l⟩ | ⟨kvs,k,b,e,ey,eb,l⟩
 ·subst ey
  obtain ⟨z,hd,vs,rel,dd⟩:=zgX I.hok e
  refine wpAny_in_of (zgR ry) hd dd.mapOf ?_
  rw [← (rel.val k).isSome_eq,← l]
  exact h _ (I.tok _)
 ·subst ey
  cases (show u=Value.ref b from ry)
  obtain ⟨z,hd,xs,rel,dd⟩:=zgW I.hok e
  refine wpAny_in_heap (tupleKind_room_in1 hu) (zeP I.hok eb) hd dd ?_
  have q:=(rel.val k).isSome_eq
  rw [Option.isSome_map] at q
  rw [← q,← l]
  exact h _ (I.tok _)
theorem zir {h':Heap} {t':Nat} {ob:HO} (I:Inv X pins σ H s) (mu:Mut (H a)) (hs:Heap.SameBut a s.heap h') (he:∃ q,h'.get? a=some q) (new:ObjOk X.prog X.w (upd H a ob) h' a ob) :
  Inv X pins σ (upd H a ob) { s with heap:=h',toks:=t' }:=
 I.write (x:=a) (e:=a) mu (.inl rfl) (fun b q hb z=>(hs.2 b hb).trans z) he new
theorem zkg {P:Program} {w:World} {H':Hp} {h':Heap} {kvs:List (Key×V)} {vs:List (Key×Value)} (z:kvs.length≤sizeLine) (hd:(a == sysModules)=false) (rel:KV kvs vs) (dd:h'.DictOf (zaz P w) a vs) :
  ObjOk P w H' h' a (.dK kvs):=⟨z,hd,vs,rel,dd⟩
theorem zis {H':Hp} {Q:Unit→Shared→Prop} (hu:A.units+1<cLine) (I:Inv X pins σ H s) (g:DPut H a y v H') (ry:RelV y u) (rv:RelV v r) (h:∀ s',Inv X pins σ H' s'→Q () s') :
  wpAny (model X.prog X.w) A (setItem (.ref a) u r) Q E s:=by
 rcases g with ⟨kvs,k,e,ey,l,eH⟩ | ⟨kvs,k,b,e,ey,eb,l,eH⟩
 ·subst ey eH
  obtain ⟨z,hd,vs,rel,dd⟩:=zjK I.hok e
  have hz:vs.length≤sizeLine:=by rw [← rel.length];exact z
  have hl:(putK kvs k v).length≤sizeLine:=by have:=zdm kvs k v;omega
  refine wpAny_setItem_pairs (hsz:=hz) (zgR ry) dd fun h' dd' hs=>h _ ?_
  have he:∃ q,h'.get? a=some q:=let ⟨q,_,_,hq,_⟩:=dd';⟨q,hq⟩
  exact zir I (by rw [e];exact True.intro) hs he (zkg hl hd (rel.put k rv) dd')
 ·subst ey eH
  cases (show u=Value.ref b from ry)
  obtain ⟨z,hd,xs,rel,dd⟩:=dt_of I.hok e
  have hz:xs.length≤sizeLine:=by rw [← Paired.length rel];exact z
  have hl:(putK kvs k v).length≤sizeLine:=by have:=zdm kvs k v;omega
  refine wpAny_setItem_heap (hsz:=hz) (tupleKind_room_in1 hu) (zeP I.hok eb) dd fun h' dd' hs=>h _ ?_
  obtain ⟨q,es,ep,hq,h2,h3,h4,_,h5⟩:=dd'
  refine zir I (by rw [e];exact True.intro) hs ⟨q,hq⟩ ⟨hl,hd,_,(rel.put k eb rv).keeps fun c ys ec=>?_,q,es,ep,hq,h2,h3,h4,h5⟩
  rw [zah (ne_of ec e (fun z=>nomatch z))]
  exact ec
end
section
variable {X:Cx} {pins:List (Addr×Obj)} {σ:St} {H:Hp} {s:Shared} {a:Addr} {kvs:List (Key×V)} {k:Key} {u:Value} {A:Around} {E:Value→Shared→Prop}
end
def NoSl (i:Expr):Prop:=∀ ov iv,subscripted i false ov iv=operate [ov,iv] (getItem ov iv)
theorem zkD {prog:Program} {w:World} {A:Around} {E:Value→Shared→Prop} {s:Shared} {env:Env} {value slice:Expr} {pos:Pos} {T id:String} {Q:Value→Shared→Prop}
  (hl:typeLookup (.type T) "__getitem__" = pure (some (.builtin id))) (hs:NoSl slice)
  (h:wpAny (model prog w) A (eval value env) (fun o s₁=>wpAny (model prog w) A (eval slice env) (fun i s₂=>s₂.TypeIs o T∧wpAny (model prog w) A (getItem o i) Q E s₂) E s₁) E s) :
  wpAny (model prog w) A (eval (.Subscript value slice pos) env) Q E s:=by
 refine Subscript_ (wpAny_mono h (fun o s₁ h₁=>wpAny_mono h₁ (fun i s₂ h₂=>?_) fun _ _ x=>x) fun _ _ x=>x)
 obtain ⟨hT,h₂⟩:=h₂
 unfold subscriptTail
 refine wpAny_bind ?_
 rw [getitemInPython_of_ne hT.not_modules]
 refine wpAny_bind (wpAny_specialOf hT hl ?_)
 have fin:wpAny (model prog w) A (subscripted slice false o i) (fun r s₃=>wpAny (model prog w) A (letTemporaryGo value o r >>= fun _=>pure r) Q E s₃) E s₂:=by
  rw [hs o i]
  exact wpAny_operating (wpAny_mono h₂ (fun r s₃ h₃=>wpAny_bind (wpAny_letTemporaryGo (wpAny_pure h₃))) fun _ _ x=>x)
 first
  | exact wpAny_pure (wpAny_bind fin)
  | exact wpAny_bind (wpAny_pure (wpAny_bind fin))
  | exact wpAny_bind fin
theorem zfL {X:Cx} {pins:List (Addr×Obj)} {σ:St} {H:Hp} {s:Shared} {a:Addr} {y:V} {o:Option V} (I:Inv X pins σ H s) (g:DGet H a y o):s.TypeIs (.ref a) "dict" := by
 rcases g with ⟨kvs,k,e,_,_⟩ | ⟨kvs,k,b,e,_,_,_⟩
 ·obtain ⟨_,_,vs,_,dd⟩:=zgX I.hok e
  exact dd.typeIs
 ·obtain ⟨_,_,xs,_,dd⟩:=zgW I.hok e
  exact dd.typeIs
def tDGet (td ty:TE):TE:=fun σ H Q=>td σ H fun x H1=>ty σ H1 fun y H2=>∃ a v,x = .ref a∧DGet H2 a y (some v)∧Q v H2
def tDIn (ty td:TE):TE:=fun σ H Q=>ty σ H fun y H1=>td σ H1 fun x H2=>∃ a o,x = .ref a∧DGet H2 a y o∧Q (.bl o.isSome) H2
def sDPut (td ty tv:TE):TS:=fun D σ H=>tv σ H fun v H1=>td σ H1 fun x H2=>ty σ H2 fun y H3=>∃ a H4,x = .ref a∧DPut H3 a y v H4∧D.nx σ H4
section
variable {X:Cx} {o i e value:Expr} {pos pos' tpos:Pos} {td ty tv:TE}
theorem zfv (hu:X.A.units+1<cLine) (ho:PE X o td) (hi:PE X i ty) (hs:NoSl i):PE X (.Subscript o i pos) (tDGet td ty):=by
 intro pins s σ H Q I h
 refine zkD PySem.F.slot_dict_getitem.lookup hs (thn (ho pins s σ H _ I h) fun u s1 ⟨x,H1,I1,rx,q1⟩=>thn (hi pins s1 σ H1 _ I1 q1) fun iv s2 ⟨y,H2,I2,ry,a,v,ex,g,q2⟩=>?_)
 subst ex
 obtain rfl:u=Value.ref a:=rx
 exact ⟨zfL I2 g,zit hu I2 g ry fun w' s3 I3 rw'=>⟨v,H2,I3,rw',q2⟩⟩
theorem pc_din (hu:X.A.units+1<cLine) (hi:PE X i ty) (ho:PE X o td):PC X .In i o (tDIn ty td):=by
 intro pins s σ H Q I h
 refine thn (hi pins s σ H _ I h) fun iv s1 ⟨y,H1,I1,ry,q1⟩=>thn (ho pins s1 σ H1 _ I1 q1) fun u s2 ⟨x,H2,I2,rx,a,ov,ex,g,q2⟩=>?_
 subst ex
 obtain rfl:u=Value.ref a:=rx
 exact d_in hu I2 g ry fun s3 I3=>⟨.bl ov.isSome,H2,I3,rfl,q2⟩
theorem zd7 (hu:X.A.units+1<cLine) (ho:PE X o td) (hi:PE X i ty) (hv:PE X value tv) (hs:swapsWith value (some (.Subscript o i pos')) pos.line X.env=pure false) :
  PS X (.Assign [.Subscript o i pos'] value pos) (sDPut td ty tv):=by
 intro pins s σ H D I h
 refine wpAny_Assign_Subscript (thn (hv pins s σ H _ I h) fun r s1 ⟨v,H1,I1,rv,q1⟩=>thn (ho pins s1 σ H1 _ I1 q1) fun u s2 ⟨x,H2,I2,rx,q2⟩=>thn (hi pins s2 σ H2 _ I2 q2) fun iv s3 ⟨y,H3,I3,ry,a,H4,ex,g,q3⟩=>?_) hs
 subst ex
 obtain rfl:u=Value.ref a:=rx
 exact zis hu I3 g ry rv fun s4 I4=>⟨σ,H4,I4,q3⟩
end
theorem zjL {P:Program} {w:World} {H:Hp} (h:Heap) (hb:sysModules<h.objs.size):ObjOk P w H (h.push { cls:=.type "dict",data:=.dict #[] }) h.objs.size (.dK []):=
 ⟨Nat.zero_le _,beq_eq_false_iff_ne.mpr (Ne.symm (Nat.ne_of_lt hb)),[],.nil,Heap.DictOf.new h⟩
def tDNewK:TE:=fun _ H Q=>∀ p,H p=none→Q (.ref p) (upd H p (.dK []))
section
variable {X:Cx} {pos:Pos}
theorem zcb:PE X (.Dict [] [] pos) tDNewK:=fun pins s σ H Q I h =>
 wpAny_Dict_empty ⟨.ref s.heap.objs.size,_,I.laid (a:=s.heap.objs.size) (o:=.dK []) (t':=s.toks) (fun _ _ q=>Heap.get?_push_of_some _ q) (Nat.le_refl _) (zjL s.heap I.big),rfl,h _ (I.hok.fresh (Nat.le_refl _))⟩
end
structure M2 (X:Cx) (o:Expr) (m:Str) (apos:Pos) (e f:Expr) (cpos:Pos):Prop where
 base:attributeBase o m X.env (eval o X.env)=eval o X.env
 few:((backTo cpos (starEach [e,f] X.env)).all (fun x=>!x.1) && (backToKw cpos (keywordEach [] X.env)).all (fun x=>x.1.isSome)
  && decide (([e,f]:List Expr).length+([]:List Keyword).length+(if ([]:List Keyword).isEmpty then 0 else 1)<30))=true
 line:(apos.endLine == cpos.line)=true
 trees:backTo cpos (starEach [e,f] X.env)=[(false,eval e X.env),(false,eval f X.env)]
def IsD (H:Hp) (a:Addr):Prop:=(∃ kvs,Rd H a (.dK kvs))∨∃ kvs,Rd H a (.dT kvs)
theorem isD_at {X:Cx} {pins:List (Addr×Obj)} {σ:St} {H:Hp} {s:Shared} {a:Addr} (I:Inv X pins σ H s) (d:IsD H a) :
  s.TypeIs (.ref a) "dict" ∧ (∀ b,Value.ref a = .ref b→∃ ob,s.heap.get? b=some ob∧ob.dict=none)∧(a == sysModules)=false:=by
 rcases d with ⟨kvs,e⟩ | ⟨kvs,e⟩
 ·obtain ⟨_,hd,vs,_,dd⟩:=zgX I.hok e
  refine ⟨dd.typeIs,fun b q=>?_,hd⟩
  cases q
  obtain ⟨ob,_,_,h1,h2,_⟩:=dd
  exact ⟨ob,h1,h2.2.1⟩
 ·obtain ⟨_,hd,xs,_,dd⟩:=zgW I.hok e
  refine ⟨dd.typeIs,fun b q=>?_,hd⟩
  cases q
  obtain ⟨ob,_,_,h1,h2,_⟩:=dd
  exact ⟨ob,h1,h2.2.1⟩
section
variable {X:Cx} {pins:List (Addr×Obj)} {σ:St} {H:Hp} {s:Shared} {a:Addr} {y d:V} {u r:Value} {o:Option V} {A:Around} {E:Value→Shared→Prop}
theorem d_get2 {Q:Value→Shared→Prop} (hu:A.units+1<cLine) (I:Inv X pins σ H s) (g:DGet H a y o) (ry:RelV y u) (rd:RelV d r) (h:∀ w' s',Inv X pins σ H s'→RelV (o.getD d) w'→Q w' s') :
  wpAny (model X.prog X.w) A (call (.builtin "dict.get") [.ref a,u,r]) Q E s:=by
 rcases g with ⟨kvs,k,e,ey,l⟩ | ⟨kvs,k,b,e,ey,eb,l⟩
 ·subst ey
  obtain ⟨z,hd,vs,rel,dd⟩:=zgX I.hok e
  refine call_meetsIn PySem.F.slot_dict_get dd.typeIs PySem.F.entry_dict_get (PySem.F.args_dict_get_3 _ _ _) (meets_dict_get_default (zaz X.prog X.w) a (zgR ry) hd r) ⟨_,dd.mapOf,h _ _ (I.tok _) ?_⟩
  rw [l]
  exact (rel.val k).getD rd
 ·subst ey
  cases (show u=Value.ref b from ry)
  obtain ⟨z,hd,xs,rel,dd⟩:=zgW I.hok e
  refine call_meetsIn PySem.F.slot_dict_get dd.typeIs PySem.F.entry_dict_get (PySem.F.args_dict_get_3 _ _ _) (meetsH_dict_get_default (tupleKind (zaz X.prog X.w)) a b hd r) ⟨tupleKind_room_in1 hu,k,xs,zeP I.hok eb,dd,h _ _ (I.tok _) ?_⟩
  rw [l]
  exact (rel.val k).getD rd
end
def tDGet2 (td ty tx:TE):TE:=fun σ H Q=>td σ H fun x H1=>∃ a,x = .ref a∧IsD H1 a∧ty σ H1 fun y H2=>tx σ H2 fun z H3=>∃ o,DGet H3 a y o∧Q (o.getD z) H3
section
variable {X:Cx} {o e f:Expr} {apos cpos:Pos} {td ty tx:TE}
theorem zcc (hu:X.A.units+1<cLine) (ho:PE X o td) (he:PE X e ty) (hf:PE X f tx) (m:M2 X o "get" apos e f cpos):PE X (.Call (.Attribute o "get" apos) [e,f] [] cpos) (tDGet2 td ty tx):=by
 intro pins s σ H Q I h
 refine wpAny_Call_method m.base m.few m.line PySem.F.plainAttrs_dict PySem.F.slot_dict_get PySem.F.type_dict_get (thn (ho pins s σ H _ I h) fun u s1 ⟨x,H1,I1,rx,a,ex,d,q1⟩=>?_)
 subst ex
 obtain rfl:u=Value.ref a:=rx
 obtain ⟨t1,t2,_⟩:=isD_at I1 d
 refine ⟨t1,t2,?_⟩
 rw [m.trees]
 refine Calls.callWith_builtin rfl (Calls.evalArgs_plain (Calls.spliced_cons (thn (he pins s1 σ H1 _ I1 q1) fun iv s2 ⟨y,H2,I2,ry,q2⟩ =>
  Calls.spliced_cons (thn (hf pins s2 σ H2 _ I2 q2) fun fv s3 ⟨z,H3,I3,rz,ov,g,q3⟩=>Calls.spliced_nil ?_))))
 exact d_get2 hu I3 g ry rz fun w' s4 I4 rw'=>⟨_,H3,I4,rw',q3⟩
end
section
variable {X:Cx} {pins:List (Addr×Obj)} {σ:St} {H:Hp} {s:Shared} {a:Addr} {kvs:List (Key×V)} {A:Around} {E:Value→Shared→Prop}
end
section
variable {X:Cx} {pins:List (Addr×Obj)} {σ:St} {H:Hp} {s:Shared} {a:Addr} {y:V} {u:Value} {A:Around} {E:Value→Shared→Prop}
end
end L2
namespace Att
open PySem PySem.W PySem.Calls PyProof.Rows
theorem zdq {P:Params} {h:Heap}:∀ (ns:List Int) (vs:List Value),WellAll P h vs (ns.map WData.int)→IntsAre vs ns:=by
 intro ns
 induction ns with
 | nil =>
  intro vs w
  rw [List.map_nil] at w
  cases w
  exact .nil
 | cons n ns ih =>
  intro vs w
  rw [List.map_cons] at w
  cases w with
  | cons a b =>
   cases a
   exact .cons _ _ (ih _ b)
theorem zhw {l:OpenLaw} {n:Nat} (hn:l.most=some n) {P:Params} {h:Heap} {args:List WData} {vals:List Value}
  (hpre:l.row.toRowW.claim.pre args=true) (hwl:WellAll P h vals args) :
  ∃ a vs ns,vals=[Value.ref a]∧args=[WData.list (ns.map WData.int)]∧h.get? a=some { cls:=.type "list",data:=.seq vs.toArray }∧IntsAre vs ns∧ns.length≤n:=by
 have hsh:WShape.hasAll [] args [.list .int]=true:=(pre_splitW hpre).1
 have hc:l.pre.holds [] { args:=args }=true:=(pre_splitW hpre).2
 obtain ⟨d,r,rfl,h1,h2⟩:=hasAllW_cons hsh
 obtain rfl:=hasAllW_nil h2
 obtain ⟨xs,rfl,h3⟩:=hasW_list h1
 obtain ⟨ns,rfl⟩:=items_int h3
 have hlen:ns.length≤n:=by
  unfold OpenLaw.pre at hc
  have h4:(WTm.not (.lt (.lit (.int (n:Int))) (.len (.arg 0)))).holds [] { args:=[.list (ns.map .int)] }=true:=by
   have h4:=(holds_andW hc).1
   rw [hn] at h4
   exact h4
  have h5:=condW_of h4 (w_not (w_lt w_lit (w_len_list (w_arg rfl))))
  rw [List.length_map] at h5
  refine Nat.le_of_not_lt fun q=>?_
  have q':(n:Int)<((ns.length:Nat):Int):=by omega
  first
   | (rw [decide_eq_true q'] at h5;exact absurd h5 (by decide))
   | (simp at h5;omega)
 cases hwl with
 | cons w1 w2 =>
  cases w2
  cases w1 with
  | list ho hall=>exact ⟨_,_,ns,rfl,rfl,ho,zdq ns _ hall,hlen⟩
theorem zhL (l:OpenLaw) (args:List WData):l.row.toRowW.claim.post args (.bool true) args=true:=
 postW_of (r:=l.row.toRowW) (X:=(true == true))
  (show WShape.has [] (.bool true) .bool=true by first | rfl | decide | simp [WShape.has,WShape.arms,WShape.armsAll])
  (show (WTm.eq .res (.lit (.bool true))).value [] { args:=args,res:=some (.bool true),after:=args }=some (.bool (true == true)) from w_eq_bool (w_res rfl) w_lit) rfl
section
variable {prog:Program} {w:World} {A:Around} {E:Value→Shared→Prop} {s:Shared} {K:Frag}
end
end Att
namespace L2
open PySem PySem.Spec PyProof.Rows
theorem zbZ:∀ {vs:List Value} {ns:List Int},IntsAre vs ns→Vals (ns.map V.int) vs
 | _,_,.nil=>.nil
 | _,_,.cons n t h=>.cons ⟨t,rfl⟩ (zbZ h)
def Only (H:Hp):Prop:=∀ b,H b=none∨∃ o xs,H b=some (.frz o (.lst xs))
theorem zjw {P:Program} {w:World} {K:PySem.W.Frag} {mg mb:Str→Option Value} {CX:CXT} {k:Nat} {fa a:Addr} {fd:FuncData} {x:Str} {sp:Sp} {s₁:Shared} {vs:List Value} {ns:List Int}
  (KX:K.In s₁.heap) (hns:s₁.heap.Ns mainGlobals mg) (hb:s₁.heap.Ns builtinsNs mb) (hbb:∀ x:Str,x ≠ "__name__" → mb x=bootBuiltins x) (hlim:s₁.heap.NoLimit) (hg:s₁.gens = #[])
  (ha:s₁.heap.get? a=some { cls:=.type "list",data:=.seq vs.toArray }) (hi:IntsAre vs ns) (hl:ns.length≤sizeLine) (hr:Room k callerA)
  (F:∀ base:Heap,K.In base→base.Ns mainGlobals mg→FnOk P w K mg base CX k fa fd [x] sp) (hbind:∀ (s:Shared) (u:Value),BindsTo s fd ⟨[u],[]⟩ [(x,u)])
  (hsp:∀ H:Hp,Only H→SqL K H a (ns.map V.int)→sp [.ref a] H (fun v _=>v = .bl true) fun _ _ _=>False)
  (hCX:∀ H e s',CX [] H s₁ (fun _ _ _=>False) e s'→False) :
  codeAny (model P w) callerA (.call (.ref fa) ⟨[.ref a],[]⟩) (fun r s'=>r = .ok (.ret (.bool true))∧OldK s₁.heap s'.heap∧s'.os=s₁.os∧AllBare s'.gens) s₁:=by
 have rv:=zbZ hi
 have lenV:=hi.length
 
 have core:∀ H:Hp,Only H→SqL K H a (ns.map V.int)→HOk P w H s₁.heap→(∀ b,H b≠none→b=a)→(H a≠none→K.lookup a=none) →
   codeAny (model P w) callerA (.call (.ref fa) ⟨[.ref a],[]⟩) (fun r s'=>r = .ok (.ret (.bool true))∧OldK s₁.heap s'.heap∧s'.os=s₁.os∧AllBare s'.gens) s₁:=by
  intro H hO hS hok hA hK
  have base_of:∀ {b:Addr} {o:Obj},s₁.heap.get? b=some o→H b=none→(hidT s₁.heap H).get? b=some o:=fun e n=>zjD e n
  have noA:∀ {b:Addr} {o:Obj} {es:Array DictEntry} {ep:Nat},s₁.heap.get? b=some o→o.data = .dict es ep→H b=none:=fun {b o es ep} e d=>by
   cases q:H b with
   | none=>rfl
   | some u =>
    have e':b=a:=hA b (by rw [q];simp)
    subst e'
    rw [ha] at e;cases e
    have d':Data.seq vs.toArray _=Data.dict es ep:=d
    cases d'
  have nsK:∀ {b:Addr} {m:Str→Option Value},s₁.heap.Ns b m→(hidT s₁.heap H).Ns b m:=fun {b m} ⟨o,es,ep,e,d,r⟩=>⟨o,es,ep,base_of e (noA e d),d,r⟩
  have hKb:K.In (hidT s₁.heap H):=fun b o e=>base_of (KX b o e) (by
   cases q:H b with
   | none=>rfl
   | some u =>
    have e':b=a:=hA b (by rw [q];simp)
    subst e'
    rw [hK (by rw [q];simp)] at e;cases e)
  have hM:Mod K mg (hidT s₁.heap H):=⟨hKb,nsK hns,⟨mb,nsK hb,hbb⟩,let ⟨mc,h1,h2⟩:=hlim;⟨mc,nsK h1,h2⟩⟩
  have e0:Env0 P w K mg (hidT s₁.heap H) callerA [] s₁ H:=⟨rfl,hM,fun b o e=>zk5 e,Nat.le_of_eq (zig _ _),trivial,fun b hb=>absurd (show b∈([]:List Addr) from hb) (by simp),hok,.of_eq hg⟩
  refine codeAny_mono ((F _ hKb (nsK hns)).run callerA [] s₁ H ⟨[.ref a],[]⟩ [.ref a] [.ref a] _ _ hr e0 (hbind s₁ (.ref a)) (.cons rfl .nil) (hsp H hO hS)) fun r s' h=>?_
  cases r with
  | error e=>exact (hCX H e s' h).elim
  | ok fl =>
   cases fl with
   | next=>exact False.elim h
   | brk=>exact False.elim h
   | cont=>exact False.elim h
   | ret u =>
    obtain ⟨v,H',os,bare,un,hok',r',q⟩:=h
    have q':v = .bl true:=q
    subst q'
    obtain rfl:u=Value.bool true:=r'
    refine ⟨rfl,OldK.of_keep fun b o e=>?_,os,bare⟩
    cases q:H b with
    | none=>exact un.keep b o e q (by intro z;exact absurd (show b∈([]:List Addr) from z) (by simp)) (by simp)
    | some u =>
     rcases hO b with z | ⟨ob,xs,z⟩
     ·rw [q] at z;cases z
     ·have z2:=un.frzs b ob _ z
      obtain ⟨e1,_⟩:=hok b _ z
      obtain ⟨e2,_⟩:=hok' b _ z2
      rw [e] at e1;cases e1
      exact e2
 cases hk:K.lookup a with
 | some o =>
  
  have e:=KX a o hk
  rw [ha] at e
  cases e
  refine core (fun _=>none) (fun _=>.inl rfl) (.inr ⟨_,vs.toArray,_,hk,rfl,rfl,rfl,by rw [List.size_toArray,lenV];exact hl,by simpa using rv⟩) (fun b u z=>by have z':(none:Option HO)=some u:=z;cases z') (fun b z=>absurd rfl z) fun z=>absurd rfl z
 | none =>
  refine core (fun b=>if b=a then some (.frz { cls:=.type "list",data:=.seq vs.toArray } (.lst (ns.map V.int))) else none) (fun b=>?_) (.inl (.inr ⟨{ cls:=.type "list",data:=.seq vs.toArray },if_pos rfl⟩)) (fun b u z=>?_) (fun b z=>?_) fun _=>hk
  ·by_cases hb:b=a
   ·exact .inr ⟨_,_,if_pos hb⟩
   ·exact .inl (if_neg hb)
  ·by_cases hb:b=a
   ·have z':=(if_pos hb).symm.trans z
    cases z'
    subst hb
    exact ⟨ha,by rw [List.length_map];exact hl,vs,_,rv,ha⟩
   ·have z':=(if_neg hb).symm.trans z
    cases z'
  ·by_cases hb:b=a
   ·exact hb
   ·exact absurd (if_neg hb) z
end L2
namespace L2
open PySem PySem.Spec PyProof.Rows
end L2
namespace L2
open PySem PySem.Spec PyProof.Rows
def zcw (s:Stmt) (j:Nat):Stmt:=match s with
 | .ClassDef _ _ _ body _ _ _ _ _ _ _=>body.getD j (.Pass ⟨0,0,0,0⟩)
 | _=>.Pass ⟨0,0,0,0⟩
def zbg (s:Stmt):Arguments:=match s with
 | .FunctionDef _ a _ _ _ _ _ _ _ _=>a
 | _=>{ posonlyargs:=[],args:=[],vararg:=none,kwonlyargs:=[],kw_defaults:=[],kwarg:=none,defaults:=[] }
def zaK (s:Stmt):List Stmt:=match s with
 | .FunctionDef _ _ b _ _ _ _ _ _ _=>b
 | _=>[]
def zai (s:Stmt):Scope:=match s with
 | .FunctionDef _ _ _ _ _ _ sc _ _ _=>sc
 | _=>{ kind:=.function,names:=[],isGenerator:=false,isCoroutine:=false }
abbrev CX0:CXT:=fun _ _ _ _ _ _=>False
abbrev E0:XK:=fun _ _ _=>False
theorem zjj {X:Cx}:Passes CX0 X E0:=fun _ _ _ _ _ _ _ h=>h.elim
structure Fun (K:PySem.W.Frag) (x qual:Str) (st:Stmt) (f:Addr) (fd:FuncData):Prop where
 ex:∃ (oc:Value) (od:Option Addr) (kV doc pm:Value) (an:Option Addr) (cdv ct:Value) (osl:Array (Option Value)),
  fd=PySem.W.fnOf x qual (zbg st) (zaK st) (zai st) .none kV doc pm an cdv ct∧K.lookup f=some ⟨oc,od,.func fd,osl⟩∧PySem.W.codeIn K cdv qual=true
 kp:PySem.W.keepIn K (.ref f)=true
section
variable {P:Program} {w:World} {K:PySem.W.Frag} {mg:Str→Option Value} {base:Heap}
theorem Fun.ok {x qual:Str} {st:Stmt} {f:Addr} {fd:FuncData} {N ps:List Str} {k:Nat} {sp:Sp} (F:Fun K x qual st f fd) (S:FnScope N ps (zai st)) (len:∀ vs H Q E,sp vs H Q E→vs.length=ps.length)
  (hbody:∀ (cdv:Value) (A:Around) (outer:List Env) (s:Shared) (H:Hp) (vs:List V) (Q:VK) (E:XK),Room k (A.deeper (envOfC qual (zai st) s.heap.objs.size f cdv))→sp vs H Q E →
   ∃ t,PSs (cxOf CX0 P w K mg base N qual (zai st) f cdv A outer s H E).nox (zaK st) t∧t { nx:=fun _ H'=>Q .non H',rt:=Q } (start N vs) H):FnOk P w K mg base CX0 (k+1) f fd ps sp:=by
 obtain ⟨oc,od,kV,doc,pm,an,cdv,ct,osl,rfl,lk,hcd⟩:=F.ex
 refine zjI lk hcd S len fun A outer s H vs Q E hr hsp=>?_
 obtain ⟨t,h,q⟩:=hbody cdv A outer s H vs Q E hr hsp
 exact ⟨t,h.nox,q⟩
theorem Fun.binds {x qual:Str} {st:Stmt} {f:Addr} {fd:FuncData} {ps:List Str} (F:Fun K x qual st f fd)
  (h:∀ (kV doc pm:Value) (an:Option Addr) (cdv ct:Value) (us:List Value),us.length=ps.length→bindArgs (PySem.W.fnOf x qual (zbg st) (zaK st) (zai st) .none kV doc pm an cdv ct) ⟨us,[]⟩=pure (ps.zip us)):Binds K fd ps []:=by
 obtain ⟨oc,od,kV,doc,pm,an,cdv,ct,osl,rfl,lk,hcd⟩:=F.ex
 exact .all (h kV doc pm an cdv ct)
theorem zkd {x qual:Str} {st:Stmt} {f:Addr} {oc:Value} {od an:Option Addr} {osl:Array (Option Value)} {kV doc pm cdv ct:Value} (l:K.lookup f=some ⟨oc,od,.func (PySem.W.fnOf x qual (zbg st) (zaK st) (zai st) .none kV doc pm an cdv ct),osl⟩)
  (c:PySem.W.codeIn K cdv qual=true) (k:PySem.W.keepIn K (.ref f)=true):Fun K x qual st f (PySem.W.fnOf x qual (zbg st) (zaK st) (zai st) .none kV doc pm an cdv ct):=⟨⟨oc,od,kV,doc,pm,an,cdv,ct,osl,rfl,l,c⟩,k⟩
end
theorem zbu {A:Around} {k:Nat} (hr:Room k A):A.units+1<cLine:=Nat.lt_of_le_of_lt (Nat.add_le_add_left (by decide:1≤64) _) hr.units
theorem zht {n:Nat} (h:n≤1000):n<sizeLine:=Nat.lt_of_le_of_lt h (by decide)
section
variable {X:Cx}
theorem pv (i:Nat) {x:Str} {pos:Pos} (hN:X.N[i]? = some x:=by rfl) (hv:Vis X.env.scope x:=by first | exact Or.inl rfl | exact Or.inr (Or.inl rfl) | exact Or.inr (Or.inr rfl)) (hd:(x == ("__debug__" : Str))=false:=by decide)
  (hcd:(x == ("__classdict__" : Str))=false:=by decide):PE X (.Name x pos) (tVar i):=pe_var hN hv hd hcd
end
theorem iteF {A B:Prop} (h:B):if false=true then A else B:=by
 rw [if_neg Bool.false_ne_true]
 exact h
theorem iteT {A B:Prop} (h:A):if true=true then A else B:=by
 rw [if_pos rfl]
 exact h
theorem ite2 {c A B:Prop} [Decidable c] (h1:c→A) (h2:¬ c→B):if c then A else B:=by
 by_cases h:c
 ·rw [if_pos h]
  exact h1 h
 ·rw [if_neg h]
  exact h2 h
theorem zic {c A B:Prop} [Decidable c] (hc:c) (h:B):if (!decide c)=true then A else B:=by
 rw [decide_eq_true hc]
 exact iteF h
def Same (H H':Hp):Prop:=∀ b o,H b=some o→H' b=some o
theorem Same.refl (H:Hp):Same H H:=fun _ _ h=>h
theorem Same.trans {H H1 H2:Hp} (a:Same H H1) (b:Same H1 H2):Same H H2:=fun c o h=>b c o (a c o h)
theorem Same.free {H H':Hp} (e:Same H H') {l:Addr} (h:H' l=Option.none):H l=Option.none:=by
 cases q:H l with
 | none=>rfl
 | some o =>
  rw [e l o q] at h
  cases h
theorem Same.seq {K:PySem.W.Frag} {H H':Hp} {a:Addr} {xs:List V} (e:Same H H') (h:SqL K H a xs):SqL K H' a xs:=by
 rcases h with (h | ⟨o,h⟩) | h
 ·exact .inl (.inl (e _ _ h))
 ·exact .inl (.inr ⟨o,e _ _ h⟩)
 ·exact .inr h
end L2
namespace L2
open PySem PySem.Spec PyProof.Rows
section
variable {X:Cx}
end
section
variable {κ:Type} [DecidableEq κ]
end
end L2
end
section
namespace L2
open PySem PySem.Spec PyProof.Rows
theorem zlf {prog:Program} {w:World} {A:Around} {R:Result→Shared→Prop} {s:Shared} {elt target iter:Expr} {ifs:List Expr} {scope:Scope} {pos:Pos} {it acc:Value} {env:Env} (I:Nat→Shared→Prop)
  (turn:∀ n s,I n s→wpAny (model prog w) A (pyNext it) (fun r s1=>match r with
   | none=>R (.ok .next) s1
   | some v=>wpAny (model prog w) A (letOwnedTupleGo target it v) (fun _ s2=>wpAny (model prog w) A (assign target env v) (fun _ s3 =>
     wpAny (model prog w) A (forIn ifs true fun c r=>if r=true then do let ok ← isTrue c env (eval c env);pure (ForInStep.yield ok) else pure (ForInStep.yield r)) (fun ok s4 =>
      if ok=true then wpAny (model prog w) A (eval elt env) (fun x s5 =>
       wpAny (model prog w) A (call (.builtin "list.append") [acc,x]) (fun _ s6=>∃ m,m<n∧I m s6) (fun _ _=>False) s5) (fun _ _=>False) s4
      else ∃ m,m<n∧I m s4) (fun _ _=>False) s3) (fun _ _=>False) s2) (fun _ _=>False) s1) (fun _ _=>False) s)
  (n:Nat) (h:I n s) :
  codeAny (model prog w) A (.compLoop (.ListComp elt [⟨target,iter,ifs,0⟩] scope pos) 0 it acc env) R s:=by
 refine codeAny_loop rfl I (fun n s hI=>?_) n h
 show wpAny _ A ((compTurn (.ListComp elt [⟨target,iter,ifs,0⟩] scope pos) 0 it acc env).onRaise (fun x=>do noteFrame x env;theTreesLotGoes x)) _ _ s
 refine wpAny_noted ?_
 rw [compTurn_list]
 refine wpAny_bind (wpAny_standAt (wpAny_bind (wpAny_mono (turn n s hI) (fun r s1 h1=>?_) fun _ _ h'=>h'.elim)))
 cases r with
 | none=>exact wpAny_pure h1
 | some v =>
  refine wpAny_bind (wpAny_mono h1 (fun _ s2 h2=>?_) fun _ _ h'=>h'.elim)
  refine wpAny_bind (wpAny_mono h2 (fun _ s3 h3=>wpAny_bind (wpAny_mono h3 (fun ok s4 h4=>?_) fun _ _ h'=>h'.elim)) fun _ _ h'=>h'.elim)
  cases ok with
  | false=>exact wpAny_pure ⟨rfl,h4⟩
  | true =>
   exact wpAny_bind (wpAny_bind (wpAny_mono h4 (fun x s5 h5=>wpAny_bind (wpAny_mono h5 (fun _ s6 h6=>wpAny_pure (wpAny_pure ⟨rfl,h6⟩)) fun _ _ h'=>h'.elim)) fun _ _ h'=>h'.elim))
def PF (X:Cx) (ifs:List Expr) (t:TT):Prop:=
 ∀ (pins:List (Addr×Obj)) (s:Shared) (σ:St) (H:Hp) (Q:Bool→Hp→Prop),Inv X pins σ H s→t σ H Q →
  wpAny (model X.prog X.w) X.A (forIn ifs true fun c r=>if r=true then do let ok ← isTrue c X.env (eval c X.env);pure (ForInStep.yield ok) else pure (ForInStep.yield r)) (TP X pins σ Q) X.xe s
def tYes:TT:=fun _ H Q=>Q true H
theorem zf9 {X:Cx}:PF X [] tYes:=fun pins s σ H Q I h=>wpAny_tests_nil ⟨H,I,h⟩
theorem zhQ {X:Cx} {c:Expr} {t:TT} (hc:PT X c t):PF X [c] t:=fun pins s σ H Q I h=>wpAny_tests_one (hc pins s σ H Q I h)
def cxC (X:Cx) (Nc:List Str) (scope:Scope) (cl:List (Str×Addr)) (C:Addr) (fp:List Addr) (s2:Shared) (H2:Hp):Cx where
 prog:=X.prog
 w:=X.w
 K:=X.K
 mg:=X.mg
 base:=X.base
 A:=X.A
 N:=Nc
 s₀:=s2
 H₀:=H2
 env:=compEnvC scope cl C X.env
 outer:=X.stack
 stack:=X.stack
 ex:=fp
 fn:=fun _=>false
 calm:=X.calm
 pn:=[]
 xe:=fun _ _=>False
def zaT (src:List (Option Nat)) (σ:St):St:=src.map fun o=>match o with
 | none=>none
 | some i=>(σ[i]?).getD none
structure CompOk (N:List Str) (osc:Scope) (Nc:List Str) (src:List (Option Nat)) (scope:Scope):Prop where
 kind:scope.kind = .function
 nocell:∀ x∈scope.names,x.2≠.cell
 nodup:scope.names.Pairwise fun x y=>x.1≠y.1
 free:∀ x∈scope.names,x.2 = .free→osc.names.lookup x.1=some .cell∨osc.names.lookup x.1=some .free
 len:src.length=Nc.length
 src:∀ (j i:Nat),src[j]? = some (some i)→∃ x,Nc[j]? = some x∧N[i]? = some x∧scope.names.lookup x=some .free
theorem zbH {α:Type} {l:List (Str×α)} {x:Str} {k:α} (h:l.lookup x=some k):(x,k)∈l:=by
 induction l with
 | nil=>cases h
 | cons p r ih =>
  obtain ⟨y,j⟩:=p
  rw [List.lookup_cons] at h
  split at h
  ·rename_i hb
   have e:=eq_of_beq hb
   cases h;subst e;exact List.mem_cons_self
  ·exact List.mem_cons_of_mem _ (ih h)
theorem zbp {α:Type} {l:List (Str×α)} (nd:l.Pairwise fun x y=>x.1≠y.1) {x:Str} {k:α} (h:(x,k)∈l):l.lookup x=some k:=by
 induction l with
 | nil=>cases h
 | cons p r ih =>
  obtain ⟨y,j⟩:=p
  rw [List.pairwise_cons] at nd
  rw [List.lookup_cons]
  rcases List.mem_cons.mp h with e | h
  ·cases e;simp
  ·have ne:=nd.1 _ h
   have:(x == y)=false:=beq_eq_false_iff_ne.mpr (Ne.symm ne)
   rw [this];exact ih nd.2 h
theorem zg0 {X:Cx} (ok:X.Ok) {scope:Scope}:∀ (names:List (Str×NameKind)) (acc:List (Str×Addr)),(∀ x∈names,x.2 = .free→∃ c,X.env.cells.lookup x.1=some c) →
  (∀ x c,(x,c)∈acc→X.env.cells.lookup x=some c) →
  ∃ cl,(forIn names acc (fun (p:Str×NameKind) (cs:List (Str×Addr))=>(do
   if p.2 == NameKind.free then
    let c ← cellOf X.env p.1
    pure (ForInStep.yield ((p.1,c) :: cs))
   else pure (ForInStep.yield cs):Sem (ForInStep (List (Str×Addr))))))=pure cl∧(∀ x c,(x,c)∈cl→X.env.cells.lookup x=some c)∧(∀ x∈names,x.2 = .free→∃ c,(x.1,c)∈cl)∧(∀ p∈acc,p∈cl):=by
 intro names
 induction names with
 | nil=>intro acc _ ha;exact ⟨acc,(by rw [List.forIn_nil]),ha,(fun _ h=>nomatch h),fun _ h=>h⟩
 | cons p r ih =>
  intro acc hf ha
  obtain ⟨x,k⟩:=p
  rw [List.forIn_cons]
  by_cases hk:k = .free
  ·subst hk
   obtain ⟨c,hc⟩:=hf _ List.mem_cons_self rfl
   obtain ⟨cl,e,h1,h2,h3⟩:=ih ((x,c) :: acc) (fun y hy=>hf y (List.mem_cons_of_mem _ hy)) (fun y d hy=>by
    rcases List.mem_cons.mp hy with e | hy
    ·cases e;exact hc
    ·exact ha y d hy)
   have hcell:cellOf X.env x=pure c:=by unfold cellOf;rw [show X.env.cells.lookup x=some c from hc]
   refine ⟨cl,?_,h1,fun y hy hk=>?_,fun q hq=>h3 q (List.mem_cons_of_mem _ hq)⟩
   ·simp only [beq_self_eq_true,if_true,hcell,pure_bind];exact e
   ·rcases List.mem_cons.mp hy with e | hy
    ·cases e;exact ⟨c,h3 _ List.mem_cons_self⟩
    ·exact h2 y hy hk
  ·obtain ⟨cl,e,h1,h2,h3⟩:=ih acc (fun y hy=>hf y (List.mem_cons_of_mem _ hy)) ha
   have hb:(k == NameKind.free)=false:=by simpa using hk
   refine ⟨cl,?_,h1,fun y hy hk'=>?_,h3⟩
   ·simp only [hb,Bool.false_eq_true,if_false,pure_bind];exact e
   ·rcases List.mem_cons.mp hy with e | hy
    ·cases e;exact absurd hk' hk
    ·exact h2 y hy hk'
theorem zbq {X:Cx} (ok:X.Ok) {scope:Scope} (hf:∀ x∈scope.names,x.2 = .free→X.env.scope.names.lookup x.1=some .cell∨X.env.scope.names.lookup x.1=some .free) :
  ∃ cl:List (Str×Addr),closureFor scope X.env=pure cl∧(∀ (x:Str) (c:Addr),cl.lookup x=some c→X.env.cells.lookup x=some c)∧(∀ x∈scope.names,x.2 = .free→∃ c,cl.lookup x.1=some c):=by
 obtain ⟨cl,e,h1,h2,_⟩:=zg0 ok (scope:=scope) scope.names [] (fun x hx hk=>ok.has x.1 (hf x hx hk)) (fun _ _ h=>nomatch h)
 refine ⟨cl,?_,fun x c h=>h1 x c (zbH h),fun x hx hk=>?_⟩
 ·unfold closureFor
  exact (bind_pure _).trans e
 ·obtain ⟨c,hc⟩:=h2 x hx hk
  have:∀ l:List (Str×Addr),(x.1,c)∈l→∃ d,l.lookup x.1=some d:=by
   intro l
   induction l with
   | nil=>intro h;cases h
   | cons p r ih =>
    intro h
    obtain ⟨y,d⟩:=p
    rw [List.lookup_cons]
    cases hb:x.1 == y with
    | true=>exact ⟨d,rfl⟩
    | false =>
     rcases List.mem_cons.mp h with e | h
     ·cases e;simp at hb
     ·exact ih h
  exact this cl hc
end L2
end
section
namespace L2
open PySem PySem.Spec PyProof.Rows
theorem zbd {scope:Scope} {env:Env} (x:Str):(relabel scope env).names.lookup x=(scope.names.lookup x).map fun k=>if (k == .free && env.scope.kind == .function && env.kindOf x == some .cell) then .cell else k:=by
 unfold relabel
 show List.lookup x (scope.names.map _)=_
 induction scope.names with
 | nil=>rfl
 | cons p r ih =>
  obtain ⟨n,k⟩:=p
  rw [List.map_cons]
  cases hb:x == n with
  | true =>
   have e:=eq_of_beq hb
   subst e
   show List.lookup x ((if (k == NameKind.free && env.scope.kind == .function && env.kindOf x == some .cell)=true then (x,NameKind.cell) else (x,k)) :: _)=_
   by_cases hc:(k == NameKind.free && env.scope.kind == .function && env.kindOf x == some .cell)=true
   ·rw [if_pos hc,List.lookup_cons,List.lookup_cons]
    simp only [beq_self_eq_true,Option.map_some]
    rw [if_pos hc]
   ·rw [if_neg hc,List.lookup_cons,List.lookup_cons]
    simp only [beq_self_eq_true,Option.map_some]
    rw [if_neg hc]
  | false =>
   show List.lookup x ((if (k == NameKind.free && env.scope.kind == .function && env.kindOf n == some .cell)=true then (n,NameKind.cell) else (n,k)) :: _)=_
   by_cases hc:(k == NameKind.free && env.scope.kind == .function && env.kindOf n == some .cell)=true
   ·rw [if_pos hc,List.lookup_cons,List.lookup_cons,hb];exact ih
   ·rw [if_neg hc,List.lookup_cons,List.lookup_cons,hb];exact ih
theorem HOk.track {P:Program} {w:World} {H:Hp} {h:Heap} {a:Addr} {o:HO} (x:HOk P w H h) (hn:H a=none) (new:ObjOk P w (upd H a o) h a o):HOk P w (upd H a o) h:=fun b u e=>by
 by_cases hb:b=a
 ·subst hb;rw [zab] at e;cases e;exact new
 ·rw [zah hb] at e
  exact (x b u e).stay (fun c v _ q=>q) (fun c q=>by rw [zah (zaj q hn)];exact q) fun c xs q=>by rw [zah (zaj q hn)];exact q
theorem Un.track {fs ex:List Addr} {H H':Hp} {h h':Heap} {a:Addr} {o:HO} (u:Un fs ex H H' h h') (hp:h.objs.size≤a) (hl:∀ b v,H b=some v→b<h.objs.size):Un fs ex H (upd H' a o) h h' where
 keep:=u.keep
 slot:=u.slot
 free:=fun b v q n x=>by rw [zah (Nat.ne_of_lt (Nat.lt_of_lt_of_le (Heap.lt_size q) hp))];exact u.free b v q n x
 there:=u.there
 tups:=fun b xs q=>by rw [zah (Nat.ne_of_lt (Nat.lt_of_lt_of_le (hl b _ q) hp))];exact u.tups b xs q
 frzs:=fun b v xs q=>by rw [zah (Nat.ne_of_lt (Nat.lt_of_lt_of_le (hl b _ q) hp))];exact u.frzs b v xs q
 tbls:=fun b ps q=>by rw [zah (Nat.ne_of_lt (Nat.lt_of_lt_of_le (hl b _ q) hp))];exact u.tbls b ps q
theorem zkl {X:Cx} {pins:List (Addr×Obj)} {σ:St} {H2:Hp} {s2:Shared} {Nc:List Str} {src:List (Option Nat)} {scope:Scope} {cl:List (Str×Addr)} {C:Addr} {fp:List Addr} (I2:Inv X pins σ H2 s2) (S:CompOk X.N X.env.scope Nc src scope)
  (hcl1:∀ (x:Str) (c:Addr),cl.lookup x=some c→X.env.cells.lookup x=some c) (hcl2:∀ x∈scope.names,x.2 = .free→∃ c,cl.lookup x.1=some c) (hC:s2.heap.objs.size≤C)
  (hfp:∀ b∈fp,b<s2.heap.objs.size) (f2:∀ b∈fp,FpOk X pins H2 b):(cxC X Nc scope cl C fp s2 H2).Ok where
 mod:=I2.ok.mod
 kind:=S.kind
 glob:=I2.ok.glob
 blt:=I2.ok.blt
 above:=hC
 inj:=fun x y c h1 h2=>I2.ok.inj x y c (hcl1 _ _ h1) (hcl1 _ _ h2)
 has:=fun x h=>by
  have h':(relabel scope X.env).names.lookup x=some .cell∨(relabel scope X.env).names.lookup x=some .free:=h
  rw [zbd] at h'
  cases hk:scope.names.lookup x with
  | none=>rw [hk] at h';rcases h' with h' | h' <;> cases h'
  | some k =>
   have hm:=zbH hk
   have hkf:k = .free:=by
    rw [hk] at h'
    simp only [Option.map_some] at h'
    cases k with
    | free=>rfl
    | cell=>exact absurd rfl (S.nocell _ hm)
    | _=>exfalso;revert h';simp
   subst hkf
   exact hcl2 _ hm rfl
 cab:=fun x c h=>nomatch h
 hd:=I2.ok.hd
 frames:=I2.ok.frames
 stk:=.inl rfl
 exf:=fun b hb=>⟨Nat.ne_of_lt (Nat.lt_of_lt_of_le (hfp b hb) hC),fun x c e=>(f2 b hb).2.2.2.2.1 x c (hcl1 _ _ e)⟩
 bs:=I2.bs
 bsz:=Nat.le_trans I2.ok.bsz I2.sz
 noex:=fun b o e hb=>by
  rcases (f2 b hb).2.2.2.1 with z | z
  ·exact I2.ok.noex b o e z
  ·exact absurd (Nat.lt_of_lt_of_le (Heap.lt_size e) (Nat.le_trans I2.ok.bsz z)) (Nat.lt_irrefl _)
 exfs:=fun b hb hs=>by
  obtain ⟨_,f1,f3,_⟩:=f2 b hb
  rcases List.mem_cons.mp (I2.stkSub b hs) with z | z
  ·exact f1 z
  ·exact f3 z
 funs:=I2.stack
 frf:=I2.stkFree
def zg9 (J:It) (g:TG) (tf:TT) (te:TE) (Q:List V→Hp→Prop) (σ0:St) (H1:Hp):Prop:=
 ∃ W:Nat→Nat→List V→St→Hp→Prop,(∃ m,W 0 m [] σ0 H1)∧∀ i m ys σc Hc,W i m ys σc Hc →
  (J.stop i Hc∧ys.length≤sizeLine∧Q ys Hc) ∨
  (J.go i Hc∧ys.length<sizeLine∧∃ N:List V→St→Hp→Prop,(∀ ys' σ' H',N ys' σ' H'→∃ m',m'<m∧W (i+1) m' ys' σ' H') ∧
   ∀ x H',J.yld i Hc x H'→g x σc H' fun σ2 H2=>tf σ2 H2 fun b H3=>if b=true then te σ2 H3 fun y H4=>N (ys ++ [y]) σ2 H4 else N ys σ2 H3)
def tComp (src:List (Option Nat)) (wi:TI) (g:TG) (tf:TT) (te:TE):TE:=fun σ H Q=>wi σ H fun J H1 =>
 zg9 J g tf te (fun ys H2=>∀ D,H2 D=none→Q (.ref D) (upd H2 D (.lst ys))) (zaT src σ) H1
theorem ze1 {X:Cx} {pins:List (Addr×Obj)} {σ:St} {H2:Hp} {s2:Shared} {Nc:List Str} {src:List (Option Nat)} {scope:Scope} {cl:List (Str×Addr)} {fp:List Addr} {elt tg iter:Expr} {ifs:List Expr} {pos:Pos}
  {it:Addr} {tn:Nat→Heap→Prop} {J:It} {g:TG} {tf:TT} {te:TE} {Qf:List V→Hp→Prop} {E:Value→Shared→Prop} {RR:Value→Addr→Result→Shared→Prop}
  (hc:X.calm=true) (I2:Inv X pins σ H2 s2) (S:CompOk X.N X.env.scope Nc src scope)
  (hcl1:∀ (x:Str) (c:Addr),cl.lookup x=some c→X.env.cells.lookup x=some c) (hcl2:∀ x∈scope.names,x.2 = .free→∃ c,cl.lookup x.1=some c)
  (T:Turn X.prog X.w X.K tg J fp it tn) (st2:tn 0 s2.heap) (f2:∀ b∈fp,FpOk X pins H2 b)
  (hg:∀ cl C fp s2 H2,PG (cxC X Nc scope cl C fp s2 H2) tg g) (hf:∀ cl C fp s2 H2,PF (cxC X Nc scope cl C fp s2 H2) ifs tf) (he:∀ cl C fp s2 H2,PE (cxC X Nc scope cl C fp s2 H2) elt te)
  (hw:zg9 J g tf te Qf (zaT src σ) H2)
  (fin:∀ (H4:Hp) (s4:Shared) (ys:List V) (m:Str→Option Value) (C:Addr),s2.heap.objs.size≤C→H4 s2.heap.objs.size=none→Inv X pins σ (upd H4 s2.heap.objs.size (.lst ys)) s4→s4.heap.Ns C m→upd H4 s2.heap.objs.size (.lst ys) C=none→Qf ys H4→RR (.ref s2.heap.objs.size) C (.ok .next) s4) :
  wpAny (model X.prog X.w) X.A (newList []) (fun acc s3=>wpAny (model X.prog X.w) X.A (newFunctionEnv scope X.env.globals cl [] X.env.qual none .none (some X.env)) (fun cenv s4 =>
   codeAny (model X.prog X.w) X.A (.compStart (.ListComp elt [⟨tg,iter,ifs,0⟩] scope pos) 0 (.ref it) acc { cenv with scope:=relabel scope X.env }) (RR acc cenv.locals) s4) E s3) E s2:=by
 refine wpAny_newObj_type (wpAny_newFunctionEnv S.nocell (by intro y hy;simp at hy) (fun h1 hns1 hsb1=>?_) S.kind)
 dsimp only at hns1 hsb1 ⊢
 generalize hH2:s2.heap.push { cls:=.type "list",dict:=none,data:=.seq ([]:List Value).toArray }=G2 at hns1 hsb1 ⊢
 have hCz:G2.objs.size=s2.heap.objs.size+1:=by rw [← hH2,Heap.size_push]
 generalize hCe:G2.objs.size=C at hns1 hsb1 hCz ⊢
 generalize hDe:s2.heap.objs.size=D at fin hCz ⊢
 have hDC:D≠C:=by omega
 have hCle:s2.heap.objs.size≤C:=by omega
 have hDle:s2.heap.objs.size≤D:=by omega
 have old:∀ b o,s2.heap.get? b=some o→h1.get? b=some o:=fun b o e=>hsb1.extBut b o (Nat.ne_of_lt (Nat.lt_of_lt_of_le (Heap.lt_size e) hCle)) (Heap.get?_push_of_some _ (hH2 ▸ Heap.get?_push_of_some _ e))
 have hacc:h1.get? D=some { cls:=.type "list",data:=.seq ([]:List Value).toArray 0 }:=by
  refine hsb1.extBut _ _ hDC (Heap.get?_push_of_some _ ?_)
  rw [← hH2,← hDe]
  exact Heap.get?_push_size _ rfl
 have hfp:∀ b∈fp,b<s2.heap.objs.size:=fun b hb=>by
  obtain ⟨o,e,_⟩:=T.obj 0 _ st2 b hb
  exact Heap.lt_size e
 have ok:=zkl (Nc:=Nc) (src:=src) (scope:=scope) (cl:=cl) (C:=C) (fp:=fp) I2 S hcl1 hcl2 hCle hfp f2
 generalize hXC:cxC X Nc scope cl C fp s2 H2=Y at ok
 have hYN:Y.N=Nc:=by rw [← hXC];rfl
 
 have I0:Inv (cxC X Nc scope cl C fp s2 H2) [] (zaT src σ) H2 { s2 with heap:=h1,toks:=s2.toks+([]:List (Str×Value)).length }:=by
  rw [← hXC] at ok
  refine ⟨ok,rfl,I2.bare,Un.kept old,⟨_,hns1,fun j x v e1 e2 _=>?_⟩,fun x c e=>?_,I2.hok.fresh hCle,fun x c e=>I2.freeC x c (hcl1 _ _ e),(fun p hp=>nomatch hp),I2.hok.kept old,?_⟩
  ·
   have e2':(zaT src σ)[j]? = some (some v):=e2
   have e1':Nc[j]? = some x:=e1
   unfold zaT at e2'
   rw [List.getElem?_map] at e2'
   cases hs:src[j]? with
   | none=>rw [hs] at e2';cases e2'
   | some o =>
    rw [hs] at e2'
    cases o with
    | none=>cases e2'
    | some i =>
     simp only [Option.map_some,Option.some.injEq] at e2'
     obtain ⟨y,hy1,hy2,hy3⟩:=S.src j i hs
     rw [e1'] at hy1;cases hy1
     have hσ:σ[i]? = some (some v):=by
      cases hq:σ[i]? with
      | none=>rw [hq] at e2';cases e2'
      | some z=>rw [hq] at e2';simp only [Option.getD_some] at e2';rw [e2']
     have hm:=zbH hy3
     have hfr:=S.free _ hm rfl
     obtain ⟨m0,hn0,hl0⟩:=I2.loc
     obtain ⟨u,r,l⟩:=hl0 i x v hy2 hσ (Or.inr hfr)
     refine ⟨u,r,.inr ⟨?_,?_⟩⟩
     ·show (relabel scope X.env).names.lookup x=some .cell∨(relabel scope X.env).names.lookup x=some .free
      rw [zbd,hy3]
      simp only [Option.map_some]
      split
      ·exact .inl rfl
      ·exact .inr rfl
     ·rcases l with ⟨k,_⟩ | ⟨_,c,hc1,hc2⟩
      ·have k':X.env.scope.names.lookup x=some .local:=k
       rw [k'] at hfr;rcases hfr with z | z <;> cases z
      ·obtain ⟨c',hc'⟩:=hcl2 _ hm rfl
       have:=hcl1 _ _ hc'
       rw [hc1] at this;cases this
       exact ⟨c,hc',hc2.keeps old⟩
  ·obtain ⟨v,z⟩:=I2.cell x c (hcl1 _ _ e)
   exact ⟨v,z.keeps old⟩
  ·show (zaT src σ).length=Nc.length
   unfold zaT;rw [List.length_map];exact S.len
 obtain ⟨W,⟨m0,w0⟩,turn⟩:=hw
 have loop:codeAny (model X.prog X.w) X.A (.compLoop (.ListComp elt [⟨tg,iter,ifs,0⟩] scope pos) 0 (.ref it) (.ref D) (compEnvC scope cl C X.env)) (RR (.ref D) C) { s2 with heap:=h1,toks:=s2.toks+([]:List (Str×Value)).length }:=by
  have fpk:∀ {H':Hp} {ob:Obj},(∀ b∈fp,H' b=none)→∀ b∈fp,FpOk (cxC X Nc scope cl C fp s2 H2) [(D,ob)] H' b:=fun {H' ob} hn b hb =>
   ⟨hn b hb,(I0.ok.exf b hb).1,I0.ok.exfs b hb,.inl hb,(I0.ok.exf b hb).2,fun p hp=>by
    have e:p=(D,ob):=List.mem_singleton.mp hp
    subst e
    exact Nat.ne_of_gt (Nat.lt_of_lt_of_le (hfp b hb) hDle)⟩
  have hDfs:D ∉ frs X.stack:=fun hs=>by
   rcases List.mem_cons.mp (I2.stkSub D hs) with z | z
   ·exact absurd (Nat.lt_of_lt_of_le I2.lt hDle) (by rw [z];exact Nat.lt_irrefl _)
   ·exact I2.nofs hDle z
  refine zlf (fun n s'=>∃ i ys σ' H' its k,Inv (cxC X Nc scope cl C fp s2 H2) [] σ' H' s'∧tn i s'.heap∧(∀ b∈fp,H' b=none)∧H' D=none∧s'.heap.get? D=some { cls:=.type "list",data:=.seq (its:List Value).toArray k }∧Vals ys its∧W i n ys σ' H') ?_ m0
   ⟨0,[],zaT src σ,H2,[],0,I0,T.keep _ _ _ st2 fun b hb o e=>old b o e,fun b hb=>(f2 b hb).1,I2.hok.fresh hDle,hacc,.nil,w0⟩
  rintro n s3 ⟨i,ys,σ3,H3,its,k,I3,st3,fr3,hD3,hO3,vs3,w3⟩
  have I3':Inv (cxC X Nc scope cl C fp s2 H2) [(D,({ cls:=.type "list",data:=.seq its.toArray k }:Obj))] σ3 H3 s3:=I3.pins_of fun p hp=>by
   have e:=List.mem_singleton.mp hp
   subst e
   exact ⟨hO3,hD3,hDC,hDfs,fun v z=>by
    have z':Data.seq _ _=Data.cell v:=z
    cases z'⟩
  rcases turn i n ys σ3 H3 w3 with ⟨stop,hlen,qn⟩ | ⟨go,hlen,N,hN,step⟩
  ·refine thn (T.done (cxC X Nc scope cl C fp s2 H2) rfl rfl rfl hc i _ s3 σ3 H3 _ I3' (fpk fr3) st3 stop) fun r s4 ⟨hr,I4⟩=>?_
   subst hr
   have hO4:=(I4.pin (D,_) (List.mem_append_right _ (List.mem_singleton.mpr rfl))).1
   obtain ⟨m4,hn4,_⟩:=I4.loc
   have fC:H3 C=none:=I4.free
   have uD:upd H3 D (.lst ys) C=none:=by rw [zah hDC.symm];exact fC
   have hl2:∀ b v,H2 b=some v→b<s2.heap.objs.size:=fun b v e=>I2.hok.lt e
   have Iout:Inv X pins σ (upd H3 D (.lst ys)) s4:=by
    refine I2.call' (ch:=fp) I4.os (Un.track I4.base hDle hl2) (HOk.track I4.hok hD3 ⟨hlen,its,k,vs3,hO4⟩) I4.bare fun b hb=>?_
    obtain ⟨_,a1,_,a3,a4,a5⟩:=f2 b hb
    exact ⟨a3,a1,a4,a5⟩
   exact fin H3 s4 ys m4 C (by omega) hD3 Iout hn4 uD qn
  ·refine thn (T.item (cxC X Nc scope cl C fp s2 H2) rfl rfl rfl hc i _ s3 σ3 H3 _ I3' (fpk fr3) st3 go) fun r s4 ⟨u,hr,h4⟩=>?_
   subst hr
   refine thn h4 fun _ s5 ⟨x,H5,I5,r5,y5,st5,fr5⟩=>?_
   have I5':=I5.pinned (fpk fr5) (T.obj _ _ st5)
   refine thn (hg cl C fp s2 H2 _ s5 σ3 H5 x u _ I5' r5 (step x H5 y5)) fun _ s6 ⟨σ6,H6,I6,q6⟩=>?_
   refine thn (hf cl C fp s2 H2 _ s6 σ6 H6 _ I6 q6) fun ok s7 ⟨H7,I7,q7⟩=>?_
   have back:∀ {s8:Shared} {σ8:St} {H8:Hp},Inv (cxC X Nc scope cl C fp s2 H2) ([(D,({ cls:=.type "list",data:=.seq its.toArray k }:Obj))] ++ zdF fp s5.heap) σ8 H8 s8 →
     tn (i+1) s8.heap∧(∀ b∈fp,H8 b=none)∧H8 D=none∧s8.heap.get? D=some { cls:=.type "list",data:=.seq its.toArray k }:=fun {s8 σ8 H8} I8=>by
    refine ⟨T.keep _ _ _ st5 fun b hb o e=>(I8.pin (b,o) (List.mem_append_right _ (List.mem_append_right _ (zaU hb e)))).1,fun b hb=>?_,?_,?_⟩
    ·obtain ⟨o,e,d⟩:=T.obj _ _ st5 b hb
     exact (I8.pin (b,o) (List.mem_append_right _ (List.mem_append_right _ (zaU hb e)))).2.1
    ·exact (I8.pin (D,_) (List.mem_append_right _ (List.mem_append_left _ (List.mem_singleton.mpr rfl)))).2.1
    ·exact (I8.pin (D,_) (List.mem_append_right _ (List.mem_append_left _ (List.mem_singleton.mpr rfl)))).1
   cases ok with
   | false =>
    obtain ⟨m',hm',w7⟩:=hN _ _ _ q7
    obtain ⟨b1,b2,b3,b4⟩:=back I7
    exact ⟨m',hm',i+1,ys,σ6,H7,its,k,I7.pins_of (fun p hp=>nomatch hp),b1,b2,b3,b4,vs3,w7⟩
   | true =>
    refine thn (he cl C fp s2 H2 _ s7 σ6 H7 _ I7 q7) fun v s8 ⟨y,H8,I8,r8,q8⟩=>?_
    obtain ⟨m',hm',w8⟩:=hN _ _ _ q8
    obtain ⟨b1,b2,b3,b4⟩:=back I8
    have hl8:=vs3.length
    refine call_meets F.slot_list_append ⟨_,b4,rfl⟩ F.entry_list_append (F.args_list_append_2 _ _) (PySem.list_append D its.toArray k v (by rw [List.size_toArray];omega)) ⟨b4,?_⟩
    have I8n:Inv (cxC X Nc scope cl C fp s2 H2) [] σ6 H8 s8:=I8.pins_of fun p hp=>nomatch hp
    have kq:∀ b o,b≠D→s8.heap.get? b=some o→(s8.heap.update D (Obj.mapSeq (·.push v))).get? b=some o:=fun b o hb e=>(Heap.get?_update_other s8.heap _ (Ne.symm hb)).trans e
    have qn:=PySem.IsL.update b4 (·.push v)
    have e2:its.toArray.push v=(its ++ [v]).toArray:=by simp
    rw [e2] at qn
    have I9:Inv (cxC X Nc scope cl C fp s2 H2) [] σ6 H8 { s8 with heap:=s8.heap.update D (Obj.mapSeq (·.push v)),toks:=s8.toks }:=
     I8n.turned (it:=D) kq b3 hDC (.inr hDle) (fun x c e z=>by
      obtain ⟨w',z'⟩:=I2.cell x c (hcl1 _ _ e)
      exact absurd (Nat.lt_of_lt_of_le z'.lt hDle) (by rw [z];exact Nat.lt_irrefl _)) (fun p hp=>nomatch hp)
    refine ⟨m',hm',i+1,ys ++ [y],σ6,H8,its ++ [v],_,I9,T.keep _ _ _ b1 fun b hb o e=>kq b o (Nat.ne_of_lt (Nat.lt_of_lt_of_le (hfp b hb) hDle)) e,b2,b3,qn,vs3.append (.cons r8 .nil),w8⟩
 exact codeAny_compStart_list loop (T.self X.A 0 _ _ _ (T.keep _ _ _ st2 fun b hb o e=>old b o e) loop)
section
variable {X:Cx} {Nc:List Str} {src:List (Option Nat)} {scope:Scope} {elt tg iter:Expr} {ifs:List Expr} {pos:Pos} {wi:TI} {g:TG} {tf:TT} {te:TE}
theorem zde (src:List (Option Nat)) (hc:X.calm=true) (S:CompOk X.N X.env.scope Nc src scope) (hi:PI X tg iter wi)
  (hg:∀ cl C fp s2 H2,PG (cxC X Nc scope cl C fp s2 H2) tg g) (hf:∀ cl C fp s2 H2,PF (cxC X Nc scope cl C fp s2 H2) ifs tf) (he:∀ cl C fp s2 H2,PE (cxC X Nc scope cl C fp s2 H2) elt te)
  (hs:∀ x,foldedSetIterable iter X.env x=pure x:=by intro _;rfl):PE X (.ListComp elt [⟨tg,iter,ifs,0⟩] scope pos) (tComp src wi g tf te):=by
 intro pins s σ H Q I h
 obtain ⟨cl,hclos,hcl1,hcl2⟩:=zbq I.ok (scope:=scope) S.free
 rw [eval_ListComp]
 refine wpAny_comprehension_free (use:=none) rfl hs hclos S.kind (fun x hx hl=>by obtain ⟨n,k⟩:=x;cases hl;exact zbp S.nodup hx) (thn (hi pins s σ H _ I h) fun xv s1 h1=>thn h1 fun itv s2 h2=>?_)
 obtain ⟨it,fp,tn,J,H2,e,I2,T,st2,f2,hw⟩:=h2
 subst e
 refine ze1 (RR:=fun acc C=>compPost (model X.prog X.w) X.A X.xe none (EP X pins σ Q) acc C) hc I2 S hcl1 hcl2 T st2 f2 hg hf he hw ?_
 intro H4 s4 ys m C hC hD Iout hn hCn q
 refine ⟨m,hn,fun h' sb=>⟨.ref s2.heap.objs.size,_,?_,rfl,q _ hD⟩⟩
 obtain ⟨f0,f1,f3,f4,f5,f6⟩:=I2.fpOk (H':=upd H4 s2.heap.objs.size (.lst ys)) hC hCn
 exact Iout.turned (t':=s4.toks) (it:=C) (fun b o hb e=>(sb.2 b hb).trans e) f0 f1 f4 f5 f6
theorem zgB {i:Nat} {y:Str} {pos' spos:Pos} (src:List (Option Nat)) (hN:X.N.Nodup) (hi':X.N[i]? = some y) (hy:X.env.scope.names.lookup y=some .local)
  (hc:X.calm=true) (S:CompOk X.N X.env.scope Nc src scope) (hi:PI X tg iter wi)
  (hg:∀ cl C fp s2 H2,PG (cxC X Nc scope cl C fp s2 H2) tg g) (hf:∀ cl C fp s2 H2,PF (cxC X Nc scope cl C fp s2 H2) ifs tf) (he:∀ cl C fp s2 H2,PE (cxC X Nc scope cl C fp s2 H2) elt te)
  (hsw:swapsWith (.ListComp elt [⟨tg,iter,ifs,0⟩] scope pos) (some (.Name y pos')) spos.line X.env=pure true:=by rfl)
  (hs:∀ x,foldedSetIterable iter X.env x=pure x:=by intro _;rfl):PS X (.Assign [.Name y pos'] (.ListComp elt [⟨tg,iter,ifs,0⟩] scope pos) spos) (tAsg (tComp src wi g tf te) (za1 i)):=by
 intro pins s σ H D I h
 obtain ⟨cl,hclos,hcl1,hcl2⟩:=zbq I.ok (scope:=scope) S.free
 rw [exec_Assign_Name_used _ _ _ _ hsw]
 refine wpAny_bind (wpAny_standAt (wpAny_bind ?_))
 show wpAny _ X.A (do let _ ← comprehension (.ListComp elt [⟨tg,iter,ifs,0⟩] scope pos) scope X.env _ (newList []) false (eval iter X.env) (some (assign (.Name y pos') X.env))) _ _ s
 refine wpAny_bind (wpAny_mono (wpAny_comprehension_free (use:=some (assign (.Name y pos') X.env)) (Q:=fun _ s'=>SP X pins D .next s') rfl hs hclos S.kind (fun x hx hl=>by obtain ⟨n,k⟩:=x;cases hl;exact zbp S.nodup hx)
  (thn (hi pins s σ H _ I h) fun xv s1 h1=>thn h1 fun itv s2 h2=>?_)) (fun _ s' hq=>wpAny_pure (wpAny_pure hq)) fun _ _ e=>e)
 obtain ⟨it,fp,tn,J,H2,e,I2,T,st2,f2,hw⟩:=h2
 subst e
 refine ze1 (RR:=fun acc C=>compPost (model X.prog X.w) X.A X.xe (some (assign (.Name y pos') X.env)) (fun _ s'=>SP X pins D .next s') acc C) hc I2 S hcl1 hcl2 T st2 f2 hg hf he hw ?_
 intro H4 s4 ys m C hC hD Iout hn hCn q
 show wpAny _ X.A (assign (.Name y pos') X.env (.ref s2.heap.objs.size)) _ _ _
 refine wpAny_assign_Name (zev (i:=i) Iout hN hi' (.inl hy) (v:=.ref s2.heap.objs.size) rfl (fun s5 I5 ch=>?_) (.inr hy))
 obtain ⟨f0,f1,f3,f4,f5,f6⟩:=I2.fpOk (H':=upd H4 s2.heap.objs.size (.lst ys)) hC hCn
 obtain ⟨a,sb,ha⟩:=ch
 have hCa:C≠a:=by
  rcases ha with ha | ha
  ·rw [ha];exact f1
  ·exact fun z=>f5 _ _ ha z.symm
 refine ⟨m,hn.sameBut sb hCa,fun h' sb'=>⟨_,_,I5.turned (t':=s5.toks) (it:=C) (fun b o hb e=>(sb'.2 b hb).trans e) f0 f1 f4 f5 f6,q _ hD⟩⟩
end
end L2
end
section
namespace L2
open PySem PySem.Spec PyProof.Rows
section
variable {X:Cx} {pins:List (Addr×Obj)} {σ:St} {H:Hp} {s:Shared}
theorem Inv.turnedL {h':Heap} {t':Nat} {ch:List Addr} (I:Inv X pins σ H s) (k:∀ b o,b ∉ ch→s.heap.get? b=some o→h'.get? b=some o) (hf:∀ b∈ch,FpOk X pins H b):Inv X pins σ H { s with heap:=h',toks:=t' }:=by
 have nit:∀ b u,H b=some u→b ∉ ch:=fun b u e z=>by rw [(hf b z).1] at e;cases e
 refine I.step (g':=s.gens) (d':=s.drawn) (ch:=ch) (fun b hb=>?_) (fun b o _ _ hc e _=>k b o hc e) (fun b o _ _ hc e _=>⟨o.slots,k b o hc e⟩) (fun _ _ _ _ n=>n)
  (fun b o hc e=>⟨o,k b o hc e⟩) (fun _ _ e=>e) (fun _ _ _ e=>e) (fun b ps e=>⟨#[],by rw [e];simp⟩) (fun m hm=>?_) (fun b u e=>?_) I.bare
 ·obtain ⟨_,a1,_,a3,a4,a5⟩:=hf b hb
  exact ⟨a3,a1,a4,a5⟩
 ·obtain ⟨o,es,ep,ho,r⟩:=hm
  exact ⟨o,es,ep,k _ o (fun z=>(hf _ z).2.1 rfl) ho,r⟩
 ·refine (I.hok b u e).stay (fun c v hc q=>k c v ?_ q) (fun _ q=>q) fun _ _ q=>q
  rcases hc with z | z
  ·rw [z];exact nit b u e
  ·exact nit c _ z
theorem Un.track' {fs ex:List Addr} {H H':Hp} {h h':Heap} {a:Addr} {o:HO} (u:Un fs ex H H' h h') (hp:h.objs.size≤a) (hn:H' a=none):Un fs ex H (upd H' a o) h h' where
 keep:=u.keep
 slot:=u.slot
 free:=fun b v q n x=>by rw [zah (Nat.ne_of_lt (Nat.lt_of_lt_of_le (Heap.lt_size q) hp))];exact u.free b v q n x
 there:=u.there
 tups:=fun b xs q=>by rw [zah (zaj (u.tups b xs q) hn)];exact u.tups b xs q
 frzs:=fun b v xs q=>by rw [zah (zaj (u.frzs b v xs q) hn)];exact u.frzs b v xs q
 tbls:=fun b ps q=>by
  obtain ⟨m,e⟩:=u.tbls b ps q
  exact ⟨m,by rw [zah (zaj e hn)];exact e⟩
theorem Inv.track {a:Addr} {o:HO} (I:Inv X pins σ H s) (f:FpOk X pins H a) (hs:X.s₀.heap.objs.size≤a) (new:ObjOk X.prog X.w (upd H a o) s.heap a o):Inv X pins σ (upd H a o) s:=by
 obtain ⟨hn,h1,_,_,h4,h5⟩:=f
 refine ⟨I.ok,I.os,I.bare,Un.track' I.base hs hn,I.loc,I.cell,by rw [zah (Ne.symm h1)];exact I.free,fun x c e=>by rw [zah (h4 x c e)];exact I.freeC x c e,fun p hp=>?_,HOk.track I.hok hn new,I.len⟩
 obtain ⟨a1,a2,a3⟩:=I.pin p hp
 exact ⟨a1,by rw [zah (h5 p hp)];exact a2,a3⟩
end
theorem zcW {P:Program} {w:World} {H:Hp} {h:Heap} {T:Addr} {x y:V} {u v:Value} (r:RelV x u) (q:RelV y v) (e:h.get? T=some { cls:=.type "tuple",data:=.seq #[u,v] }):ObjOk P w H h T (.tup [x,y]):=
 ⟨⟨by show 2≤sizeLine;decide,_,e,rfl⟩,[u,v],.cons r (.cons q .nil),⟨_,e,rfl,_,rfl⟩⟩
theorem zjP:bootBuiltins "zip" = some (.type "zip"):=by decide +kernel
end L2
end
section
namespace L2
open PySem PySem.Spec PyProof.Rows
section
variable {X:Cx} {CX:CXT} {k:Nat} {f:Addr} {fd:FuncData} {ps ks:List Str} {sp:Sp} {E:XK} {x:Str} {p pos:Pos} {kws:List Keyword} {tk:TA} {g:List Value→List Value→List Value} {gV:List V→List V→List V}
end
section
variable {X:Cx}
theorem ziM (bs:List Bool) (tr:Nat→Bool) (h:∀ i b,bs[i]? = some b→tr i=b):(List.range bs.length).all tr=bs.all id:=by
 induction bs generalizing tr with
 | nil=>rfl
 | cons b r ih =>
  rw [List.length_cons,List.range_succ_eq_map,List.all_cons,List.all_map,List.all_cons,h 0 b rfl]
  have:=ih (tr ∘ Nat.succ) (fun i c hi=>h (i+1) c (by simpa using hi))
  rw [this];rfl
theorem ze9 (hc:X.calm=true):zbY X (.builtin "all") (fun xs H Q=>∃ (a:Addr) (bs:List Bool),xs=[.ref a]∧SqL X.K H a (bs.map V.bl)∧Q (.bl (bs.all id)) H):=by
 intro pins s σ H xs us Q I r h
 obtain ⟨a,bs,rfl,hq,q⟩:=h
 obtain ⟨u,rfl,ru⟩:=zcC r
 cases ru
 obtain ⟨its,rv,p,hz⟩:=I.list hq
 have hl:=rv.length
 rw [List.length_map] at hl
 refine call_all_walk (wpAny_pyIter_list p.isList ?_)
 have hne:a≠s.heap.objs.size:=by
  obtain ⟨o,ho,_⟩:=p.isList
  exact Nat.ne_of_lt (Heap.lt_size ho)
 refine ⟨s.heap.objs.size,_,_,_,_,_,fun i=>(bs[i]?).getD true,rfl,Walks.list (A:=X.A.in1) (I.ok.hd hc) s.heap.objs.size a hne its.toArray,⟨⟨_,Heap.get?_push_size _ rfl,rfl,rfl⟩,p.isList.push _⟩,?_,fun h' tk kk=>?_⟩
 ·intro i v s' Q' E' hv hq'
  have hv':its[i]? = some v:=by simpa using hv
  cases hn:bs[i]? with
  | none =>
   exfalso
   rw [List.getElem?_eq_none_iff,hl] at hn
   rw [List.getElem?_eq_none hn] at hv'
   cases hv'
  | some b =>
   obtain ⟨u',hu',ru'⟩:=rv.get (i:=i) (x:=V.bl b) (by simp [hn])
   obtain rfl:u'=Value.bool b:=ru'
   rw [hu'] at hv';cases hv'
   have hq2:Q' ((bs[i]?).getD true) s':=hq'
   rw [hn] at hq2
   exact wpAny_truthy_bool hq2
 ·have e:(List.range its.toArray.size).all (fun i=>(bs[i]?).getD true)=bs.all id:=by
   rw [show its.toArray.size=bs.length by simp;omega]
   exact ziM bs _ fun i b h=>by rw [h];rfl
  rw [e]
  refine ⟨.bl _,H,I.kept (t':=tk) fun b o e1=>kk b o (fun hb=>?_) (Heap.get?_push_of_some _ e1),rfl,q⟩
  have hb:=List.mem_singleton.mp hb
  exact absurd (Heap.lt_size e1) (by rw [hb];exact Nat.lt_irrefl _)
theorem zhB:RelV (.ty "int") (.type "int"):=rfl
theorem zhC:RelV (.ty "bool") (.type "bool"):=rfl
theorem zfa:bootBuiltins "int" = some (.type "int"):=by decide +kernel
theorem ziE:bootBuiltins "bool" = some (.type "bool"):=by decide +kernel
theorem za4:bootBuiltins "isinstance" = some (.builtin "isinstance"):=by decide +kernel
theorem zko:bootBuiltins "all" = some (.builtin "all"):=by decide +kernel
def rCatS (K:PySem.W.Frag):R2:=fun x y H Q=>∃ a b xs ys,x = .ref a∧y = .ref b∧SqL K H a xs∧SqL K H b ys∧xs.length+ys.length≤sizeLine∧∀ p,H p=none→Q (.ref p) (upd H p (.lst (xs ++ ys)))
theorem zfy:OpR X (binaryOp .Add) (rCatS X.K):=by
 intro pins s σ H x y v u Q I rx ry h
 obtain ⟨a,b,xs,ys,rfl,rfl,hq,hq2,hz,q⟩:=h
 cases rx
 cases ry
 obtain ⟨its,rv,p,_⟩:=I.list hq
 obtain ⟨its2,rv2,p2,_⟩:=I.list hq2
 have e1:=rv.length
 have e2:=rv2.length
 obtain ⟨⟨cls,dd,data,sl⟩,ho,hc,n,hd⟩:=id p.isList
 obtain ⟨⟨cls2,dd2,data2,sl2⟩,ho2,hc2,n2,hd2⟩:=id p2.isList
 simp only at hc hd hc2 hd2
 subst hc hd hc2 hd2
 have ea:its.toArray ++ its2.toArray=(its ++ its2).toArray:=by simp
 refine concat_meets ⟨_,ho,rfl⟩ ⟨_,ho2,rfl⟩ noFill_list_add seq_list_add PySem.F.slot_list_add PySem.F.entry_list_add (PySem.F.args_list_add_2 _ _) (list_addW a b its.toArray its2.toArray n n2 dd dd2 sl sl2 (by rw [List.size_toArray,List.size_toArray];omega)) ⟨ho,ho2,?_⟩
 rw [ea]
 exact ⟨.ref _,_,I.lnew (t':=s.toks) (rv.append rv2) (by rw [List.length_append];omega),rfl,q _ I.fresh⟩
theorem zcu:OpR X (binaryOp .Mult) (rI IntMulOk fun i j=>.int (i * j)):=opI fun _ _ _ _ _ _ _ hc q=>mul_int q hc
theorem zeb:OpR X (binaryOp .FloorDiv) (rI (fun _ j=>0<j∧j.natAbs.log2<9000) fun i j=>.int (i / j)):=opI fun i j _ _ _ _ _ hc q=>by
 have e:i.fdiv j=i / j:=Int.fdiv_eq_ediv_of_nonneg _ (Int.le_of_lt hc.1)
 exact floordiv_int (by have:=hc.1;omega) (by rw [e];exact q) (.inl (PyProof.noPylong_of_log2 hc.2))
end
theorem bits_script {ns:List Int} (h:PySem.W.WData.layableAll [PySem.W.WData.list (ns.map PySem.W.WData.int)]=true):∀ n∈ns,Builtin.Int.intBits n≤2 ^ 20:=by
 intro n hn
 have h1:(PySem.W.WData.list (ns.map PySem.W.WData.int)).layable=true:=by
  have:=List.all_eq_true.mp h _ List.mem_cons_self
  exact this
 have hw:=(PySem.W.layableW_iff.mp h1).2.2
 have key:∀ l:List Int,n∈l→Builtin.Int.intBits n≤PySem.W.WData.weightAll (l.map PySem.W.WData.int):=by
  intro l
  induction l with
  | nil=>intro h;cases h
  | cons m r ih =>
   intro hm
   rw [List.map_cons,PySem.W.WData.weightAll]
   rcases List.mem_cons.mp hm with e | hm
   ·subst e
    have:Builtin.Int.intBits n≤(PySem.W.WData.int n).weight:=by
     simp only [PySem.W.WData.weight,Builtin.Int.intBits]
     omega
    omega
   ·have:=ih hm
    omega
 have h2:=key ns hn
 rw [PySem.W.WData.weight] at hw
 omega
end L2
namespace Att
open PySem PySem.W PyProof.Rows PySem.Calls
theorem attach_callB {l:OpenLaw} {n:Nat} {q:Program} {loose:List Str} {XP:(Str→Option Value)→Heap→Prop} {YP:World→Heap→Prop} {d:DefRec}
  (hn:l.most=some n) (hdf:d.params.defaults=[])
  (call:∀ (w:World) (s₀ s₁:Shared) (mg mb:Str→Option Value) (fa:Addr) (o:Obj) (pm cd doc:Value) (a:Addr) (vs:List Value) (ns:List Int),
   Ground q loose [] XP w s₀ mg mb s₁.heap→YP w s₁.heap →
   s₁.heap.get? fa=some o→o.data = .func (docDef d.name d.params d.body d.scope pm cd doc)→s₁.heap.CodeRec cd d.name→mg d.name=some (.ref fa) →
   s₁.heap.get? a=some { cls:=.type "list",data:=.seq vs.toArray }→IntsAre vs ns→ns.length≤n→(∀ m∈ns,Builtin.Int.intBits m≤2 ^ 20)→s₁.gens = #[] →
   codeAny (model l.prog w) callerA (.call (.ref fa) ⟨[.ref a],[]⟩) (fun r s'=>r = .ok (.ret (.bool true))∧OldK s₁.heap s'.heap∧s'.os=s₁.os∧AllBare s'.gens) s₁) :
  WalkO q loose XP YP l.row.toRowW d [] (fun f vs=>PySem.call f vs):=by
 intro w s₀ s₁ mg mb G Y fa o pm cd doc dV kV ho hd hcd hD hmg hg args vals as hpre hlay hrd hwl hlo
 obtain rfl:dV = .none:=Dflts.none hD hdf
 obtain rfl:kV = .none:=Dflts.noKw hD
 obtain ⟨a,vs,ns,rfl,rfl,hobj,hints,hlen⟩:=zhw hn hpre hwl
 refine enter_call (codeAny_mono (call w s₀ s₁ mg mb fa o pm cd doc a vs ns G Y ho (fd_plain hd) hcd hmg hobj hints hlen (L2.bits_script hlay) hg) fun r s' hq=>?_)
 obtain ⟨rfl,h2,h3,h4⟩:=hq
 exact ⟨.inl ⟨.bool true,.bool true,[],rfl,fun _=>rfl,.bool true,zhL l _,fun _=>⟨List.Pairwise.nil,fun _ hm=>(nomatch hm)⟩⟩,h2,h3,h4⟩
end Att
namespace L2
open PySem PySem.Spec PyProof.Rows
theorem walk_ofB {l:PySem.W.OpenLaw} {n k:Nat} {q:Program} {loose:List Str} {XP:(Str→Option Value)→Heap→Prop} {YP:World→Heap→Prop} {d:DefRec} {K:Params→PySem.W.Frag} {CX:World→CXT} {sp:World→Sp} {x:Str}
  (hn:l.most=some n) (hn2:n≤sizeLine) (hdf:d.params.defaults=[]) (hr:Room k callerA)
  (hY:∀ (w:World) (h:Heap),YP w h→(K w.params).In h)
  (F:∀ (w:World) (mg:Str→Option Value) (fa:Addr) (h:Heap),(K w.params).In h→h.Ns mainGlobals mg→mg d.name=some (.ref fa) →
   ∃ fd:FuncData,(∀ (s:Shared) (u:Value),BindsTo s fd ⟨[u],[]⟩ [(x,u)]) ∧
    ∀ base:Heap,(K w.params).In base→base.Ns mainGlobals mg→FnOk l.prog w (K w.params) mg base (CX w) k fa fd [x] (sp w))
  (hsp:∀ (w:World) (H:Hp) (a:Addr) (ns:List Int),ns.length≤n→(∀ m∈ns,Builtin.Int.intBits m≤2 ^ 20)→Only H→SqL (K w.params) H a (ns.map V.int)→sp w [.ref a] H (fun v _=>v = .bl true) fun _ _ _=>False)
  (hCX:∀ (w:World) (H:Hp) (s:Shared) (e:Value) (s':Shared),CX w [] H s (fun _ _ _=>False) e s'→False) :
  PySem.W.WalkO q loose XP YP l.row.toRowW d [] (fun f vs=>PySem.call f vs):=by
 refine Att.attach_callB hn hdf fun w s₀ s₁ mg mb fa o pm cd doc a vs ns G Y ho hd hcd hmg hobj hints hlen hbits hg=>?_
 have KX:=hY w _ Y
 obtain ⟨fd,hb,hF⟩:=F w mg fa _ KX G.T.g hmg
 exact zjw KX G.T.g G.T.b G.T.builtins G.T.nolimit hg hobj hints (Nat.le_trans hlen hn2) hr hF hb (fun H hO hS=>hsp w H a ns hlen hbits hO hS) fun H e s'=>hCX w H s₁ e s'
end L2
end
section
namespace L2
open PySem PySem.Spec PyProof.Rows
section
variable {K:PySem.W.Frag} {g:TG} {tf:TT} {te:TE} {Q:List V→Hp→Prop} {σ:St} {H:Hp}
theorem zdQ {lo:Int} {n:Nat} (Pv:Nat→List V→St→Hp→Prop) (hn:n≤sizeLine) (h0:Pv 0 [] σ H) (hz:∀ i ys σ H,Pv i ys σ H→ys.length≤i)
  (hs:∀ i ys σ H,i<n→Pv i ys σ H→g (.int (lo+i)) σ H fun σ2 H2=>tf σ2 H2 fun b H3=>if b=true then te σ2 H3 fun y H4=>Pv (i+1) (ys ++ [y]) σ2 H4 else Pv (i+1) ys σ2 H3)
  (hd:∀ ys σ H,Pv n ys σ H→Q ys H):zg9 (Itr lo n) g tf te Q σ H:=by
 refine ⟨fun i m ys σ H=>m=n - i∧i≤n∧Pv i ys σ H,⟨n,by simp,Nat.zero_le _,h0⟩,?_⟩
 rintro i m ys σ H ⟨rfl,hi,p⟩
 have hl:=hz i ys σ H p
 by_cases hlt:i<n
 ·refine .inr ⟨hlt,by omega,Pv (i+1),fun ys' σ' H' p'=>⟨n - (i+1),by omega,rfl,hlt,p'⟩,fun x H' y=>?_⟩
  obtain ⟨e,y⟩:=y
  subst e y
  exact hs i ys σ _ hlt p
 ·have e:i=n:=by omega
  subst e
  exact .inl ⟨Nat.le_refl _,by omega,hd ys σ H p⟩
theorem zix {a:Addr} {xs:List V} (Pv:Nat→List V→St→Hp→Prop) (hn:xs.length≤sizeLine) (h0:Pv 0 [] σ H) (hl:∀ i ys σ H,i≤xs.length→Pv i ys σ H→SqL K H a xs∧ys.length≤i)
  (hs:∀ i x ys σ H,xs[i]? = some x→Pv i ys σ H→g x σ H fun σ2 H2=>tf σ2 H2 fun b H3=>if b=true then te σ2 H3 fun y H4=>Pv (i+1) (ys ++ [y]) σ2 H4 else Pv (i+1) ys σ2 H3)
  (hd:∀ ys σ H,Pv xs.length ys σ H→Q ys H):zg9 (Itl K a) g tf te Q σ H:=by
 refine ⟨fun i m ys σ H=>m=xs.length - i∧i≤xs.length∧Pv i ys σ H,⟨xs.length,by simp,Nat.zero_le _,h0⟩,?_⟩
 rintro i m ys σ H ⟨rfl,hi,p⟩
 obtain ⟨q,hz⟩:=hl i ys σ H hi p
 by_cases hlt:i<xs.length
 ·refine .inr ⟨⟨xs,xs[i],q,by simp [hlt]⟩,by omega,Pv (i+1),fun ys' σ' H' p'=>⟨xs.length - (i+1),by omega,rfl,hlt,p'⟩,fun x H' y=>?_⟩
  obtain ⟨e,y⟩:=y
  subst e
  exact hs i x ys σ _ (y xs q) p
 ·have e:i=xs.length:=by omega
  subst e
  exact .inl ⟨⟨xs,q,Nat.le_refl _⟩,by omega,hd ys σ H p⟩
end
theorem zeV {K:PySem.W.Frag} {i j:Nat} {T:Addr} {x y:V} {σ:St} {H:Hp} {Q:St→Hp→Prop} (h:Q ((σ.set i (some x)).set j (some y)) (upd H T (.tup [x,y]))) :
  gTup K 2 (zdA (za1 i) (zdA (za1 j) gNil)) (.ref T) σ (upd H T (.tup [x,y])) Q:=
 ⟨T,[x,y],rfl,SqT.of zab,rfl,x,[y],rfl,y,[],rfl,rfl,h⟩
end L2
end
section
namespace Cb
open PySem
def ones:Nat→Nat
 | 0=>0
 | n+1=>(n+1) % 2+ones ((n+1) / 2)
decreasing_by omega
theorem zcv (n:Nat):ones n=n % 2+ones (n / 2):=by
 cases n with
 | zero=>simp [ones]
 | succ n=>rw [ones]
def sgl:Nat→List Nat
 | 0=>[]
 | n+1=>if (n+1) % 2=1 then 1 :: (sgl ((n+1) / 2)).map (2 * ·) else (sgl ((n+1) / 2)).map (2 * ·)
decreasing_by all_goals omega
theorem zi2:sgl 0=[]:=by simp [sgl]
theorem zhu (n:Nat):sgl (2 * n+1)=1 :: (sgl n).map (2 * ·):=by
 rw [sgl,if_pos (by omega),show (2 * n+1) / 2=n by omega]
theorem zcO (n:Nat):sgl (2 * n)=(sgl n).map (2 * ·):=by
 cases n with
 | zero=>simp [sgl]
 | succ n =>
  rw [show 2 * (n+1)=(2 * n+1)+1 by omega,sgl,if_neg (by omega),show (2 * n+1+1) / 2=n+1 by omega]
theorem zcm:∀ n,(sgl n).length=ones n:=by
 intro n
 induction n using Nat.strongRecOn with
 | _ n ih =>
  rcases Nat.mod_two_eq_zero_or_one n with h | h
  ·by_cases h0:n=0
   ·subst h0;simp [sgl,ones]
   ·have e:n=2 * (n / 2):=by omega
    rw [zcv,h]
    conv=>lhs;rw [e]
    rw [zcO,List.length_map,ih _ (by omega)];omega
  ·have e:n=2 * (n / 2)+1:=by omega
   rw [zcv,h]
   conv=>lhs;rw [e]
   rw [zhu,List.length_cons,List.length_map,ih _ (by omega)];omega
theorem zh4 (a b:Nat):(2 * a+1) &&& (2 * b)=2 * (a &&& b):=by
 apply Nat.eq_of_testBit_eq;intro i
 cases i with
 | zero=>simp [Nat.testBit_and]
 | succ i =>
  rw [Nat.testBit_and,Nat.testBit_succ,Nat.testBit_succ,Nat.testBit_succ,show (2 * a+1) / 2=a by omega,show (2 * b) / 2=b by omega,show (2 * (a &&& b)) / 2=(a &&& b) by omega,Nat.testBit_and]
theorem zli (a b:Nat):(2 * a) &&& (2 * b+1)=2 * (a &&& b):=by rw [Nat.and_comm,zh4,Nat.and_comm]
theorem zi3:∀ n,0<n→(n &&& (n - 1))<n∧sgl n=(n - (n &&& (n - 1))) :: sgl (n &&& (n - 1)):=by
 intro n
 induction n using Nat.strongRecOn with
 | _ n ih =>
  intro hn
  rcases Nat.mod_two_eq_zero_or_one n with h | h
  ·have e:n=2 * (n / 2):=by omega
   obtain ⟨h1,h2⟩:=ih (n / 2) (by omega) (by omega)
   generalize n / 2=m at *
   subst e
   have e2:2 * m - 1=2 * (m - 1)+1:=by omega
   rw [e2,zli]
   refine ⟨by omega,?_⟩
   rw [zcO,zcO,h2,List.map_cons]
   congr 1
   omega
  ·have e:n=2 * (n / 2)+1:=by omega
   generalize n / 2=m at *
   subst e
   have e2:2 * m+1 - 1=2 * m:=by omega
   rw [e2,zh4,Nat.and_self]
   exact ⟨by omega,by rw [zhu,zcO];congr 1;omega⟩
theorem zec:∀ m n,n<2 ^ m→ones n≤m
 | 0,n,h=>by simp at h;subst h;simp [ones]
 | m+1,n,h=>by
  have:=zec m (n / 2) (by rw [Nat.pow_succ] at h;omega)
  rw [zcv];omega
theorem band (a b:Nat):Builtin.bitAnd (a:Int) (b:Int)=((a &&& b:Nat):Int):=by
 unfold Builtin.bitAnd
 simp
end Cb
end
section
namespace L2
open PySem PySem.Spec PyProof.Rows
def zb1 (N:List Str) (names:List (Str×NameKind)):List (Option Nat)→List Str→Bool
 | [],[]=>true
 | none :: r,_ :: s=>zb1 N names r s
 | some i :: r,x :: s=>(N[i]? == some x) && (names.lookup x == some .free) && zb1 N names r s
 | _,_=>false
def ndOk:List (Str×NameKind)→Bool
 | []=>true
 | x :: r=>(r.all fun y=>x.1 != y.1) && ndOk r
def ze2 (N:List Str) (osc:Scope) (Nc:List Str) (src:List (Option Nat)) (scope:Scope):Bool:=
 scope.kind == .function && (scope.names.all fun x=>x.2 != .cell) && ndOk scope.names &&
 (scope.names.all fun x=>x.2 != .free || osc.names.lookup x.1 == some .cell || osc.names.lookup x.1 == some .free) && zb1 N scope.names src Nc
theorem zcZ {N:List Str} {names:List (Str×NameKind)}:∀ {src:List (Option Nat)} {Nc:List Str},zb1 N names src Nc=true→src.length=Nc.length
 | [],[],_=>rfl
 | none :: r,_ :: s,h=>by simp only [List.length_cons];rw [zcZ (src:=r) (Nc:=s) h]
 | some i :: r,x :: s,h=>by
  simp only [zb1,Bool.and_eq_true] at h
  simp only [List.length_cons];rw [zcZ h.2]
 | [],_ :: _,h=>by simp [zb1] at h
 | none :: _,[],h=>by simp [zb1] at h
 | some _ :: _,[],h=>by simp [zb1] at h
theorem zcY {N:List Str} {names:List (Str×NameKind)}:∀ {src:List (Option Nat)} {Nc:List Str},zb1 N names src Nc=true→∀ (j i:Nat),src[j]? = some (some i)→∃ x,Nc[j]? = some x∧N[i]? = some x∧names.lookup x=some .free
 | [],[],_,j,i,e=>by simp at e
 | none :: r,y :: s,h,0,i,e=>by simp at e
 | none :: r,y :: s,h,j+1,i,e=>by
  have:=zcY (src:=r) (Nc:=s) h j i (by simpa using e)
  simpa using this
 | some k :: r,x :: s,h,0,i,e=>by
  simp only [zb1,Bool.and_eq_true,beq_iff_eq] at h
  simp only [List.getElem?_cons_zero,Option.some.injEq] at e
  subst e
  exact ⟨x,rfl,h.1.1,h.1.2⟩
 | some k :: r,x :: s,h,j+1,i,e=>by
  simp only [zb1,Bool.and_eq_true] at h
  have:=zcY (src:=r) (Nc:=s) h.2 j i (by simpa using e)
  simpa using this
 | [],_ :: _,h,_,_,_=>by simp [zb1] at h
 | none :: _,[],h,_,_,_=>by simp [zb1] at h
 | some _ :: _,[],h,_,_,_=>by simp [zb1] at h
theorem zh1:∀ {l:List (Str×NameKind)},ndOk l=true→l.Pairwise fun x y=>x.1≠y.1
 | [],_=>.nil
 | x :: r,h=>by
  simp only [ndOk,Bool.and_eq_true,List.all_eq_true,bne_iff_ne] at h
  exact .cons h.1 (zh1 h.2)
theorem za3 {N:List Str} {osc:Scope} {Nc:List Str} {src:List (Option Nat)} {scope:Scope} (h:ze2 N osc Nc src scope=true):CompOk N osc Nc src scope:=by
 simp only [ze2,Bool.and_eq_true,beq_iff_eq,List.all_eq_true,bne_iff_ne] at h
 obtain ⟨⟨⟨⟨h1,h2⟩,h3⟩,h4⟩,h5⟩:=h
 refine ⟨h1,h2,zh1 h3,fun x hx hf=>?_,zcZ h5,zcY h5⟩
 have:=h4 x hx
 simp only [Bool.or_eq_true,bne_iff_ne,beq_iff_eq] at this
 rcases this with (z | z) | z
 ·exact absurd hf z
 ·exact .inl z
 ·exact .inr z
structure Cal (P:Program) (w:World) (K:PySem.W.Frag) (mg:Str→Option Value) (base:Heap) (k:Nat) (x:Str) (ps:List Str) (sp:Sp):Prop where
 ex:∃ f fd,FnOk P w K mg base CX0 k f fd ps sp∧mg x=some (.ref f)∧PySem.W.keepIn K (.ref f)=true∧Binds K fd ps []
section
variable {X:Cx} {k:Nat} {ps ks:List Str} {sp:Sp} {x:Str} {p pos:Pos} {e:Expr} {es:List Expr} {t tk:TA} {kws:List Keyword} {gV:List V→List V→List V}
theorem zal (C:Cal X.prog X.w X.K X.mg X.base k x ps sp) (hr:Room k X.A) (hg:Gl X x) (ha:PA X (e :: es) t) (hdb:(x == ("__debug__" : Str))=false:=by decide)
  (he:starEach (e :: es) X.env=(false,eval e X.env) :: starEach es X.env:=by rfl) (hpl:(backTo pos (starEach es X.env)).any (·.1)=false:=by rfl):PE X (.Call (.Name x p) (e :: es) [] pos) (zkC sp [] E0 t):=by
 obtain ⟨f,fd,F,hm,hk,hb⟩:=C.ex
 exact zkZ F hr hg hm hk hb .nil zjj ha hdb he hpl
end
end L2
namespace Cb
open PySem L2
def KeepP (p:Addr) (H H':Hp):Prop:=∀ b o,b≠p→H b=some o→H' b=some o
theorem KeepP.refl (p:Addr) (H:Hp):KeepP p H H:=fun _ _ _ h=>h
theorem KeepP.trans {p:Addr} {H H1 H2:Hp} (a:KeepP p H H1) (b:KeepP p H1 H2):KeepP p H H2:=fun c o n h=>b c o n (a c o n h)
theorem KeepP.of {p:Addr} {H H':Hp} (h:Same H H'):KeepP p H H':=fun b o _ e=>h b o e
theorem zad {H:Hp} {p:Addr} {o:HO} (h:H p=none):Same H (upd H p o):=fun b u e=>by rw [zah (zaj e h)];exact e
def vN (l:List Nat):List V:=l.map fun (b:Nat)=>V.int (b:Int)
theorem zaG (l:List Nat):(vN l).length=l.length:=List.length_map ..
theorem zfi (l:List Nat) (b:Nat):vN (l ++ [b])=vN l ++ [V.int (b:Int)]:=by simp [vN]
def ziY (K:PySem.W.Frag):Sp:=fun vs H Q _=>∃ (a:Addr) (ns:List Int),vs=[.ref a]∧SqL K H a (ns.map V.int)∧ns.length≤63∧(∀ m∈ns,Builtin.Int.intBits m≤2 ^ 20)∧∀ H',Q (.bl true) H'
def zc0:Sp:=fun vs H Q _=>∃ n:Nat,vs=[.int (n:Int)]∧n<2 ^ 64∧∀ (p:Addr) (H':Hp),H p=none→H' p=some (.lst (vN (sgl n)))→Same H H'→Q (.ref p) H'
def zfY:Sp:=fun vs H Q _=>∃ n:Nat,vs=[.int (n:Int)]∧n<2 ^ 64∧∀ H',Same H H'→Q (.int (ones n:Int)) H'
end Cb
end
section
namespace L2
open PySem PySem.Spec PyProof.Rows
section
variable {X:Cx} {K:PySem.W.Frag}
theorem zkS (n:Nat) (hK:X.K=K) {es:List Expr} {k:Nat} {t:TGs} {pos:Pos} (hc:X.calm=true) (h:PGs X es t)
  (hn:(assignEach es X.env).length=n:=by rfl) (hst:(assignEach es X.env).findIdx? (·.1)=none:=by rfl):PG X (.Tuple es k pos) (gTup K n t):=by
 subst hK;exact zbi hc h hn hst
theorem zbW (hK:X.K=K):IxR X (rIxT K):=by subst hK;exact zap
end
end L2
end
section
namespace L2
open PySem PySem.Spec PyProof.Rows
section
variable {prog:Program} {w:World} {A:Around} {E:Value→Shared→Prop} {s:Shared}
end
end L2
end
section
namespace L2
open PySem PySem.Spec PyProof.Rows
end L2
end
section
namespace L2
open PySem PySem.Spec PyProof.Rows Builtin
structure FunD (K:PySem.W.Frag) (x qual:Str) (st:Stmt) (dV:Value) (f:Addr) (fd:FuncData):Prop where
 ex:∃ (oc:Value) (od:Option Addr) (kV doc pm:Value) (an:Option Addr) (cdv ct:Value) (osl:Array (Option Value)),
  fd=PySem.W.fnOf x qual (zbg st) (zaK st) (zai st) dV kV doc pm an cdv ct∧K.lookup f=some ⟨oc,od,.func fd,osl⟩∧PySem.W.codeIn K cdv qual=true
 kp:PySem.W.keepIn K (.ref f)=true
section
variable {P:Program} {w:World} {K:PySem.W.Frag} {mg:Str→Option Value} {base:Heap}
theorem FunD.ok {x qual:Str} {st:Stmt} {dV:Value} {f:Addr} {fd:FuncData} {N ps:List Str} {k:Nat} {sp:Sp} (F:FunD K x qual st dV f fd) (S:FnScope N ps (zai st)) (len:∀ vs H Q E,sp vs H Q E→vs.length=ps.length)
  (hbody:∀ (cdv:Value) (A:Around) (outer:List Env) (s:Shared) (H:Hp) (vs:List V) (Q:VK) (E:XK),Room k (A.deeper (envOfC qual (zai st) s.heap.objs.size f cdv))→sp vs H Q E →
   ∃ t,PSs (cxOf CX0 P w K mg base N qual (zai st) f cdv A outer s H E).nox (zaK st) t∧t { nx:=fun _ H'=>Q .non H',rt:=Q } (start N vs) H):FnOk P w K mg base CX0 (k+1) f fd ps sp:=by
 obtain ⟨oc,od,kV,doc,pm,an,cdv,ct,osl,rfl,lk,hcd⟩:=F.ex
 refine zjI lk hcd S len fun A outer s H vs Q E hr hsp=>?_
 obtain ⟨t,h,q⟩:=hbody cdv A outer s H vs Q E hr hsp
 exact ⟨t,h.nox,q⟩
theorem zlq {x qual:Str} {st:Stmt} {dV:Value} {f:Addr} {oc:Value} {od an:Option Addr} {osl:Array (Option Value)} {kV doc pm cdv ct:Value} (l:K.lookup f=some ⟨oc,od,.func (PySem.W.fnOf x qual (zbg st) (zaK st) (zai st) dV kV doc pm an cdv ct),osl⟩)
  (c:PySem.W.codeIn K cdv qual=true) (k:PySem.W.keepIn K (.ref f)=true):FunD K x qual st dV f (PySem.W.fnOf x qual (zbg st) (zaK st) (zai st) dV kV doc pm an cdv ct):=⟨⟨oc,od,kV,doc,pm,an,cdv,ct,osl,rfl,l,c⟩,k⟩
theorem FunD.kbinds {x qual:Str} {st:Stmt} {T:Addr} {o:Obj} {items:Array Value} {n:Nat} {f:Addr} {fd:FuncData} {ps ks:List Str} {g:List Value→List Value→List Value} {gV:List V→List V→List V} (F:FunD K x qual st (.ref T) f fd)
  (ho:K.lookup T=some o) (hs:o.data = .seq items n)
  (h:∀ (kV doc pm:Value) (an:Option Addr) (cdv ct:Value) (us ws:List Value),(g us ws).length=ps.length→∃ q,bindArgs (PySem.W.fnOf x qual (zbg st) (zaK st) (zai st) (.ref T) kV doc pm an cdv ct) ⟨us,ks.zip ws⟩=seqItems? (.ref T) >>= q∧q (some items)=pure (ps.zip (g us ws)))
  (rel:∀ {vs:List V} {us:List Value} {zs:List V} {ws:List Value},Vals vs us→Vals zs ws→Vals (gV vs zs) (g us ws)):KBinds K fd ps ks g gV:=by
 obtain ⟨oc,od,kV,doc,pm,an,cdv,ct,osl,rfl,lk,hcd⟩:=F.ex
 refine ⟨fun s us ws X hl=>?_,rel⟩
 obtain ⟨q,h1,h2⟩:=h kV doc pm an cdv ct us ws hl
 exact PySem.W.binds_K X rfl ho hs h1 h2
theorem KBinds.pos {fd:FuncData} {ps:List Str} (b:Binds K fd ps []):KBinds K fd ps [] (fun us _=>us) (fun vs _=>vs):=
 ⟨fun s us ws X hl=>by have:=b s us X (by rw [List.append_nil];exact hl);rw [List.append_nil] at this;exact this,fun r _=>r⟩
end
def swS {α:Type} (us zs:List α):List α:=match zs with
 | [a,b]=>us ++ [b,a]
 | _=>[]
structure Mth (P:Program) (w:World) (K:PySem.W.Frag) (mg:Str→Option Value) (base:Heap) (k:Nat) (C:Addr) (m:Str) (ks:List Str) (gV:List V→List V→List V) (sp:Sp):Prop where
 cls:Cls K C
 ex:∃ f fd ps g,Meth K C m f∧FnOk P w K mg base CX0 k f fd ps sp∧KBinds K fd ps ks g gV
section
variable {X:Cx} {k:Nat} {C:Addr} {ks:List Str} {x m:Str} {p pos apos:Pos} {e o:Expr} {es:List Expr} {kws:List Keyword} {ta:TE} {t tk:TA}
end
def tLenO (P:Program) (w:World) (K:PySem.W.Frag) (mg:Str→Option Value) (base:Heap) (k:Nat) (ta:TE):TE:=fun σ H Q=>ta σ H fun x H1=>∃ a C dx fs gV sp,x = .ref a∧H1 a=some (.ins C dx fs)∧Mth P w K mg base k C "__len__" [] gV sp ∧
 sp (gV [x] []) H1 (fun v H2=>∃ n:Int,v = .int n∧0≤n∧n<2 ^ 63∧Q (.int n) H2) E0
section
variable {X:Cx} {e:Expr} {p pos:Pos} {ta:TE}
def lenQ (X:Cx) (k:Nat) (Q:VK) (vs:List V) (H1:Hp):Prop:=match vs with
 | [x]=>∃ a C dx fs gV sp,x = .ref a∧H1 a=some (.ins C dx fs)∧Mth X.prog X.w X.K X.mg X.base k C "__len__" [] gV sp∧sp (gV [x] []) H1 (fun v H2=>∃ n:Int,v = .int n∧0≤n∧n<2 ^ 63∧Q (.int n) H2) E0
 | _=>False
def LenIs (Q:Value→Shared→Prop):Value→Shared→Prop
 | .int n _,s'=>0≤n∧n<2 ^ 63∧Q (.int n s'.toks) { s' with toks:=s'.toks+1 }
 | _,_=>False
theorem lenOwn {prog:Program} {w:World} {A:Around} {E:Value→Shared→Prop} {s:Shared} {K:PySem.W.Frag} {a C f:Addr} {ob:Obj} {od:Option Obj} {Q:Value→Shared→Prop} (X:K.In s.heap) (I:PySem.W.InstAt s.heap a ob C od)
  (hs:PySem.W.findIn K (.ref C) "__len__" = some (some (.ref f))) (ht:PySem.W.typeIn K (.ref f)=some (.type "function"))
  (h:wpAny (model prog w) A.in1 (call (.ref f) [.ref a]) (LenIs Q) E s):wpAny (model prog w) A (call (.builtin "len") [.ref a]) Q E s:=by
 refine Calls.call_function_entry kind_len plain_len entry_len (args_len1 _) ?_
 delta Builtin.«len»
 refine wpAny_bind (m:=oneArg "len" _) (wpAny_pure (wpAny_bind (m:=callSpecial? (.ref a) (Str.ofString "__len__")) (PySem.W.special_fn X I hs ht (wpAny_mono h (fun r s' hr=>?_) (fun _ _ z=>z)))))
 cases r with
 | int n t =>
  obtain ⟨h0,h1,hq⟩:=hr
  refine wpAny_bind (wpAny_holding (wpAny_pure (wpAny_bind (wpAny_letGo ?_))))
  have e1:¬ n<0:=by omega
  have e2:¬ n ≥ 2 ^ 63:=by omega
  dsimp only
  rw [if_neg e1,if_neg e2]
  exact wpAny_bind (wpAny_mkInt (wpAny_pure ⟨_,rfl,hq⟩))
 | _=>exact hr.elim
theorem mtyp {K:PySem.W.Frag} {C f:Addr} {m:Str} (h:Meth K C m f):PySem.W.typeIn K (.ref f)=some (.type "function"):=beq_iff_eq.mp h.fn
theorem zkY {P:Program} {w:World} {K:PySem.W.Frag} {mg:Str→Option Value} {base:Heap} (k:Nat) (hX:X.prog=P∧X.w=w∧X.K=K∧X.mg=mg∧X.base=base) (hr:Room (k+1) X.A) (hg:Gl X "len") (hm:X.mg "len" = none) (he:PE X e ta)
  (hst:starEach [e] X.env=(false,eval e X.env) :: starEach [] X.env:=by rfl):PE X (.Call (.Name "len" p) [e] [] pos) (tLenO P w K mg base k ta):=by
 obtain ⟨rfl,rfl,rfl,rfl,rfl⟩:=hX
 intro pins s σ H Q I h
 refine wpAny_Call_Name_kw (zdn I hg hm PySem.boot_len ?_ (by decide) (by decide))
 refine PyProof.Rows.callWith_builtin1 (thn (zaa (t:=tNil) he zae hst pos pins s σ H (lenQ X k Q) I h) fun us s1 ⟨vs,H1,I1,r1,q1⟩=>?_) hst rfl
 cases r1 with
 | nil=>exact q1.elim
 | cons ra rr=>cases rr with
  | cons _ _=>exact q1.elim
  | nil =>
   obtain ⟨a,C,dx,fs,gV,sp,ex,ea,M,q⟩:=q1
   obtain ⟨c,f,fd,ps,g,hm,F,hb⟩:=M
   subst ex
   cases ra
   obtain ⟨mA,O,_⟩:=zej I1.hok ea
   obtain ⟨od,J,_⟩:=O.look
   refine lenOwn I1.kIn J hm.at_ (mtyp hm) ?_
   have rv:Vals (gV [V.ref a] []) (g [Value.ref a] []):=hb.rel (vs:=[V.ref a]) (us:=[Value.ref a]) (zs:=[]) (ws:=[]) (.cons rfl .nil) .nil
   have hl:(g [Value.ref a] []).length=ps.length:=by rw [← rv.length];exact F.len _ _ _ _ q
   have W:wpAny (model X.prog X.w) X.A.in1 (call (.ref f) [.ref a]) (EP X pins σ (fun v H2=>∃ n:Int,v = .int n∧0≤n∧n<2 ^ 63∧Q (.int n) H2)) X.xe s1:=by
    refine wpAny_call (codeAny_mono (F.run X.A.in1 X.stack s1 H1 ⟨[.ref a],[]⟩ (g [.ref a] []) (gV [.ref a] []) _ E0 hr.in1 I1.env0.in1 (hb.to s1 [.ref a] [] I1.kIn hl) rv q) fun r s' hq=>?_)
    cases r with
    | error e=>exact zjj pins σ H1 s1 e s' I1 hq
    | ok fl =>
     cases fl with
     | ret u=>exact I1.after hq
     | next=>exact False.elim hq
     | brk=>exact False.elim hq
     | cont=>exact False.elim hq
   refine wpAny_mono W (fun u s' hu=>?_) fun _ _ z=>z
   ·obtain ⟨v,H2,I2,rv,n,rfl,h0,h1,qn⟩:=hu
    obtain ⟨t,rfl⟩:=(show ∃ t,u=Value.int n t from rv)
    exact ⟨h0,h1,⟨.int n,H2,I2.tok _,⟨_,rfl⟩,qn⟩⟩
end
structure Mak (P:Program) (w:World) (K:PySem.W.Frag) (mg:Str→Option Value) (base:Heap) (k:Nat) (x:Str) (C:Addr) (ks:List Str) (gV:List V→List V→List V) (sp:Sp):Prop where
 at_:mg x=some (.ref C)
 ex:∃ f fd ps g,Mk K C f∧FnOk P w K mg base CX0 k f fd ps sp∧KBinds K fd ps ks g gV
def tMak (C:Addr) (gV:List V→List V→List V) (sp:Sp) (t tk:TA):TE:=fun σ H Q=>t σ H fun vs H1=>tk σ H1 fun zs H2=>∀ x dx,H2 x=none→H2 dx=none→dx≠x →
 sp (gV (.ref x :: vs) zs) (upd (upd H2 dx (.own x)) x (.ins C dx [])) (fun v H3=>v = .non∧Q (.ref x) H3) E0
section
variable {X:Cx} {k:Nat} {C:Addr} {ks:List Str} {gV:List V→List V→List V} {sp:Sp} {x:Str} {p pos:Pos} {e:Expr} {es:List Expr} {kws:List Keyword} {t tk:TA}
theorem zf5 {pins:List (Addr×Obj)} {σ:St} {H:Hp} {s:Shared} {Q:VK} {us ws:List Value} {vs zs:List V} (M:Mak X.prog X.w X.K X.mg X.base k x C ks gV sp) (hr:Room (k+1) X.A) (I:Inv X pins σ H s) (r:Vals vs us) (rz:Vals zs ws)
  (h:∀ y dy,H y=none→H dy=none→dy≠y→sp (gV (.ref y :: vs) zs) (upd (upd H dy (.own y)) y (.ins C dy [])) (fun v H2=>v = .non∧Q (.ref y) H2) E0) :
  wpAny (model X.prog X.w) X.A (call (.ref C) us (ks.zip ws)) (EP X pins σ Q) X.xe s:=by
 obtain ⟨hm,f,fd,ps,g,M,F,hb⟩:=M
 have hq:=h (s.heap.objs.size+1) s.heap.objs.size (I.hok.fresh (Nat.le_succ _)) (I.hok.fresh (Nat.le_refl _)) (Nat.ne_of_lt (Nat.lt_succ_self _))
 have I2:=Inv.made (C:=C) I
 have r2:Vals (gV (V.ref (s.heap.objs.size+1) :: vs) zs) (g (Value.ref (s.heap.objs.size+1) :: us) ws):=hb.rel (.cons rfl r) rz
 have hl:(g (Value.ref (s.heap.objs.size+1) :: us) ws).length=ps.length:=by rw [← r2.length];exact F.len _ _ _ _ hq
 refine wpAny_call (zgd (f:=f) I.kIn M.makes M.init (beq_iff_eq.mp M.fn) (codeAny_mono (F.run _ X.stack _ _ ⟨Value.ref (s.heap.objs.size+1) :: us,ks.zip ws⟩ _ _ _ E0 (hr.make C us (ks.zip ws))
  (I2.env0.make C us (ks.zip ws)) (hb.to _ (Value.ref (s.heap.objs.size+1) :: us) ws I2.kIn hl) r2 hq) fun r s' hq'=>?_))
 cases r with
 | error e=>exact zjj pins σ _ _ e s' I2 hq'
 | ok fl =>
  cases fl with
  | ret u =>
   obtain ⟨v,H',I3,rv,ev,q3⟩:=I2.after hq'
   subst ev
   exact ⟨rv,⟨V.ref (s.heap.objs.size+1),H',I3,rfl,q3⟩⟩
  | next=>exact False.elim hq'
  | brk=>exact False.elim hq'
  | cont=>exact False.elim hq'
theorem Mak.kp {P:Program} {w:World} {K:PySem.W.Frag} {mg:Str→Option Value} {base:Heap} (M:Mak P w K mg base k x C ks gV sp):PySem.W.keepIn K (.ref C)=true:=by
 obtain ⟨_,_,_,_,_,M,_⟩:=M
 exact M.kp
theorem zj4 (M:Mak X.prog X.w X.K X.mg X.base k x C [] gV sp) (hr:Room (k+1) X.A) (hg:Gl X x) (ha:PA X (e :: es) t) (hdb:(x == ("__debug__" : Str))=false:=by decide)
  (he:starEach (e :: es) X.env=(false,eval e X.env) :: starEach es X.env:=by rfl) (hpl:(backTo pos (starEach es X.env)).any (·.1)=false:=by rfl):PE X (.Call (.Name x p) (e :: es) [] pos) (tMak C gV sp t tNil):=by
 intro pins s σ H Q I h
 refine wpAny_Call_Name_kw (zbe I hg M.at_ ?_ hdb)
 refine PySem.W.callWith_K (h₀:=X.base) I.ok.mod.kin M.kp (thn (ha pos pins s σ H _ I h) fun us s1 ⟨vs,H1,I1,r,q⟩=>⟨I1.kIn,?_⟩) he hpl
 exact zf5 (ws:=[]) (zs:=[]) M hr I1 r .nil q
theorem zkX (M:Mak X.prog X.w X.K X.mg X.base k x C [] gV sp) (hr:Room (k+1) X.A) (hg:Gl X x) (hdb:(x == ("__debug__" : Str))=false:=by decide):PE X (.Call (.Name x p) [] [] pos) (tMak C gV sp tNil tNil):=by
 intro pins s σ H Q I h
 refine wpAny_Call_Name_kw (zbe I hg M.at_ ?_ hdb)
 exact PySem.W.callWith_K0 I.kIn M.kp (zf5 (us:=[]) (vs:=[]) (ws:=[]) (zs:=[]) M hr I .nil .nil h)
end
structure Clm (P:Program) (w:World) (K:PySem.W.Frag) (mg:Str→Option Value) (base:Heap) (k:Nat) (x m:Str) (sp:Sp):Prop where
 ex:∃ C f fd ps mc,mg x=some (.ref C)∧PySem.W.specialIn K (.ref C) "__getattribute__" = some (some (.builtin "type.__getattribute__"))∧PySem.W.readsIn K C mc=true∧PySem.W.findCls K (.ref C) mc m=some (.val (.ref f)) ∧
  PySem.W.keepIn K (.ref f)=true∧FnOk P w K mg base CX0 k f fd ps sp∧Binds K fd ps []
section
variable {X:Cx} {k:Nat} {sp:Sp} {x m:Str} {p pos apos:Pos} {e:Expr} {es:List Expr} {t:TA}
theorem zj5 (M:Clm X.prog X.w X.K X.mg X.base k x m sp) (hr:Room k X.A) (hg:Gl X x) {pl:Sem Bool} (ha:PA X (e :: es) t) (hdb:(x == ("__debug__" : Str))=false:=by decide)
  (hst:starEach (e :: es) X.env=(false,eval e X.env) :: starEach es X.env:=by rfl) (hpl:(backTo pos (starEach es X.env)).any (·.1)=false:=by rfl)
  (ht:eval (.Call (.Attribute (.Name x p) m apos) (e :: es) [] pos) X.env=(do
   let ov ← eval (.Name x p) X.env
   standAt apos.atName
   let (f,first) ← holding [ov] (getMethod ov m pl)
   callWith pos f first (backTo pos (starEach (e :: es) X.env)) (backToKw pos (keywordEach [] X.env))):=by rfl) :
  PE X (.Call (.Attribute (.Name x p) m apos) (e :: es) [] pos) (zkC sp [] E0 t):=by
 obtain ⟨C,f,fd,ps,mc,hm,hs,hrd,hf,hk,F,hb⟩:=M
 intro pins s σ H Q I h
 refine PySem.W.methodCall_KW (pl:=pl) ?_ ht
 refine zbe I hg hm ?_ hdb
 refine PySem.W.method_cls I.kIn hs (PySem.W.cls_value I.kIn hrd hf rfl ?_)
 have I0:=I.tok (s.toks+1)
 refine PySem.W.callWith_K (first:=[]) (h₀:=X.base) I.ok.mod.kin hk (thn (ha pos pins _ σ H _ I0 h) fun us s2 ⟨vs,H2,I2,r,q2⟩=>⟨I2.kIn,?_⟩) hst hpl
 exact zjY F hr hb .nil zjj I2 r q2
end
end L2
end
section
namespace L2
open PySem PySem.Spec PyProof.Rows
def itC (t:Bool):String:=if t then "tuple_iterator" else "list_iterator"
def sqC (t:Bool):String:=if t then "tuple" else "list"
def IsIt (t:Bool) (h:Heap) (a l:Addr) (i:Nat):Prop:=∃ o,h.get? a=some o∧o.cls = .type (itC t)∧o.data = .fields #[.ref l,.int i 0]
def IsSq (t:Bool) (h:Heap) (a:Addr) (xs:Array Value):Prop:=∃ o,h.get? a=some o∧o.cls = .type (sqC t)∧∃ n,o.data = .seq xs n
theorem IsIt.at {t:Bool} {h h':Heap} {a l:Addr} {i:Nat} (x:IsIt t h a l i) (e:∀ o,h.get? a=some o→h'.get? a=some o):IsIt t h' a l i:=let ⟨o,ho,r⟩:=x;⟨o,e _ ho,r⟩
theorem IsSq.at {t:Bool} {h h':Heap} {a:Addr} {xs:Array Value} (x:IsSq t h a xs) (e:∀ o,h.get? a=some o→h'.get? a=some o):IsSq t h' a xs:=let ⟨o,ho,r⟩:=x;⟨o,e _ ho,r⟩
section
variable {prog:Program} {w:World} {A:Around} {E:Value→Shared→Prop} {s:Shared}
theorem zfE {t:Bool} {it l:Addr} {i:Nat} {xs:Array Value} {x:Value} {Q:Value→Shared→Prop} (hi:IsIt t s.heap it l i) (hl:IsSq t s.heap l xs) (hx:xs[i]? = some x)
  (q:∀ h',IsIt t h' it l (i+1)→Heap.SameBut it s.heap h'→Q x { s with heap:=h' }):wpAny (model prog w) A (Builtin.SmallTypes.nextOf (.ref it)) Q E s:=by
 cases t with
 | false=>exact wpAny_nextOf_list_item hi hl hx q
 | true =>
  have ht:s.TypeIs (.ref it) "tuple_iterator" := let ⟨o,ho,hc,_⟩:=hi;⟨o,ho,hc⟩
  obtain ⟨o,ho,hc,hd⟩:=id hi;obtain ⟨ol,hol,_,nl,hdl⟩:=hl
  delta Builtin.SmallTypes.nextOf
  refine wpAny_bind (wpAny_callSpecial?_slot (name:=Str.ofString "__next__") ht F.slot_tuple_iterator_next (wpAny_call_entry F.slot_tuple_iterator_next ht F.entry_tuple_iterator_next ?_ (F.args_tuple_iterator_next_1 _)))
  show wpAny _ _ (field (.ref it) 0 >>= _) _ _ s;refine wpAny_bind (wpAny_field ho hd (x:=.ref l) rfl ?_)
  show wpAny _ _ (if (Value.ref l == Value.none)=true then _ else _) _ _ s;rw [if_neg (show ¬ ((Value.ref l == Value.none)=true) from Bool.false_ne_true)]
  show wpAny _ _ (field (.ref it) 1 >>= _) _ _ s;refine wpAny_bind (wpAny_field ho hd (x:=.int i 0) rfl ?_)
  show wpAny _ _ (seqItems? (.ref l) >>= _) _ _ s;refine wpAny_bind (wpAny_seqItems hol hdl ?_);simp only [Int.toNat_natCast,hx]
  refine wpAny_bind (wpAny_setField ho hd (by simp) (wpAny_pure ⟨x,rfl,wpAny_pure (q _ ⟨_,Heap.get?_update_self _ ho (Obj.isFreed_of_fields (Obj.data_mapFields hd _)),(Obj.cls_mapFields ..).trans hc,by rw [Obj.data_mapFields hd];simp [rawInt]⟩ (Heap.SameBut.update ..))⟩))
theorem zj7 {t:Bool} {it l:Addr} {i:Nat} {xs:Array Value} {Q:Value→Shared→Prop} (hh:A.handled=none) (hi:IsIt t s.heap it l i) (hl:IsSq t s.heap l xs) (hx:xs[i]? = none)
  (q:∀ h' e,Heap.ExtBut it s.heap h'→(∃ o,h'.get? e=some o∧o.cls = .type "StopIteration")→E (.ref e) { s with heap:=h' }):wpAny (model prog w) A (Builtin.SmallTypes.nextOf (.ref it)) Q E s:=by
 cases t with
 | false=>exact wpAny_nextOf_list_end hh hi hl hx q
 | true =>
  have ht:s.TypeIs (.ref it) "tuple_iterator" := let ⟨o,ho,hc,_⟩:=hi;⟨o,ho,hc⟩
  obtain ⟨o,ho,hc,hd⟩:=id hi;obtain ⟨ol,hol,_,nl,hdl⟩:=hl
  delta Builtin.SmallTypes.nextOf
  refine wpAny_bind (wpAny_callSpecial?_slot (name:=Str.ofString "__next__") ht F.slot_tuple_iterator_next (wpAny_call_entry F.slot_tuple_iterator_next ht F.entry_tuple_iterator_next ?_ (F.args_tuple_iterator_next_1 _)))
  show wpAny _ _ (field (.ref it) 0 >>= _) _ _ s;refine wpAny_bind (wpAny_field ho hd (x:=.ref l) rfl ?_)
  show wpAny _ _ (if (Value.ref l == Value.none)=true then _ else _) _ _ s;rw [if_neg (show ¬ ((Value.ref l == Value.none)=true) from Bool.false_ne_true)]
  show wpAny _ _ (field (.ref it) 1 >>= _) _ _ s;refine wpAny_bind (wpAny_field ho hd (x:=.int i 0) rfl ?_)
  show wpAny _ _ (seqItems? (.ref l) >>= _) _ _ s;refine wpAny_bind (wpAny_seqItems hol hdl ?_);simp only [Int.toNat_natCast,hx]
  refine wpAny_bind (wpAny_rule (wpAny_bind (wpAny_setField ho hd (by simp) ?_)));show wpAny _ _ (newExc (.type "StopIteration") [] >>= _) _ _ _
  refine wpAny_bind ?_;simp only [newExc,newTuple];refine wpAny_bind (wpAny_newObj_type ?_ (by size_fits))
  refine wpAny_bind (m:=firstArgMember _ _) (wpAny_of_eq (a:=Value.none) (by first | rfl | (simp only [firstArgMember];rfl)) ?_);refine wpAny_newObj_type ?_ (by size_fits)
  simp only [raiseNew];refine wpAny_bind (wpAny_handled ?_);rw [show A.in1.handled=none from hh];refine wpAny_bind (wpAny_pure (wpAny_throw ?_))
  exact q _ _ (((Heap.SameBut.update ..).extBut.push _).push _) ⟨_,Heap.get?_push_size _ rfl,rfl⟩
theorem zkb {t:Bool} {l:Addr} {xs:Array Value} {Q:Value→Shared→Prop} (hl:IsSq t s.heap l xs) (q:Q (.ref s.heap.objs.size) { s with heap:=s.heap.push { cls:=.type (itC t),data:=.fields #[.ref l,.int 0 0] } }):wpAny (model prog w) A (pyIter (.ref l)) Q E s:=by
 cases t with
 | false=>exact wpAny_pyIter_list hl q
 | true=>exact wpAny_pyIter_tuple hl q
structure Far2 (z TO i1 i2:Addr):Prop where
 oz:TO≠z
 az:i1≠z
 bz:i2≠z
 oa:TO≠i1
 ob:TO≠i2
 ab:i1≠i2
structure FarM (z TO i1 i2 l:Addr):Prop where
 z:l≠z
 o:l≠TO
 a:l≠i1
 b:l≠i2
theorem zfS {T:Addr} {a b x:Value} {k:Nat} {Q:Unit→Shared→Prop} (hT:IsPair s.heap T a b)
  (q:∀ h',h'.get? T=some { cls:=.type "tuple",data:=.seq ((#[a,b]:Array Value).setIfInBounds k x) }→Heap.SameBut T s.heap h'→Q () { s with heap:=h' }):wpAny (model prog w) A (updateSeq T (·.setIfInBounds k x)) Q E s:=
 wpAny_updateSeq hT rfl (q _ ((Heap.get?_update_self _ hT rfl).trans (by simp [Obj.mapSeq])) (Heap.SameBut.update ..))
theorem zha {t:Bool} {z TI TO i1 i2 l1 l2:Addr} {k:Nat} {xs ys:Array Value} {x y a b:Value} {Q:Value→Shared→Prop} (D:Far2 z TO i1 i2) (L1:FarM z TO i1 i2 l1) (L2':FarM z TO i1 i2 l2)
  (hz:IsZip s.heap z TI TO .none) (hI:IsPair s.heap TI (.ref i1) (.ref i2)) (hO:IsPair s.heap TO a b)
  (h1:IsIt t s.heap i1 l1 k) (h2:IsIt t s.heap i2 l2 k) (g1:IsSq t s.heap l1 xs) (g2:IsSq t s.heap l2 ys) (ex:xs[k]? = some x) (ey:ys[k]? = some y)
  (q:∀ h',IsZip h' z TI TO (rawInt s.heap.objs.size)→IsPair h' TO x y→IsIt t h' i1 l1 (k+1)→IsIt t h' i2 l2 (k+1)→IsPair h' s.heap.objs.size x y→h'.objs.size=s.heap.objs.size+1 →
   (∀ d o,d≠z→d≠TO→d≠i1→d≠i2→s.heap.get? d=some o→h'.get? d=some o)→Q (.ref s.heap.objs.size) { s with heap:=h' }) :
  wpAny (model prog w) A (Builtin.«zip.__next__» ⟨[.ref z],[]⟩) (fun fin s'=>∃ v,fin = .done (.ret v)∧Q v s') E s:=by
 show wpAny _ _ (field (.ref z) 2 >>= _) _ _ _
 refine wpAny_bind (wpAny_field hz rfl (x:=.bool false) rfl ?_);show wpAny _ _ (field (.ref z) 3 >>= _) _ _ _
 refine wpAny_bind (wpAny_field hz rfl (x:=.ref TI) rfl (wpAny_bind (wpAny_seqItems hI rfl ?_)));show wpAny _ _ (Builtin.SmallTypes.ownedTupleIsFree (.ref z) >>= _) _ _ _
 refine wpAny_bind ?_;unfold Builtin.SmallTypes.ownedTupleIsFree
 refine wpAny_bind (wpAny_field hz rfl (x:=.none) rfl (wpAny_pure ?_));simp only [if_true]
 refine wpAny_bind (wpAny_rule (wpAny_bind (wpAny_field hz rfl (x:=.ref TO) rfl ?_)))
 refine wpAny_bind (wpAny_setField_rec hz (by simp) fun e1 z1 b1=>?_)
 replace z1:IsZip e1 z TI TO .ellipsis:=z1
 refine wpAny_bind ?_;simp only [List.zipIdx_cons,List.zipIdx_nil,List.forIn_cons,List.forIn_nil]
 refine wpAny_bind (wpAny_bind (wpAny_onRaise ?_));show wpAny _ _ (Builtin.SmallTypes.nextOf (.ref i1) >>= _) _ _ _
 refine wpAny_bind (zfE (h1.at fun o e=>b1.extBut _ _ D.az e) (g1.at fun o e=>b1.extBut _ _ L1.z e) ex fun e2 n1 b2=>wpAny_pure ?_)
 have O2:IsPair e2 TO a b:=b2.extBut _ _ D.oa (b1.extBut _ _ D.oz hO)
 refine wpAny_bind (wpAny_seqItems O2 rfl (wpAny_bind (zfS O2 fun e3 O3 b3=>wpAny_bind (wpAny_letGo (wpAny_pure ?_)))))
 replace O3:IsPair e3 TO x b:=O3
 have up3:∀ d o,d≠z→d≠TO→d≠i1→s.heap.get? d=some o→e3.get? d=some o:=fun d o q1 q2 q3 e=>b3.extBut _ _ q2 (b2.extBut _ _ q3 (b1.extBut _ _ q1 e))
 refine wpAny_bind (wpAny_bind (wpAny_onRaise ?_));show wpAny _ _ (Builtin.SmallTypes.nextOf (.ref i2) >>= _) _ _ _
 refine wpAny_bind (zfE (h2.at fun o e=>up3 _ o D.bz D.ob.symm D.ab.symm e) (g2.at fun o e=>up3 _ o L2'.z L2'.o L2'.a e) ey fun e4 n2 b4=>wpAny_pure ?_)
 have O4:IsPair e4 TO x b:=b4.extBut _ _ D.ob O3
 refine wpAny_bind (wpAny_seqItems O4 rfl (wpAny_bind (zfS O4 fun e5 O5 b5=>wpAny_bind (wpAny_letGo (wpAny_pure (wpAny_pure ?_))))))
 replace O5:IsPair e5 TO x y:=O5
 have up5:∀ d o,d≠z→d≠TO→d≠i1→d≠i2→s.heap.get? d=some o→e5.get? d=some o:=fun d o q1 q2 q3 q4 e=>b5.extBut _ _ q2 (b4.extBut _ _ q4 (up3 d o q1 q2 q3 e))
 have sz:e5.objs.size=s.heap.objs.size:=by rw [b5.1,b4.1,b3.1,b2.1,b1.1]
 have z7:IsZip e5 z TI TO .ellipsis:=b5.extBut _ _ D.oz.symm (b4.extBut _ _ D.bz.symm (b3.extBut _ _ D.oz.symm (b2.extBut _ _ D.az.symm z1)))
 have m1:IsIt t e5 i1 l1 (k+1):=n1.at fun o e=>b5.extBut _ _ D.oa.symm (b4.extBut _ _ D.ab (b3.extBut _ _ D.oa.symm e))
 have m2:IsIt t e5 i2 l2 (k+1):=n2.at fun o e=>b5.extBut _ _ D.ob.symm e
 have zl:z<e5.objs.size:=Heap.lt_size z7
 refine wpAny_bind (wpAny_seqItems O5 rfl (wpAny_bind (wpAny_newTuple ?_)));show wpAny _ _ (Builtin.SmallTypes.ownedTupleHandOut (.ref z) (.ref e5.objs.size) >>= _) _ _ _
 refine wpAny_bind ?_;unfold Builtin.SmallTypes.ownedTupleHandOut
 have z8:IsZip (e5.push { cls:=.type "tuple",data:=.seq #[x,y] }) z TI TO .ellipsis:=Heap.get?_push_of_some _ z7
 refine wpAny_bind (wpAny_setField_rec z8 (by simp) fun e9 z9 b9=>?_)
 replace z9:IsZip e9 z TI TO (rawInt e5.objs.size):=z9
 refine wpAny_setField_rec z9 (by simp) fun e0 z0 b0=>?_
 replace z0:IsZip e0 z TI TO (rawInt e5.objs.size):=z0
 have up:∀ d o,d≠z→e5.get? d=some o→e0.get? d=some o:=fun d o q1 e=>b0.extBut _ _ q1 (b9.extBut _ _ q1 (Heap.get?_push_of_some _ e))
 have T0:IsPair e0 e5.objs.size x y:=b0.extBut _ _ (Nat.ne_of_gt zl) (b9.extBut _ _ (Nat.ne_of_gt zl) (Heap.get?_push_size _ rfl))
 have s0:e0.objs.size=e5.objs.size+1:=by rw [b0.1,b9.1,Heap.size_push]
 rw [sz] at z0 T0 s0
 refine wpAny_pure ⟨_,rfl,?_⟩;show Q (.ref e5.objs.size) _;rw [sz]
 exact q e0 z0 (up _ _ D.oz O5) (m1.at fun o e=>up _ o D.az e) (m2.at fun o e=>up _ o D.bz e) T0 s0 fun d o q1 q2 q3 q4 e=>up d o q1 (up5 d o q1 q2 q3 q4 e)
theorem ziR {t:Bool} {z TI TO i1 i2 l1:Addr} {k:Nat} {xs:Array Value} {Q:Fin→Shared→Prop} (hh:A.handled=none) (D:Far2 z TO i1 i2) (L1:FarM z TO i1 i2 l1)
  (hz:IsZip s.heap z TI TO .none) (hI:IsPair s.heap TI (.ref i1) (.ref i2)) (h1:IsIt t s.heap i1 l1 k) (g1:IsSq t s.heap l1 xs) (ex:xs[k]? = none)
  (q:∀ h' e,(∀ d o,d≠z→d≠i1→s.heap.get? d=some o→h'.get? d=some o)→(∃ o,h'.get? e=some o∧o.cls = .type "StopIteration")→E (.ref e) { s with heap:=h' }) :
  wpAny (model prog w) A (Builtin.«zip.__next__» ⟨[.ref z],[]⟩) Q E s:=by
 show wpAny _ _ (field (.ref z) 2 >>= _) _ _ _
 refine wpAny_bind (wpAny_field hz rfl (x:=.bool false) rfl ?_);show wpAny _ _ (field (.ref z) 3 >>= _) _ _ _
 refine wpAny_bind (wpAny_field hz rfl (x:=.ref TI) rfl (wpAny_bind (wpAny_seqItems hI rfl ?_)));show wpAny _ _ (Builtin.SmallTypes.ownedTupleIsFree (.ref z) >>= _) _ _ _
 refine wpAny_bind ?_;unfold Builtin.SmallTypes.ownedTupleIsFree
 refine wpAny_bind (wpAny_field hz rfl (x:=.none) rfl (wpAny_pure ?_));simp only [if_true]
 refine wpAny_bind (wpAny_rule (wpAny_bind (wpAny_field hz rfl (x:=.ref TO) rfl ?_)))
 refine wpAny_bind (wpAny_setField_rec hz (by simp) fun e1 z1 b1=>?_)
 replace z1:IsZip e1 z TI TO .ellipsis:=z1
 refine wpAny_bind ?_;simp only [List.zipIdx_cons,List.zipIdx_nil,List.forIn_cons,List.forIn_nil]
 refine wpAny_bind (wpAny_bind (wpAny_onRaise ?_));show wpAny _ _ (Builtin.SmallTypes.nextOf (.ref i1) >>= _) _ _ _
 refine wpAny_bind (zj7 hh (h1.at fun o e=>b1.extBut _ _ D.az e) (g1.at fun o e=>b1.extBut _ _ L1.z e) ex fun e2 e b2 he=>?_)
 obtain ⟨oe,hoe,hce⟩:=he
 have z2:IsZip e2 z TI TO .ellipsis:=b2 _ _ D.az.symm z1
 have ne:e≠z:=fun y=>by subst y;rw [z2] at hoe;cases hoe;simp at hce
 exact wpAny_setField_rec z2 (by simp) fun e3 _ b3=>q e3 e (fun d o q1 q2 y=>b3.extBut _ _ q1 (b2 _ _ q2 (b1.extBut _ _ q1 y))) ⟨oe,b3.extBut _ _ ne hoe,hce⟩
end
abbrev yA (t:Bool) (h:Heap) (l:Addr):Heap:=h.push { cls:=.type (itC t),data:=.fields #[.ref l,.int 0 0] }
abbrev yB (t:Bool) (h:Heap) (l1 l2:Addr):Heap:=(yA t (yA t h l1) l2).push { cls:=.type "tuple",data:=.seq #[.ref h.objs.size,.ref (yA t h l1).objs.size] }
abbrev yC (t:Bool) (h:Heap) (l1 l2:Addr):Heap:=(yB t h l1 l2).push { cls:=.type "tuple",data:=.seq #[.none,.none] }
abbrev yD (t:Bool) (h:Heap) (l1 l2:Addr):Heap:=(yC t h l1 l2).push { cls:=.type "zip",data:=.fields #[.none,.bool false,.bool false,.ref (yA t (yA t h l1) l2).objs.size,.ref (yB t h l1 l2).objs.size] }
theorem ziQ (t:Bool) (l1 l2:Addr) (xs ys:Array Value) :
  Meets (Builtin.«zip.__new__» ⟨[.type "zip",.ref l1,.ref l2],[]⟩) (fun _ R s=>IsSq t s.heap l1 xs∧IsSq t s.heap l2 ys∧R (.ok (.ret (.ref (yC t s.heap l1 l2).objs.size))) { s with heap:=yD t s.heap l1 l2 }):=
 .of_wp fun prog w A R s h=>by
  obtain ⟨hp,g,d,tk,os⟩:=s;obtain ⟨hl1,hl2,h⟩:=h
  have hsub:=sub_zip
  have hA:IsSq t (Shared.heap ⟨hp,g,d,tk,os⟩) l1 xs:=hl1
  have hB:IsSq t (Shared.heap ⟨yA t hp l1,g,d,tk,os⟩) l2 ys:=hl2.at fun o e=>Heap.get?_push_of_some _ e
  wp_walk using zkb hA,zkb hB
  exact ⟨_,rfl,h⟩
end L2
end
section
namespace L2
open PySem PySem.Spec PyProof.Rows
def hoX (t:Bool) (xs:List V):HO:=if t then .tup xs else .lst xs
def SqX (t:Bool) (H:Hp) (a:Addr) (xs:List V):Prop:=H a=some (hoX t xs)
theorem Inv.sqx {X:Cx} {pins:List (Addr×Obj)} {σ:St} {H:Hp} {s:Shared} (I:Inv X pins σ H s) {t:Bool} {a:Addr} {xs:List V} (h:SqX t H a xs):∃ its:List Value,Vals xs its∧IsSq t s.heap a its.toArray:=by
 cases t with
 | false =>
  obtain ⟨its,r,p,_⟩:=I.list (SqL.of (xs:=xs) h)
  exact ⟨its,r,p.isList⟩
 | true =>
  obtain ⟨its,r,p,_⟩:=I.tuple (SqT.of (xs:=xs) h)
  exact ⟨its,r,p⟩
theorem ziB {prog:Program} {w:World} {A:Around} {E:Value→Shared→Prop} {s:Shared} {t:Bool} {l1 l2:Addr} {xs ys:Array Value} {Q:Value→Shared→Prop} (g1:IsSq t s.heap l1 xs) (g2:IsSq t s.heap l2 ys)
  (q:∀ h' n,n=s.heap.objs.size→IsZip h' (n+4) (n+2) (n+3) .none→IsPair h' (n+2) (.ref n) (.ref (n+1))→IsPair h' (n+3) .none .none→IsIt t h' n l1 0→IsIt t h' (n+1) l2 0 →
   (∀ d o,s.heap.get? d=some o→h'.get? d=some o)→Q (.ref (n+4)) { s with heap:=h' }) :
  wpAny (model prog w) A (call (.type "zip") [.ref l1,.ref l2]) Q E s:=by
 refine callType_new F.called_zip (by decide) (F.typeCall_zip_2 _ _) (F.newCall_zip_2 _ _) (fun obj=>F.args_object_init_3 obj _ _) F.entry_zip_new (ziQ t l1 l2 xs ys) ⟨g1,g2,?_⟩
 have n1:(yA t s.heap l1).objs.size=s.heap.objs.size+1:=Heap.size_push ..
 have n2:(yA t (yA t s.heap l1) l2).objs.size=s.heap.objs.size+2:=by rw [Heap.size_push,n1]
 have n3:(yB t s.heap l1 l2).objs.size=s.heap.objs.size+3:=by rw [Heap.size_push,n2]
 have n4:(yC t s.heap l1 l2).objs.size=s.heap.objs.size+4:=by rw [Heap.size_push,n3]
 have a4:(yD t s.heap l1 l2).get? (yC t s.heap l1 l2).objs.size=some _:=Heap.get?_push_size _ rfl
 have a3:(yD t s.heap l1 l2).get? (yB t s.heap l1 l2).objs.size=some _:=Heap.get?_push_of_some _ (Heap.get?_push_size _ rfl)
 have a2:(yD t s.heap l1 l2).get? (yA t (yA t s.heap l1) l2).objs.size=some _:=Heap.get?_push_of_some _ (Heap.get?_push_of_some _ (Heap.get?_push_size _ rfl))
 have a1:(yD t s.heap l1 l2).get? (yA t s.heap l1).objs.size=some _:=Heap.get?_push_of_some _ (Heap.get?_push_of_some _ (Heap.get?_push_of_some _ (Heap.get?_push_size _ rfl)))
 have a0:(yD t s.heap l1 l2).get? s.heap.objs.size=some _:=Heap.get?_push_of_some _ (Heap.get?_push_of_some _ (Heap.get?_push_of_some _ (Heap.get?_push_of_some _ (Heap.get?_push_size _ rfl))))
 show _∧_
 rw [n2,n3,n4] at a4
 rw [n3] at a3
 rw [n1,n2] at a2
 rw [n1] at a1
 rw [n4]
 exact ⟨⟨_,a4,rfl⟩,q _ _ rfl a4 a2 a3 ⟨_,a0,rfl,rfl⟩ ⟨_,a1,rfl,rfl⟩ fun d o e =>
  Heap.get?_push_of_some _ (Heap.get?_push_of_some _ (Heap.get?_push_of_some _ (Heap.get?_push_of_some _ (Heap.get?_push_of_some _ e))))⟩
def Ity (t:Bool) (a b:Addr):It:=
 ⟨fun i H=>∃ xs x ys y,SqX t H a xs∧SqX t H b ys∧xs[i]? = some x∧ys[i]? = some y,
  fun i H v H'=>∃ T x y,H T=none∧v = .ref T∧H'=upd H T (.tup [x,y])∧(∀ xs,SqX t H a xs→xs[i]? = some x)∧∀ ys,SqX t H b ys→ys[i]? = some y,
  fun i H=>∃ xs,SqX t H a xs∧xs.length≤i⟩
theorem zfK {t:Bool} {h:Heap} {z TI TO i1 i2 l k1 k2:Addr} {it:Array Value} {f0:Value} {n1 n2:Nat} (g:IsSq t h l it) (hz:IsZip h z TI TO f0) (lo:l≠TO) (h1:IsIt t h i1 k1 n1) (h2:IsIt t h i2 k2 n2):FarM z TO i1 i2 l:=by
 have ap:∀ {d:Addr} {o:Obj},h.get? d=some o→o.cls≠.type (sqC t)→l≠d:=fun {d o} e nc y=>by
  obtain ⟨o',e',c',_⟩:=g
  rw [y,e] at e';cases e';exact nc c'
 obtain ⟨_,e1,c1,_⟩:=h1
 obtain ⟨_,e2,c2,_⟩:=h2
 have ne:(Value.type (itC t))≠.type (sqC t):=by cases t <;> simp [itC,sqC]
 exact ⟨ap hz (by cases t <;> simp [sqC]),lo,ap e1 (by rw [c1];exact ne),ap e2 (by rw [c2];exact ne)⟩
theorem zhi {H:Hp} {t:Bool} {a:Addr} {xs ys:List V} (h:SqX t H a xs) (h2:SqX t H a ys):xs=ys:=by
 have e:=Option.some.inj (h.symm.trans h2)
 cases t with
 | false=>exact HO.lst.inj e
 | true=>exact HO.tup.inj e
theorem zhe {P:Program} {w:World} {K:PySem.W.Frag} {elts:List Expr} {kt:Nat} {tp:Pos} (t:Bool) (l1 l2 z TI TO i1 i2:Addr) (D:Far2 z TO i1 i2) (TIz:TI≠z) (TITO:TI≠TO) (TI1:TI≠i1) (TI2:TI≠i2) :
  Turn P w K (.Tuple elts kt tp) (Ity t l1 l2) [z,TI,TO,i1,i2] z (fun i h=>IsZip h z TI TO .none∧IsPair h TI (.ref i1) (.ref i2)∧(∃ a b,IsPair h TO a b)∧IsIt t h i1 l1 i∧IsIt t h i2 l2 i) where
 mem:=by simp
 obj:=fun i h st b hb=>by
  obtain ⟨hz,hI,⟨_,_,hO⟩,⟨o1,e1,_,d1⟩,⟨o2,e2,_,d2⟩⟩:=st
  simp only [List.mem_cons,List.mem_nil_iff,or_false] at hb
  rcases hb with rfl | rfl | rfl | rfl | rfl
  ·exact ⟨_,hz,fun v y=>by have y':Data.fields _=Data.cell v:=y;cases y'⟩
  ·exact ⟨_,hI,fun v y=>by have y':Data.seq _ _=Data.cell v:=y;cases y'⟩
  ·exact ⟨_,hO,fun v y=>by have y':Data.seq _ _=Data.cell v:=y;cases y'⟩
  ·exact ⟨_,e1,fun v y=>by rw [d1] at y;cases y⟩
  ·exact ⟨_,e2,fun v y=>by rw [d2] at y;cases y⟩
 keep:=fun i h h' st k=>by
  obtain ⟨hz,hI,⟨a,b,hO⟩,h1,h2⟩:=st
  exact ⟨k z (by simp) _ hz,k TI (by simp) _ hI,⟨a,b,k TO (by simp) _ hO⟩,h1.at fun o e=>k i1 (by simp) o e,h2.at fun o e=>k i2 (by simp) o e⟩
 item:=by
  intro X hP hw hK hc i pins s σ H E I hf st hg
  subst hP hw hK
  obtain ⟨xs,x,ys,y,p1,p2,e1,e2⟩:=hg
  obtain ⟨t1,r1,f1⟩:=I.sqx p1
  obtain ⟨t2,r2,f2⟩:=I.sqx p2
  obtain ⟨v1,w1,rx⟩:=r1.get e1
  obtain ⟨v2,w2,ry⟩:=r2.get e2
  obtain ⟨hz,hI,⟨a,b,hO⟩,h1,h2⟩:=st
  have nO:H TO=none:=(hf TO (by simp)).1
  have far:∀ {l:Addr} {zs:List V},SqX t H l zs→l≠TO:=fun {l zs} p e=>by rw [SqX,e,nO] at p;cases p
  have hT:s.TypeIs (.ref z) "zip" := ⟨_,hz,rfl⟩
  unfold pyNext
  refine wpAny_bind (wpAny_attempt (wpAny_callSpecial?_slot (name:=Str.ofString "__next__") hT F.slot_zip_next (wpAny_call_entry F.slot_zip_next hT F.entry_zip_next
   (zha D (zfK f1 hz (far p1) h1 h2) (zfK f2 hz (far p2) h1 h2) hz hI hO h1 h2 f1 f2 (x:=v1) (y:=v2) (by simpa using w1) (by simpa using w2)
    fun h' z1 O1 m1 m2 T1 s1 kk=>wpAny_pure ⟨_,rfl,?_⟩) (F.args_zip_next_1 _))))
  refine wpAny_letOwnedTupleGo_zip z1 fun h4 z4 sb=>?_
  have fT:FpOk X pins H s.heap.objs.size:=I.fpOk (Nat.le_refl _) (I.hok.fresh (Nat.le_refl _))
  have k2:∀ d o,d ∉ [z,TI,TO,i1,i2]→s.heap.get? d=some o→h4.get? d=some o:=fun d o hb e=>by
   simp only [List.mem_cons,List.mem_nil_iff,or_false,not_or] at hb
   obtain ⟨q1,q2,q3,q4,q5⟩:=hb
   exact (sb.2 d q1).trans (kk d o q1 q3 q4 q5 e)
  have I1:Inv X pins σ H { s with heap:=h4,toks:=s.toks }:=I.turnedL (ch:=[z,TI,TO,i1,i2]) k2 hf
  have eT:h4.get? s.heap.objs.size=some { cls:=.type "tuple",data:=.seq #[v1,v2] }:=(sb.2 _ (Nat.ne_of_gt (Heap.lt_size hz))).trans T1
  have I2:=I1.track (o:=.tup [x,y]) fT (Nat.le_trans I.sz (Nat.le_refl _)) (zcW rx ry eT)
  refine ⟨.ref s.heap.objs.size,_,I2,rfl,⟨_,x,y,fT.1,rfl,rfl,fun ys hy=>by rw [zhi hy p1];exact e1,fun ys hy=>by rw [zhi hy p2];exact e2⟩,
   ⟨z4,(sb.2 _ TIz).trans (kk _ _ TIz TITO TI1 TI2 hI),⟨_,_,sb.extBut _ _ D.oz O1⟩,m1.at fun o e=>sb.extBut _ _ D.az e,m2.at fun o e=>sb.extBut _ _ D.bz e⟩,fun d hb=>?_⟩
  have hlt:d<s.heap.objs.size:=by
   obtain ⟨_,g1,_⟩:=h1
   obtain ⟨_,g2,_⟩:=h2
   simp only [List.mem_cons,List.mem_nil_iff,or_false] at hb
   rcases hb with rfl | rfl | rfl | rfl | rfl
   ·exact Heap.lt_size hz
   ·exact Heap.lt_size hI
   ·exact Heap.lt_size hO
   ·exact Heap.lt_size g1
   ·exact Heap.lt_size g2
  rw [zah (Nat.ne_of_lt hlt)]
  exact (hf d hb).1
 done:=by
  intro X hP hw hK hc i pins s σ H E I hf st hg
  subst hP hw hK
  obtain ⟨xs,p1,hx⟩:=hg
  obtain ⟨t1,r1,f1⟩:=I.sqx p1
  obtain ⟨hz,hI,⟨a,b,hO⟩,h1,h2⟩:=st
  have nO:H TO=none:=(hf TO (by simp)).1
  have far:l1≠TO:=fun e=>by rw [SqX,e,nO] at p1;cases p1
  have hT:s.TypeIs (.ref z) "zip" := ⟨_,hz,rfl⟩
  have e1:=r1.length
  unfold pyNext
  refine wpAny_bind (wpAny_attempt (wpAny_callSpecial?_slot (name:=Str.ofString "__next__") hT F.slot_zip_next (wpAny_call_entry F.slot_zip_next hT F.entry_zip_next
   (ziR (I.ok.hd hc) D (zfK f1 hz far h1 h2) hz hI h1 f1 (by simp;omega) fun h' e kk he=>?_) (F.args_zip_next_1 _))))
  obtain ⟨o,ho,hcl⟩:=he
  refine wpAny_bind (wpAny_isInstance (T := "StopIteration") (b:=true) ⟨o,ho,hcl⟩ isSubtype_stop ?_)
  refine wpAny_pure ⟨rfl,I.turnedL (t':=s.toks) (ch:=[z,TI,TO,i1,i2]) (fun d o hb e=>?_) hf⟩
  simp only [List.mem_cons,List.mem_nil_iff,or_false,not_or] at hb
  exact kk d o hb.1 hb.2.2.2.1 e
 self:=fun _ _ _ _ _ st h=>wpAny_pyIter_zip st.1 h
def iZipX (ta:TA):TI:=fun σ H R=>ta σ H fun vs H1=>∃ t a b xs ys,vs=[.ref a,.ref b]∧SqX t H1 a xs∧SqX t H1 b ys∧R (Ity t a b) H1
theorem zkR {X:Cx} {a b:Expr} {ta:TA} {p pos:Pos} {elts:List Expr} {kt:Nat} {tp:Pos} (hg:Gl X "zip") (hm:X.mg "zip" = none) (ha:PA X [a,b] ta) (hs:starEach [a,b] X.env=(false,eval a X.env) :: starEach [b] X.env:=by rfl) (hs2:(backTo pos (starEach [b] X.env)).any (·.1)=false:=by rfl) :
  PI X (.Tuple elts kt tp) (.Call (.Name "zip" p) [a,b] [] pos) (iZipX ta):=by
 intro pins s σ H R I h
 refine Call_ (zdn I hg hm zjP (PyProof.Rows.callWith_type1 (thn (ha pos pins s σ H _ I h) fun us s1 ⟨vs,H1,I1,r1,q1⟩=>?_) hs hs2))
 obtain ⟨t,l1,l2,xs,ys,e,p1,p2,q⟩:=q1
 subst e
 cases r1 with
 | cons ra rr=>cases rr with
  | cons rb rr =>
   cases rr
   cases ra;cases rb
   obtain ⟨t1,v1,f1⟩:=I1.sqx p1
   obtain ⟨t2,v2,f2⟩:=I1.sqx p2
   refine ziB f1 f2 fun h' n hn hz hI hO h1 h2 kk=>?_
   refine wpAny_pyIter_zip hz ?_
   have I2:Inv X pins σ H1 { s1 with heap:=h',toks:=s1.toks }:=I1.kept kk
   have ge:∀ b,n≤b→FpOk X pins H1 b:=fun b hb=>I1.fpOk (by rw [← hn];exact hb) (I1.hok.fresh (by rw [← hn];exact hb))
   have ne:∀ i j:Nat,i≠j→(n+i:Nat)≠n+j:=fun i j h=>by omega
   refine ⟨n+4,[n+4,n+2,n+3,n,n+1],_,_,H1,rfl,I2,zhe t l1 l2 (n+4) (n+2) (n+3) n (n+1) ⟨ne 3 4 (by decide),ne 0 4 (by decide),ne 1 4 (by decide),ne 3 0 (by decide),ne 3 1 (by decide),ne 0 1 (by decide)⟩
    (ne 2 4 (by decide)) (ne 2 3 (by decide)) (ne 2 0 (by decide)) (ne 2 1 (by decide)),⟨hz,hI,⟨_,_,hO⟩,h1,h2⟩,fun b hb=>ge b ?_,q⟩
   simp only [List.mem_cons,List.mem_nil_iff,or_false] at hb
   rcases hb with rfl | rfl | rfl | rfl | rfl
   ·exact Nat.le_add_right _ _
   ·exact Nat.le_add_right _ _
   ·exact Nat.le_add_right _ _
   ·exact Nat.le_refl _
   ·exact Nat.le_add_right _ _
theorem ziv {t:Bool} {g:TG} {tf:TT} {te:TE} {Q:List V→Hp→Prop} {σ:St} {H:Hp} {a b:Addr} {xs ys:List V} (Pv:Nat→List V→St→Hp→Prop) (he:xs.length=ys.length) (hn:xs.length≤sizeLine) (h0:Pv 0 [] σ H) (hl:∀ i rs σ H,i≤xs.length→Pv i rs σ H→SqX t H a xs∧SqX t H b ys∧rs.length≤i)
  (hs:∀ i x y T rs σ H,xs[i]? = some x→ys[i]? = some y→H T=none→Pv i rs σ H→g (.ref T) σ (upd H T (.tup [x,y])) fun σ2 H2=>tf σ2 H2 fun b H3=>if b=true then te σ2 H3 fun y H4=>Pv (i+1) (rs ++ [y]) σ2 H4 else Pv (i+1) rs σ2 H3)
  (hd:∀ rs σ H,Pv xs.length rs σ H→Q rs H):zg9 (Ity t a b) g tf te Q σ H:=by
 refine ⟨fun i m rs σ H=>m=xs.length - i∧i≤xs.length∧Pv i rs σ H,⟨xs.length,by simp,Nat.zero_le _,h0⟩,?_⟩
 rintro i m rs σ H ⟨rfl,hi,p⟩
 obtain ⟨q,q2,hz⟩:=hl i rs σ H hi p
 by_cases hlt:i<xs.length
 ·refine .inr ⟨⟨xs,xs[i],ys,ys[i]'(by omega),q,q2,by simp [hlt],by simp [he ▸ hlt]⟩,by omega,Pv (i+1),fun ys' σ' H' p'=>⟨xs.length - (i+1),by omega,rfl,hlt,p'⟩,fun v H' y=>?_⟩
  obtain ⟨T,x,y',hT,rfl,rfl,y1,y2⟩:=y
  exact hs i x y' T rs σ _ (y1 xs q) (y2 ys q2) hT p
 ·have e:i=xs.length:=by omega
  exact .inl ⟨⟨xs,q,by omega⟩,by omega,hd rs σ H (e ▸ p)⟩
theorem zaE (T:String) {X:Cx} {K:PySem.W.Frag} (hK:X.K=K):zbY X (.builtin "isinstance") (fun xs H Q=>∃ x t b,xs=[x,.ty T]∧TyOf K H x t∧PySem.W.kitOne K t (.type T)=some b∧Q (.bl b) H):=by
 subst hK
 intro pins s σ H xs us Q I r h
 obtain ⟨x,t,b,rfl,ty,e,q⟩:=h
 obtain ⟨u,u2,rfl,rx,r2⟩:=zgs r
 obtain rfl:u2=Value.type T:=r2
 exact zeS I rx ty e fun tk=>⟨.bl b,H,I.tok _,rfl,q⟩
end L2
end
section
namespace L2
open PySem PySem.Spec PyProof.Rows
section
variable {X:Cx} {K:PySem.W.Frag}
theorem zbG {x:Str} {n:Int} {pos:Pos} (hg:Gl X x) (h:∃ t,X.mg x=some (.int n t)) (hd:(x == ("__debug__" : Str))=false:=by decide):PE X (.Name x pos) (tC (.int n)):=by
 obtain ⟨t,h⟩:=h
 exact zhR hg h ⟨_,rfl⟩ hd
end
def dP {α:Type} (ds us zs:List α):List α:=us ++ ds
theorem Vals.dP {ds:List V} {es:List Value} (d:Vals ds es) {vs zs:List V} {us ws:List Value} (g:Vals vs us) (h:Vals zs ws):Vals (dP ds vs zs) (dP es us ws):=g.append d
theorem zjZ:RelV (.ty "str") (.type "str"):=rfl
theorem zb4:RelV (.ty "tuple") (.type "tuple"):=rfl
theorem zhA:RelV (.ty "list") (.type "list"):=rfl
theorem zkn:bootBuiltins "str" = some (.type "str"):=by decide +kernel
theorem za8:bootBuiltins "tuple" = some (.type "tuple"):=by decide +kernel
theorem zfM:bootBuiltins "list" = some (.type "list"):=by decide +kernel
end L2
namespace Cb
open PySem L2
structure Blt (mg:Str→Option Value):Prop where
 len:mg "len" = none
 sum:mg "sum" = none
 all:mg "all" = none
 max:mg "max" = none
 min:mg "min" = none
 int:mg "int" = none
 bool:mg "bool" = none
 isinstance:mg "isinstance" = none
 range:mg "range" = none
 enumerate:mg "enumerate" = none
 zip:mg "zip" = none
 str:mg "str" = none
 tuple:mg "tuple" = none
 list:mg "list" = none
inductive Lk (H:Hp):Nat→V→V→Prop where
 | int {n:Nat} (i:Int):Lk H n (.int i) (.int i)
 | seq {n:Nat} {t:Bool} {a b:Addr} {xs ys:List V} (ha:SqX t H a xs) (hb:SqX t H b ys) (hl:xs.length=ys.length) (hz:xs.length≤sizeLine) (h:∀ (i:Nat) (x y:V),xs[i]? = some x→ys[i]? = some y→Lk H n x y):Lk H (n+1) (.ref a) (.ref b)
theorem Lk.same {H H':Hp} {n:Nat} {v w:V} (h:Lk H n v w) (s:Same H H'):Lk H' n v w:=by
 induction h with
 | int i=>exact .int i
 | seq ha hb hl hz _ ih=>exact .seq (s _ _ ha) (s _ _ hb) hl hz ih
def NN (ext:List (Str×V)):Prop:=ext=[]∨∃ r:Int,ext=[(("room" : Str),V.int r)]
structure Ob (C:Addr) (H:Hp) (a p:Addr) (ws:List V) (ext:List (Str×V)):Prop where
 ex:∃ dx hd,H a=some (.ins C dx (("head",.str hd) :: ("held",.ref p) :: ext))
 ls:H p=some (.lst ws)
 nn:NN ext
structure ClsOk (K:PySem.W.Frag) (C:Addr):Prop where
 cl:Cls K C
 head:NoAttr K C "head"
 held:NoAttr K C "held"
 room:NoAttr K C "room"
def zdX:Sp:=fun vs H Q _=>∃ a b:Int,vs=[.int a,.int b]∧Q (.bl (decide (0≤a∧a≤b))) H
def zb2:Sp:=fun vs H Q _=>∃ a:Int,vs=[.int a]∧Q (.bl (decide (0≤a∧a≤255))) H
def zc2:Sp:=fun vs H Q _=>∃ a:Int,vs=[.int a]∧0≤a∧a≤255∧Q .non H
def zhl (C:Addr) (L:List V→Nat):Sp:=fun vs H Q _=>∃ a p ws ext,vs=[.ref a]∧Ob C H a p ws ext∧Q (.int (L ws:Int)) H
def zf1 (K:PySem.W.Frag):Sp:=fun vs H Q _=>∃ a C dx p hd,vs=[.ref a,.str hd,.ref p]∧H a=some (.ins C dx [])∧ClsOk K C∧∀ H',H' a=some (.ins C dx [("head",.str hd),("held",.ref p)])→(∀ b,b≠a→H' b=H b)→Q .non H'
end Cb
end
section
namespace L2
open PySem PySem.Spec PyProof.Rows PySem.SeqAt
section
variable {X:Cx} {K:PySem.W.Frag}
end
end L2
end
section
namespace L2
open PySem PySem.Spec PyProof.Rows Builtin
section
variable {prog:Program} {w:World} {A:Around} {E:Value→Shared→Prop} {s:Shared} {K:PySem.W.Frag} {x y C f:Addr} {ox oy:Obj} {od oe:Option Obj}
end
section
variable {X:Cx}
end
end L2
end
section
namespace L2
open PySem PySem.Spec PyProof.Rows
section
variable {prog:Program} {w:World} {A:Around} {E:Value→Shared→Prop} {s:Shared}
end
section
variable {X:Cx} {o:Expr} {td:TE} {pos p1 p2 p3:Pos} {k0:Nat}
end
section
variable {X:Cx} {K:PySem.W.Frag}
theorem zjg {x:Str} {a:Addr} {pos:Pos} (hg:Gl X x) (h:X.mg x=some (.ref a)) (hd:(x == ("__debug__" : Str))=false:=by decide):PE X (.Name x pos) (tC (.ref a)):=zhR hg h rfl hd
theorem zjO (hK:X.K=K):zbY X (.builtin "isinstance") (fun xs H Q=>∃ x t D b,xs=[x,.ref D]∧TyOf K H x t∧PySem.W.kitOne K t (.ref D)=some b∧Q (.bl b) H):=by
 subst hK
 intro pins s σ H xs us Q I r h
 obtain ⟨x,t,D,b,rfl,ty,e,q⟩:=h
 obtain ⟨u,u2,rfl,rx,r2⟩:=zgs r
 obtain rfl:u2=Value.ref D:=r2
 exact zeS I rx ty e fun tk=>⟨.bl b,H,I.tok _,rfl,q⟩
end
theorem zjz {K:PySem.W.Frag} {t:Value} {D:Addr} (h:PySem.W.isIn K t D=true):PySem.W.kitOne K t (.ref D)=some true:=by
 unfold PySem.W.isIn at h
 unfold PySem.W.kitOne PySem.W.kitCls
 by_cases e:(t == Value.ref D)=true
 ·rw [if_pos e]
 ·rw [if_neg e]
  simp only [Bool.or_eq_true,Bool.and_eq_true,beq_iff_eq] at h
  rcases h with h | h
  ·exact absurd (beq_iff_eq.mpr h) e
  ·dsimp only
   rw [if_pos (by simp only [Bool.and_eq_true,beq_iff_eq];exact h.1.1)]
   exact h.2
end L2
end
section
namespace L2
open PySem PySem.Spec PyProof.Rows
section
variable {X:Cx} {e:Expr} {p pos:Pos} {ta:TE}
end
section
variable {prog:Program} {w:World} {A:Around} {E:Value→Shared→Prop} {s:Shared}
end
section
variable {X:Cx} {o:Expr} {td tv:TE} {pos p1 p2 p3:Pos} {k0:Nat}
end
end L2
end
section
namespace L2
open PySem PySem.Spec PyProof.Rows HT PySem.SeqAt
section
section
variable {prog:Program} {w:World} {A:Around} {E:Value→Shared→Prop} {s:Shared}
theorem zcx {t sl:Addr} {items:Array Value} {vl vu:Value} {lo hi:Option Int} {Q:Value→Shared→Prop} (ht:IsTup s.heap t items) (hs:s.heap.IsSliceOf sl vl vu .none) (pl:IsPart vl lo) (pu:IsPart vu hi)
  (hw:sIx items.size 0 lo=0∧sIx items.size items.size hi=items.size) (h:Q (.ref t) s):wpAny (model prog w) A (getItem (.ref t) (.ref sl)) Q E s:=by
 obtain ⟨os,hos,hcs,hds⟩:=id hs
 have hTs:s.TypeIs (.ref sl) "slice" := ⟨os,hos,hcs⟩
 unfold getItem
 try with_reducible refine wpAny_holding ?_
 first | refine wpAny_bind (wpAny_pure ?_) | skip
 refine wpAny_bind (wpAny_sequenceKey ht.typeIs (by decide) ?_)
 refine wpAny_bind (wpAny_callSpecial?_slot (name:=Str.ofString "__getitem__") ht.typeIs PyProof.Rows.slot_tuple_getitem
  (wpAny_call_entry PyProof.Rows.slot_tuple_getitem ht.typeIs entry_tuple_getitem ?_ (args_tuple_getitem _ _)))
 show wpAny _ _ (Builtin.Tuple.tupleItemsOf (.ref t) >>= _) _ _ s
 refine wpAny_bind (tupleItemsOf_ ht ?_)
 refine wpAny_bind (wpAny_typeOf hTs ?_)
 rw [if_pos (by decide)]
 refine wpAny_bind (zbs hs pl pu ?_)
 rw [hw.1,hw.2,Nat.sub_zero]
 have hyes:((((0:Nat):Int) == 0 && (1:Int) == 1 && items.size == items.size)=true):=by simp
 show wpAny _ _ (if (((0:Nat):Int) == 0 && (1:Int) == 1 && items.size == items.size)=true then _ else _) _ _ s
 rw [if_pos hyes]
 refine wpAny_bind (m:=Builtin.Tuple.tupleIsExact _) ?_
 unfold Builtin.Tuple.tupleIsExact
 refine wpAny_bind (wpAny_typeOf ht.typeIs (wpAny_pure ?_))
 rw [if_pos (by decide)]
 refine wpAny_bind (wpAny_rule ?_)
 exact wpAny_pure ⟨_,rfl,wpAny_pure h⟩
end
end
section
variable {X:Cx} {K:PySem.W.Frag}
def rSlT2 (K:PySem.W.Frag):V→Option Int→Option Int→Hp→VK→Prop:=fun x lo hi H Q=>∃ a xs,x = .ref a∧SqT K H a xs∧(cutV xs lo hi=xs→Q (.ref a) H)∧∀ p,H p=none→Q (.ref p) (upd H p (.tup (cutV xs lo hi)))
theorem zfo (hK:X.K=K):SlR X (rSlT2 K):=by
 subst hK
 intro pins s σ H x v vl vu lo hi sl Q I rx hs pl pu h
 obtain ⟨a,xs,rfl,hx,q0,q⟩:=h
 by_cases hw:sIx xs.length 0 lo=0∧sIx xs.length xs.length hi=xs.length
 ·cases rx
  obtain ⟨its,r,ht,hz⟩:=I.tuple hx
  have hlen:its.toArray.size=xs.length:=by rw [List.size_toArray];exact r.length.symm
  refine ⟨"tuple",_,PyProof.Rows.slot_tuple_getitem.lookup,ht.typeIs,?_⟩
  refine zcx ht hs pl pu (by rw [hlen];exact hw) ?_
  exact ⟨.ref a,H,I,rfl,q0 (by unfold cutV;rw [hw.1,hw.2];simp)⟩
 ·exact sl_tup pins s σ H _ v vl vu lo hi sl Q I rx hs pl pu ⟨a,xs,rfl,hx,hw,q⟩
def rNeL0 (K:PySem.W.Frag):R2:=fun x y H Q=>∃ a b xs,x = .ref a∧y = .ref b∧SqL K H a xs∧SqL K H b []∧Q (.bl (!xs.isEmpty)) H
theorem zk2 (hu:X.A.units<cLine) (hK:X.K=K):OpR X (compareOp .NotEq) (rNeL0 K):=by
 subst hK
 rintro pins s σ H x y v u Q I rx ry ⟨a,b,xs,rfl,rfl,ha,hb,q⟩
 cases rx;cases ry
 obtain ⟨its,r1,p1,_⟩:=I.list ha
 obtain ⟨its2,r2,p2,_⟩:=I.list hb
 obtain rfl:=r2.nil_iff.mpr rfl
 have e:its.toArray.size=xs.length:=by rw [List.size_toArray];exact r1.length.symm
 cases xs with
 | nil =>
  refine RcNeAt.lists (e:=fun _=>true) p1.isList p2.isList (by rw [e];rfl) hu (fun j h1 h2=>absurd h2 (by simp)) _ _ _ _ ⟨.bl false,H,I,?_,q⟩
  rw [e];rfl
 | cons z zs=>exact RcNeAt.lists_lengths p1.isList p2.isList (by rw [e];exact bne_iff_ne.mpr (by simp)) hu _ _ _ _ ⟨.bl true,H,I,rfl,q⟩
theorem zgl {g:TG} {tf:TT} {te:TE} {Q:List V→Hp→Prop} {σ:St} {H:Hp} {a:Addr} {xs:List V} (Pv:Nat→List V→St→Hp→Prop) (hn:xs.length≤sizeLine) (h0:Pv 0 [] σ H) (hl:∀ i ys σ H,i≤xs.length→Pv i ys σ H→SqT K H a xs∧ys.length≤i)
  (hs:∀ i x ys σ H,xs[i]? = some x→Pv i ys σ H→g x σ H fun σ2 H2=>tf σ2 H2 fun b H3=>if b=true then te σ2 H3 fun y H4=>Pv (i+1) (ys ++ [y]) σ2 H4 else Pv (i+1) ys σ2 H3)
  (hd:∀ ys σ H,Pv xs.length ys σ H→Q ys H):zg9 (Itt K a) g tf te Q σ H:=by
 refine ⟨fun i m ys σ H=>m=xs.length - i∧i≤xs.length∧Pv i ys σ H,⟨xs.length,by simp,Nat.zero_le _,h0⟩,?_⟩
 rintro i m ys σ H ⟨rfl,hi,p⟩
 obtain ⟨q,hz⟩:=hl i ys σ H hi p
 by_cases hlt:i<xs.length
 ·refine .inr ⟨⟨xs,xs[i],q,by simp [hlt]⟩,by omega,Pv (i+1),fun ys' σ' H' p'=>⟨xs.length - (i+1),by omega,rfl,hlt,p'⟩,fun x H' y=>?_⟩
  obtain ⟨e,y⟩:=y
  subst e
  exact hs i x ys σ _ (y xs q) p
 ·have e:i=xs.length:=by omega
  subst e
  exact .inl ⟨⟨xs,q,Nat.le_refl _⟩,by omega,hd ys σ H p⟩
end
end L2
end
section
namespace L2
open PySem PySem.Spec PyProof.Rows HT
def Slid (fs ch:List Addr) (h h':Heap):Prop:=∀ b o,h.get? b=some o→b ∉ ch→(b ∉ fs→h'.get? b=some o)∧∃ sl,h'.get? b=some { o with slots:=sl }
theorem Slid.of {fs ch:List Addr} {h h':Heap} (k:∀ b o,h.get? b=some o→b ∉ ch→h'.get? b=some o):Slid fs ch h h':=fun b o e hc=>⟨fun _=>k b o e hc,o.slots,k b o e hc⟩
theorem Slid.trans {fs ch:List Addr} {h1 h2 h3:Heap} (x:Slid fs ch h1 h2) (y:Slid fs ch h2 h3):Slid fs ch h1 h3:=fun b o e hc=>by
 obtain ⟨x1,sl,x2⟩:=x b o e hc
 refine ⟨fun hf=>(y b o (x1 hf) hc).1 hf,?_⟩
 obtain ⟨_,sl2,y2⟩:=y b _ x2 hc
 exact ⟨sl2,y2⟩
theorem Slid.mono {fs fs' ch ch':List Addr} {h h':Heap} (x:Slid fs ch h h') (hf:∀ b∈fs,b∈fs') (hc:∀ b∈ch,b∈ch'):Slid fs' ch' h h':=fun b o e n=>⟨fun z=>(x b o e fun q=>n (hc b q)).1 fun q=>z (hf b q),(x b o e fun q=>n (hc b q)).2⟩
def XAt (h:Heap) (e T:Addr) (cls fl:Value) (od:Option Addr):Prop:=∃ oe vs oT ts,h.get? e=some oe∧(oe.cls=cls∧oe.dict=od)∧oe.data = .fields vs∧vs[1]? = some (.ref T)∧T≠e∧h.get? T=some oT∧oT.data = .fields ts∧ts[3]? = some fl
section
variable {M:Model} {A:Around} {E:Value→Shared→Prop} {s:Shared}
theorem zdB (f:Array Value→Array Value) (o:Obj):(Obj.mapFields f o).dict=o.dict:=by
 obtain ⟨c,d,dt,sl⟩:=o
 cases dt <;> rfl
theorem zhd {base:Heap} {env:Env} {outer:List Env} {L e:Addr} {oe:Obj} {vs:Array Value} {head:Value} {hadNext:Bool} {Q:Unit→Shared→Prop}
  (hfr:A.frames=some (env :: outer)) (hl:s.heap.FunFrames base (env :: outer)) (hf:env.frame=some L)
  (he:s.heap.get? e=some oe) (hd:oe.data = .fields vs) (hsz:1<vs.size)
  (h:∀ h' T,s.heap.get? T=none→Slid ((env :: outer).filterMap (·.frame)) [e] s.heap h'→XAt h' e T oe.cls (rawInt L) oe.dict→Q () { s with heap:=h' }) :
  wpAny M A (do let a ← frameOf env;let pl ← entryPlaceOf L hadNext;let b ← EntryCells.newEntry head a .none (rawInt L) .none pl;setField (.ref e) 1 b) Q E s:=by
 have hene:e ∉ (env :: outer).filterMap (·.frame):=fun hm=>by
  obtain ⟨_,o,ho,hnf⟩:=hl.mem hm
  rw [he] at ho;injection ho with ho;subst ho;exact hnf vs hd
 refine wpAny_bind (wpAny_frameOf_fun hfr hl hf fun h₁ hs₁=>?_)
 refine wpAny_bind (wpAny_entryPlaceOf fun pl hpl=>?_)
 unfold EntryCells.newEntry newFields
 refine wpAny_bind (wpAny_newObj_type ?_ (hpl.sizeOk5 _ _ _ _ _))
 have he₁:h₁.get? e=some oe:=(hs₁.2.1 e hene).trans he
 have he₂:=Heap.get?_push_of_some (h:=h₁) { cls:=.type "traceback",dict:=none,data:=.fields ([head,.ref L,.none,rawInt L,.none] ++ (if pl.isEmpty then List.replicate 6 Value.none else pl)).toArray } he₁
 refine wpAny_setField he₂ hd hsz (h _ h₁.objs.size ?_ ?_ ?_)
 ·rw [hs₁.1];exact Heap.get?_none_of_le (Nat.le_refl _)
 ·intro b o hb hc
  have hbe:b≠e:=fun z=>hc (by rw [z];exact List.mem_singleton_self _)
  have keep:∀ o',h₁.get? b=some o' →
    ((h₁.push { cls:=.type "traceback",dict:=none,data:=.fields ([head,.ref L,.none,rawInt L,.none] ++ (if pl.isEmpty then List.replicate 6 Value.none else pl)).toArray }).update e (Obj.mapFields (·.setIfInBounds 1 (Value.ref h₁.objs.size)))).get? b=some o':=fun o' hb=>by
   rw [Heap.get?_update_other _ _ (Ne.symm hbe)]
   exact Heap.get?_push_of_some _ hb
  refine ⟨fun hn=>keep o ((hs₁.2.1 b hn).trans hb),?_⟩
  obtain ⟨sl,hs⟩:=hs₁.2.2 b o hb
  exact ⟨sl,keep _ hs⟩
 ·have hTe:h₁.objs.size≠e:=Nat.ne_of_gt (Heap.lt_size he₁)
  have hd₃:=Obj.data_mapFields hd (·.setIfInBounds 1 (Value.ref h₁.objs.size))
  have he₃:=Heap.get?_update_self (Obj.mapFields (·.setIfInBounds 1 (Value.ref h₁.objs.size))) he₂ (Obj.isFreed_of_fields hd₃)
  have hT₃:=(Heap.get?_update_other (h₁.push { cls:=.type "traceback",dict:=none,data:=.fields ([head,.ref L,.none,rawInt L,.none] ++ (if pl.isEmpty then List.replicate 6 Value.none else pl)).toArray })
   (Obj.mapFields (·.setIfInBounds 1 (Value.ref h₁.objs.size))) (Ne.symm hTe)).trans (Heap.get?_push_size h₁ rfl)
  exact ⟨_,_,_,_,he₃,⟨Obj.cls_mapFields _ _,zdB _ _⟩,hd₃,by simp [hsz],hTe,hT₃,rfl,by first | (simp;done) | (rcases hpl with rfl | ⟨_,_,_,_,_,_,_,rfl⟩ <;> simp)⟩
theorem zet {base:Heap} {env:Env} {outer:List Env} {L e:Addr} {oe:Obj} {vs:Array Value} {Q:Unit→Shared→Prop} (hfr:A.frames=some (env :: outer)) (hl:s.heap.FunFrames base (env :: outer)) (hf:env.frame=some L)
  (he:s.heap.get? e=some oe) (hd:oe.data = .fields vs) (h1:vs[1]? = some .none)
  (h:∀ h' T,s.heap.get? T=none→Slid ((env :: outer).filterMap (·.frame)) [e] s.heap h'→XAt h' e T oe.cls (rawInt L) oe.dict→Q () { s with heap:=h' }):wpAny M A (noteFrame (.ref e) env) Q E s:=by
 unfold noteFrame
 simp only [hf]
 refine wpAny_bind (wpAny_field he hd h1 ?_)
 rw [if_neg (by decide)]
 exact zhd hfr hl hf he hd (Array.getElem?_eq_some_iff.mp h1).1 h
theorem zcV {base:Heap} {env:Env} {outer:List Env} {L e T:Addr} {cls:Value} {od:Option Addr} {Q:Unit→Shared→Prop} (hfr:A.frames=some (env :: outer)) (hl:s.heap.FunFrames base (env :: outer)) (hf:env.frame=some L)
  (x:XAt s.heap e T cls .none od)
  (h:∀ h' T',s.heap.get? T'=none→Slid ((env :: outer).filterMap (·.frame)) [e,T] s.heap h'→XAt h' e T' cls (rawInt L) od→Q () { s with heap:=h' }):wpAny M A (noteFrame (.ref e) env) Q E s:=by
 obtain ⟨oe,vs,oT,ts,he,⟨hcls,hdn⟩,hd,h1,hTe,hT,hdT,h3⟩:=x
 subst hcls hdn
 unfold noteFrame
 simp only [hf]
 refine wpAny_bind (wpAny_field he hd h1 ?_)
 rw [if_pos (show (Value.ref T != Value.none)=true from by simp)]
 refine wpAny_bind (wpAny_field hT hdT h3 ?_)
 rw [if_neg (show ¬ ((Value.none == rawInt L)=true) from by simp [rawInt])]
 refine wpAny_bind (wpAny_setField hT hdT (Array.getElem?_eq_some_iff.mp h3).1 ?_)
 have other:∀ b,b≠T→(s.heap.update T (Obj.mapFields (·.setIfInBounds 3 Value.none))).get? b=s.heap.get? b:=fun b hb=>Heap.get?_update_other _ _ (Ne.symm hb)
 have noRecord:∀ b o,s.heap.get? b=some o→(∀ vs,o.data≠.fields vs)→b≠T:=fun b o hb hnf q=>by
  rw [q,hT] at hb;injection hb with hb;subst hb;exact hnf ts hdT
 refine zhd hfr (hl.of_keeps fun b o hb hnf=>⟨o,(other b (noRecord b o hb hnf)).trans hb,rfl⟩) hf ((other e (Ne.symm hTe)).trans he) hd (Array.getElem?_eq_some_iff.mp h1).1 fun h' T' fT sl x'=>h h' T' ?_ ?_ x'
 ·by_cases z:T'=T
  ·have hd':=Obj.data_mapFields hdT (·.setIfInBounds 3 Value.none)
   have q:=Heap.get?_update_self (Obj.mapFields (·.setIfInBounds 3 Value.none)) hT (Obj.isFreed_of_fields hd')
   rw [z,q] at fT;cases fT
  ·exact (other T' z).symm.trans fT
 ·refine Slid.trans (Slid.of fun b o e hc=>(other b fun z=>hc (by rw [z];simp)).trans e) (sl.mono (fun _ z=>z) fun b z=>by rw [List.mem_singleton.mp z];simp)
theorem zcM {e T:Addr} {cls fl:Value} {od:Option Addr} {Q:Unit→Shared→Prop} (x:XAt s.heap e T cls fl od) (h:∀ h',Slid [] [T] s.heap h'→XAt h' e T cls .none od→Q () { s with heap:=h' }):wpAny M A (setFlight (.ref e) none) Q E s:=by
 obtain ⟨oe,vs,oT,ts,he,hcls,hd,h1,hTe,hT,hdT,h3⟩:=x
 have hsz:=(Array.getElem?_eq_some_iff.mp h3).1
 refine wpAny_setFlight_none he hd h1 hT hdT hsz (h _ ?_ ?_)
 ·exact Slid.of fun b o e hc=>(Heap.get?_update_other _ _ fun z=>hc (by rw [z];exact List.mem_singleton_self _)).trans e
 ·have hd':=Obj.data_mapFields hdT (·.setIfInBounds 3 Value.none)
  have q:=Heap.get?_update_self (Obj.mapFields (·.setIfInBounds 3 Value.none)) hT (Obj.isFreed_of_fields hd')
  exact ⟨oe,vs,_,_,(Heap.get?_update_other _ _ hTe).trans he,hcls,hd,h1,hTe,q,hd',by simp [hsz]⟩
theorem zdR {base:Heap} {env:Env} {outer:List Env} {L e:Addr} {oe:Obj} {vs:Array Value} {Q:Unit→Shared→Prop} (hfr:A.frames=some (env :: outer)) (hl:s.heap.FunFrames base (env :: outer)) (hf:env.frame=some L)
  (he:s.heap.get? e=some oe) (hd:oe.data = .fields vs) (h1:vs[1]? = some .none)
  (h:∀ h' T,s.heap.get? T=none→Slid ((env :: outer).filterMap (·.frame)) [e] s.heap h'→XAt h' e T oe.cls .none oe.dict→Q () { s with heap:=h' }):wpAny M A (leaving env (.ref e)) Q E s:=by
 unfold leaving
 refine wpAny_bind (zet hfr hl hf he hd h1 fun h' T fT sl x=>zcM x fun h'' sl2 x2=>h h'' T fT ?_ x2)
 intro b o e hc
 obtain ⟨s1,t1,s2⟩:=sl b o e hc
 have nT:b ∉ [T]:=fun z=>by rw [List.mem_singleton.mp z,fT] at e;cases e
 refine ⟨fun hn=>(sl2 b o (s1 hn) nT).1 (by simp),?_⟩
 exact (sl2 b _ s2 nT).2
end
end L2
end
section
namespace L2
open PySem PySem.Spec PyProof.Rows HT
section
variable {P:Program} {w:World} {H H':Hp} {h h':Heap} {fs ch:List Addr}
theorem ObjOk.there {a:Addr} {o:HO} (x:ObjOk P w H h a o):∃ u,h.get? a=some u:=by
 cases o with
 | lst xs=>obtain ⟨_,_,_,_,e⟩:=x;exact ⟨_,e⟩
 | tup xs=>obtain ⟨_,_,_,p⟩:=x;obtain ⟨o,e,_⟩:=p;exact ⟨_,e⟩
 | dK kvs=>obtain ⟨_,_,_,_,o,_,_,e,_⟩:=x;exact ⟨_,e⟩
 | dT kvs=>obtain ⟨_,_,_,_,o,_,_,e,_⟩:=x;exact ⟨_,e⟩
 | set S n=>obtain ⟨o,_,_,_,e,_⟩:=x;exact ⟨_,e⟩
 | ins C dx fs=>obtain ⟨_,_,_,e,_⟩:=x;exact ⟨_,e⟩
 | own y=>obtain ⟨_,e⟩:=x;exact ⟨_,e⟩
 | xd fs=>obtain ⟨_,⟨_,_,_,e,_⟩,_⟩:=x;exact ⟨_,e⟩
 | rng lo hi=>obtain ⟨_,_,_,e⟩:=x;exact ⟨_,e⟩
 | frz ob u=>obtain ⟨e,_⟩:=x;exact ⟨_,e⟩
 | tbl ps=>exact ⟨_,x⟩
 | met f y=>exact ⟨_,x⟩
 | ext φ=>obtain ⟨_,⟨_,e⟩,_⟩:=x;exact ⟨_,e⟩
theorem HOk.none_of {a:Addr} (x:HOk P w H h) (e:h.get? a=none):H a=none:=by
 cases q:H a with
 | none=>rfl
 | some o=>obtain ⟨u,z⟩:=(x a o q).there;rw [e] at z;cases z
theorem HOk.slid (x:HOk P w H h) (sl:Slid fs ch h h') (hf:∀ b∈fs,H b=none) (hc:∀ b∈ch,H b=none):HOk P w H h':=fun a o e=>by
 refine (x a o e).stay (fun b u hb q=>?_) (fun _ z=>z) (fun _ _ z=>z)
 have hs:∃ o',H b=some o':=by
  rcases hb with rfl | z
  ·exact ⟨_,e⟩
  ·exact ⟨_,z⟩
 obtain ⟨o',hs⟩:=hs
 exact (sl b u q fun z=>by rw [hc b z] at hs;cases hs).1 fun z=>by rw [hf b z] at hs;cases hs
end
section
variable {X:Cx} {pins:List (Addr×Obj)} {σ:St} {H:Hp} {s:Shared} {h':Heap} {ch:List Addr}
theorem Inv.slid (I:Inv X pins σ H s) (sl:Slid (frs X.stack) ch s.heap h')
  (hc:∀ b∈ch,H b=none∧X.s₀.heap.get? b=none∧b≠X.env.locals∧(∀ x c,X.env.cells.lookup x=some c→c≠b)∧∀ p∈X.pn ++ pins,p.1≠b):Inv X pins σ H { s with heap:=h' }:=by
 have nch:∀ b o,X.s₀.heap.get? b=some o→b ∉ ch:=fun b o e z=>by rw [(hc b z).2.1] at e;cases e
 have nst:∀ b o,X.s₀.heap.get? b=some o→b ∉ X.fs→b ∉ frs X.stack:=fun b o e hb z=>by
  rcases List.mem_cons.mp (I.stkSub b z) with q | q
  ·exact absurd q (Nat.ne_of_lt (Nat.lt_of_lt_of_le (Heap.lt_size e) I.ok.above))
  ·exact hb q
 have slot:∀ b o,s.heap.get? b=some o→b ∉ ch→∃ sl,h'.get? b=some { o with slots:=sl }:=fun b o e n=>(sl b o e n).2
 refine ⟨I.ok,I.os,I.bare,⟨fun b o e n hb hx=>?_,fun b o e n hb hx=>?_,I.base.free,fun b o e hx=>?_,I.base.tups,I.base.frzs,I.base.tbls⟩,?_,fun y c e=>?_,I.free,I.freeC,fun p hp=>?_,I.hok.slid sl (fun b hb=>I.stkFree b hb) (fun b hb=>(hc b hb).1),I.len⟩
 ·exact (sl b o (I.base.keep b o e n hb hx) (nch b o e)).1 (nst b o e hb)
 ·obtain ⟨t,e1⟩:=I.base.slot b o e n hb hx
  obtain ⟨t2,e2⟩:=slot b _ e1 (nch b o e)
  exact ⟨t2,e2⟩
 ·obtain ⟨o',e1⟩:=I.base.there b o e hx
  obtain ⟨t2,e2⟩:=slot b _ e1 (nch b o e)
  exact ⟨_,e2⟩
 ·obtain ⟨m,⟨o,es,ep,ho,hd,r⟩,hl⟩:=I.loc
  obtain ⟨t,e1⟩:=slot _ _ ho fun z=>(hc _ z).2.2.1 rfl
  refine ⟨m,⟨_,es,ep,e1,hd,r⟩,fun i x v e2 e3 e4=>?_⟩
  obtain ⟨u,ru,q⟩:=hl i x v e2 e3 e4
  refine ⟨u,ru,?_⟩
  rcases q with q | ⟨k,c,e,oc,hoc,hod⟩
  ·exact .inl q
  ·obtain ⟨t2,e5⟩:=slot _ _ hoc fun z=>(hc _ z).2.2.2.1 x c e rfl
   exact .inr ⟨k,c,e,_,e5,hod⟩
 ·obtain ⟨v,oc,hoc,hod⟩:=I.cell y c e
  obtain ⟨t2,e5⟩:=slot _ _ hoc fun z=>(hc _ z).2.2.2.1 y c e rfl
  exact ⟨v,_,e5,hod⟩
 ·obtain ⟨e,n,ne,nf,d⟩:=I.pin p hp
  refine ⟨(sl p.1 p.2 e fun z=>(hc _ z).2.2.2.2 p hp rfl).1 fun z=>?_,n,ne,nf,d⟩
  rcases List.mem_cons.mp (I.stkSub _ z) with q | q
  ·exact ne q
  ·exact nf q
theorem Inv.none_ours (I:Inv X pins σ H s) {b:Addr} (hb:s.heap.get? b=none) (hx:b ∉ X.ex):X.s₀.heap.get? b=none∧b≠X.env.locals∧(∀ x c,X.env.cells.lookup x=some c→c≠b)∧∀ p∈X.pn ++ pins,p.1≠b:=by
 refine ⟨?_,fun z=>?_,fun x c e z=>?_,fun p hp z=>?_⟩
 ·cases q:X.s₀.heap.get? b with
  | none=>rfl
  | some o=>obtain ⟨o',e⟩:=I.base.there b o q hx;rw [e] at hb;cases hb
 ·obtain ⟨m,⟨o,es,ep,ho,_⟩,_⟩:=I.loc
  rw [← z,hb] at ho;cases ho
 ·obtain ⟨v,oc,hoc,_⟩:=I.cell x c e
  rw [z,hb] at hoc;cases hoc
 ·obtain ⟨e,_⟩:=I.pin p hp
  rw [z,hb] at e;cases e
end
def CX1 (P:Program) (w:World):CXT:=fun outer H s E e s'=>∃ ea T H' C od,e = .ref ea∧s'.os=s.os∧AllBare s'.gens∧Un (frs outer) [] H H' s.heap s'.heap∧HOk P w H' s'.heap∧XAt s'.heap ea T (.ref C) .none od ∧
 s.heap.get? ea=none∧s.heap.get? T=none∧H' ea=none∧H' T=none∧E (.ref C) od H'
end L2
end
section
namespace L2
open PySem PySem.Spec PyProof.Rows HT
def NsK (K:PySem.W.Frag) (N:Addr):Prop:=∃ c d es ep sl,K.lookup N=some ⟨c,d,.dict es ep,sl⟩∧StrKeys es∧nsFind es "__init__" = none
def bmV:List Value:=[.type "ValueError",.type "Exception",.type "BaseException",.type "object"]
inductive TailK (K:PySem.W.Frag):List Value→Prop
 | base:TailK K bmV
 | own {A:Addr} {c0:Value} {dd:Option Addr} {cd:ClassData} {sl:Array (Option Value)} {tl:List Value}:K.lookup A=some ⟨c0,dd,.cls cd,sl⟩→NsK K cd.ns→TailK K tl→TailK K (.ref A :: tl)
theorem NsK.ns {K:PySem.W.Frag} {N:Addr} {h:Heap} (x:NsK K N) (k:K.In h):∃ m,h.Ns N m∧m "__init__" = none:=by
 obtain ⟨c,d,es,ep,sl,e,hs,hi⟩:=x
 exact ⟨nsFind es,⟨_,es,ep,k _ _ e,rfl,hs,fun _=>rfl⟩,hi⟩
theorem TailK.tail {K:PySem.W.Frag} {bm:List Value} {h:Heap} (x:TailK K bm) (k:K.In h):OwnTail h bmV bm:=by
 induction x with
 | base=>exact .base
 | own e n _ ih =>
  obtain ⟨m,hn,hi⟩:=n.ns k
  exact .own (k _ _ e) hn hi ih
section
variable {X:Cx} {x:Str} {C:Addr} {e:Expr} {te:TE} {np cpos pos:Pos} {R:Hp→Prop}
end
end L2
end
section
namespace L2
open PySem PySem.Spec PyProof.Rows HT
theorem PS.nox {X:Cx} {st:Stmt} {t:TS} (h:PS X.nox st t):PS X st t:=fun pins s σ H D I hw =>
 wpAny_mono (h pins s σ H D (I.wish _) hw) (fun _ _ q=>q.unwish) fun _ _ z=>False.elim z
theorem Fun.okX {P:Program} {w:World} {K:PySem.W.Frag} {mg:Str→Option Value} {base:Heap} {x qual:Str} {st:Stmt} {f:Addr} {fd:FuncData} {N ps:List Str} {k:Nat} {sp:Sp} (F:Fun K x qual st f fd) (S:FnScope N ps (zai st)) (len:∀ vs H Q E,sp vs H Q E→vs.length=ps.length)
  (hbody:∀ (cdv:Value) (A:Around) (outer:List Env) (s:Shared) (H:Hp) (vs:List V) (Q:VK) (E:XK),Room k (A.deeper (envOfC qual (zai st) s.heap.objs.size f cdv))→sp vs H Q E →
   ∃ t,PSs (cxOf (CX1 P w) P w K mg base N qual (zai st) f cdv A outer s H E) (zaK st) t∧t { nx:=fun _ H'=>Q .non H',rt:=Q } (start N vs) H):FnOk P w K mg base (CX1 P w) (k+1) f fd ps sp:=by
 obtain ⟨oc,od,kV,doc,pm,an,cdv,ct,osl,rfl,lk,hcd⟩:=F.ex
 exact zjI lk hcd S len fun A outer s H vs Q E hr hsp=>hbody cdv A outer s H vs Q E hr hsp
structure CalX (P:Program) (w:World) (K:PySem.W.Frag) (mg:Str→Option Value) (base:Heap) (k:Nat) (x:Str) (ps:List Str) (sp:Sp):Prop where
 ex:∃ f fd,FnOk P w K mg base (CX1 P w) k f fd ps sp∧mg x=some (.ref f)∧PySem.W.keepIn K (.ref f)=true∧Binds K fd ps []
abbrev Cx.marked (X:Cx) (e:Value):Cx:={ X with A:=X.A.mark (some e),calm:=false }
theorem Inv.marked {X:Cx} {pins:List (Addr×Obj)} {σ:St} {H:Hp} {s:Shared} (I:Inv X pins σ H s) (e:Value):Inv (X.marked e) pins σ H s:=
 ⟨⟨I.ok.mod,I.ok.kind,I.ok.glob,I.ok.blt,I.ok.above,I.ok.inj,I.ok.has,I.ok.cab,(fun z=>nomatch z),I.ok.frames,I.ok.stk,I.ok.exf,I.ok.bs,I.ok.bsz,I.ok.noex,I.ok.exfs,I.ok.funs,I.ok.frf⟩,I.os,I.bare,I.base,I.loc,I.cell,I.free,I.freeC,I.pin,I.hok,I.len⟩
theorem Inv.unmarked {X:Cx} {pins:List (Addr×Obj)} {σ:St} {H:Hp} {s:Shared} {e:Value} (hd:X.calm=true→X.A.handled=none) (I:Inv (X.marked e) pins σ H s):Inv X pins σ H s:=
 ⟨⟨I.ok.mod,I.ok.kind,I.ok.glob,I.ok.blt,I.ok.above,I.ok.inj,I.ok.has,I.ok.cab,hd,I.ok.frames,I.ok.stk,I.ok.exf,I.ok.bs,I.ok.bsz,I.ok.noex,I.ok.exfs,I.ok.funs,I.ok.frf⟩,I.os,I.bare,I.base,I.loc,I.cell,I.free,I.freeC,I.pin,I.hok,I.len⟩
def xIs (ea:Addr) (cls:Value) (od:Option Addr):Heap→Prop:=fun h=>∃ o vs,h.get? ea=some o∧(o.cls=cls∧o.dict=od)∧o.data = .fields vs
section
variable {X:Cx} {pins:List (Addr×Obj)} {σ:St} {H:Hp} {s:Shared}
theorem Inv.trackX {ea:Addr} {cls:Value} {od:Option Addr} (I:Inv X pins σ H s) (hn:H ea=none) (ho:xIs ea cls od s.heap) (h:X.s₀.heap.get? ea=none∧ea≠X.env.locals∧(∀ x c,X.env.cells.lookup x=some c→c≠ea)∧∀ p∈X.pn ++ pins,p.1≠ea):Inv X pins σ (upd H ea (.ext (xIs ea cls od))) s:=by
 have up:∀ b o,H b=some o→upd H ea (.ext (xIs ea cls od)) b=some o:=fun b o e=>by rw [zah (fun z=>by rw [z,hn] at e;cases e)];exact e
 refine ⟨I.ok,I.os,I.bare,⟨I.base.keep,I.base.slot,fun b o e n hx=>?_,I.base.there,fun b xs e=>up _ _ (I.base.tups b xs e),fun b o u e=>up _ _ (I.base.frzs b o u e),fun b ps e=>?_⟩,I.loc,I.cell,?_,fun x c e=>?_,fun p hp=>?_,fun a o e=>?_,I.len⟩
 ·rw [zah (fun z=>by rw [z,h.1] at e;cases e)];exact I.base.free b o e n hx
 ·obtain ⟨more,q⟩:=I.base.tbls b ps e
  exact ⟨more,up _ _ q⟩
 ·rw [zah (Ne.symm h.2.1)];exact I.free
 ·rw [zah (h.2.2.1 x c e)];exact I.freeC x c e
 ·obtain ⟨e,n,r⟩:=I.pin p hp
  exact ⟨e,by rw [zah (h.2.2.2 p hp)];exact n,r⟩
 ·by_cases z:a=ea
  ·subst z
   rw [zab] at e
   cases e
   obtain ⟨oo,vs,e1,e2,e3⟩:=id ho
   refine ⟨ho,⟨oo,e1⟩,fun h1 h2 ⟨o1,v1,q1,q2,q3⟩ k=>⟨o1,v1,k _ q1,q2,q3⟩⟩
  ·rw [zah z] at e
   exact (I.hok a o e).stay (fun _ _ _ q=>q) (fun b q=>up _ _ q) fun b xs q=>up _ _ q
theorem Inv.unname {h':Heap} {m:Str→Option Value} {j:Nat} {n:Str} {u:Option Value} {t':Nat} (I:Inv X pins σ H s) (hN:X.N.Nodup) (hj:X.N[j]? = some n) (hk:X.env.scope.names.lookup n=some .local)
  (hm:s.heap.Ns X.env.locals m) (hn':h'.Ns X.env.locals (fun x=>if x=n then u else m x)) (hs:Heap.SameBut X.env.locals s.heap h'):Inv X pins (σ.set j none) H { s with heap:=h',toks:=t' }:=by
 have hjσ:j<σ.length:=by rw [I.len];exact (List.getElem?_eq_some_iff.mp hj).1
 have nl:∀ b o,X.s₀.heap.get? b=some o→b≠X.env.locals:=fun b o e=>Nat.ne_of_lt (Nat.lt_of_lt_of_le (Heap.lt_size e) I.ok.above)
 have cne:=I.cne
 refine ⟨I.ok,I.os,I.bare,⟨fun b o e n hb hx=>(hs.2 b (nl b o e)).trans (I.base.keep b o e n hb hx),fun b o e n hb hx=>?_,I.base.free,fun b o e hx=>?_,I.base.tups,I.base.frzs,I.base.tbls⟩,⟨_,hn',fun i y v' e1 e2 e3=>?_⟩,fun y c e=>?_,I.free,I.freeC,fun p hp=>?_,fun b ob e=>?_,by simpa using I.len⟩
 ·obtain ⟨sl,e1⟩:=I.base.slot b o e n hb hx
  exact ⟨sl,(hs.2 b (nl b o e)).trans e1⟩
 ·obtain ⟨o',e1⟩:=I.base.there b o e hx
  exact ⟨o',(hs.2 b (nl b o e)).trans e1⟩
 ·have hi:i≠j:=fun z=>by rw [z,List.getElem?_set_self hjσ] at e2;cases e2
  rw [List.getElem?_set_ne (Ne.symm hi)] at e2
  obtain ⟨m0,hn0,hl⟩:=I.loc
  obtain ⟨u',r',q⟩:=hl i y v' e1 e2 e3
  refine ⟨u',r',?_⟩
  rcases q with ⟨k,e⟩ | ⟨k,c,e,z⟩
  ·refine .inl ⟨k,?_⟩
   have ny:y≠n:=fun e=>hi (zeh hN e1 (e ▸ hj))
   have em:m0=m:=by
    obtain ⟨o1,es1,ep1,g1,d1,_,f1⟩:=hn0
    obtain ⟨o2,es2,ep2,g2,d2,_,f2⟩:=hm
    rw [g1] at g2;cases g2
    rw [d1] at d2;cases d2
    funext x;rw [← f1,← f2]
   show (if y=n then u else m y)=_
   rw [if_neg ny,← em];exact e
  ·exact .inr ⟨k,c,e,z.sameBut hs (cne y c e)⟩
 ·obtain ⟨w',z⟩:=I.cell y c e
  exact ⟨w',z.sameBut hs (cne y c e)⟩
 ·obtain ⟨e,n,ne,nf,d⟩:=I.pin p hp
  exact ⟨(hs.2 p.1 ne).trans e,n,ne,nf,d⟩
 ·refine (I.hok b ob e).stay (fun c w' hc q=>(hs.2 c ?_).trans q) (fun _ q=>q) fun _ _ q=>q
  rintro rfl
  have hf:=I.free
  rcases hc with z | hc
  ·rw [z] at hf;rw [hf] at e;cases e
  ·rw [hf] at hc;cases hc
end
end L2
end
section
namespace L2
open PySem PySem.Spec PyProof.Rows HT
section
variable {X:Cx} {k:Nat} {ps:List Str} {sp:Sp} {x fn cn n y:Str} {i j l:Nat} {Cb:Addr} {e:Expr} {t:TA} {px p1 p2 p3 p4 p5 p6 p7 p8 p9:Pos}
end
end L2
end
section
namespace L2
open PySem PySem.Spec PyProof.Rows HT PySem.W PySem.Calls
section
variable {prog:Program} {w:World} {A:Around} {E:Value→Shared→Prop} {s:Shared} {K:Frag} {x C:Addr} {ox:Obj} {oD:Option Obj}
structure XCls (K:Frag) (C:Addr):Prop where
 look:∃ c d cd sl,K.lookup C=some ⟨c,d,.cls cd,sl⟩
 ga:findIn K (.ref C) "__getattribute__" = some (some (.builtin "BaseException.__getattribute__"))
 gr:findIn K (.ref C) "__getattr__" = some none
 cf:∀ oD:Option Obj,findObj K C oD "__class__" = some (.bind (.builtin "getset_descriptor.__get__") (.builtin "object.__class__"))
 sub:subIn K (.ref C) (.type "BaseException")=some true
 mro:mroIn K C (.type "object")=some true
end
section
variable {X:Cx} {K:Frag}
theorem zhF:∀ {Ds:List Addr} {its:List Value},Vals (Ds.map V.ref) its→its=Ds.map Value.ref
 | [],_,r=>by cases r;rfl
 | D :: Ds,_,r=>by
  cases r with
  | cons a b=>rw [zhF b];rw [show _=Value.ref D from a];rfl
end
end L2
end
section
namespace L2
open PySem PySem.Spec PyProof.Rows HT
theorem FnOk.calm {P:Program} {w:World} {K:PySem.W.Frag} {mg:Str→Option Value} {base:Heap} {k:Nat} {f:Addr} {fd:FuncData} {ps:List Str} {sp:Sp} (F:FnOk P w K mg base (CX1 P w) k f fd ps sp) :
  FnOk P w K mg base CX0 k f fd ps (fun vs H Q _=>sp vs H Q fun _ _ _=>False):=
 ⟨fun vs H Q E h=>F.len vs H Q _ h,fun A outer s H args us vs Q E hr he hb hv hs=>codeAny_mono (F.run A outer s H args us vs Q _ hr he hb hv hs) fun r s' h=>by
  cases r with
  | ok fl=>cases fl <;> exact h
  | error e=>obtain ⟨_,_,_,_,_,_,_,_,_,_,_,_,_,_,_,z⟩:=h;exact z.elim⟩
section
variable {X:Cx} {K:PySem.W.Frag}
theorem zdI (hK:X.K=K):OpR X (compareOp .In) (rIn K false):=by subst hK;exact zhU
end
end L2
end
section
namespace L2
open PySem PySem.Spec PyProof.Rows HT
theorem ziT {P:Program} {w:World} {K:PySem.W.Frag} {mg:Str→Option Value} {base:Heap} {N:List Str} {qual:Str} {scope:Scope} {f:Addr} {cd:Value} {A:Around} {outer:List Env} {s:Shared} {H:Hp} {E:XK} :
  Passes (CX1 P w) (cxOf (CX1 P w) P w K mg base N qual scope f cd A outer s H E) E:=by
 intro pins σ H1 s1 ev s' I hq
 obtain ⟨ea,T,H',C,od,rfl,os,bare,un,hok,xa,f1,f2,n1,n2,hE⟩:=hq
 have J:Inv (cxOf (CX1 P w) P w K mg base N qual scope f cd A outer s H E) pins σ H' s':=I.call' (ch:=[]) os un hok bare (fun b z=>absurd z (by simp))
 have b1:=J.base
 have o1:=I.none_ours f1 (show ea ∉ ([]:List Addr) by simp)
 have o2:=I.none_ours f2 (show T ∉ ([]:List Addr) by simp)
 show wpAny _ _ (leaving _ (.ref ea)) _ _ s'
 unfold leaving
 refine wpAny_bind (zcV J.ok.frames J.stack (L:=s.heap.objs.size) rfl xa fun h1 T2 fT2 sl x2=>zcM x2 fun h2 sl2 x3=>?_)
 have oT:s.heap.get? T2=none:=(J.none_ours fT2 (show T2 ∉ ([]:List Addr) by simp)).1
 have o1':s.heap.get? ea=none:=o1.1
 have o2':s.heap.get? T=none:=o2.1
 have nT2:∀ b o,s.heap.get? b=some o→b ∉ [T2]:=fun b o q z=>by rw [List.mem_singleton.mp z,oT] at q;cases q
 have ne:∀ b o,s.heap.get? b=some o→b ∉ [ea,T]:=fun b o q z=>by
  rcases List.mem_cons.mp z with r | r
  ·rw [r,o1'] at q;cases q
  ·rw [List.mem_singleton.mp r,o2'] at q;cases q
 have nL:∀ b o,s.heap.get? b=some o→b ∉ frs outer→b ∉ ((envOfC qual scope s.heap.objs.size f cd) :: outer).filterMap (·.frame):=fun b o q hb z=>by
  rcases List.mem_cons.mp (show b∈s.heap.objs.size :: outer.filterMap (·.frame) from z) with r | r
  ·exact absurd r (Nat.ne_of_lt (Heap.lt_size q))
  ·exact hb r
 have J1:HOk P w H' h1:=J.hok.slid sl (fun b hb=>J.stkFree b hb) fun b hb=>by
  rcases List.mem_cons.mp hb with rfl | hb
  ·exact n1
  ·rw [List.mem_singleton.mp hb];exact n2
 have n3:H' T2=none:=J.hok.none_of fT2
 refine ⟨ea,T2,H',C,od,rfl,J.os,J.bare,⟨fun b o q n hb _=>?_,fun b o q n hb _=>?_,fun b o q n _=>b1.free b o q n (by show b ∉ ([]:List Addr);simp),fun b o q _=>?_,b1.tups,b1.frzs,b1.tbls⟩,?_,x3,o1',oT,n1,n3,hE⟩
 ·have q1:=(sl b o (b1.keep b o q n hb (by show b ∉ ([]:List Addr);simp)) (ne b o q)).1 (nL b o q hb)
  exact (sl2 b o q1 (nT2 b o q)).1 (by simp)
 ·obtain ⟨t1,e1⟩:=b1.slot b o q n hb (by show b ∉ ([]:List Addr);simp)
  obtain ⟨t2,e2⟩:=(sl b _ e1 (ne b o q)).2
  exact (sl2 b _ e2 (nT2 b o q)).2.elim fun t3 e3=>⟨t3,e3⟩
 ·obtain ⟨o',e1⟩:=b1.there b o q (by show b ∉ ([]:List Addr);simp)
  obtain ⟨t2,e2⟩:=(sl b _ e1 (ne b o q)).2
  obtain ⟨t3,e3⟩:=(sl2 b _ e2 (nT2 b o q)).2
  exact ⟨_,e3⟩
 ·exact J1.slid sl2 (fun b hb=>nomatch hb) fun b hb=>by rw [List.mem_singleton.mp hb];exact n3
section
variable {P:Program} {w:World} {K:PySem.W.Frag} {mg:Str→Option Value} {base:Heap} {N:List Str} {qual:Str} {scope:Scope} {f:Addr} {cd:Value} {A:Around} {outer:List Env} {s:Shared} {H:Hp} {E:XK}
variable {k:Nat} {ps:List Str} {sp:Sp} {x:Str} {p pos:Pos} {e:Expr} {es:List Expr} {t:TA}
end
end L2
end
section
namespace L2
open PySem PySem.Spec PyProof.Rows HT
section
variable {X:Cx} {k:Nat} {ps:List Str} {sp:Sp} {x fn cn n y:Str} {i j l:Nat} {Cb:Addr} {e:Expr} {es:List Expr} {t:TA} {px p1 p2 p3 p4 p5 p6 p7 p8 p9:Pos}
end
end L2
end
section
namespace L2
open PySem PySem.Spec PyProof.Rows HT
theorem ze0 {prog:Program} {w:World} {A:Around} (hh:A.handled=none) (it l:Addr) (hne:l≠it) (items:Array Value) :
  Draws prog w A it [it,l] items.size (fun i v=>items[i]? = some v) (fun i h=>IsIt true h it l i∧IsSq true h l items) where
 live:=fun _ _ st=>let ⟨o,ho,_⟩:=st.1;⟨o,ho⟩
 frame:=fun _ _ _ st hk=>⟨st.1.at fun o e=>hk it (by simp) o e,st.2.at fun o e=>hk l (by simp) o e⟩
 item:=fun i s Q E hi st hQ=>by
  refine zfE st.1 st.2 (x:=items[i]) (by simp [hi]) fun h' hit' hs'=>?_
  exact hQ _ h' s.toks (by simp [hi]) ⟨hit',st.2.at fun o e=>hs'.extBut l o hne e⟩ hs'
 done:=fun s Q E st hE=>zj7 hh st.1 st.2 (by simp) hE
theorem zbI (l:Addr) (items:Array Value) (n:Nat) (dct:Option Addr) (sl:Array (Option Value)) :
  Meets (Builtin.«enumerate.__new__» ⟨[.type "enumerate",.ref l],[]⟩) (fun _ R s=>s.heap.get? l=some { cls:=.type "tuple",dict:=dct,data:=.seq items n,slots:=sl } ∧
   R (.ok (.ret (.ref (s.heap.push { cls:=.type "tuple_iterator",data:=.fields #[.ref l,.int 0 0] }).objs.size)))
    { s with heap:=(s.heap.push { cls:=.type "tuple_iterator",data:=.fields #[.ref l,.int 0 0] }).push { cls:=.type "enumerate",data:=.fields #[.none,.bool false,.ref s.heap.objs.size,rawInt 0,.none,.none] } }):=
 .of_wp fun prog w A R s h=>by
  obtain ⟨hp,g,d,tk,os⟩:=s;obtain ⟨hl,h⟩:=h
  have hsub:=sub_enumerate
  have hL:Heap.IsTuple (Shared.heap ⟨hp,g,d,tk,os⟩) l items:=⟨_,hl,rfl,n,rfl⟩
  wp_walk using wpAny_loadPart' hl
  refine wpAny_stack_any fun st=>wpAny_pure ?_
  split
  ·rename_i c _ _ _ _ _
   cases (c == Value.type "enumerate")
   ·wp_walk using wpAny_loadPart' hl,wpAny_pyIter_tuple hL
    exact ⟨_,rfl,h⟩
   ·wp_walk using wpAny_loadPart' hl,wpAny_pyIter_tuple hL
    exact ⟨_,rfl,h⟩
  ·wp_walk using wpAny_loadPart' hl,wpAny_pyIter_tuple hL
   exact ⟨_,rfl,h⟩
theorem zcj {prog:Program} {w:World} {A:Around} {E:Value→Shared→Prop} {s:Shared} {l:Addr} {items:Array Value} {Q:Value→Shared→Prop} (hL:IsSq true s.heap l items)
  (h:∀ h',IsEnum h' (s.heap.objs.size+1) s.heap.objs.size 0 .none→IsIt true h' s.heap.objs.size l 0→h'.objs.size=s.heap.objs.size+2 →
   (∀ b o,s.heap.get? b=some o→h'.get? b=some o)→Q (.ref (s.heap.objs.size+1)) { s with heap:=h' }) :
  wpAny (model prog w) A (call (.type "enumerate") [.ref l]) Q E s:=by
 obtain ⟨⟨c,dct,dt,sl⟩,hl,hc,n,hd⟩:=hL
 replace hc:c = .type "tuple" := hc
 replace hd:dt = .seq items n:=hd
 subst hc hd
 refine callType_new F.called_enumerate (by decide) (F.typeCall_enumerate_1 _) (F.newCall_enumerate_1 _) (fun obj=>F.args_object_init_2 obj _) F.entry_enumerate_new
  (zbI l items n dct sl) ⟨hl,?_⟩
 have hz:(s.heap.push { cls:=.type "tuple_iterator",data:=.fields #[.ref l,.int 0 0] }).objs.size=s.heap.objs.size+1:=Heap.size_push ..
 show _∧_
 rw [hz]
 have he:IsEnum ((s.heap.push { cls:=.type "tuple_iterator",data:=.fields #[.ref l,.int 0 0] }).push
   { cls:=.type "enumerate",data:=.fields #[.none,.bool false,.ref s.heap.objs.size,rawInt 0,.none,.none] }) (s.heap.objs.size+1) s.heap.objs.size 0 .none:=by
  have:=Heap.get?_push_size (s.heap.push { cls:=.type "tuple_iterator",data:=.fields #[.ref l,.int 0 0] })
   (o:={ cls:=.type "enumerate",data:=.fields #[.none,.bool false,.ref s.heap.objs.size,rawInt 0,.none,.none] }) rfl
  rw [hz] at this;exact this
 refine ⟨⟨_,he,rfl⟩,h _ he ⟨_,Heap.get?_push_of_some _ (Heap.get?_push_size _ rfl),rfl,rfl⟩ (by rw [Heap.size_push,hz]) fun b o x=>Heap.get?_push_of_some _ (Heap.get?_push_of_some _ x)⟩
def IteT (K:PySem.W.Frag) (a:Addr):It:=
 ⟨fun i H=>∃ xs x,SqT K H a xs∧xs[i]? = some x,
  fun i H v H'=>∃ T x,H T=none∧v = .ref T∧H'=upd H T (.tup [.int i,x])∧∀ xs,SqT K H a xs→xs[i]? = some x,
  fun i H=>∃ xs,SqT K H a xs∧xs.length=i⟩
theorem zgw {P:Program} {w:World} {K:PySem.W.Frag} {elts:List Expr} {kt:Nat} {tp:Pos} (a e it:Addr) (hne:e≠it) :
  Turn P w K (.Tuple elts kt tp) (IteT K a) [e,it] e (fun i h=>(∃ old,IsEnum h e it i old)∧IsIt true h it a i) where
 mem:=by simp
 obj:=fun i h st b hb=>by
  obtain ⟨⟨old,he⟩,hi⟩:=st
  rcases List.mem_cons.mp hb with z | z
  ·subst z
   exact ⟨_,he,fun v z=>by
    have z':Data.fields _=Data.cell v:=z
    cases z'⟩
  ·have z:=List.mem_singleton.mp z
   subst z
   obtain ⟨o,e1,c,d⟩:=hi
   exact ⟨o,e1,fun v z=>by rw [d] at z;cases z⟩
 keep:=fun i h h' st k=>by
  obtain ⟨⟨old,he⟩,hi⟩:=st
  exact ⟨⟨old,k e (by simp) _ he⟩,hi.at fun o e1=>k it (by simp) o e1⟩
 item:=by
  intro X hP hw hK hc i pins s σ H E I hf st hg
  subst hP hw hK
  obtain ⟨xs,x,hq,hx⟩:=hg
  obtain ⟨its,rv,p,hz⟩:=I.tuple hq
  obtain ⟨u,hu,ru⟩:=rv.get hx
  obtain ⟨⟨old,he⟩,hi⟩:=st
  have hsq:IsSq true s.heap a its.toArray:=p
  have cls:∀ b o,s.heap.get? b=some o→o.cls≠.type "tuple" → a≠b:=fun b o e nc z=>by
   obtain ⟨oa,ea,ca,_⟩:=hsq
   rw [z,e] at ea;cases ea;exact nc ca
  have hai:a≠it:=by
   obtain ⟨o,e1,c,_⟩:=id hi
   exact cls it o e1 (by rw [c];decide)
  have hae:a≠e:=cls e _ he (by show Value.type "enumerate" ≠ Value.type "tuple"; decide)
  have hlt:i<its.toArray.size:=by
   have:=(List.getElem?_eq_some_iff.mp hu).1
   simpa using this
  refine wpAny_pyNext_enum_itemD (ze0 (prog:=X.prog) (w:=X.w) (A:=X.A.in1) (show X.A.in1.handled=none from I.ok.hd hc) it a hai its.toArray) he ⟨hi,hsq⟩ hlt hne (by simp [hne,Ne.symm hae]) fun x' h' tk hx' ho st' ht hsz kk=>⟨_,rfl,?_⟩
  have ex:x'=u:=by
   have e1:its[i]? = some x':=by simpa using hx'
   rw [hu] at e1;cases e1;rfl
  subst ex
  refine wpAny_letOwnedTupleGo_enum ho fun h2 he2 sb=>?_
  have fT:FpOk X pins H s.heap.objs.size:=I.fpOk (Nat.le_refl _) (I.hok.fresh (Nat.le_refl _))
  have k2:∀ b o,b ∉ [e,it]→s.heap.get? b=some o→h2.get? b=some o:=fun b o hb e1=>by
   simp only [List.mem_cons,List.mem_nil_iff,or_false,not_or] at hb
   exact (sb.2 b hb.1).trans (kk b o hb.1 hb.2 e1)
  have I1:Inv X pins σ H { s with heap:=h2,toks:=tk+1 }:=I.turnedL (ch:=[e,it]) k2 hf
  have eT:h2.get? s.heap.objs.size=some { cls:=.type "tuple",data:=.seq #[.int i tk,x'] }:=(sb.2 _ (Nat.ne_of_gt (Heap.lt_size he))).trans ht
  have I2:=I1.track (o:=.tup [.int i,x]) fT (Nat.le_trans I.sz (Nat.le_refl _)) (zcW ⟨_,rfl⟩ ru eT)
  refine ⟨.ref s.heap.objs.size,_,I2,rfl,⟨_,x,fT.1,rfl,rfl,fun ys hy=>by rw [I.tuple_inj hy hq];exact hx⟩,⟨⟨x',by exact_mod_cast he2⟩,st'.1.at fun o e1=>sb.extBut it o (Ne.symm hne) e1⟩,fun b hb=>?_⟩
  obtain ⟨o,eb⟩:∃ o,s.heap.get? b=some o:=by
   rcases List.mem_cons.mp hb with z | z
   ·subst z;exact ⟨_,he⟩
   ·have z:=List.mem_singleton.mp z
    subst z
    obtain ⟨o,e1,_⟩:=hi
    exact ⟨o,e1⟩
  rw [zah (Nat.ne_of_lt (Heap.lt_size eb))]
  exact (hf b hb).1
 done:=by
  intro X hP hw hK hc i pins s σ H E I hf st hg
  subst hP hw hK
  obtain ⟨xs,hq,hx⟩:=hg
  obtain ⟨its,rv,p,hz⟩:=I.tuple hq
  obtain ⟨⟨old,he⟩,hi⟩:=st
  have hl:=rv.length
  have hsq:IsSq true s.heap a its.toArray:=p
  have hai:a≠it:=fun z=>by
   obtain ⟨oa,ea,ca,_⟩:=id hsq
   obtain ⟨o,e1,c,_⟩:=id hi
   rw [z,e1] at ea;cases ea
   rw [c] at ca;exact absurd ca (by decide)
  have en:its.toArray.size=i:=by rw [List.size_toArray];omega
  refine wpAny_pyNext_enum_endD (ze0 (prog:=X.prog) (w:=X.w) (A:=X.A.in1) (show X.A.in1.handled=none from I.ok.hd hc) it a hai its.toArray) he (by rw [en];exact ⟨hi,hsq⟩) fun h' eb=>⟨rfl,I.turnedL (t':=s.toks) (ch:=[e,it]) (fun b o hb e1=>eb b o (fun z=>hb (by simp [z])) e1) hf⟩
 self:=fun _ _ _ _ _ st h=>by
  obtain ⟨⟨old,he⟩,hi⟩:=st
  exact wpAny_pyIter_enum he h
def iEnumT (K:PySem.W.Frag) (ta:TA):TI:=fun σ H R=>ta σ H fun vs H1=>∃ a,vs=[.ref a]∧(∃ xs,SqT K H1 a xs)∧R (IteT K a) H1
theorem zcP {X:Cx} {a:Expr} {ta:TA} {p pos:Pos} {elts:List Expr} {kt:Nat} {tp:Pos} (hg:Gl X "enumerate") (hm:X.mg "enumerate" = none) (ha:PA X [a] ta) (hs:starEach [a] X.env=[(false,eval a X.env)]:=by rfl) :
  PI X (.Tuple elts kt tp) (.Call (.Name "enumerate" p) [a] [] pos) (iEnumT X.K ta):=by
 intro pins s σ H R I h
 refine Call_ (zdn I hg hm boot_enumerate (PyProof.Rows.callWith_type1 (thn (ha pos pins s σ H _ I h) fun us s1 ⟨vs,H1,I1,r1,q1⟩=>?_) hs rfl))
 obtain ⟨l,e,⟨xs,hq⟩,q⟩:=q1
 subst e
 obtain ⟨u,rfl,ru⟩:=zcC r1
 cases ru
 obtain ⟨its,rv,pl,hz⟩:=I1.tuple hq
 refine zcj (items:=its.toArray) pl fun h' he hi hsz kk=>?_
 refine wpAny_pyIter_enum he ?_
 have I2:Inv X pins σ H1 { s1 with heap:=h',toks:=s1.toks }:=I1.kept kk
 refine ⟨s1.heap.objs.size+1,[s1.heap.objs.size+1,s1.heap.objs.size],_,_,H1,rfl,I2,zgw l _ _ (Nat.succ_ne_self _),⟨⟨_,he⟩,hi⟩,fun b hb=>?_,q⟩
 rcases List.mem_cons.mp hb with z | z
 ·subst z;exact I1.fpOk (Nat.le_succ _) (I1.hok.fresh (Nat.le_succ _))
 ·have z:=List.mem_singleton.mp z
  subst z;exact I1.fpOk (Nat.le_refl _) (I1.hok.fresh (Nat.le_refl _))
theorem zce {K:PySem.W.Frag} {a:Addr} {xs:List V} {g:TG} {tb:TS} {D:Ends} {σ:St} {H:Hp} (Pv:Nat→St→Hp→Prop) (h0:Pv 0 σ H) (hl:∀ i σ H,i≤xs.length→Pv i σ H→SqT K H a xs)
  (hs:∀ i x T σ H,xs[i]? = some x→H T=none→Pv i σ H→g (.ref T) σ (upd H T (.tup [.int i,x])) fun σ2 H2=>tb { D with nx:=Pv (i+1),ct:=Pv (i+1),bk:=D.nx } σ2 H2) (hd:∀ σ H,Pv xs.length σ H→D.nx σ H) :
  ∃ W:Nat→Nat→St→Hp→Prop,(∃ m,W 0 m σ H)∧∀ i m σ H,W i m σ H →
   ((IteT K a).stop i H∧D.nx σ H)∨((IteT K a).go i H∧∃ N:St→Hp→Prop,(∀ σ' H',N σ' H'→∃ m',m'<m∧W (i+1) m' σ' H')∧∀ x H',(IteT K a).yld i H x H'→g x σ H' fun σ2 H2=>tb { D with nx:=N,ct:=N,bk:=D.nx } σ2 H2):=by
 refine ⟨fun i m σ H=>m=xs.length - i∧i≤xs.length∧Pv i σ H,⟨xs.length,by simp,Nat.zero_le _,h0⟩,?_⟩
 rintro i m σ H ⟨rfl,hi,p⟩
 have q:=hl i σ H hi p
 by_cases hlt:i<xs.length
 ·refine .inr ⟨⟨xs,xs[i],q,by simp [hlt]⟩,Pv (i+1),fun σ' H' p'=>⟨xs.length - (i+1),by omega,rfl,hlt,p'⟩,fun v H' y=>?_⟩
  obtain ⟨T,x,hT,rfl,rfl,y⟩:=y
  exact hs i x T σ _ (y xs q) hT p
 ·have e:i=xs.length:=by omega
  subst e
  exact .inl ⟨⟨xs,q,rfl⟩,hd σ H p⟩
end L2
end
section
namespace L2
open PySem PySem.Spec PyProof.Rows HT
section
variable {prog:Program} {w:World} {A:Around} {E:Value→Shared→Prop} {s:Shared}
theorem zc3 {r:Addr} {Q:Value→Shared→Prop} (h:wpAny (model prog w) A.in1 (collect (.ref r)) (fun vs s1=>vs.length≤sizeLine∧wpAny (model prog w) A.in1.in1 (Builtin.«list.sort» ⟨[.ref s1.heap.objs.size],[]⟩)
   (fun fin s2=>fin = .done (.ret .none)∧Q (.ref s1.heap.objs.size) s2) E { s1 with heap:=s1.heap.push (seqObj "list" vs.toArray 0) }) E s) :
  wpAny (model prog w) A (call (.builtin "sorted") [.ref r]) Q E s:=by
 refine Calls.call_function_entry kind_sorted plain_sorted entry_sorted (args_sorted1 _) ?_
 unfold Builtin.«sorted»
 refine wpAny_bind (m:=checkCount "sorted" 1 1 _) (wpAny_pure ?_)
 refine wpAny_bind (wpAny_mono h (fun vs s1 ⟨hz,h⟩=>?_) fun _ _ e=>e)
 refine wpAny_bind (wpAny_newList ?_ hz)
 refine wpAny_bind (wpAny_holding (wpAny_call_entry slot_list_sort ⟨_,Heap.get?_push_size _ rfl,rfl⟩ entry_list_sort (wpAny_mono h (fun fin s2 ⟨e,q⟩=>?_) fun _ _ e=>e) (args_list_sort _)))
 subst e
 exact ⟨_,rfl,wpAny_pure ⟨_,rfl,q⟩⟩
end
theorem zgf:∀ {vs:List Value} {ns:List Int},vs.length=ns.length→(∀ (j:Nat) (v:Value),vs[j]? = some v→∃ n t,ns[j]? = some n∧v = .int n t)→IntsAre vs ns
 | [],[],_,_=>.nil
 | v :: vs,n :: ns,hl,h=>by
  obtain ⟨m,t,e,rfl⟩:=h 0 v rfl
  cases e
  exact .cons _ _ (zgf (by simpa using hl) fun j v hv=>h (j+1) v hv)
 | [],_ :: _,hl,_=>by simp at hl
 | _ :: _,[],hl,_=>by simp at hl
theorem zdp {κ:Type}:∀ {kvs:List (κ×V)} {vs:List (κ×Value)},KV kvs vs→vs.length=kvs.length
 | _,_,.nil=>rfl
 | _,_,.cons _ r=>by rw [List.length_cons,List.length_cons,zdp r]
theorem zh5 {κ:Type}:∀ {kvs:List (κ×V)} {vs:List (κ×Value)},KV kvs vs→∀ (j:Nat) (k:κ) (x:Value),vs[j]? = some (k,x)→∃ y,kvs[j]? = some (k,y)∧RelV y x
 | _,_,.nil,j,k,x,h=>by simp at h
 | _,_,.cons (a:=a) hp r,0,k,x,h=>by
  obtain ⟨a1,a2⟩:=a
  cases h
  obtain ⟨e,rr⟩:=hp
  exact ⟨a2,by rw [show a1=k from e];rfl,rr⟩
 | _,_,.cons _ r,j+1,k,x,h=>zh5 r j k x h
section
variable {X:Cx}
theorem ze5 (hc:X.calm=true):zbY X (.builtin "sorted") (fun xs H Q=>∃ (a:Addr) (kvs:List (Key×V)) (ks:List Int),xs=[.ref a]∧H a=some (.dK kvs)∧kvs.map (·.1)=ks.map Sum.inl∧ks.length<64 ∧
  ∀ (l:Addr) (ns:List Int),H l=none→ns.Perm ks→ns.Pairwise (·≤·)→Q (.ref l) (upd H l (.lst (ns.map V.int)))):=by
 intro pins s σ H xs us Q I r h
 obtain ⟨a,kvs,ks,rfl,e,hk,h64,q⟩:=h
 obtain ⟨u,rfl,r1⟩:=zcC r
 obtain rfl:u=Value.ref a:=r1
 obtain ⟨hz,lo,vs,rel,dd⟩:=zjK I.hok e
 obtain ⟨ep,hat⟩:=dd.dictAt
 have hl:vs.length=kvs.length:=zdp rel
 have hl2:kvs.length=ks.length:=by have:=congrArg List.length hk;simpa using this
 refine zc3 (PySem.W.kdu_collect (PySem.W.kdl_dict (knd:=zaz X.prog X.w) (kvs:=vs) (ep:=ep) lo) (I.ok.hd hc) hat (by omega) fun h' tk acc kp it=>⟨by rw [Array.length_toList,it.1,hl];exact hz,?_⟩)
 have hI:IntsAre acc.toList ks:=zgf (by rw [Array.length_toList,it.1];omega) fun j v hv=>by
  obtain ⟨k,x,hx,hkey⟩:=it.2 j v (by rw [← Array.getElem?_toList];exact hv)
  obtain ⟨y,hy,_⟩:=zh5 rel j k x hx
  have e1:(kvs.map (·.1))[j]? = some k:=by rw [List.getElem?_map,hy];rfl
  rw [hk,List.getElem?_map] at e1
  obtain ⟨n,hn,rfl⟩:=Option.map_eq_some_iff.mp e1
  rcases zaB (show zeQ (Sum.inl n) v=true from hkey) with ⟨i,t,e2,e3⟩ | ⟨_,_,e2,_⟩
  ·cases e2;exact ⟨_,t,hn,e3⟩
  ·cases e2
 refine list_sort_tree (s:={ s with heap:=h'.push (seqObj "list" acc.toList.toArray 0),toks:=tk }) (Heap.get?_push_size _ rfl) hI (by rw [Array.length_toList,it.1];omega) fun out ns a1 a2 a3=>⟨rfl,?_⟩
 have hsz:h'.objs.size<(h'.push (seqObj "list" acc.toList.toArray 0)).objs.size:=by rw [Heap.size_push];exact Nat.lt_succ_self _
 have I2:Inv X pins σ H { s with heap:=h',toks:=tk }:=I.kept kp
 obtain ⟨c,hc'⟩:=sortedHeap_at (a:=h'.objs.size) (vs:=acc.toList) (out:=out) (Heap.get?_push_size (h:=h') (o:=seqObj "list" acc.toList.toArray 0) rfl)
 refine ⟨.ref _,_,I2.laid (t':=tk) (o:=.lst (ns.map V.int)) (fun b o eb=>?_) (Nat.le_refl _) ?_,rfl,q _ ns (I2.hok.fresh (Nat.le_refl _)) a2 a3⟩
 ·have hb:=Heap.lt_size eb
  rw [sortedHeap_old (Nat.ne_of_lt hb) (Nat.lt_trans hb hsz)]
  exact Heap.get?_push_of_some _ eb
 ·refine ⟨?_,out.toList,_,zbZ a1,by simpa [seqObj] using hc'⟩
  rw [List.length_map,a2.length_eq]
  exact Nat.le_trans (Nat.le_of_lt h64) (by decide)
def vwD (p a:Addr):Heap→Prop:=fun h=>h.IsItemsView p a
theorem zjq:MtR X "dict.items" (fun x vs H Q=>∃ (a:Addr) (kvs:List (Key×V)),x = .ref a∧vs=[]∧H a=some (.dK kvs)∧∀ p,H p=none→Q (.ref p) (upd H p (.ext (vwD p a)))):=by
 rintro pins s σ H x vs v us Q I rx rv ⟨a,kvs,rfl,rfl,e,q⟩
 obtain rfl:v=Value.ref a:=rx
 have hus:=rv.zero
 subst hus
 obtain ⟨hz,lo,vs,rel,dd⟩:=zjK I.hok e
 refine call_meetsIn PySem.F.slot_dict_items dd.typeIs PySem.F.entry_dict_items (PySem.F.args_dict_items_1 _) (meets_dict_items (zaz X.prog X.w) a lo) ⟨⟨vs,dd⟩,?_⟩
 refine ⟨.ref s.heap.objs.size,_,I.laid (t':=s.toks) (o:=.ext (vwD s.heap.objs.size a)) (fun b o eb=>Heap.get?_push_of_some _ eb) (Nat.le_refl _) ?_,rfl,q _ (I.hok.fresh (Nat.le_refl _))⟩
 have g:(s.heap.push { cls:=.type "dict_items",data:=.fields #[.ref a] }).get? s.heap.objs.size=some { cls:=.type "dict_items",data:=.fields #[.ref a] }:=Heap.get?_push_size _ rfl
 exact ⟨⟨_,g,rfl,rfl⟩,⟨_,g⟩,fun h1 h2 ⟨o1,q1,q2,q3⟩ k=>⟨o1,k _ q1,q2,q3⟩⟩
end
end L2
end
section
namespace L2
open PySem PySem.Spec PyProof.Rows HT
section
variable {prog:Program} {w:World} {A:Around} {E:Value→Shared→Prop} {s:Shared}
def tupI (k v:Int) (t u:Tok):Obj:={ cls:=.type "tuple",data:=.seq #[.int k t,.int v u] }
theorem zlj (C:Nat→Nat→(Bool→Shared→Prop)→Shared→Prop) (G:Array Nat→Shared→Prop) (b:Bool) (s1:Shared) (hc:∀ K:Bool→Shared→Prop,K b s1→C 1 0 K s1) (hG:G (if b=true then #[1,0] else #[0,1]) s1):(PySem.W.kas_sort 2).kasWp C G s1:=by
 refine hc _ ?_
 cases b with
 | true=>exact hG
 | false=>exact hG
theorem zi0 {a x y:Addr} {n:Nat} {P:PySem.Fin→Shared→Prop} {k1 v1 k2 v2:Int} {t1 u1 t2 u2:Tok} (ho:s.heap.get? a=some (seqObj "list" [Value.ref x,Value.ref y].toArray n)) (hx:s.heap.get? x=some (tupI k1 v1 t1 u1)) (hy:s.heap.get? y=some (tupI k2 v2 t2 u2)) (hxa:x≠a) (hya:y≠a) (hne:k2≠k1)
  (h:P (.done (.ret .none)) { s with heap:=sortedHeap s.heap a [Value.ref x,Value.ref y] (if k2<k1 then #[Value.ref y,Value.ref x] else #[Value.ref x,Value.ref y]) }) :
  wpAny (model prog w) A (Builtin.«list.sort» ⟨[.ref a],[]⟩) P E s:=by
 rw [list_sort_plain]
 have ha:a<s.heap.objs.size:=Heap.lt_size ho
 refine wpAny_bind (listItems_at ho rfl ?_)
 refine wpAny_bind (listUpdate_at ho rfl ?_ (by show 2≤sizeLine;decide) (Nat.zero_le _))
 obtain ⟨e1,ho1⟩:∃ e1,(s.heap.update a (Obj.mapSeq fun _=>#[])).get? a=some (seqObj "list" #[] e1):=⟨_,get?_update_seq ho (fun _=>#[])⟩
 refine wpAny_bind (seqEpoch_at ho1 rfl ?_)
 refine wpAny_bind (wpAny_newTuple ?_ (by show 2≤sizeLine;decide))
 refine wpAny_bind (wpAny_newList ?_ (Nat.zero_le _))
 refine wpAny_holding ?_
 have ho6:(((s.heap.update a (Obj.mapSeq fun _=>#[])).push (seqObj "tuple" [Value.ref x,Value.ref y].toArray 0)).push (seqObj "list" #[] 0)).get? a=some (seqObj "list" #[] e1):=by
  rw [Heap.get?_push_ne _ _ _ (by rw [size_push',Heap.size_update];exact Nat.ne_of_lt (Nat.lt_succ_of_lt ha)),Heap.get?_push_ne _ _ _ (by rw [Heap.size_update];exact Nat.ne_of_lt ha)]
  exact ho1
 have oth:∀ b o,b≠a→s.heap.get? b=some o→(((s.heap.update a (Obj.mapSeq fun _=>(#[]:Array Value))).push (seqObj "tuple" [Value.ref x,Value.ref y].toArray 0)).push (seqObj "list" #[] 0)).get? b=some o:=fun b o hb e =>
  Heap.get?_push_of_some _ (Heap.get?_push_of_some _ ((Heap.get?_update_other _ _ (Ne.symm hb)).trans e))
 have hx6:=oth x _ hxa hx
 have hy6:=oth y _ hya hy
 show wpAny (model prog w) A _ P E { s with heap:=((s.heap.update a (Obj.mapSeq fun _=>#[])).push (seqObj "tuple" [Value.ref x,Value.ref y].toArray 0)).push (seqObj "list" #[] 0) }
 dsimp only
 have hn2:¬ [Value.ref x,Value.ref y].toArray.size<2:=by simp
 rw [if_neg hn2,if_neg hn2]
 refine wpAny_bind (PySem.W.kat_kind (vs:=[.ref x,.ref y]) (fs:=[.int k1 t1,.int k2 t2]) (T:=.type "int") (.cons hx6 rfl rfl rfl (.cons hy6 rfl rfl rfl .nil)) (by show 0<2;decide) (fun v hv=>?_) rfl ?_)
 ·rcases List.mem_cons.mp hv with rfl | hv
  ·exact PySem.W.Looks.of_pure rfl
  ·rw [List.mem_singleton.mp hv];exact PySem.W.Looks.of_pure rfl
 refine wpAny_bind (wpAny_mono (PySem.W.kat_run (ks:=[Value.ref x,Value.ref y]) (vs:=[Value.ref x,Value.ref y]) (G:=fun p s'=>p=(if decide (k2<k1)=true then #[1,0] else #[0,1])∧s'={ s with heap:=((s.heap.update a (Obj.mapSeq fun _=>(#[]:Array Value))).push (seqObj "tuple" [Value.ref x,Value.ref y].toArray 0)).push (seqObj "list" #[] 0) })
  (Q:=fun st' s'=>(∃ p:Array Nat,p=(if decide (k2<k1)=true then #[1,0] else #[0,1])∧arrOf st'=p.map (PySem.W.kas_item ([Value.ref x,Value.ref y].toArray.zip [Value.ref x,Value.ref y].toArray))∧failedOf st'=none)∧s'={ s with heap:=((s.heap.update a (Obj.mapSeq fun _=>(#[]:Array Value))).push (seqObj "tuple" [Value.ref x,Value.ref y].toArray 0)).push (seqObj "list" #[] 0) })
  rfl (by show 2≤2;decide) (by show 2<64;decide) (fun p st' s' _ a2 a3 a4=>⟨⟨p,a4.1,a2,a3⟩,a4.2⟩) (zlj _ _ (decide (k2<k1)) _ (fun K hK=>?_) ⟨rfl,rfl⟩)) ?_ fun _ _ e=>e)
 ·show wpAny (model prog w) A (keyLt' (tuples' true) (.ref y) (.ref x)) K (fun _ _=>False) _
  refine PySem.W.kat_lt hy6 rfl hx6 rfl ?_
  show wpAny (model prog w) A (eqBool (.int k2 t2) (.int k1 t1)) _ _ _
  refine wpAny_eqBool_int ?_
  have e:(k2 == k1)=false:=by simpa using hne
  rw [e]
  show wpAny (model prog w) A (oneLt' (true && 0 == 0) (.int k2 t2) (.int k1 t1)) K _ _
  exact oneLt_int hK
 ·rintro ⟨⟨⟩,st'⟩ s' ⟨⟨p,hp,har,hf⟩,rfl⟩
  dsimp only
  have hout:=PySem.W.kat_snds (ks:=[Value.ref x,Value.ref y]) (vs:=[Value.ref x,Value.ref y]) rfl har
  rw [hout]
  have eo:List.toArray (p.toList.map fun i=>[Value.ref x,Value.ref y].getD i Value.none)=(if k2<k1 then #[Value.ref y,Value.ref x] else #[Value.ref x,Value.ref y]):=by
   rw [hp]
   by_cases z:k2<k1 <;> simp [z]
  rw [eo]
  refine wpAny_bind (seqEpoch_at ho6 rfl ?_)
  refine wpAny_bind (listUpdate_at ho6 rfl ?_ (Nat.zero_le _) (by split <;> (show 2≤sizeLine+1;decide)))
  rw [hf]
  simp only [bne_self_eq_false,Bool.false_eq_true,if_false]
  exact wpAny_pure h
end
end L2
end
section
set_option autoImplicit false
namespace L2
open PySem PySem.Spec PyProof.Rows HT Cb
section
variable {prog:Program} {w:World} {A:Around} {E:Value→Shared→Prop} {s:Shared}
theorem zf3 {a:Addr} {vs:List Value} {n:Nat} {P:PySem.Fin→Shared→Prop} (ho:s.heap.get? a=some (seqObj "list" vs.toArray n)) (hf:vs.length<2)
  (h:P (.done (.ret .none)) { s with heap:=sortedHeap s.heap a vs vs.toArray }):wpAny (model prog w) A (Builtin.«list.sort» ⟨[.ref a],[]⟩) P E s:=by
 rw [list_sort_plain]
 have ha:a<s.heap.objs.size:=Heap.lt_size ho
 have hz:vs.length≤sizeLine:=Nat.le_trans (Nat.le_of_lt hf) (by decide)
 refine wpAny_bind (listItems_at ho rfl ?_)
 refine wpAny_bind (listUpdate_at ho rfl ?_ (by rw [List.size_toArray];exact hz) (Nat.zero_le _))
 obtain ⟨e1,ho1⟩:∃ e1,(s.heap.update a (Obj.mapSeq fun _=>#[])).get? a=some (seqObj "list" #[] e1):=⟨_,get?_update_seq ho (fun _=>#[])⟩
 refine wpAny_bind (seqEpoch_at ho1 rfl ?_)
 refine wpAny_bind (wpAny_newTuple ?_ hz)
 refine wpAny_bind (wpAny_newList ?_ (Nat.zero_le _))
 refine wpAny_holding ?_
 have ho6:(((s.heap.update a (Obj.mapSeq fun _=>#[])).push (seqObj "tuple" vs.toArray 0)).push (seqObj "list" #[] 0)).get? a=some (seqObj "list" #[] e1):=by
  rw [Heap.get?_push_ne _ _ _ (by rw [size_push',Heap.size_update];exact Nat.ne_of_lt (Nat.lt_succ_of_lt ha)),Heap.get?_push_ne _ _ _ (by rw [Heap.size_update];exact Nat.ne_of_lt ha)]
  exact ho1
 show wpAny (model prog w) A _ P E { s with heap:=((s.heap.update a (Obj.mapSeq fun _=>#[])).push (seqObj "tuple" vs.toArray 0)).push (seqObj "list" #[] 0) }
 dsimp only
 have h2:vs.toArray.size<2:=by rw [List.size_toArray];exact hf
 rw [if_pos h2,if_pos h2]
 refine wpAny_bind (wpAny_pure ?_)
 rw [StateT.run_pure]
 refine wpAny_bind (wpAny_pure ?_)
 dsimp only
 have eo:(arrOf (SortSt.mk' general' (vs.toArray.zip vs.toArray) #[] 7 none)).map (·.2)=vs.toArray:=by
  show (vs.toArray.zip vs.toArray).map (·.2)=vs.toArray
  apply Array.ext
  ·simp
  ·intro i h1 h2;simp
 rw [eo]
 refine wpAny_bind (seqEpoch_at ho6 rfl ?_)
 refine wpAny_bind (listUpdate_at ho6 rfl ?_ (Nat.zero_le _) (by show vs.toArray.size≤sizeLine+1;rw [List.size_toArray];omega))
 show wpAny (model prog w) A _ P E _
 simp only [bne_self_eq_false,Bool.false_eq_true,if_false]
 exact wpAny_pure h
end
def srt2:List (Int×Int)→List (Int×Int)
 | [x,y]=>if y.1<x.1 then [y,x] else [x,y]
 | l=>l
def knV (kn:List (Int×Int)):List (Key×V):=kn.map fun q=>(Sum.inl q.1,V.int q.2)
theorem zfw {P:Program} {w:World} {kn:List (Int×Int)} {vs:List (Key×Value)} {lo:Addr} {h:Heap} {as:List Addr} (rel:KV (knV kn) vs) (g:PySem.W.KdxG (zaz P w) vs lo h as) {j:Nat} {b:Addr} {q:Int×Int} (hb:as[j]? = some b) (hq:kn[j]? = some q) :
  ∃ t u,h.get? b=some (tupI q.1 q.2 t u):=by
 obtain ⟨key,k,x,hx,hkey,hg⟩:=g.pairs j b hb
 obtain ⟨y,hy,ry⟩:=zh5 rel j k x hx
 have e1:(knV kn)[j]? = some (Sum.inl q.1,V.int q.2):=by unfold knV;rw [List.getElem?_map,hq];rfl
 rw [e1] at hy
 cases hy
 obtain ⟨u,rfl⟩:=(show ∃ u,x=Value.int q.2 u from ry)
 rcases zaB (show zeQ (Sum.inl q.1) key=true from hkey) with ⟨i,t,e2,e3⟩ | ⟨_,_,e2,_⟩
 ·cases e2;subst e3;exact ⟨t,u,hg⟩
 ·cases e2
section
variable {X:Cx}
theorem ze4 (hc:X.calm=true):zbY X (.builtin "sorted") (fun xs H Q=>∃ (p a:Addr) (kn:List (Int×Int)),xs=[.ref p]∧H p=some (.ext (vwD p a))∧H a=some (.dK (knV kn))∧kn.length≤2∧(kn.map (·.1)).Nodup ∧
  ∀ (l:Addr) (ts:List Addr) (H':Hp),ts.length=kn.length→H l=none→Same H H'→H' l=some (.lst (ts.map V.ref))→(∀ (j:Nat) (t:Addr) (q:Int×Int),ts[j]? = some t→(srt2 kn)[j]? = some q→H t=none∧H' t=some (.tup [.int q.1,.int q.2]))→Q (.ref l) H'):=by
 intro pins s σ H xs us Q I r h
 obtain ⟨p,a,kn,rfl,ep,e,h2,nd,q⟩:=h
 obtain ⟨u,rfl,r1⟩:=zcC r
 obtain rfl:u=Value.ref p:=r1
 obtain ⟨hv,_,_⟩:=(show ObjOk X.prog X.w H s.heap p (.ext (vwD p a)) from I.hok p _ ep)
 obtain ⟨hz,lo,vs,rel,dd⟩:=zjK I.hok e
 obtain ⟨epc,hat⟩:=dd.dictAt
 have hl:vs.length=kn.length:=by rw [zdp rel];unfold knV;rw [List.length_map]
 have hlz:vs.length≤sizeLine:=by rw [hl];exact Nat.le_trans h2 (by decide)
 refine zc3 (PySem.W.kdx_collect (knd:=zaz X.prog X.w) (kvs:=vs) (ep:=epc) (I.ok.hd hc) hv hat hlz fun h' tk as kp hla hG=>⟨by rw [List.length_map,hla];exact hlz,?_⟩)
 have I2:Inv X pins σ H { s with heap:=h',toks:=tk }:=I.kept kp
 have hsz:h'.objs.size<(h'.push (seqObj "list" (as.map Value.ref).toArray 0)).objs.size:=by rw [Heap.size_push];exact Nat.lt_succ_self _
 have hoL:(h'.push (seqObj "list" (as.map Value.ref).toArray 0)).get? h'.objs.size=some (seqObj "list" (as.map Value.ref).toArray 0):=Heap.get?_push_size _ rfl
 have kpF:∀ (out:Array Value) b o,h'.get? b=some o→(sortedHeap (h'.push (seqObj "list" (as.map Value.ref).toArray 0)) h'.objs.size (as.map Value.ref) out).get? b=some o:=fun out b o eb=>by
  have hb:=Heap.lt_size eb
  rw [sortedHeap_old (Nat.ne_of_lt hb) (Nat.lt_trans hb hsz)]
  exact Heap.get?_push_of_some _ eb
 have frs:∀ b∈as,s.heap.objs.size≤b:=fun b hb=>Nat.le_of_lt (hG.above b hb)
 have hlk:as.length=kn.length:=by rw [hla,hl]
 have lst:∀ (out:List Addr) (H2:Hp) (I3:Inv X pins σ H2 { s with heap:=h',toks:=tk }),out.length≤2→Inv X pins σ (upd H2 h'.objs.size (.lst (out.map V.ref))) { s with heap:=sortedHeap (h'.push (seqObj "list" (as.map Value.ref).toArray 0)) h'.objs.size (as.map Value.ref) (out.map Value.ref).toArray,toks:=tk }:=fun out H2 I3 ho=>by
  obtain ⟨c,hc'⟩:=sortedHeap_at (a:=h'.objs.size) (vs:=as.map Value.ref) (out:=(out.map Value.ref).toArray) hoL
  refine I3.laid (t':=tk) (o:=.lst (out.map V.ref)) (kpF _) (Nat.le_refl _) ⟨?_,out.map Value.ref,_,?_,by simpa [seqObj] using hc'⟩
  ·rw [List.length_map];exact Nat.le_trans ho (by decide)
  ·clear hc' ho
   induction out with
   | nil=>exact .nil
   | cons b r ih=>exact .cons rfl ih
 match kn,as,hlk,h2,nd,rel,hG,lst,q,frs with
 | [],[],_,_,_,_,_,lst,q,_ =>
  refine zf3 (s:={ s with heap:=h'.push (seqObj "list" _ 0),toks:=tk }) hoL (by show 0<2;decide) ⟨rfl,?_⟩
  exact ⟨.ref _,_,lst [] H I2 (by decide),rfl,q _ [] _ rfl (I2.hok.fresh (Nat.le_refl _)) (zad (I2.hok.fresh (Nat.le_refl _))) zab fun j t qq e1 _=>by simp at e1⟩
 | [q1],[b],_,_,_,rel,hG,lst,q,frs =>
  obtain ⟨t1,u1,g1⟩:=zfw rel hG (j:=0) (b:=b) (q:=q1) rfl rfl
  have fb:H b=none:=I.hok.fresh (frs b (by simp))
  have I3:=I2.track (o:=.tup [.int q1.1,.int q1.2]) (I.fpOk (frs b (by simp)) fb) (Nat.le_trans I.sz (frs b (by simp))) (zcW ⟨_,rfl⟩ ⟨_,rfl⟩ g1)
  refine zf3 (s:={ s with heap:=h'.push (seqObj "list" _ 0),toks:=tk }) hoL (by show 1<2;decide) ⟨rfl,?_⟩
  have fl:(upd H b (.tup [.int q1.1,.int q1.2])) h'.objs.size=none:=I3.hok.fresh (Nat.le_refl _)
  refine ⟨.ref _,_,lst [b] _ I3 (by show 1≤2;decide),rfl,q _ [b] _ rfl (I2.hok.fresh (Nat.le_refl _)) ((zad fb).trans (zad fl)) zab fun j t qq e1 e2=>?_⟩
  match j,e1,e2 with
  | 0,e1,e2 =>
   cases e1;cases e2
   exact ⟨fb,zad fl _ _ zab⟩
  | j+1,e1,_=>simp at e1
 | [q1,q2],[b,d],_,_,nd,rel,hG,lst,q,frs =>
  obtain ⟨t1,u1,g1⟩:=zfw rel hG (j:=0) (b:=b) (q:=q1) rfl rfl
  obtain ⟨t2,u2,g2⟩:=zfw rel hG (j:=1) (b:=d) (q:=q2) rfl rfl
  have hbd:b≠d:=by
   have:=hG.rise
   have h3:b<d:=by simpa using this
   exact Nat.ne_of_lt h3
  have fb:H b=none:=I.hok.fresh (frs b (by simp))
  have fd:H d=none:=I.hok.fresh (frs d (by simp))
  have fd':(upd H b (.tup [.int q1.1,.int q1.2])) d=none:=by rw [zah (Ne.symm hbd)];exact fd
  have I3:=I2.track (o:=.tup [.int q1.1,.int q1.2]) (I.fpOk (frs b (by simp)) fb) (Nat.le_trans I.sz (frs b (by simp))) (zcW ⟨_,rfl⟩ ⟨_,rfl⟩ g1)
  have I4:=I3.track (o:=.tup [.int q2.1,.int q2.2]) (I.fpOk (frs d (by simp)) fd') (Nat.le_trans I.sz (frs d (by simp))) (zcW ⟨_,rfl⟩ ⟨_,rfl⟩ g2)
  have fl:(upd (upd H b (.tup [.int q1.1,.int q1.2])) d (.tup [.int q2.1,.int q2.2])) h'.objs.size=none:=I4.hok.fresh (Nat.le_refl _)
  have sm:=(zad fb).trans ((zad (o:=.tup [.int q2.1,.int q2.2]) fd').trans (zad (o:=.lst ([b,d].map V.ref)) fl))
  have hlb:=Heap.lt_size g1
  have hld:=Heap.lt_size g2
  have hne:q2.1≠q1.1:=by
   have:¬ q1.1=q2.1:=by simpa using nd
   exact fun z=>this z.symm
  refine zi0 (s:={ s with heap:=h'.push (seqObj "list" _ 0),toks:=tk }) (x:=b) (y:=d) hoL (Heap.get?_push_of_some _ g1) (Heap.get?_push_of_some _ g2) (Nat.ne_of_lt hlb) (Nat.ne_of_lt hld) hne ⟨rfl,?_⟩
  have hb9:∀ o,upd (upd (upd H b (.tup [.int q1.1,.int q1.2])) d (.tup [.int q2.1,.int q2.2])) h'.objs.size o b=some (.tup [.int q1.1,.int q1.2]):=fun o=>zad fl _ _ (by rw [zah hbd];exact zab)
  have hd9:∀ o,upd (upd (upd H b (.tup [.int q1.1,.int q1.2])) d (.tup [.int q2.1,.int q2.2])) h'.objs.size o d=some (.tup [.int q2.1,.int q2.2]):=fun o=>zad fl _ _ zab
  by_cases z:q2.1<q1.1
  ·rw [if_pos z]
   refine ⟨.ref _,_,lst [d,b] _ I4 (by show 2≤2;decide),rfl,q _ [d,b] _ rfl (I2.hok.fresh (Nat.le_refl _)) ((zad fb).trans ((zad fd').trans (zad fl))) zab fun j t qq e1 e2=>?_⟩
   rw [show srt2 [q1,q2]=[q2,q1] from if_pos z] at e2
   match j,e1,e2 with
   | 0,e1,e2=>cases e1;cases e2;exact ⟨fd,hd9 _⟩
   | 1,e1,e2=>cases e1;cases e2;exact ⟨fb,hb9 _⟩
   | j+2,e1,_=>simp at e1
  ·rw [if_neg z]
   refine ⟨.ref _,_,lst [b,d] _ I4 (by show 2≤2;decide),rfl,q _ [b,d] _ rfl (I2.hok.fresh (Nat.le_refl _)) ((zad fb).trans ((zad fd').trans (zad fl))) zab fun j t qq e1 e2=>?_⟩
   rw [show srt2 [q1,q2]=[q1,q2] from if_neg z] at e2
   match j,e1,e2 with
   | 0,e1,e2=>cases e1;cases e2;exact ⟨fb,hb9 _⟩
   | 1,e1,e2=>cases e1;cases e2;exact ⟨fd,hd9 _⟩
   | j+2,e1,_=>simp at e1
end
end L2
end
section
set_option autoImplicit false
namespace L2
open PySem PySem.Spec PyProof.Rows HT Cb
def TupsI (h:Heap) (items:Array Value) (nss:Nat→List Int):Prop:=∀ (i:Nat) (v:Value),items[i]? = some v→∃ (t:Addr) (its:Array Value),v = .ref t∧IsTup h t its∧IntsAre its.toList (nss i)
theorem TupsI.kept {h h':Heap} {items:Array Value} {nss:Nat→List Int} (x:TupsI h items nss) {bad:List Addr} (hb:∀ b∈bad,∀ o,h.get? b=some o→o.cls≠.type "tuple") (k:∀ b o,b ∉ bad→h.get? b=some o→h'.get? b=some o):TupsI h' items nss:=fun i v e=>by
 obtain ⟨t,its,rfl,⟨o,ho,hc,r⟩,hI⟩:=x i v e
 exact ⟨t,its,rfl,⟨o,k t o (fun z=>hb t z o ho hc) ho,hc,r⟩,hI⟩
section
variable {prog:Program} {w:World} {A:Around} {E:Value→Shared→Prop}
theorem zjr {l I S:Addr} {items:Array Value} {nss:Nat→List Int} (hh:A.handled=none) (hu:A.in1.units<cLine) (hlI:l≠I) (hSl:S≠l) (hSI:S≠I) {R:Result→Shared→Prop} :
  ∀ (k j:Nat) (s:Shared) (vb:Value) (c:Nat),items.size - (j+1)=k→j+1≤items.size→s.heap.IsListIter I l (j+1)→s.heap.IsList l items→TupsI s.heap items nss →
  items[argBest (fun i j=>lexLt (nss i) (nss j)) j]? = some vb→s.heap.get? S=some { cls:=.type "list",dict:=none,data:=.seq #[vb,vb] c,slots:=#[] } →
  (∀ v h' tk,items[argBest (fun i j=>lexLt (nss i) (nss j)) (items.size - 1)]? = some v→(∀ b o,b≠I→b≠S→s.heap.get? b=some o→h'.get? b=some o)→R (.ok (.ret v)) { s with heap:=h',toks:=tk }) →
  codeAny (model prog w) A (.builtin "min.loop" ⟨[.ref I,.none,.ref S],[]⟩) R s:=by
 have hname:(toString "min" ++ toString ".loop" : String) = "min.loop" := by decide
 have W:=Walks.list (prog:=prog) (w:=w) (A:=A.in1) hh I l hlI items
 intro k
 induction k with
 | zero =>
  intro j s vb c hk hj hi hl ht hb hS hR
  have hin:j+1=items.size:=by omega
  refine codeAny_builtin F.entry_min_loop ?_
  rw [Around.under_plainId F.plain_min_loop _]
  show wpAny _ A.in1 (seqItems? (.ref S) >>= _) _ _ s
  refine wpAny_bind (wpAny_seqItems hS rfl ?_)
  show wpAny _ A.in1 (tryCatch (pyNext (.ref I)) _ >>= _) _ _ s
  refine wpAny_bind (wpAny_tryCatch (W.done s _ _ (by rw [← hin];exact ⟨hi,hl⟩) fun h' tk hk'=>?_))
  have hS':=hk' S _ (by simp [hSI]) hS
  show wpAny _ A.in1 (updateSeq S (fun _=>#[]) >>= _) _ _ _
  refine wpAny_bind (wpAny_updateSeq hS' rfl (wpAny_bind (wpAny_letGo (wpAny_pure ?_))))
  refine hR vb _ tk (by rw [← hin];exact hb) fun b o hbI hbS e=>(Heap.get?_update_other _ _ (Ne.symm hbS)).trans (hk' b o (by simp [hbI]) e)
 | succ k ih =>
  intro j s vb c hk hj hi hl ht hb hS hR
  have hlt:j+1<items.size:=by omega
  refine codeAny_builtin F.entry_min_loop ?_
  rw [Around.under_plainId F.plain_min_loop _]
  show wpAny _ A.in1 (seqItems? (.ref S) >>= _) _ _ s
  refine wpAny_bind (wpAny_seqItems hS rfl ?_)
  show wpAny _ A.in1 (tryCatch (pyNext (.ref I)) _ >>= _) _ _ s
  refine wpAny_bind (wpAny_tryCatch (W.item (j+1) s _ _ hlt ⟨hi,hl⟩ fun v h' tk hP hst' hk'=>?_))
  have hS':=hk' S _ (by simp [hSI]) hS
  have ht':TupsI h' items nss:=ht.kept (bad:=[I]) (fun b hb o e=>by
   rw [List.mem_singleton.mp hb] at e
   obtain ⟨oi,ei,ci,_⟩:=hi
   rw [ei] at e;cases e;rw [ci];decide) fun b o hb e=>hk' b o hb e
  show wpAny _ A.in1 (tryCatch (holding [v,v] (richCompare .Lt v vb >>= _)) _ >>= _) _ _ _
  obtain ⟨t1,i1,rfl,p1,n1⟩:=ht' _ _ hP
  obtain ⟨t2,i2,rfl,p2,n2⟩:=ht' _ _ hb
  refine wpAny_bind (wpAny_tryCatch (wpAny_holding (wpAny_bind (HT.lt_tupInts (s:={ s with heap:=h',toks:=tk }) p1 p2 n1 n2 hu ?_))))
  refine wpAny_bind (wpAny_holding (wpAny_truthy_bool ?_))
  refine wpAny_bind (wpAny_letGo (wpAny_pure ?_))
  have nbS:∀ b∈[S],∀ o,h'.get? b=some o→o.cls≠.type "tuple" := fun b hb o e=>by
   rw [List.mem_singleton.mp hb,hS'] at e;cases e;show Value.type "list" ≠ Value.type "tuple"; decide
  cases hbt:lexLt (nss (j+1)) (nss (argBest (fun i j=>lexLt (nss i) (nss j)) j)) with
  | true =>
   simp only [if_true]
   refine wpAny_bind (wpAny_updateSeq hS' rfl (wpAny_bind (wpAny_letGo ?_)))
   rw [hname]
   have oth:∀ b o,b≠S→h'.get? b=some o→(h'.update S (Obj.mapSeq fun _=>#[Value.ref t1,Value.ref t1])).get? b=some o:=fun b o hb e=>(Heap.get?_update_other _ _ (Ne.symm hb)).trans e
   refine wpAny_pure ⟨plainId_quiet F.plain_min_loop _,ih (j+1) _ (.ref t1) _ (by omega) hlt (hst'.1.at fun o e=>oth _ o (Ne.symm hSI) e) (hst'.2.at fun o e=>oth _ o (Ne.symm hSl) e) (ht'.kept nbS fun b o hb e=>oth b o (by simpa using hb) e)
    (by simp only [argBest,hbt,if_true];exact hP) (Heap.get?_update_self _ hS' rfl) fun v' h'' tk'' hP' hk''=>?_⟩
   exact hR v' h'' tk'' hP' fun b o hbI hbS e=>hk'' b o hbI hbS (oth b o hbS (hk' b o (by simp [hbI]) e))
  | false =>
   simp only [Bool.false_eq_true,if_false]
   refine wpAny_bind (wpAny_letGo ?_)
   rw [hname]
   refine wpAny_pure ⟨plainId_quiet F.plain_min_loop _,ih (j+1) _ (.ref t2) c (by omega) hlt hst'.1 hst'.2 ht' (by simp only [argBest,hbt,Bool.false_eq_true,if_false];exact hb) hS' fun v' h'' tk'' hP' hk''=>?_⟩
   exact hR v' h'' tk'' hP' fun b o hbI hbS e=>hk'' b o hbI hbS (hk' b o (by simp [hbI]) e)
theorem zep {s:Shared} {l:Addr} {items:Array Value} {nss:Nat→List Int} {Q:Value→Shared→Prop} (hh:A.handled=none) (hu:A.units+1<cLine) (hl:s.heap.IsList l items) (ht:TupsI s.heap items nss) (hn:0<items.size)
  (h:∀ v h' tk,items[argBest (fun i j=>lexLt (nss i) (nss j)) (items.size - 1)]? = some v→(∀ b o,s.heap.get? b=some o→h'.get? b=some o)→Q v { s with heap:=h',toks:=tk }) :
  wpAny (model prog w) A (call (.builtin "min") [.ref l]) Q E s:=by
 have hname:(toString "min" ++ toString ".loop" : String) = "min.loop" := by decide
 refine call_function_tree F.kind_min F.plain_min F.entry_min (F.args_min1 _) ?_
 show wpAny _ A.in1 (Builtin.Builtins.bindParams "min" ["key","default"] 0 ⟨[],[]⟩ >>= _) _ _ s
 refine wpAny_bind (wpAny_of_eq (show Builtin.Builtins.bindParams "min" ["key","default"] 0 ⟨[],[]⟩=pure [none,none] from rfl) ?_)
 refine wpAny_bind (wpAny_pure ?_)
 have hlt:l<s.heap.objs.size:=by obtain ⟨_,e,_⟩:=hl;exact Heap.lt_size e
 refine wpAny_bind (wpAny_pyIter_list hl ?_)
 refine wpAny_bind (wpAny_newObj_type ?_)
 rw [hname]
 obtain ⟨h2,e2⟩:∃ h2,h2=(s.heap.push { cls:=.type "list_iterator",data:=.fields #[.ref l,.int 0 0] }).push { cls:=.type "list",data:=.seq ([]:List Value).toArray }:=⟨_,rfl⟩
 have kp:∀ b o,s.heap.get? b=some o→h2.get? b=some o:=fun b o e=>by rw [e2];exact Heap.get?_push_of_some _ (Heap.get?_push_of_some _ e)
 have hsz:(s.heap.push { cls:=.type "list_iterator",data:=.fields #[.ref l,.int 0 0] }).objs.size=s.heap.objs.size+1:=Heap.size_push ..
 have hI:h2.IsListIter s.heap.objs.size l 0:=⟨_,by rw [e2];exact Heap.get?_push_of_some _ (Heap.get?_push_size _ rfl),rfl,rfl⟩
 have hS:h2.get? (s.heap.objs.size+1)=some { cls:=.type "list",dict:=none,data:=.seq #[] 0,slots:=#[] }:=by rw [e2,← hsz];exact Heap.get?_push_size _ rfl
 have hl2:h2.IsList l items:=hl.at fun o e=>kp l o e
 have ht2:TupsI h2 items nss:=ht.kept (bad:=[]) (fun b hb=>nomatch hb) fun b o _ e=>kp b o e
 show wpAny _ A.in1 (again (.builtin "min.loop" ⟨[.ref s.heap.objs.size,.none,.ref (s.heap.push _).objs.size],[]⟩)) _ _ { s with heap:=_ }
 rw [hsz]
 refine wpAny_pure ⟨plainId_quiet F.plain_min_loop _,?_⟩
 have key:codeAny (model prog w) A (.builtin "min.loop" ⟨[.ref s.heap.objs.size,.none,.ref (s.heap.objs.size+1)],[]⟩) (fun r s'=>match r with
   | Except.ok (Flow.ret v)=>Q v s'
   | Except.ok a=>False
   | Except.error e=>E e s') { s with heap:=h2 }:=by
  have hlI:l≠s.heap.objs.size:=Nat.ne_of_lt hlt
  have hSI:s.heap.objs.size+1≠s.heap.objs.size:=Nat.succ_ne_self _
  have hSl:s.heap.objs.size+1≠l:=Nat.ne_of_gt (Nat.lt_succ_of_lt hlt)
  have W:=Walks.list (prog:=prog) (w:=w) (A:=A.in1) hh s.heap.objs.size l hlI items
  refine codeAny_builtin F.entry_min_loop ?_
  rw [Around.under_plainId F.plain_min_loop _]
  show wpAny _ A.in1 (seqItems? (.ref (s.heap.objs.size+1)) >>= _) _ _ _
  refine wpAny_bind (wpAny_seqItems hS rfl ?_)
  show wpAny _ A.in1 (tryCatch (pyNext (.ref s.heap.objs.size)) _ >>= _) _ _ _
  refine wpAny_bind (wpAny_tryCatch (W.item 0 _ _ _ hn ⟨hI,hl2⟩ fun v h' tk hP hst' hk'=>?_))
  have hS':=hk' (s.heap.objs.size+1) _ (by simp) hS
  have ht':TupsI h' items nss:=ht2.kept (bad:=[s.heap.objs.size]) (fun b hb o e=>by
   rw [List.mem_singleton.mp hb] at e
   obtain ⟨oi,ei,ci,_⟩:=hI
   rw [ei] at e;cases e;rw [ci];decide) fun b o hb e=>hk' b o hb e
  have nbS:∀ b∈[s.heap.objs.size+1],∀ o,h'.get? b=some o→o.cls≠.type "tuple" := fun b hb o e=>by
   rw [List.mem_singleton.mp hb,hS'] at e;cases e;show Value.type "list" ≠ Value.type "tuple"; decide
  show wpAny _ A.in1 (updateSeq (s.heap.objs.size+1) (fun _=>#[v,v]) >>= _) _ _ _
  refine wpAny_bind (wpAny_updateSeq hS' rfl ?_)
  rw [hname]
  have oth:∀ b o,b≠s.heap.objs.size+1→h'.get? b=some o→(h'.update (s.heap.objs.size+1) (Obj.mapSeq fun _=>#[v,v])).get? b=some o:=fun b o hb e=>(Heap.get?_update_other _ _ (Ne.symm hb)).trans e
  refine wpAny_pure ⟨plainId_quiet F.plain_min_loop _,zjr (l:=l) (items:=items) (nss:=nss) hh hu hlI hSl hSI _ 0 _ v _ rfl hn (hst'.1.at fun o e=>oth _ o (Ne.symm hSI) e) (hst'.2.at fun o e=>oth _ o (Ne.symm hSl) e) (ht'.kept nbS fun b o hb e=>oth b o (by simpa using hb) e) hP (Heap.get?_update_self _ hS' rfl) fun v' h'' tk'' hP' hk''=>?_⟩
  refine h v' h'' tk'' hP' fun b o e=>?_
  have hb:=Heap.lt_size e
  exact hk'' b o (Nat.ne_of_lt hb) (Nat.ne_of_lt (Nat.lt_succ_of_lt hb)) (oth b o (Nat.ne_of_lt (Nat.lt_succ_of_lt hb)) (hk' b o (fun z=>Nat.ne_of_lt hb (List.mem_singleton.mp z)) (kp b o e)))
 rw [e2] at key
 exact key
end
section
variable {X:Cx}
theorem ziC (hc:X.calm=true) (hu:X.A.units+1<cLine):zbY X (.builtin "min") (fun xs H Q=>∃ (a:Addr) (ts:List Addr) (nss:List (List Int)),xs=[.ref a]∧H a=some (.lst (ts.map V.ref))∧0<ts.length∧ts.length=nss.length∧(∀ (j:Nat) (t:Addr) (ns:List Int),ts[j]? = some t→nss[j]? = some ns→H t=some (.tup (ns.map V.int))) ∧
  ∀ t:Addr,ts[argBest (fun i j=>lexLt (nss.getD i []) (nss.getD j [])) (ts.length - 1)]? = some t→Q (.ref t) H):=by
 intro pins s σ H xs us Q I r h
 obtain ⟨a,ts,nss,rfl,e,h0,hl,ht,q⟩:=h
 obtain ⟨u,rfl,r1⟩:=zcC r
 obtain rfl:u=Value.ref a:=r1
 obtain ⟨its,rv,pl,hz⟩:=I.list (SqL.of e)
 have ei:its=ts.map Value.ref:=by
  clear pl hz e ht q h0 hl
  induction ts generalizing its with
  | nil=>cases rv;rfl
  | cons t r ih =>
   cases rv with
   | cons h1 h2=>rw [ih _ h2,show _=Value.ref t from h1];rfl
 have hlen:its.toArray.size=ts.length:=by rw [List.size_toArray,ei,List.length_map]
 refine zep (items:=its.toArray) (nss:=fun i=>nss.getD i []) (I.ok.hd hc) hu pl.isList (fun i v hv=>?_) (by omega) fun v h' tk hv kp=>?_
 ·have hv':its[i]? = some v:=by simpa using hv
  rw [ei,List.getElem?_map] at hv'
  obtain ⟨t,h1,rfl⟩:=Option.map_eq_some_iff.mp hv'
  have hi:i<nss.length:=by rw [← hl];exact (List.getElem?_eq_some_iff.mp h1).1
  have h2:nss[i]? = some (nss.getD i []):=by rw [List.getElem?_eq_getElem hi];simp [hi]
  obtain ⟨its2,r2,p2,_⟩:=I.tuple (SqT.of (ht i t _ h1 h2))
  exact ⟨t,_,rfl,p2,zgT r2⟩
 ·rw [hlen] at hv
  have hv':its[argBest (fun i j=>lexLt (nss.getD i []) (nss.getD j [])) (ts.length - 1)]? = some v:=by simpa using hv
  rw [ei,List.getElem?_map] at hv'
  obtain ⟨t,h1,rfl⟩:=Option.map_eq_some_iff.mp hv'
  exact ⟨.ref t,H,I.kept kp,rfl,q t h1⟩
end
end L2
end
section
namespace L2
open PySem PySem.Spec PyProof.Rows
section
variable {prog:Program} {w:World} {A:Around} {E:Value→Shared→Prop} {s:Shared}
end
end L2
end
section
namespace L2
open PySem PySem.Spec PyProof.Rows PySem.SeqAt
section
variable {X:Cx} {tg:Expr}
end
end L2
end
section
namespace L2
open PySem PySem.Spec PyProof.Rows PySem.SeqAt
section
variable {X:Cx} {K:PySem.W.Frag}
def rEqL0 (K:PySem.W.Frag):R2:=fun x y H Q=>∃ a b xs,x = .ref a∧y = .ref b∧SqL K H a xs∧SqL K H b []∧Q (.bl xs.isEmpty) H
theorem zhV (hu:X.A.units<cLine) (hK:X.K=K):OpR X (compareOp .Eq) (rEqL0 K):=by
 subst hK
 rintro pins s σ H x y v u Q I rx ry ⟨a,b,xs,rfl,rfl,ha,hb,q⟩
 cases rx;cases ry
 obtain ⟨its,r1,p1,_⟩:=I.list ha
 obtain ⟨its2,r2,p2,_⟩:=I.list hb
 obtain rfl:=r2.nil_iff.mpr rfl
 have e:its.toArray.size=xs.length:=by rw [List.size_toArray];exact r1.length.symm
 cases xs with
 | nil =>
  refine RcAt.lists (e:=fun _=>true) p1.isList p2.isList (by rw [e];rfl) hu (fun j h1 h2=>absurd h2 (by simp)) _ _ _ _ ⟨.bl true,H,I,?_,q⟩
  rw [e];rfl
 | cons z zs=>exact RcAt.lists_lengths p1.isList p2.isList (by rw [e];simp) hu _ _ _ _ ⟨.bl false,H,I,rfl,q⟩
end
end L2
end
section
namespace L2
open PySem PySem.Spec PyProof.Rows PySem.SeqAt
section
variable {X:Cx}
end
end L2
end
section
namespace L2
open PySem PySem.Spec PyProof.Rows PySem.SeqAt
theorem zlu:bootBuiltins "dict" = some (.type "dict"):=by decide +kernel
end L2
end
section
namespace L2
open PySem PySem.Spec PyProof.Rows PySem.SeqAt
section
variable {X:Cx} {K:PySem.W.Frag}
end
end L2
end
section
namespace L2
open PySem PySem.Spec PyProof.Rows
section
variable {X:Cx} {Nc:List Str} {src:List (Option Nat)} {scope:Scope} {elt tg iter:Expr} {ifs:List Expr} {pos:Pos} {wi:TI} {g:TG} {tf:TT} {te:TE}
end
section
variable {X:Cx} {K:PySem.W.Frag} {tg l:Expr} {tl:TE}
end
end L2
end
section
namespace L2
open PySem PySem.Spec PyProof.Rows HT
section
variable {X:Cx} {o e:Expr} {es:List Expr} {to:TE} {t:TA} {T:String} {id:String} {name:Str} {apos cpos:Pos} {r:V→List V→Hp→VK→Prop}
end
end L2
end
section
namespace L2
open PySem PySem.Spec PyProof.Rows HT
def ziO (CX:CXT) (X:Cx) (E:St→XK):Prop:=∀ (pins:List (Addr×Obj)) (σ:St) (H:Hp) (s:Shared) (e:Value) (s':Shared),Inv X pins σ H s→CX X.stack H s (E σ) e s'→X.xe e s'
theorem Passes.s {CX:CXT} {X:Cx} {E:XK} (h:Passes CX X E):ziO CX X fun _=>E:=fun pins σ H s e s'=>h pins σ H s e s'
def tCallS (sp:Sp) (E:St→XK) (t:TA):TE:=fun σ H Q=>t σ H fun vs H1=>sp (vs ++ []) H1 Q (E σ)
section
variable {X:Cx} {CX:CXT} {k:Nat} {f C:Addr} {fd:FuncData} {ps ks:List Str} {sp:Sp} {E:St→XK} {x m:Str} {p pos apos:Pos} {e o:Expr} {es:List Expr} {kws:List Keyword} {ta:TE} {t tk:TA} {g:List Value→List Value→List Value} {gV:List V→List V→List V}
theorem zk0 (Cl:CalX X.prog X.w X.K X.mg X.base k x ps sp) (hr:Room k X.A) (hg:Gl X x) (hx:ziO (CX1 X.prog X.w) X E) (ha:PA X (e :: es) t) (hdb:(x == ("__debug__" : Str))=false:=by decide)
  (he:starEach (e :: es) X.env=(false,eval e X.env) :: starEach es X.env:=by rfl) (hpl:(backTo pos (starEach es X.env)).any (·.1)=false:=by rfl):PE X (.Call (.Name x p) (e :: es) [] pos) (tCallS sp E t):=by
 obtain ⟨f,fd,F,hm,hk,hb⟩:=Cl.ex
 intro pins s σ H Q I h
 refine wpAny_Call_Name_kw (zbe I hg hm ?_ hdb)
 refine PySem.W.callWith_K (h₀:=X.base) I.ok.mod.kin hk (thn (ha pos pins s σ H _ I h) fun us s1 ⟨vs,H1,I1,r,q⟩=>⟨I1.kIn,?_⟩) he hpl
 have r2:Vals (vs ++ []) (us ++ []):=r.append .nil
 have hl:(us ++ []).length=ps.length:=by rw [← r2.length];exact F.len _ _ _ _ q
 refine wpAny_call (codeAny_mono (F.run X.A X.stack s1 H1 ⟨us,[]⟩ (us ++ []) (vs ++ []) Q (E σ) hr I1.env0 (hb s1 us I1.kIn hl) r2 q) fun r s' hq=>?_)
 cases r with
 | error e=>exact hx pins σ H1 s1 e s' I1 hq
 | ok fl =>
  cases fl with
  | ret u=>exact I1.after hq
  | next=>exact False.elim hq
  | brk=>exact False.elim hq
  | cont=>exact False.elim hq
end
structure MakX (P:Program) (w:World) (K:PySem.W.Frag) (mg:Str→Option Value) (base:Heap) (k:Nat) (x:Str) (C:Addr) (ks:List Str) (gV:List V→List V→List V) (sp:Sp):Prop where
 at_:mg x=some (.ref C)
 ex:∃ f fd ps g,Mk K C f∧FnOk P w K mg base (CX1 P w) k f fd ps sp∧KBinds K fd ps ks g gV
theorem MakX.kp {P:Program} {w:World} {K:PySem.W.Frag} {mg:Str→Option Value} {base:Heap} {k:Nat} {x:Str} {C:Addr} {ks:List Str} {gV:List V→List V→List V} {sp:Sp} (M:MakX P w K mg base k x C ks gV sp):PySem.W.keepIn K (.ref C)=true:=by
 obtain ⟨_,_,_,_,_,M,_⟩:=M
 exact M.kp
def tMakS (C:Addr) (gV:List V→List V→List V) (sp:Sp) (E:St→XK) (t tk:TA):TE:=fun σ H Q=>t σ H fun vs H1=>tk σ H1 fun zs H2=>∀ x dx,H2 x=none→H2 dx=none→dx≠x →
 sp (gV (.ref x :: vs) zs) (upd (upd H2 dx (.own x)) x (.ins C dx [])) (fun v H3=>v = .non∧Q (.ref x) H3) (E σ)
section
variable {X:Cx} {k:Nat} {C:Addr} {ks:List Str} {gV:List V→List V→List V} {sp:Sp} {E:St→XK} {x:Str} {p pos:Pos} {e:Expr} {es:List Expr} {kws:List Keyword} {t tk:TA}
theorem zi7 {pins:List (Addr×Obj)} {σ:St} {H:Hp} {s:Shared} {Q:VK} {us ws:List Value} {vs zs:List V} (M:MakX X.prog X.w X.K X.mg X.base k x C ks gV sp) (hr:Room (k+1) X.A) (hx:ziO (CX1 X.prog X.w) X E) (I:Inv X pins σ H s) (r:Vals vs us) (rz:Vals zs ws)
  (h:∀ y dy,H y=none→H dy=none→dy≠y→sp (gV (.ref y :: vs) zs) (upd (upd H dy (.own y)) y (.ins C dy [])) (fun v H2=>v = .non∧Q (.ref y) H2) (E σ)) :
  wpAny (model X.prog X.w) X.A (call (.ref C) us (ks.zip ws)) (EP X pins σ Q) X.xe s:=by
 obtain ⟨hm,f,fd,ps,g,M,F,hb⟩:=M
 have hq:=h (s.heap.objs.size+1) s.heap.objs.size (I.hok.fresh (Nat.le_succ _)) (I.hok.fresh (Nat.le_refl _)) (Nat.ne_of_lt (Nat.lt_succ_self _))
 have I2:=Inv.made (C:=C) I
 have r2:Vals (gV (V.ref (s.heap.objs.size+1) :: vs) zs) (g (Value.ref (s.heap.objs.size+1) :: us) ws):=hb.rel (.cons rfl r) rz
 have hl:(g (Value.ref (s.heap.objs.size+1) :: us) ws).length=ps.length:=by rw [← r2.length];exact F.len _ _ _ _ hq
 refine wpAny_call (zgd (f:=f) I.kIn M.makes M.init (beq_iff_eq.mp M.fn) (codeAny_mono (F.run _ X.stack _ _ ⟨Value.ref (s.heap.objs.size+1) :: us,ks.zip ws⟩ _ _ _ (E σ) (hr.make C us (ks.zip ws))
  (I2.env0.make C us (ks.zip ws)) (hb.to _ (Value.ref (s.heap.objs.size+1) :: us) ws I2.kIn hl) r2 hq) fun r s' hq'=>?_))
 cases r with
 | error e=>exact hx pins σ _ _ e s' I2 hq'
 | ok fl =>
  cases fl with
  | ret u =>
   obtain ⟨v,H',I3,rv,ev,q3⟩:=I2.after hq'
   subst ev
   exact ⟨rv,⟨V.ref (s.heap.objs.size+1),H',I3,rfl,q3⟩⟩
  | next=>exact False.elim hq'
  | brk=>exact False.elim hq'
  | cont=>exact False.elim hq'
theorem zkW (M:MakX X.prog X.w X.K X.mg X.base k x C [] gV sp) (hr:Room (k+1) X.A) (hg:Gl X x) (hx:ziO (CX1 X.prog X.w) X E) (ha:PA X (e :: es) t) (hdb:(x == ("__debug__" : Str))=false:=by decide)
  (he:starEach (e :: es) X.env=(false,eval e X.env) :: starEach es X.env:=by rfl) (hpl:(backTo pos (starEach es X.env)).any (·.1)=false:=by rfl):PE X (.Call (.Name x p) (e :: es) [] pos) (tMakS C gV sp E t tNil):=by
 intro pins s σ H Q I h
 refine wpAny_Call_Name_kw (zbe I hg M.at_ ?_ hdb)
 refine PySem.W.callWith_K (h₀:=X.base) I.ok.mod.kin M.kp (thn (ha pos pins s σ H _ I h) fun us s1 ⟨vs,H1,I1,r,q⟩=>⟨I1.kIn,?_⟩) he hpl
 exact zi7 (ws:=[]) (zs:=[]) M hr hx I1 r .nil q
end
section
variable {X:Cx} {k:Nat} {C:Addr} {ks:List Str} {E:St→XK} {x m:Str} {p pos apos:Pos} {e o:Expr} {es:List Expr} {kws:List Keyword} {ta:TE} {t tk:TA}
end
abbrev zfQ (X:Cx) (pins:List (Addr×Obj)) (b:Addr):Prop:=X.s₀.heap.get? b=none∧b≠X.env.locals∧(∀ x c,X.env.cells.lookup x=some c→c≠b)∧∀ p∈X.pn ++ pins,p.1≠b
abbrev Cx.tried (X:Cx) (pins:List (Addr×Obj)) (E:St→XK):Cx:={ X with pn:=X.pn ++ pins,xe:=fun e s'=>∃ σ ea T H' C od,e = .ref ea∧Inv X pins σ H' s'∧XAt s'.heap ea T (.ref C) .none od∧H' ea=none∧H' T=none∧zfQ X pins ea∧zfQ X pins T∧E σ (.ref C) od H' }
section
variable {X:Cx} {pins pins2:List (Addr×Obj)} {σ:St} {H:Hp} {s:Shared} {E:St→XK}
theorem Cx.Ok.tried (ok:X.Ok):(X.tried pins E).Ok:=⟨ok.mod,ok.kind,ok.glob,ok.blt,ok.above,ok.inj,ok.has,ok.cab,ok.hd,ok.frames,ok.stk,ok.exf,ok.bs,ok.bsz,ok.noex,ok.exfs,ok.funs,ok.frf⟩
theorem Cx.Ok.untried (ok:(X.tried pins E).Ok):X.Ok:=⟨ok.mod,ok.kind,ok.glob,ok.blt,ok.above,ok.inj,ok.has,ok.cab,ok.hd,ok.frames,ok.stk,ok.exf,ok.bs,ok.bsz,ok.noex,ok.exfs,ok.funs,ok.frf⟩
theorem Inv.tried (I:Inv X pins σ H s) (E:St→XK):Inv (X.tried pins E) [] σ H s:=⟨I.ok.tried,I.os,I.bare,I.base,I.loc,I.cell,I.free,I.freeC,by
 intro p hp
 rw [List.append_nil] at hp
 exact I.pin p hp,I.hok,I.len⟩
theorem Inv.untried (I:Inv (X.tried pins E) pins2 σ H s):Inv X pins σ H s:=⟨I.ok.untried,I.os,I.bare,I.base,I.loc,I.cell,I.free,I.freeC,fun p hp=>I.pin p (List.mem_append_left _ hp),I.hok,I.len⟩
theorem SP.untried {D:Ends} {f:Flow} {s':Shared} (h:SP (X.tried pins E) pins2 D f s'):SP X pins D f s':=by
 cases f with
 | next=>obtain ⟨σ',H',I,q⟩:=h;exact ⟨σ',H',I.untried,q⟩
 | brk=>obtain ⟨σ',H',I,q⟩:=h;exact ⟨σ',H',I.untried,q⟩
 | cont=>obtain ⟨σ',H',I,q⟩:=h;exact ⟨σ',H',I.untried,q⟩
 | ret u=>obtain ⟨v,σ',H',I,r,q⟩:=h;exact ⟨v,σ',H',I.untried,r,q⟩
theorem zgE (hex:X.ex=[]):ziO (CX1 X.prog X.w) (X.tried pins E) E:=by
 intro pins2 σ H1 s1 ev s' I hq
 obtain ⟨ea,T,H',C',od',rfl,os,bare,un,hok,xa,f1,f2,n1,n2,hE⟩:=hq
 have J:Inv (X.tried pins E) pins2 σ H' s':=I.call' (ch:=[]) os un hok bare (fun b z=>absurd z (by simp))
 have nex:∀ b:Addr,b ∉ (X.tried pins E).ex:=fun b z=>by
  have z:b∈X.ex:=z
  rw [hex] at z;cases z
 have o1:=I.untried.none_ours f1 (nex ea)
 have o2:=I.untried.none_ours f2 (nex T)
 exact ⟨σ,ea,T,H',C',od',rfl,J.untried,xa,n1,n2,o1,o2,hE⟩
end
def tTry1 (K:PySem.W.Frag) (tb:(St→XK)→TS) (j:Nat) (Cb:Addr) (th:TS):TS:=fun D σ H =>
 tb (fun σ' cls od H2=>PySem.W.exmOne K cls (.ref Cb)=some true∧∀ ea,H2 ea=none→th { nx:=fun σ2 H3=>D.nx ((σ2.set j (some .non)).set j none) H3,rt:=fun _ _=>False } (σ'.set j (some (.ref ea))) (upd H2 ea (.ext (xIs ea cls od)))) D σ H
section
variable {X:Cx} {cn n:Str} {j:Nat} {Cb:Addr} {body hbody:List Stmt} {b₀:Stmt} {tb:(St→XK)→TS} {th:TS} {p4 p8 p9:Pos}
theorem zkP (hb:∀ (pins:List (Addr×Obj)) (E:St→XK),PSs (X.tried pins E) body (tb E)) (hD:∀ ea,PSs (X.marked (.ref ea)).nox (b₀ :: hbody) th) (hc:X.calm=true) (hN:X.N.Nodup) (hj:X.N[j]? = some n) (kn:X.env.scope.names.lookup n=some .local)
  (hmc:X.mg cn=some (.ref Cb)) (hst:X.stack=X.env :: X.outer∧X.env.frame=some X.env.locals) (hex:X.ex=[]) (hgm:∀ ea,Gl (X.marked (.ref ea)) cn) (hdc:(cn == ("__debug__" : Str))=false:=by decide) :
  PS X (.Try body [.ExceptHandler (some (.Name cn p4)) (some n) (b₀ :: hbody) p8] [] [] p9) (tTry1 X.K tb j Cb th):=by
 intro pins s σ H D I h
 refine wpAny_Try_except (wpAny_mono (hb pins _ [] s σ H D (I.tried _) h) (fun fl s' q=>?_) fun e s' q=>?_)
 ·have q:=q.untried
  cases fl with
  | next=>exact wpAny_execs_nil q
  | brk=>exact q
  | cont=>exact q
  | ret u=>exact q
 ·obtain ⟨σ',ea,T,H',C',od',rfl,J,xa,n1,n2,o1,o2,hm2,k2⟩:=q
  have fr:X.A.frames=some (X.env :: X.outer):=by rw [← hst.1];exact J.ok.frames
  have fl:s'.heap.FunFrames X.base (X.env :: X.outer):=by rw [← hst.1];exact J.stack
  refine zcV fr fl hst.2 xa fun h1 T2 fT2 sl x2=>?_
  have sl':Slid (frs X.stack) [ea,T] s'.heap h1:=by rw [hst.1];exact sl
  have J1:Inv X pins σ' H' { s' with heap:=h1 }:=J.slid sl' fun b hb=>by
   rcases List.mem_cons.mp hb with rfl | hb
   ·exact ⟨n1,o1⟩
   ·rw [List.mem_singleton.mp hb];exact ⟨n2,o2⟩
  have n3:H' T2=none:=J.hok.none_of fT2
  have nex:∀ b:Addr,b ∉ X.ex:=fun b z=>by rw [hex] at z;cases z
  have o3:=J.none_ours fT2 (nex T2)
  have cT2:∀ b∈[T2],H' b=none∧X.s₀.heap.get? b=none∧b≠X.env.locals∧(∀ x c,X.env.cells.lookup x=some c→c≠b)∧∀ p∈X.pn ++ pins,p.1≠b:=fun b hb=>by rw [List.mem_singleton.mp hb];exact ⟨n3,o3⟩
  refine zcM x2 fun h2 sl2 x3=>?_
  have J2:Inv X pins σ' H' { s' with heap:=h2 }:=J1.slid (sl2.mono (fun b z=>nomatch z) fun _ z=>z) cT2
  have ty:PySem.W.Looks (model X.prog X.w) h2 (typeOf (.ref ea)) (.ref C'):=by
   obtain ⟨oe,vs,oT,ts,g1,⟨g2,_⟩,_⟩:=x3
   rw [← g2]
   exact (PySem.W.Looks.ld g1).andThen .now
  have Jm:=J2.marked (.ref ea)
  refine wpAny_handleBy_cons (codeAny_handlers_test (zbe Jm (hgm ea) hmc ?_ hdc)) (by intro z;cases z)
  refine (PySem.W.exm_one Jm.kIn ty hm2).here ?_
  refine codeAny_handlers_suite_as (zcM x3 fun h3 sl3 x4=>?_)
  have J3:Inv X pins σ' H' { s' with heap:=h3 }:=J2.slid (sl3.mono (fun b z=>nomatch z) fun _ z=>z) cT2
  have xo:xIs ea (.ref C') od' h3:=by
   obtain ⟨oe,vs,oT,ts,g1,g2,g3,_⟩:=x4
   exact ⟨oe,vs,g1,g2,g3⟩
  have J4:Inv X pins σ' (upd H' ea (.ext (xIs ea (.ref C') od'))) { s' with heap:=h3 }:=J3.trackX n1 xo o1
  have k3:=k2 ea n1
  clear k2
  generalize upd H' ea (.ext (xIs ea (.ref C') od'))=H3 at J4 k3
  refine zb0 (v:=.ref ea) J4 hN hj (.inl kn) rfl (fun s4 J5=>?_) (.inr kn)
  refine wpAny_mono (hD ea pins s4 _ H3 _ ((J5.marked (.ref ea)).wish _) k3) (fun fl s5 hq=>?_) fun _ _ z=>False.elim z
  cases fl with
  | ret u=>obtain ⟨_,_,_,_,_,z⟩:=hq;exact False.elim z
  | brk=>obtain ⟨_,_,_,z⟩:=hq;exact False.elim z
  | cont=>obtain ⟨_,_,_,z⟩:=hq;exact False.elim z
  | next =>
   obtain ⟨σ6,H6,J6,q6⟩:=hq
   have J7:Inv X pins σ6 H6 s5:=J6.unwish.unmarked I.ok.hd
   have hjσ:j<σ6.length:=by rw [J7.len];exact (List.getElem?_eq_some_iff.mp hj).1
   show wpAny (model X.prog X.w) X.A (do bindName X.env n .none;unbindBehindTheSuite X.env n p8) (fun _ s₃=>SP X pins D .next s₃) X.xe s5
   refine wpAny_bind (wpAny_bindName (zb0 (v:=.non) J7 hN hj (.inl kn) rfl (fun s8 J8=>?_) (.inr kn)))
   unfold unbindBehindTheSuite
   refine wpAny_onRaise ?_
   obtain ⟨m,hm8,hl8⟩:=id J8.loc
   have hb8:∃ v,m n=some v:=by
    obtain ⟨u,ru,q⟩:=hl8 j n .non hj (by rw [List.getElem?_set_self hjσ]) (.inl kn)
    rcases q with ⟨_,q⟩ | ⟨z,_⟩
    ·exact ⟨_,q⟩
    ·rcases z with z | z
     ·have z:X.env.scope.names.lookup n=some .cell:=z
      rw [kn] at z;cases z
     ·have z:X.env.scope.names.lookup n=some .free:=z
      rw [kn] at z;cases z
   obtain ⟨vn,hvn8⟩:=hb8
   refine wpAny_unbindName_local kn hm8 hvn8 (by rw [J8.ok.kind];rfl) fun h9 u9 hn9 hs9=>?_
   exact ⟨_,H6,J8.unname (t':=s8.toks) hN hj kn hm8 hn9 hs9,q6⟩
end
end L2
end
section
namespace L2
open PySem PySem.Spec PyProof.Rows HT
abbrev TJ:=St→Hp→(Hp→Prop)→Prop
def PJ (X:Cx) (es:List Expr) (t:TJ):Prop:=∀ (out:Str) (pins:List (Addr×Obj)) (s:Shared) (σ:St) (H:Hp) (R:Hp→Prop),out.length+2000 * es.length≤100000→Inv X pins σ H s→t σ H R →
 wpAny (model X.prog X.w) X.A (joinParts out (evalEach es X.env)) (fun u s'=>∃ (z:Str) (tk:Tok) (H':Hp),u = .str z tk∧Inv X pins σ H' s'∧R H') X.xe s
def jNil:TJ:=fun _ H R=>R H
def jStr (ta:TE) (t:TJ):TJ:=fun σ H R=>ta σ H fun x H1=>∃ a:Str,x = .str a∧a.length≤1000∧t σ H1 R
def jInt (ta:TE) (t:TJ):TJ:=fun σ H R=>ta σ H fun x H1=>∃ i:Int,x = .int i∧i.natAbs<2 ^ 1000∧t σ H1 R
def tFsN (t:TJ):TE:=fun σ H Q=>t σ H fun H1=>∀ z:Str,Q (.str z) H1
section
variable {X:Cx} {e v:Expr} {es:List Expr} {pos p2:Pos} {ta:TE} {t:TJ}
theorem pj_nil:PJ X [] jNil:=fun out pins s σ H R hl I h=>by
 refine joinParts_nilE (joinParts_nil ⟨out,_,H,rfl,I.tok _,h⟩ ?_)
 have hz:(100000:Nat)≤sizeLine:=by decide
 simp only [List.length_nil] at hl
 omega
theorem zf7 (he:PE X e ta) (hs:PJ X es t):PJ X (e :: es) (jStr ta t):=fun out pins s σ H R hl I h=>by
 refine joinParts_consE (joinParts_cons (thn (he pins s σ H _ I h) fun u s1 ⟨x,H1,I1,rx,a,ex,la,q⟩=>?_))
 subst ex
 obtain ⟨t,rfl⟩:=(show ∃ t,u=Value.str a t from rx)
 have hz:(100000:Nat)≤sizeLine:=by decide
 simp only [List.length_cons] at hl
 exact ⟨by rw [strLen_append];omega,hs _ pins s1 σ H1 R (by rw [strLen_append];omega) I1 q⟩
theorem zhM (hv:PE X v ta) (hs:PJ X es t):PJ X (.FormattedValue v (-1) none p2 :: es) (jInt ta t):=fun out pins s σ H R hl I h=>by
 refine joinParts_consE (joinParts_cons (FormattedValue_plain (thn (hv pins s σ H _ I h) fun u s1 ⟨x,H1,I1,rx,i,ex,hi,q⟩=>?_)))
 subst ex
 obtain ⟨t,rfl⟩:=(show ∃ t,u=Value.int i t from rx)
 have hz:(100000:Nat)≤sizeLine:=by decide
 simp only [List.length_cons] at hl
 have hlog:i.natAbs.log2<1000:=by
  by_cases z:i.natAbs=0
  ·rw [z];decide
  ·exact (Nat.log2_lt z).mpr hi
 have hlen:(Str.ofString (toString i)).length≤1001:=by
  rw [PySem.ofString_length]
  exact int_text_length_le (by decide) hlog
 refine formatField_int_small (Nat.lt_trans hlog (by decide)) ⟨by rw [strLen_append];omega,?_⟩
 exact hs _ pins _ σ H1 R (by rw [strLen_append];omega) ((I1.tok _).tok _) q
theorem pe_fsN (h2:∃ a b r,es=a :: b :: r) (hs:PJ X es t) (hz:es.length≤40:=by decide):PE X (.JoinedStr es pos) (tFsN t):=by
 obtain ⟨a,b,r,rfl⟩:=h2
 intro pins s σ H Q I h
 refine JoinedStr_many ?_
 refine thn (hs Str.empty pins s σ H _ ?_ I h) fun u s' ⟨z,tk,H',eu,I',q⟩=>⟨.str z,H',I',⟨tk,eu⟩,q z⟩
 have l0:Str.empty.length=0:=rfl
 omega
end
theorem FunD.okX {P:Program} {w:World} {K:PySem.W.Frag} {mg:Str→Option Value} {base:Heap} {x qual:Str} {st:Stmt} {dV:Value} {f:Addr} {fd:FuncData} {N ps:List Str} {k:Nat} {sp:Sp} (F:FunD K x qual st dV f fd) (S:FnScope N ps (zai st)) (len:∀ vs H Q E,sp vs H Q E→vs.length=ps.length)
  (hbody:∀ (cdv:Value) (A:Around) (outer:List Env) (s:Shared) (H:Hp) (vs:List V) (Q:VK) (E:XK),Room k (A.deeper (envOfC qual (zai st) s.heap.objs.size f cdv))→sp vs H Q E →
   ∃ t,PSs (cxOf (CX1 P w) P w K mg base N qual (zai st) f cdv A outer s H E) (zaK st) t∧t { nx:=fun _ H'=>Q .non H',rt:=Q } (start N vs) H):FnOk P w K mg base (CX1 P w) (k+1) f fd ps sp:=by
 obtain ⟨oc,od,kV,doc,pm,an,cdv,ct,osl,rfl,lk,hcd⟩:=F.ex
 refine zjI lk hcd S len fun A outer s H vs Q E hr hsp=>?_
 obtain ⟨t,h,q⟩:=hbody cdv A outer s H vs Q E hr hsp
 exact ⟨t,h,q⟩
end L2
end
section
namespace L2
open PySem PySem.Spec PyProof.Rows HT
section
variable {prog:Program} {w:World} {A:Around} {E:Value→Shared→Prop} {h:Heap} {g:Array GenState} {d:Drawn} {t:Nat} {os:OsState}
variable {nm q:Str} {C N:Addr} {bs bm:List Value} {hdct:Bool} {sn:List Str} {sub:List Value} {ab:Bool} {col:Option Bool} {dd:Option Addr} {k0 k1 k2 k3 k5:Option Value} {mN:Str→Option Value} {rest:List Value} {fI:Addr} {oI:Obj}
theorem zfh {Q:Fin→Shared→Prop} (T:OwnTail h bmV bm) (hC:h.get? C=some (excClassObj nm q C N bs bm hdct sn sub ab col dd k0 k1 k2 k3 k5 "ValueError.__new__")) (hn:h.Ns N mN) (hi:mN "__init__" = some (.ref fI))
  (hfI:h.get? fI=some oI) (hfc:oI.cls = .type "function") (hrest:rest.length≤sizeLine)
  (hq:∀ h' e,Heap.MadeExcOf h h' e (.ref C) rest→wpAny (model prog w) A (call (.ref fI) (.ref e :: rest)) (fun r s'=>r = .none∧Q (.done (.ret (.ref e))) s') E ⟨h',g,d,t,os⟩) :
  wpAny (model prog w) A (Builtin.«type.__call__» ⟨.ref C :: rest,[]⟩) Q E ⟨h,g,d,t,os⟩:=by
 have F:=PySem.F.excBase_ValueError
 repeat (first | with_reducible refine wpAny_loadPart_at hC ?_ | with_reducible refine wpAny_madeBy_exc hC ?_ | wp_step)
 refine codeAny_call_builtin_code (Code.quiet_builtin _ F.quiet) (wpAny_check_new_subT F T hC ?_)
 refine codeAny_exc_new_subT F T hC ?_ hrest
 show wpAny _ _ _ _ _ _
 have kp:∀ b o,h.get? b=some o→((h.push { cls:=.type "tuple",data:=.seq rest.toArray }).push { cls:=.ref C,data:=.fields #[.ref h.objs.size,.none,.none,.none,.bool false,.none] }).get? b=some o:=
  fun b o e=>Heap.get?_push_of_some _ (Heap.get?_push_of_some _ e)
 have hC₁:=kp _ _ hC
 have hf₁:=kp _ _ hfI
 have hn₁:((h.push { cls:=.type "tuple",data:=.seq rest.toArray }).push { cls:=.ref C,data:=.fields #[.ref h.objs.size,.none,.none,.none,.bool false,.none] }).Ns N mN:=
  let ⟨o,es,ep,e,r⟩:=hn;⟨o,es,ep,kp _ _ e,r⟩
 have hget:((h.push { cls:=.type "tuple",data:=.seq rest.toArray }).push { cls:=.ref C,data:=.fields #[.ref h.objs.size,.none,.none,.none,.bool false,.none] }).get? (h.objs.size+1)=some
   { cls:=.ref C,data:=.fields #[.ref h.objs.size,.none,.none,.none,.bool false,.none] }:=by heap_get
 have hcC:(Value.ref C :: bm).contains (.ref C)=true:=by simp
 have T₁:=T.keeps kp
 unfold isInstance
 repeat (first | with_reducible refine wpAny_loadPart_at hget ?_ | (with_reducible refine wpAny_isSubtype_exc hC₁ ?_;rw [hcC]) | wp_step)
 show wpAny _ _ (typeLookup (.ref C) _) _ _ _
 refine wpAny_typeLookup_tail hC₁ hn₁ T₁ F.mroIs F.init.lookup ?_
 rw [hi]
 refine wpAny_holding (wpAny_bind ?_)
 unfold bindSpecial
 refine wpAny_bind (wpAny_typeOf (T := "function") ⟨_,hf₁,hfc⟩ ?_)
 rw [if_pos (by decide)]
 refine wpAny_pure (wpAny_bind (wpAny_mono (hq _ (h.objs.size+1) ⟨kp,Heap.get?_none_of_le (Nat.le_succ _),h.objs.size,hget,Heap.get?_none_of_le (Nat.le_refl _),Heap.get?_push_of_some _ (Heap.get?_push_at rfl rfl)⟩) (fun r s' hr=>?_) fun _ _ x=>x))
 obtain ⟨rfl,hQ⟩:=hr
 wp_walk
 exact hQ
theorem zky {Q:Value→Shared→Prop} (T:OwnTail h bmV bm) (hC:h.get? C=some (excClassObj nm q C N bs bm hdct sn sub ab col dd k0 k1 k2 k3 k5 "ValueError.__new__")) (hn:h.Ns N mN) (hi:mN "__init__" = some (.ref fI))
  (hfI:h.get? fI=some oI) (hfc:oI.cls = .type "function") (hrest:rest.length≤sizeLine)
  (hq:∀ h' e,Heap.MadeExcOf h h' e (.ref C) rest→wpAny (model prog w) (A.under (.builtin "type.__call__" ⟨.ref C :: rest,[]⟩)) (call (.ref fI) (.ref e :: rest)) (fun r s'=>r = .none∧Q (.ref e) s') E ⟨h',g,d,t,os⟩) :
  wpAny (model prog w) A (call (.ref C) rest) Q E ⟨h,g,d,t,os⟩:=by
 have f1:=tc_lookup
 have f2:=tc_bind (.ref C)
 have hT:(⟨h,g,d,t,os⟩:Shared).TypeIs (.ref C) "type" := ⟨_,hC,rfl⟩
 refine wpAny_call (codeAny_of_tree ?_)
 show wpAny _ _ (callAny (.ref C) _) _ _ _
 repeat (any_goals (first | assumption | with_reducible refine wpAny_loadPart_at hC ?_ | wp_step))
 refine ⟨rfl,?_⟩
 exact codeAny_call_builtin_at (Code.quiet_builtin _ (by decide +kernel)) entry_typeCall (wpAny_check_type_call_sub hC (zfh T hC hn hi hfI hfc hrest fun h' e hm=>hq h' e hm))
end
section
variable {M:Model} {A:Around} {E:Value→Shared→Prop} {s:Shared} {env:Env}
variable {nm q:Str} {C N:Addr} {bs bm:List Value} {hdct:Bool} {sn:List Str} {sub:List Value} {ab:Bool} {col:Option Bool} {dd:Option Addr} {k0 k1 k2 k3 k5:Option Value}
theorem ziS {x:Sem Value} {Q:Flow→Shared→Prop} (hbase:bm.contains (.type "BaseException")=true) (hh:A.handled=none)
  (h:wpAny M A x (fun v s₁=>∃ e t od,v = .ref e∧s₁.heap.get? C=some (excClassObj nm q C N bs bm hdct sn sub ab col dd k0 k1 k2 k3 k5 "ValueError.__new__") ∧
   s₁.heap.get? e=some { cls:=.ref C,dict:=od,data:=.fields #[.ref t,.none,.none,.none,.bool false,.none] }∧E (.ref e) s₁) E s) :
  wpAny M A (raiseStmt env (some x) none) Q E s:=by
 have hcB:(Value.ref C :: bm).contains (.type "BaseException")=true:=by rw [List.contains_cons,hbase,Bool.or_true]
 unfold raiseStmt
 refine wpAny_bind (wpAny_mono h (fun v s₁ h₁=>?_) fun _ _ x=>x)
 obtain ⟨e,t,od,rfl,hC,he,hE⟩:=h₁
 obtain ⟨hp,g,d,tk,os⟩:=s₁
 repeat (first | with_reducible refine wpAny_loadPart_at he ?_ | with_reducible refine wpAny_loadPart_at hC ?_ | (with_reducible refine wpAny_isSubtype_exc hC ?_;rw [hcB]) | wp_step)
 exact wpAny_raiseNew_none hh hE
end
section
variable {prog:Program} {w:World} {A:Around} {E:Value→Shared→Prop} {s:Shared} {env:Env}
variable {nm q:Str} {C N:Addr} {bs bm:List Value} {hdct:Bool} {sn:List Str} {sub:List Value} {ab:Bool} {col:Option Bool} {dd:Option Addr} {k0 k1 k2 k3 k5:Option Value} {mN:Str→Option Value} {fI:Addr} {oI:Obj}
theorem zkx {x:Str} {np cpos pos:Pos} {args:List Expr} {Q:Flow→Shared→Prop} (hbase:bm.contains (.type "BaseException")=true) (hh:A.handled=none) (hplain:(backTo cpos (starEach args env)).any (·.1)=false) (hi:mN "__init__" = some (.ref fI)) (hfc:oI.cls = .type "function")
  (h:wpAny (model prog w) A (eval (.Name x np) env) (fun f s₁=>f = .ref C∧wpAny (model prog w) A (evalArgs (.ref C) true (backTo cpos (starEach args env)) [])
   (fun a s₂=>a.kw=[]∧a.pos.length≤sizeLine∧s₂.heap.get? C=some (excClassObj nm q C N bs bm hdct sn sub ab col dd k0 k1 k2 k3 k5 "ValueError.__new__")∧s₂.heap.Ns N mN∧OwnTail s₂.heap bmV bm∧s₂.heap.get? fI=some oI ∧
    ∀ h' e,Heap.MadeExcOf s₂.heap h' e (.ref C) a.pos→wpAny (model prog w) (A.under (.builtin "type.__call__" ⟨.ref C :: a.pos,[]⟩)) (call (.ref fI) (.ref e :: a.pos))
     (fun r s'=>r = .none∧∃ t od,s'.heap.get? C=some (excClassObj nm q C N bs bm hdct sn sub ab col dd k0 k1 k2 k3 k5 "ValueError.__new__")∧s'.heap.get? e=some { cls:=.ref C,dict:=od,data:=.fields #[.ref t,.none,.none,.none,.bool false,.none] }∧E (.ref e) s') E { s₂ with heap:=h' }) E s₁) E s) :
  wpAny (model prog w) A (exec (.Raise (some (.Call (.Name x np) args [] cpos)) none pos) env) Q E s:=by
 rw [arm_exec_Raise]
 simp only [evalOpt,Option.map]
 refine wpAny_bind (wpAny_standAt (ziS (C:=C) (nm:=nm) (q:=q) (N:=N) (bs:=bs) (bm:=bm) (hdct:=hdct) (sn:=sn) (sub:=sub) (ab:=ab) (col:=col) (dd:=dd) (k0:=k0) (k1:=k1) (k2:=k2) (k3:=k3) (k5:=k5) hbase hh (wpAny_bind (wpAny_mono (wpAny_Call_ofName (wpAny_mono h (fun f s₁ h₁=>?_) fun _ _ x=>x)) (fun v s₃ h₃=>wpAny_bind (wpAny_standAt (wpAny_pure h₃))) fun _ _ x=>x))))
 obtain ⟨rfl,h₁⟩:=h₁
 unfold callWith
 refine wpAny_bind (wpAny_holding (wpAny_mono h₁ (fun a s₂ h₂=>wpAny_bind (wpAny_standAt ?_)) fun _ _ x=>x))
 obtain ⟨apos,akw⟩:=a
 obtain ⟨hkw,hlen,hC,hn,T,hfI,h₂⟩:=h₂
 obtain rfl:akw=[]:=hkw
 obtain ⟨hp,g,d,tk,os⟩:=s₂
 simp only [hplain]
 refine wpAny_bind (wpAny_keeperOf_exc hC ?_)
 refine wpAny_bind (zky T hC hn hi hfI hfc hlen fun h' e hm=>wpAny_mono (h₂ h' e hm) (fun r s' hr=>?_) fun _ _ x=>x)
 obtain ⟨rfl,t,od,hC',he,hE⟩:=hr
 exact ⟨rfl,wpAny_bind (wpAny_holding (wpAny_point (wpAny_pure ⟨e,t,od,rfl,hC',he,hE⟩)))⟩
end
end L2
end
section
namespace L2
open PySem PySem.Spec PyProof.Rows HT
end L2
end
section
namespace L2
open PySem PySem.Spec PyProof.Rows HT PySem.W PySem.Calls PySem.NumText
end L2
end
section
namespace L2
open PySem PySem.Spec PyProof.Rows HT
end L2
end
section
namespace L2
open PySem PySem.Spec PyProof.Rows HT
section
variable {X:Cx} {x:Str} {p pos:Pos} {e:Expr} {es:List Expr} {tv:TE} {t:TA}
end
end L2
end
section
namespace L2
open PySem PySem.Spec PyProof.Rows HT PySem.W PySem.Calls
end L2
end
section
namespace L2
open PySem PySem.Spec PyProof.Rows HT
section
variable {X:Cx} {x:Str} {a:Addr} {e:Expr} {p apos cpos:Pos} {ty:TE} {kvs:List (Key×V)}
end
end L2
end
section
namespace L2
open PySem PySem.Spec PyProof.Rows HT
end L2
end
section
namespace L2
open PySem PySem.Spec PyProof.Rows PySem.SeqAt
section
variable {X:Cx} {K:PySem.W.Frag}
end
end L2
end
section
namespace L2
open PySem PySem.Spec PyProof.Rows
section
variable {X:Cx}
end
end L2
end
section
namespace L2
open PySem PySem.Spec PyProof.Rows Builtin
section
variable {prog:Program} {w:World} {A:Around} {E:Value→Shared→Prop} {s:Shared} {K:PySem.W.Frag} {x y C D f:Addr} {ox oy:Obj} {od oe:Option Obj}
end
section
variable {X:Cx}
end
end L2
end
section
namespace L2
open PySem PySem.Spec PyProof.Rows
section
variable {prog:Program} {w:World} {A:Around} {E:Value→Shared→Prop} {s:Shared}
end
end L2
end
section
namespace L2
open PySem PySem.Spec PyProof.Rows
structure Tab (L:Bool) (t:SetTable) (n:Nat):Prop where
 fits:t.fits n=true
 ris:t.place.toList.Pairwise (· < ·)
 led:t.led=L
theorem zlp {xs:Array Nat} {i j:Nat} (h:i<xs.size):xs.getD i j=xs.toList[i]'(by simpa using h):=by
 rw [Array.getD_eq_getD_getElem?,Array.getElem?_eq_getElem h];simp
theorem zjb {l:List Nat} (h:l.Pairwise (· < ·)) {i k:Nat} (hk:k<l.length) (hik:i<k):l[i]'(by omega)<l[k]:=(List.pairwise_iff_getElem.mp h) i k (by omega) hk hik
theorem zer {xs:Array Nat} {j:Nat} (hr:xs.toList.Pairwise (· < ·)):∀ (fuel lo hi:Nat),hi≤xs.size→lo≤hi→hi - lo≤fuel→(∀ i (h:i<xs.toList.length),i<lo→xs.toList[i]<j)→(∀ i (h:i<xs.toList.length),hi≤i→j≤xs.toList[i]) →
  SetTable.below.go xs j fuel lo hi≤xs.size∧(∀ i (h:i<xs.toList.length),i<SetTable.below.go xs j fuel lo hi→xs.toList[i]<j)∧∀ i (h:i<xs.toList.length),SetTable.below.go xs j fuel lo hi≤i→j≤xs.toList[i]
 | 0,lo,hi,h1,h2,h3,a,b=>by
  obtain rfl:lo=hi:=by omega
  exact ⟨h1,a,b⟩
 | fuel+1,lo,hi,h1,h2,h3,a,b=>by
  unfold SetTable.below.go
  by_cases hlt:lo<hi
  ·rw [if_pos hlt]
   have hm:(lo+hi) / 2<xs.size:=by omega
   have hml:(lo+hi) / 2<xs.toList.length:=by simpa using hm
   dsimp only
   rw [zlp hm]
   by_cases hc:xs.toList[(lo+hi) / 2]<j
   ·rw [if_pos hc]
    refine zer hr fuel _ hi h1 (by omega) (by omega) (fun i h hi'=>?_) b
    rcases (show i<(lo+hi) / 2∨i=(lo+hi) / 2 by omega) with e | e
    ·exact Nat.lt_trans (zjb hr hml e) hc
    ·subst e;exact hc
   ·rw [if_neg hc]
    refine zer hr fuel lo _ (by omega) (by omega) (by omega) a (fun i h hi'=>?_)
    rcases (show (lo+hi) / 2<i∨i=(lo+hi) / 2 by omega) with e | e
    ·exact Nat.le_of_lt (Nat.lt_of_le_of_lt (Nat.not_lt.mp hc) (zjb hr h e))
    ·subst e;exact Nat.not_lt.mp hc
  ·rw [if_neg hlt]
   obtain rfl:lo=hi:=by omega
   exact ⟨h1,a,b⟩
theorem zcT {xs:Array Nat} {j:Nat} (hr:xs.toList.Pairwise (· < ·)):SetTable.below xs j≤xs.size∧(∀ i (h:i<xs.toList.length),i<SetTable.below xs j→xs.toList[i]<j)∧∀ i (h:i<xs.toList.length),SetTable.below xs j≤i→j≤xs.toList[i]:=
 zer hr xs.size 0 xs.size (Nat.le_refl _) (Nat.zero_le _) (Nat.le_refl _) (fun i h z=>absurd z (Nat.not_lt_zero _)) fun i h z=>absurd (show i<xs.size by simpa using h) (Nat.not_lt.mpr z)
theorem zjS {xs:Array Nat} (hr:xs.toList.Pairwise (· < ·)) {i:Nat} (h:i<xs.size):SetTable.below xs xs[i]=i:=by
 obtain ⟨b1,b2,b3⟩:=zcT (j:=xs[i]) hr
 have hl:i<xs.toList.length:=by simpa using h
 have e:xs.toList[i]=xs[i]:=by simp
 rcases Nat.lt_trichotomy (SetTable.below xs xs[i]) i with z | z | z
 ·have h2:SetTable.below xs xs[i]<xs.toList.length:=by omega
  have q1:=b3 _ h2 (Nat.le_refl _)
  have q2:=zjb hr hl z
  rw [e] at q2
  exact absurd q1 (Nat.not_le.mpr q2)
 ·exact z
 ·have q1:=b2 i hl z
  rw [e] at q1
  exact absurd q1 (Nat.lt_irrefl _)
theorem zg4 {xs:Array Nat} (hr:xs.toList.Pairwise (· < ·)) {i:Nat} (h:i<xs.size):SetTable.below xs (xs[i]+1)=i+1:=by
 obtain ⟨b1,b2,b3⟩:=zcT (j:=xs[i]+1) hr
 have hl:i<xs.toList.length:=by simpa using h
 have e:xs.toList[i]=xs[i]:=by simp
 rcases Nat.lt_trichotomy (SetTable.below xs (xs[i]+1)) (i+1) with z | z | z
 ·have q1:=b3 i hl (by omega)
  rw [e] at q1;omega
 ·exact z
 ·have hls:xs.toList.length=xs.size:=by simp
  have h2:i+1<xs.toList.length:=by omega
  have q1:=b2 (i+1) h2 z
  have q2:=zjb hr h2 (Nat.lt_succ_self i)
  rw [e] at q2;omega
theorem zg3 {xs:Array Nat} (hr:xs.toList.Pairwise (· < ·)):SetTable.below xs 0=0:=by
 obtain ⟨b1,b2,b3⟩:=zcT (j:=0) hr
 rcases Nat.eq_zero_or_pos (SetTable.below xs 0) with z | z
 ·exact z
 ·have hls:xs.toList.length=xs.size:=by simp
  have h2:0<xs.toList.length:=by omega
  exact absurd (b2 0 h2 z) (Nat.not_lt_zero _)
theorem zj8 {t:SetTable} (hr:t.place.toList.Pairwise (· < ·)) {j:Nat} (h:∀ i,t.slot j≠.live i):j ∉ t.place.toList:=fun hm=>by
 obtain ⟨i,hi,e⟩:=List.getElem_of_mem hm
 have hi':i<t.place.size:=by simpa using hi
 have e':t.place[i]=j:=by simpa using e
 refine h (SetTable.below t.place j) ?_
 unfold SetTable.slot
 dsimp only
 rw [if_pos]
 rw [← e',zjS hr hi',Array.getElem?_eq_getElem hi',beq_self_eq_true]
theorem zcr {t:SetTable} {hs:Nat→Int} {h:Int}:∀ (fuel:Nat) (p:SetTable.Probe) (j:Nat) (d:Option Nat),(∀ x,p.dummy=some x→∀ i,t.slot x≠.live i)→SetTable.probe.go t hs h fuel p=some (.empty j d)→(∀ i,t.slot j≠.live i)∧∀ x,d=some x→∀ i,t.slot x≠.live i
 | 0,p,j,d,_,e=>by cases e
 | fuel+1,p,j,d,hd,e=>by
  have adv:∀ q:SetTable.Probe,(t.advance q).dummy=q.dummy:=fun q=>by unfold SetTable.advance;split <;> rfl
  unfold SetTable.probe.go at e
  cases hq:t.slot p.j with
  | empty =>
   rw [hq] at e
   have e:=Option.some.inj e
   injection e with e1 e2
   subst e1 e2
   exact ⟨fun i z=>(by rw [hq] at z;cases z),hd⟩
  | dummy =>
   rw [hq] at e
   refine zcr fuel _ j d (fun x hx i z=>?_) e
   rw [adv] at hx
   have hx:p.j=x:=Option.some.inj hx
   subst hx
   rw [hq] at z;cases z
  | live i =>
   rw [hq] at e
   dsimp only at e
   split at e
   ·cases e
   ·exact zcr fuel _ j d (fun x hx=>hd x (by rw [adv] at hx;exact hx)) e
theorem zeW {t:SetTable} (hr:t.place.toList.Pairwise (· < ·)) {h:Int} {j:Nat} {b:Bool} (e:t.freeSlot h=some (j,b)):j ∉ t.place.toList:=by
 unfold SetTable.freeSlot at e
 split at e
 ·rename_i j' d hp
  have e:=Option.some.inj e
  injection e with e1 _
  obtain ⟨a1,a2⟩:=zcr _ _ _ _ (fun x hx=>by cases hx) hp
  cases d with
  | none=>rw [← e1];exact zj8 hr a1
  | some x=>rw [← e1];exact zj8 hr (a2 x rfl)
 ·cases e
theorem zgU {xs:Array Nat} (hr:xs.toList.Pairwise (· < ·)) {j:Nat} (hj:j ∉ xs.toList):(SetTable.insertAt xs (SetTable.below xs j) j).toList.Pairwise (· < ·):=by
 obtain ⟨b1,b2,b3⟩:=zcT (j:=j) hr
 rw [SetTable.toList_insertAt,List.pairwise_append]
 refine ⟨hr.sublist (List.take_sublist _ _),List.pairwise_cons.mpr ⟨fun x hx=>?_,hr.sublist (List.drop_sublist _ _)⟩,fun x hx y hy=>?_⟩
 ·obtain ⟨i,hi,rfl⟩:=List.getElem_of_mem hx
  rw [List.getElem_drop]
  rw [List.length_drop] at hi
  have q:=b3 (SetTable.below xs j+i) (by omega) (by omega)
  exact Nat.lt_of_le_of_ne q fun z=>hj (by rw [z];exact List.getElem_mem _)
 ·obtain ⟨i,hi,rfl⟩:=List.getElem_of_mem hx
  rw [List.getElem_take]
  rw [List.length_take] at hi
  have q:=b2 i (by omega) (by omega)
  rcases List.mem_cons.mp hy with rfl | hy
  ·exact q
  ·obtain ⟨k,hk,rfl⟩:=List.getElem_of_mem hy
   rw [List.getElem_drop]
   rw [List.length_drop] at hk
   exact Nat.lt_of_lt_of_le q (b3 _ (by omega) (by omega))
theorem za5 (n:Nat):(Array.range n).toList.Pairwise (· < ·):=by
 rw [Array.toList_range]
 exact List.pairwise_lt_range
theorem or_tab {L:Bool} {t:SetTable} (hr:t.place.toList.Pairwise (· < ·)) (hl:t.led=L) (n:Nat):(t.orStandIn n).place.toList.Pairwise (· < ·)∧(t.orStandIn n).led=L:=by
 unfold SetTable.orStandIn
 by_cases h:t.fits n=true
 ·rw [if_pos h];exact ⟨hr,hl⟩
 ·rw [if_neg h];exact ⟨za5 n,hl⟩
theorem zgQ {L:Bool} {t:SetTable} {es:Array (Int×Value)} (T:Tab L t es.size) (h:Int) (x:Value):Tab L (layNew t es h x).2.1 (layNew t es h x).1.size:=by
 have ft:=layNew_fits t es h x
 have q:(layNew t es h x).2.1.place.toList.Pairwise (· < ·)∧(layNew t es h x).2.1.led=L:=by
  unfold layNew
  split
  ·rename_i j b e
   exact or_tab (t:=(t.put j).1) (zgU T.ris (zeW T.ris e)) T.led _
  ·exact ⟨za5 _,T.led⟩
 exact ⟨ft,q.1,q.2⟩
theorem zdo {mask finger moves:Nat} {led plain:Bool} {hashes:Array Int} {t:SetTable} {o:Array Nat} (e:SetTable.laid mask finger moves led plain hashes=some (t,o)):t.place.toList.Pairwise (· < ·)∧t.led=led:=by
 unfold SetTable.laid at e
 obtain ⟨owner,_,e⟩:=Option.bind_eq_some_iff.mp e
 have e:=Option.some.inj e
 injection e with e1 _
 subst e1
 refine ⟨?_,rfl⟩
 show ((((List.range (mask+1)).filterMap fun j=>(owner.getD j none).map (j,·)).map (·.1)).toArray).toList.Pairwise (· < ·)
 rw [List.map_filterMap,List.toList_toArray]
 refine List.Pairwise.filterMap _ (R:=(· < ·)) (S:=(· < ·)) (fun a a' hl b hb b' hb'=>?_) List.pairwise_lt_range
 ·cases h1:owner.getD a none with
  | none=>rw [h1] at hb;cases hb
  | some u =>
   rw [h1] at hb
   cases h2:owner.getD a' none with
   | none=>rw [h2] at hb';cases hb'
   | some v =>
    rw [h2] at hb'
    have q1:a=b:=Option.some.inj hb
    have q2:a'=b':=Option.some.inj hb'
    omega
theorem zhE {L:Bool} {t:SetTable} {es:Array (Int×Value)} (T:t.led=L) (n:Nat):Tab L (relayAll t es n).2.1 (relayAll t es n).1.size:=by
 refine ⟨relayAll_fits t es n,?_,?_⟩
 ·unfold relayAll
  split
  ·rename_i t' o e
   dsimp only
   split
   ·exact (zdo e).1
   ·exact za5 _
  ·exact za5 _
 ·unfold relayAll
  split
  ·rename_i t' o e
   dsimp only
   split
   ·exact (zdo e).2.trans T
   ·exact T
  ·exact T
end L2
end
section
namespace L2
open PySem PySem.Spec PyProof.Rows
def sObj (es:Array (Int×Value)) (ep:Nat) (t:SetTable):Obj:={ cls:=.type "set",data:=.set es ep t }
def EOk (e:Int×Value):Prop:=∃ (n:Int) (t:Tok),e=(hashInt n,.int n t)
def eInt (e:Int×Value):Int:=match e.2 with
 | .int n _=>n
 | _=>0
def zim (l:List (Int×Value)):List Int:=l.map eInt
def SetI (L:Bool) (h:Heap) (a:Addr) (S:List Int):Prop:=∃ es ep t,h.get? a=some (sObj es ep t)∧(∀ e∈es.toList,EOk e)∧(zim es.toList).Perm S∧S.Nodup∧Tab L t es.size
theorem SetI.at {L:Bool} {h h':Heap} {a:Addr} {S:List Int} (x:SetI L h a S) (e:∀ o,h.get? a=some o→h'.get? a=some o):SetI L h' a S:=by
 obtain ⟨es,ep,t,g,r⟩:=x
 exact ⟨es,ep,t,e _ g,r⟩
theorem zil {prog:Program} {w:World} {l:List (Int×Value)} (h:∀ e∈l,EOk e):ElemsOf (intKind prog w) l:=fun e he=>by
 obtain ⟨n,t,rfl⟩:=h e he
 exact ⟨⟨n,intKind_is _ _ _ _,rfl⟩,rfl⟩
theorem zkc {prog:Program} {w:World} {e:Int×Value} (h:EOk e) (n:Int):(intKind prog w).is n e.2=decide (n=eInt e):=by
 obtain ⟨m,t,rfl⟩:=h
 show Value.isInt n (.int m t)=decide (n=m)
 unfold Value.isInt
 by_cases e:n=m
 ·subst e;simp
 ·rw [decide_eq_false e];simpa using fun z=>e z.symm
section
variable {prog:Program} {w:World} {A:Around} {E:Value→Shared→Prop} {s:Shared}
theorem zj1 {h:Heap} {a:Addr} {es es':Array (Int×Value)} {ep:Nat} {t t':SetTable} (g:h.get? a=some (sObj es ep t)):(h.update a (Obj.putSet es' t')).get? a=some (sObj es' (ep+1) t'):=by
 have e:=putSet_of es' t' (show (sObj es ep t).data = .set es ep t from rfl)
 have:=Heap.get?_update_self (Obj.putSet es' t') g (by rw [e];rfl)
 rw [e] at this;exact this
theorem zgq {L:Bool} {g:Bool→Sem Unit} (hg:∀ (b:Bool) (s₁:Shared) (Q':Unit→Shared→Prop),Q' () s₁→wpAny (model prog w) A (g b) Q' E s₁) {a:Addr} {es es1:Array (Int×Value)} {ep:Nat} {t t2:SetTable} (ho:s.heap.get? a=some (sObj es ep t))
  (hz:es1.size<scanBound) (T2:Tab L t2 es1.size) {wd:Bool} {R:Option Bool→Shared→Prop}
  (h:∀ h' es' ep' t',Heap.SameBut a s.heap h'→h'.get? a=some (sObj es' ep' t')→es'.toList.Perm es1.toList→Tab L t' es'.size→R (some true) { s with heap:=h' }) :
  wpAny (model prog w) A (do
   storeSet a es1 t2
   if (!wd && t2.tooFull)=true then do
    g (relayAll t2 es1 (SetTable.grown es1.size)).2.2
    storeSet a (relayAll t2 es1 (SetTable.grown es1.size)).1 (relayAll t2 es1 (SetTable.grown es1.size)).2.1
    pure (some true)
   else pure (some true)) R E s:=by
 refine wpAny_bind (wpAny_storeSet_of ho rfl ?_ (fits_of_scanBound hz))
 have g1:=zj1 (es':=es1) (t':=t2) ho
 have b1:=Heap.SameBut.update s.heap a (Obj.putSet es1 t2)
 split
 ·have pm:=relayAll_perm t2 es1 (SetTable.grown es1.size)
  have T3:=zhE (es:=es1) T2.led (SetTable.grown es1.size)
  generalize relayAll t2 es1 (SetTable.grown es1.size)=Y at pm T3 ⊢
  obtain ⟨es2,t3,gv⟩:=Y
  have sz:es2.size=es1.size:=by rw [← Array.length_toList,pm.length_eq,Array.length_toList]
  refine wpAny_bind (hg _ _ _ (wpAny_bind (wpAny_storeSet_of g1 rfl ?_ (fits_of_scanBound (by rw [sz];exact hz)))))
  exact wpAny_pure (h _ es2 _ t3 (b1.trans (Heap.SameBut.update _ a _)) (zj1 g1) pm T3)
 ·exact wpAny_pure (h _ es1 _ t2 b1 g1 .rfl T2)
theorem zkM {L:Bool} {a:Addr} {S:List Int} {n:Int} {tok:Tok} {Q:Value→Shared→Prop} (hS:SetI L s.heap a S) (hz:S.length<1000)
  (h:∀ h',Heap.SameBut a s.heap h'→SetI L h' a (if n∈S then S else S ++ [n])→Q .none { s with heap:=h',toks:=s.toks+1 }) :
  wpAny (model prog w) A (call (.builtin "set.add") [.ref a,.int n tok]) Q E s:=by
 obtain ⟨es,ep,t,ho,hE,hP,hN,T⟩:=hS
 have hel:=zil (prog:=prog) (w:=w) hE
 have hsz:es.size=S.length:=by rw [← Array.length_toList,← hP.length_eq];unfold zim;rw [List.length_map]
 have hb:es.size<scanBound:=Nat.lt_trans (show es.size<1000 by omega) (by decide)
 have hk:(intKind prog w).is n (.int n tok)=true:=intKind_is _ _ _ _
 have hsc:(Value.int n tok).scannable=true:=rfl
 refine wpAny_call_entry F.slot_set_add (show s.TypeIs (.ref a) "set" from ⟨_,ho,rfl⟩) F.entry_set_add ?_ (F.args_set_add_2 _ _)
 unfold Builtin.«set.add» Builtin.Frozenset.oneOther;simp only [List.isEmpty_nil,bind_assoc]
 unfold Builtin.Frozenset.addrOf setAdd;refine wpAny_bind (wpAny_pure ?_)
 try dsimp only
 refine wpAny_bind (wpAny_pure (wpAny_bind (wpAny_holding (wpAny_bind ((intKind prog w).pyHash hk ?_)))))
 generalize hs1:({ s with toks:=s.toks+1 }:Shared)=s1
 have ho1:s1.heap.get? a=some (sObj es ep t):=by rw [← hs1];exact ho
 have fin:∀ (b:Bool) h',Heap.SameBut a s.heap h'→SetI L h' a (if n∈S then S else S ++ [n])→(fun (_:Bool) s'=>wpAny (model prog w) A.in1 (ret Value.none) (fun fin s'=>∃ v,fin = .done (.ret v)∧Q v s') E s') b { s1 with heap:=h' }:=fun b h' hb' x=>by
  have:=h h' hb' x
  rw [← hs1]
  exact wpAny_pure ⟨_,rfl,this⟩
 show wpAny (model prog w) A.in1 (setAddHashed a (.int n tok) ((intKind prog w).hash n)) (fun _ s'=>wpAny (model prog w) A.in1 (ret Value.none) (fun fin s'=>∃ v,fin = .done (.ret v)∧Q v s') E s') E s1
 unfold setAddHashed setAddHashedIn;refine wpAny_holding (wpAny_bind (wpAny_setState_of ho1 rfl T.fits ?_))
 dsimp only
 rw [byScan_of hsc hb hel,if_pos rfl]
 unfold setAddByScan;refine wpAny_bind (wpAny_bind (wpAny_rule (wpAny_bind (wpAny_setScan_of hk ho1 rfl T.fits hel ?_))))
 have s1h:s1.heap=s.heap:=by rw [← hs1]
 have mem:n∈S↔∃ e∈es.toList,(intKind prog w).is n e.2=true:=by
  rw [← hP.mem_iff]
  constructor
  ·intro hm
   obtain ⟨e,he,z⟩:=List.mem_map.mp hm
   exact ⟨e,he,by rw [zkc (hE e he)];exact decide_eq_true z.symm⟩
  ·rintro ⟨e,he,z⟩
   rw [zkc (hE e he)] at z
   rw [of_decide_eq_true z]
   exact List.mem_map.mpr ⟨e,he,rfl⟩
 cases hr:List.findIdx? (fun e=>(intKind prog w).is n e.2) es.toList with
 | some j =>
  obtain ⟨hj,pj,_⟩:=List.findIdx?_eq_some_iff_getElem.mp hr
  have hm:n∈S:=mem.mpr ⟨_,List.getElem_mem hj,pj⟩
  refine wpAny_pure (wpAny_pure ?_)
  have:=fin false s.heap (Heap.SameBut.refl a s.heap) (by rw [if_pos hm];exact ⟨es,ep,t,ho,hE,hP,hN,T⟩)
  rw [← hs1] at this ⊢
  exact this
 | none =>
  have hm:n ∉ S:=fun z=>by
   obtain ⟨e,he,p⟩:=mem.mp z
   have:=List.findIdx?_eq_none_iff.mp hr e he
   rw [p] at this;cases this
  rw [if_neg hm] at fin
  have pm:=layNew_perm t es ((intKind prog w).hash n) (.int n tok)
  have T1:=zgQ T ((intKind prog w).hash n) (.int n tok)
  generalize layNew t es ((intKind prog w).hash n) (.int n tok)=Y at pm T1 ⊢
  obtain ⟨es1,t1,wd,gv⟩:=Y
  dsimp only at pm T1 ⊢
  rw [Array.toList_push] at pm
  have sz1:es1.size=es.size+1:=by rw [← Array.length_toList,pm.length_eq,List.length_append,Array.length_toList];rfl
  have hz1:es1.size<scanBound:=Nat.lt_trans (show es1.size<1001 by omega) (by decide)
  have last:∀ h' es' ep' t',Heap.SameBut a s1.heap h'→h'.get? a=some (sObj es' ep' t')→es'.toList.Perm es1.toList→Tab L t' es'.size→SetI L h' a (S ++ [n]):=fun h' es' ep' t' hb' g' p' T'=>by
   have p2:=p'.trans pm
   refine ⟨es',ep',t',g',fun e he=>?_,?_,?_,T'⟩
   ·rcases List.mem_append.mp (p2.mem_iff.mp he) with z | z
    ·exact hE e z
    ·rw [List.mem_singleton.mp z];exact ⟨n,tok,rfl⟩
   ·have q:=p2.map eInt
    rw [List.map_append] at q
    exact q.trans (hP.append_right _)
   ·exact List.nodup_append.mpr ⟨hN,List.nodup_cons.mpr ⟨(fun z=>nomatch z),List.nodup_nil⟩,fun x hx y hy z=>hm (by rw [← List.mem_singleton.mp hy,← z];exact hx)⟩
  refine wpAny_bind (m:=(match gv with | true=>rule "set.scan.the-table-gave-way" | false=>pure ())) ?_
  have hgw:∀ (b:Bool) (s₁:Shared) (Q':Unit→Shared→Prop),Q' () s₁→wpAny (model prog w) A.in1 (match b with | true=>rule "set.scan.the-table-gave-way" | false=>pure ()) Q' E s₁:=fun b s₁ Q' q=>by
   cases b
   ·exact wpAny_pure q
   ·exact wpAny_rule q
  refine hgw gv _ _ ?_
  have off:Tab L { t1 with plain:=false } es1.size:=⟨SetTable.fits_plain_off T1.fits,T1.ris,T1.led⟩
  split
  ·refine wpAny_bind ?_
   rw [hashByValue_scannable 8 hsc]
   refine wpAny_pure (zgq (L:=L) hgw ho1 hz1 ?_ fun h' es' ep' t' hb' g' p' T'=>wpAny_pure (fin true h' (by rw [← s1h];exact hb') (last h' es' ep' t' hb' g' p' T')))
   split
   ·exact T1
   ·exact off
  ·refine wpAny_bind (wpAny_pure ?_)
   rw [if_pos rfl]
   exact zgq (L:=L) hgw ho1 hz1 T1 fun h' es' ep' t' hb' g' p' T'=>wpAny_pure (fin true h' (by rw [← s1h];exact hb') (last h' es' ep' t' hb' g' p' T'))
end
end L2
end
section
namespace L2
open PySem PySem.Spec PyProof.Rows
theorem slot_si_next:Slot "set_iterator" "__next__" "set_iterator.__next__" :=
 .of (owner := "set_iterator") (n := "__next__") (by rw [typeLookup_type,builtinLookup_eq_fast];kernel_rfl) (by decide +kernel) (by decide +kernel) (by decide +kernel) (by first | exact .inl (by decide +kernel) | exact .inr (by decide +kernel)) (by rw [isSubtype_type];kernel_rfl)
theorem zch:entryFor table "set_iterator.__next__" = some Builtin.«set_iterator.__next__»:=entryFor_of_tree (by kernel_rfl)
theorem zga:Manifest.owners.lookup (String.ofList ['r','o','t','a','r','e','t','i','_','t','e','s'].reverse)=some Manifest.sig_set_iterator:=by kernel_rfl
theorem zcB (a:Value):argsOk "set_iterator.__next__" ⟨[a],[]⟩:=by
 unfold argsOk;rw [signature?_of (id := "set_iterator.__next__") (n:=['_','_','t','x','e','n','_','_']) (o:=['r','o','t','a','r','e','t','i','_','t','e','s']) (by kernel_rfl) zga];kernel_rfl
theorem zeZ:entryFor table "set.__iter__" = some Builtin.«frozenset.__iter__»:=entryFor_alias (id' := "frozenset.__iter__") (by kernel_rfl) rfl (by decide +kernel) (by kernel_rfl)
theorem zcy {α:Type}:∀ {l:List α} {i:Nat} (h:i<l.length),(l[i] :: l.eraseIdx i).Perm l
 | a :: l,0,h=>.rfl
 | a :: l,i+1,h=>(List.Perm.swap _ _ _).trans ((zcy (l:=l) (i:=i) (by simpa using h)).cons a)
theorem zhO {α:Type} (next:Nat→Nat):∀ (fuel k:Nat) (left:List α) (out:Array α),left.length=fuel→(pickOrder.go next fuel k left out).toList.Perm (out.toList ++ left)
 | 0,k,left,out,h=>by rw [List.eq_nil_of_length_eq_zero h,List.append_nil];exact .rfl
 | fuel+1,k,left,out,h=>by
  have hl:next k % left.length<left.length:=Nat.mod_lt _ (by omega)
  unfold pickOrder.go
  rw [List.getElem?_eq_getElem hl]
  dsimp only
  refine (zhO next fuel (k+1) _ _ (by rw [List.length_eraseIdx_of_lt hl];omega)).trans ?_
  rw [Array.toList_push,List.append_assoc]
  exact (List.Perm.refl _).append (zcy hl)
theorem zhN {α:Type} (next:Nat→Nat) (xs:Array α):(pickOrder next xs).toList.Perm xs.toList:=by
 have:=zhO next xs.size 0 xs.toList #[] (by simp)
 simpa [pickOrder] using this
section
variable {prog:Program} {w:World} {A:Around} {E:Value→Shared→Prop} {s:Shared}
theorem zg5 {src:Source} {n:Nat} {Q:Nat→Shared→Prop} (hn:n≠0) (h:∀ i d,i<n→Q i { s with drawn:=d }):wpAny (model prog w) A (choose src n) Q E s:=fun Γ p _ =>
 ⟨hn,h _ _ (Nat.mod_lt _ (Nat.pos_of_ne_zero hn))⟩
theorem zdN {α:Type}:∀ (n:Nat) (xs:List α) (s:Shared) (Q:List α→Shared→Prop),xs.length=n→(∀ ys d,ys.Perm xs→Q ys { s with drawn:=d })→wpAny (model prog w) A (drawOrder n xs) Q E s
 | 0,xs,s,Q,h,q=>by
  unfold drawOrder
  exact wpAny_pure (by have:=q [] s.drawn (by rw [List.eq_nil_of_length_eq_zero h]);exact this)
 | n+1,[],s,Q,h,q=>by cases h
 | n+1,x :: xs,s,Q,h,q=>by
  unfold drawOrder
  refine wpAny_bind (zg5 (by simp) fun i d hi=>?_)
  rw [List.getElem?_eq_getElem hi]
  dsimp only
  refine wpAny_bind (zdN n _ _ _ (by rw [List.length_eraseIdx_of_lt hi];simp at h ⊢;exact h) fun ys d' p=>wpAny_pure (q _ d' ?_))
  exact (List.Perm.cons _ p).trans (zcy hi)
def zg8 (w:World) (a:Addr) (es:Array (Int×Value)) (ep:Nat) (t:SetTable) (vs:List Value) (h:Heap) (i:Nat) (first:Value):Prop:=
 (w.params.followText "set-order" = true∧(∃ k:Nat,first = .int (k:Int) 0)∧vs=(pickOrder (w.params.setOrder a ep) es).toList.map (·.2)) ∨
 (w.params.followText "set-order" = false∧(!t.plain && decide (es.size > 1))=false∧t.led=true∧(∃ k:Nat,first = .int (k:Int) 0∧SetTable.below t.place k=i)∧vs=es.toList.map (·.2)) ∨
 (w.params.followText "set-order" = false∧∃ (T:Addr) (ps:List Nat),first = .ref T∧h.get? T=some { cls:=.type "tuple",data:=.seq (ps.map fun (p:Nat)=>Value.int (p:Int) 0).toArray }∧ps.length=es.size∧(∀ p∈ps,p<es.size)∧vs=ps.map fun p=>((es[p]?).getD (0,.none)).2)
end
end L2
end
section
namespace L2
open PySem PySem.Spec PyProof.Rows
def siO (first:Value) (i:Int) (a:Value) (n:Int) (ep:Int):Obj:={ cls:=.type "set_iterator",data:=.fields #[first,.int i 0,a,.int n 0,.int ep 0] }
section
variable {prog:Program} {w:World} {A:Around} {E:Value→Shared→Prop} {s:Shared}
theorem zdE {h:Heap} {I:Addr} {vs:Array Value} {j:Nat} {x:Value} (hI:h.get? I=some { cls:=.type "set_iterator",data:=.fields vs }):(h.update I (Obj.mapFields (·.setIfInBounds j x))).get? I=some { cls:=.type "set_iterator",data:=.fields (vs.setIfInBounds j x) }:=by
 have:=Heap.get?_update_self (Obj.mapFields (·.setIfInBounds j x)) hI rfl
 exact this
theorem zkJ {I a:Addr} {es:Array (Int×Value)} {ep i:Nat} {t:SetTable} {vs:List Value} {first x:Value} {Q:Option Value→Shared→Prop} (hI:s.heap.get? I=some (siO first (i:Int) (.ref a) (es.size:Int) (ep:Int))) (ha:s.heap.get? a=some (sObj es ep t)) (hf:t.fits es.size=true) (hr:t.place.toList.Pairwise (· < ·))
  (m:zg8 w a es ep t vs s.heap i first) (hx:vs[i]? = some x)
  (hq:∀ h' first',Heap.SameBut I s.heap h'→h'.get? I=some (siO first' ((i+1:Nat):Int) (.ref a) (es.size:Int) (ep:Int))→zg8 w a es ep t vs h' (i+1) first'→(∀ T:Addr,first' = .ref T→first = .ref T)→Q (some x) { s with heap:=h' }):wpAny (model prog w) A (pyNext (.ref I)) Q E s:=by
 have hT:s.TypeIs (.ref I) "set_iterator" := ⟨_,hI,rfl⟩
 have ps:t.place.size=es.size:=by
  have:=hf;unfold SetTable.fits at this
  exact beq_iff_eq.mp (Bool.and_eq_true_iff.mp this).1
 unfold pyNext
 refine wpAny_bind (wpAny_attempt (wpAny_callSpecial?_slot (name:=Str.ofString "__next__") hT slot_si_next (wpAny_call_entry slot_si_next hT zch ?_ (zcB _))))
 delta Builtin.«set_iterator.__next__»
 refine wpAny_bind (m:=slotArgs "__next__" 0 _) (wpAny_pure ?_)
 dsimp only
 refine wpAny_bind (wpAny_fieldsOf hI rfl ?_)
 show wpAny _ _ (setEntries a >>= _) _ _ s
 refine wpAny_bind (wpAny_setEntries_of ha rfl hf ?_)
 rw [if_neg (by simp)]
 have far:∀ {T:Addr} {o:Obj},s.heap.get? T=some o→o.cls = .type "tuple" → T≠I:=fun {T o} e c z=>by rw [z,hI] at e;cases e;exact absurd (show ("set_iterator" : String) = "tuple" by injection c) (by decide)
 rcases m with ⟨bt,⟨k,rfl⟩,ev⟩ | ⟨bt,dr,led,⟨k,rfl,bk⟩,ev⟩ | ⟨bt,T,pl,rfl,eT,hl,hp,ev⟩
 ·
  show wpAny _ _ (setNext a (k:Int).toNat (i:Int).toNat (ep:Int).toNat >>= _) _ _ s
  rw [Int.toNat_natCast,Int.toNat_natCast,Int.toNat_natCast]
  unfold setNext setsByText setWalk
  refine wpAny_bind (wpAny_bind (wpAny_setState_of ha rfl hf ?_))
  refine wpAny_bind (wpAny_bind (wpAny_askSetting (wpAny_pure ?_)))
  rw [show (model prog w).w.params.followText "set-order" = true from bt,if_pos rfl,show (ep != ep)=false by simp,if_neg Bool.false_ne_true]
  refine wpAny_bind (wpAny_bind (wpAny_setState_of ha rfl hf ?_))
  unfold setsByText
  refine wpAny_bind (wpAny_bind (wpAny_askSetting (wpAny_pure ?_)))
  rw [show (model prog w).w.params.followText "set-order" = true from bt,if_pos rfl]
  refine wpAny_bind (wpAny_askSetting (wpAny_pure (wpAny_pure ?_)))
  have e1:(pickOrder ((model prog w).w.params.setOrder a ep) es)[i]?.map (fun e=>(e.2,k))=some (x,k):=by
   rw [ev,List.getElem?_map,Array.getElem?_toList] at hx
   obtain ⟨e,h1,h2⟩:=Option.map_eq_some_iff.mp hx
   show (pickOrder (w.params.setOrder a ep) es)[i]?.map _=_
   rw [h1,← h2];rfl
  rw [e1]
  refine wpAny_bind (wpAny_setField hI rfl (by simp) ?_)
  have h1:=zdE (j:=0) (x:=.int (k:Int) 0) hI
  refine wpAny_bind (wpAny_setField h1 rfl (by simp) ?_)
  have h2:=zdE (j:=1) (x:=.int ((i:Int)+1) 0) h1
  refine wpAny_pure ⟨_,rfl,?_⟩
  refine wpAny_pure (hq _ (.int (k:Int) 0) ((Heap.SameBut.update _ _ _).trans (Heap.SameBut.update _ _ _)) h2 (.inl ⟨bt,⟨k,rfl⟩,ev⟩) fun T z=>by cases z)
 ·
  have hi:i<es.size:=by
   have:=(List.getElem?_eq_some_iff.mp hx).1
   rw [ev,List.length_map] at this;simpa using this
  have hip:i<t.place.size:=by omega
  show wpAny _ _ (setNext a (k:Int).toNat (i:Int).toNat (ep:Int).toNat >>= _) _ _ s
  rw [Int.toNat_natCast,Int.toNat_natCast,Int.toNat_natCast]
  unfold setNext setsByText
  refine wpAny_bind (wpAny_bind (wpAny_setState_of ha rfl hf ?_))
  refine wpAny_bind (wpAny_bind (wpAny_askSetting (wpAny_pure ?_)))
  rw [show (model prog w).w.params.followText "set-order" = false from bt,if_neg Bool.false_ne_true]
  rw (transparency:=.default) [if_neg (fun z=>Bool.false_ne_true (dr.symm.trans z))]
  refine wpAny_bind ?_
  show wpAny _ _ (if (!t.led && !es.isEmpty)=true then (unsupported "set:maker-not-led" : Sem Unit) else pure ()) _ _ s
  rw [if_neg (by rw [led];exact Bool.false_ne_true)]
  refine wpAny_pure (wpAny_pure ?_)
  have e1:es[i]? = some (es[i].1,x):=by
   rw [ev,List.getElem?_map,Array.getElem?_toList,Array.getElem?_eq_getElem hi] at hx
   rw [Array.getElem?_eq_getElem hi,← Option.some.inj hx]
  rw [bk,e1,Array.getElem?_eq_getElem hip]
  refine wpAny_bind (wpAny_setField hI rfl (by simp) ?_)
  have h1:=zdE (j:=0) (x:=.int ((t.place[i]+1:Nat):Int) 0) hI
  refine wpAny_bind (wpAny_setField h1 rfl (by simp) ?_)
  have h2:=zdE (j:=1) (x:=.int ((i:Int)+1) 0) h1
  refine wpAny_pure ⟨_,rfl,?_⟩
  refine wpAny_pure (hq _ (.int ((t.place[i]+1:Nat):Int) 0) ((Heap.SameBut.update _ _ _).trans (Heap.SameBut.update _ _ _)) h2 (.inr (.inl ⟨bt,dr,led,⟨t.place[i]+1,rfl,zg4 hr hip⟩,ev⟩)) fun T z=>by cases z)
 ·
  have hip:i<pl.length:=by
   have:=(List.getElem?_eq_some_iff.mp hx).1
   rw [ev,List.length_map] at this;exact this
  have hpi:pl[i]<es.size:=hp _ (List.getElem_mem hip)
  show wpAny _ _ (seqItems? (.ref T) >>= _) _ _ s
  refine wpAny_bind (wpAny_seqItems eT rfl ?_)
  dsimp only
  rw [Int.toNat_natCast,List.getElem?_toArray,List.getElem?_map,List.getElem?_eq_getElem hip]
  show wpAny _ _ (setNextDrawn a ((pl[i]:Nat):Int).toNat (ep:Int).toNat >>= _) _ _ s
  rw [Int.toNat_natCast,Int.toNat_natCast]
  unfold setNextDrawn
  refine wpAny_bind (wpAny_bind (wpAny_setState_of ha rfl hf ?_))
  dsimp only
  rw [show (ep != ep)=false by simp,if_neg Bool.false_ne_true]
  have e1:es[pl[i]]? = some (es[pl[i]].1,x):=by
   rw [ev,List.getElem?_map,List.getElem?_eq_getElem hip,Option.map_some,Array.getElem?_eq_getElem hpi] at hx
   rw [Array.getElem?_eq_getElem hpi,← Option.some.inj hx];rfl
  rw [e1]
  refine wpAny_pure ?_
  refine wpAny_bind (wpAny_setField hI rfl (by simp) ?_)
  have h1:=zdE (j:=1) (x:=.int ((i:Int)+1) 0) hI
  refine wpAny_pure ⟨_,rfl,?_⟩
  refine wpAny_pure (hq _ (.ref T) (Heap.SameBut.update _ _ _) h1 (.inr (.inr ⟨bt,T,pl,rfl,?_,hl,hp,ev⟩)) fun T' z=>z)
  exact (Heap.SameBut.update s.heap I _).extBut T _ (far eT rfl) eT
end
end L2
end
section
namespace L2
open PySem PySem.Spec PyProof.Rows
theorem zcz:Slot "set_iterator" "__iter__" "set_iterator.__iter__" :=
 .of (owner := "set_iterator") (n := "__iter__") (by rw [typeLookup_type,builtinLookup_eq_fast];kernel_rfl) (by decide +kernel) (by decide +kernel) (by decide +kernel) (by first | exact .inl (by decide +kernel) | exact .inr (by decide +kernel)) (by rw [isSubtype_type];kernel_rfl)
theorem zen:entryFor table "set_iterator.__iter__" = some Builtin.«dict_keyiterator.__iter__»:=entryFor_alias (id' := "dict_keyiterator.__iter__") (by kernel_rfl) rfl (by decide +kernel) (by kernel_rfl)
theorem zff (a:Value):argsOk "set_iterator.__iter__" ⟨[a],[]⟩:=by
 unfold argsOk;rw [signature?_of (id := "set_iterator.__iter__") (n:=['_','_','r','e','t','i','_','_']) (o:=['r','o','t','a','r','e','t','i','_','t','e','s']) (by kernel_rfl) zga];kernel_rfl
section
variable {prog:Program} {w:World} {A:Around} {E:Value→Shared→Prop} {s:Shared}
theorem zfk {α:Type} {Q:α→Shared→Prop} (hh:A.handled=none) (q:∀ e,(∃ o,(s.heap.push (seqObj "tuple" #[] 0)).push o=(s.heap.push (seqObj "tuple" #[] 0)).push o)→∀ h',Heap.ExtBut s.heap.objs.size s.heap h'→(∀ b o,s.heap.get? b=some o→h'.get? b=some o)→(∃ o,h'.get? e=some o∧o.cls = .type "StopIteration")→E (.ref e) { s with heap:=h' }) :
  wpAny (model prog w) A (do raiseNew (← newExc (.type "StopIteration") [])) Q E s:=by
 refine wpAny_bind ?_;simp only [newExc,newTuple];refine wpAny_bind (wpAny_newObj_type ?_ (by size_fits))
 refine wpAny_bind (m:=firstArgMember _ _) (wpAny_of_eq (a:=Value.none) (by first | rfl | (simp only [firstArgMember];rfl)) ?_);refine wpAny_newObj_type ?_ (by size_fits)
 simp only [raiseNew];refine wpAny_bind (wpAny_handled ?_);rw [hh];refine wpAny_bind (wpAny_pure (wpAny_throw ?_))
 refine q _ ⟨default,rfl⟩ _ (fun b o _ e=>Heap.get?_push_of_some _ (Heap.get?_push_of_some _ e)) (fun b o e=>Heap.get?_push_of_some _ (Heap.get?_push_of_some _ e)) ⟨_,Heap.get?_push_size _ rfl,rfl⟩
theorem zkK {I a:Addr} {es:Array (Int×Value)} {ep:Nat} {t:SetTable} {vs:List Value} {first:Value} {Q:Option Value→Shared→Prop} (hh:A.handled=none) (hI:s.heap.get? I=some (siO first (vs.length:Int) (.ref a) (es.size:Int) (ep:Int))) (ha:s.heap.get? a=some (sObj es ep t)) (hf:t.fits es.size=true) (hr:t.place.toList.Pairwise (· < ·))
  (m:zg8 w a es ep t vs s.heap vs.length first)
  (hq:∀ h',Heap.ExtBut I s.heap h'→Q none { s with heap:=h' }):wpAny (model prog w) A (pyNext (.ref I)) Q E s:=by
 have hT:s.TypeIs (.ref I) "set_iterator" := ⟨_,hI,rfl⟩
 unfold pyNext
 refine wpAny_bind (wpAny_attempt (wpAny_callSpecial?_slot (name:=Str.ofString "__next__") hT slot_si_next (wpAny_call_entry slot_si_next hT zch ?_ (zcB _))))
 delta Builtin.«set_iterator.__next__»
 refine wpAny_bind (m:=slotArgs "__next__" 0 _) (wpAny_pure ?_)
 dsimp only
 refine wpAny_bind (wpAny_fieldsOf hI rfl ?_)
 show wpAny _ _ (setEntries a >>= _) _ _ s
 refine wpAny_bind (wpAny_setEntries_of ha rfl hf ?_)
 rw [if_neg (by simp)]
 
 have last:∀ {Q':PySem.Fin→Shared→Prop} (h1:Heap),Heap.SameBut I s.heap h1→wpAny (model prog w) A.in1 (do raiseNew (← newExc (.type "StopIteration") [])) Q' (fun e s'=>wpAny (model prog w) A (do let __do_lift ← isInstance e (Value.type "StopIteration");if __do_lift=true then pure none else throw e) Q E s') { s with heap:=h1 }:=fun {Q'} h1 b1=>by
  refine zfk hh fun e _ h' _ k he=>?_
  obtain ⟨o,ho,hcl⟩:=he
  refine wpAny_bind (wpAny_isInstance (T := "StopIteration") (b:=true) ⟨o,ho,hcl⟩ isSubtype_stop ?_)
  exact wpAny_pure (hq h' fun b o hb e=>k b o (b1.extBut b o hb e))
 rcases m with ⟨bt,⟨k,rfl⟩,ev⟩ | ⟨bt,dr,led,⟨k,rfl,bk⟩,ev⟩ | ⟨bt,T,pl,rfl,eT,hl,hp,ev⟩
 ·show wpAny _ _ (setNext a (k:Int).toNat (vs.length:Int).toNat (ep:Int).toNat >>= _) _ _ s
  rw [Int.toNat_natCast,Int.toNat_natCast,Int.toNat_natCast]
  unfold setNext setsByText setWalk
  refine wpAny_bind (wpAny_bind (wpAny_setState_of ha rfl hf ?_))
  refine wpAny_bind (wpAny_bind (wpAny_askSetting (wpAny_pure ?_)))
  rw [show (model prog w).w.params.followText "set-order" = true from bt,if_pos rfl,show (ep != ep)=false by simp,if_neg Bool.false_ne_true]
  refine wpAny_bind (wpAny_bind (wpAny_setState_of ha rfl hf ?_))
  unfold setsByText
  refine wpAny_bind (wpAny_bind (wpAny_askSetting (wpAny_pure ?_)))
  rw [show (model prog w).w.params.followText "set-order" = true from bt,if_pos rfl]
  refine wpAny_bind (wpAny_askSetting (wpAny_pure (wpAny_pure ?_)))
  have e1:(pickOrder ((model prog w).w.params.setOrder a ep) es)[vs.length]? = none:=by
   rw [← Array.getElem?_toList,List.getElem?_eq_none]
   rw [ev,List.length_map];exact Nat.le_refl _
  rw [e1]
  refine wpAny_bind (wpAny_setField hI rfl (by simp) ?_)
  exact last _ (Heap.SameBut.update _ _ _)
 ·show wpAny _ _ (setNext a (k:Int).toNat (vs.length:Int).toNat (ep:Int).toNat >>= _) _ _ s
  rw [Int.toNat_natCast,Int.toNat_natCast,Int.toNat_natCast]
  unfold setNext setsByText
  refine wpAny_bind (wpAny_bind (wpAny_setState_of ha rfl hf ?_))
  refine wpAny_bind (wpAny_bind (wpAny_askSetting (wpAny_pure ?_)))
  rw [show (model prog w).w.params.followText "set-order" = false from bt,if_neg Bool.false_ne_true]
  rw (transparency:=.default) [if_neg (fun z=>Bool.false_ne_true (dr.symm.trans z))]
  refine wpAny_bind ?_
  show wpAny _ _ (if (!t.led && !es.isEmpty)=true then (unsupported "set:maker-not-led" : Sem Unit) else pure ()) _ _ s
  rw [if_neg (by rw [led];exact Bool.false_ne_true)]
  refine wpAny_pure (wpAny_pure ?_)
  have e1:es[vs.length]? = none:=by
   rw [← Array.getElem?_toList,List.getElem?_eq_none]
   rw [ev,List.length_map];exact Nat.le_refl _
  rw [bk,e1]
  refine wpAny_bind (wpAny_setField hI rfl (by simp) ?_)
  exact last _ (Heap.SameBut.update _ _ _)
 ·show wpAny _ _ (seqItems? (.ref T) >>= _) _ _ s
  refine wpAny_bind (wpAny_seqItems eT rfl ?_)
  dsimp only
  have e1:(pl.map fun (p:Nat)=>Value.int (p:Int) 0).toArray[vs.length]? = none:=by
   rw [List.getElem?_toArray,List.getElem?_eq_none]
   rw [ev,List.length_map,List.length_map];exact Nat.le_refl _
  rw [Int.toNat_natCast,e1]
  refine wpAny_bind (wpAny_setField hI rfl (by simp) ?_)
  have h1:=zdE (j:=0) (x:=.int 0 0) hI
  refine wpAny_bind (wpAny_setField h1 rfl (by simp) ?_)
  exact last _ ((Heap.SameBut.update _ _ _).trans (Heap.SameBut.update _ _ _))
theorem zi1 {I a:Addr} {es:Array (Int×Value)} {ep:Nat} {t:SetTable} {vs:List Value} {fp:List Addr} (hh:A.handled=none) (hf:t.fits es.size=true) (hr:t.place.toList.Pairwise (· < ·)) (hIa:I≠a) (hI:I∈fp) (ha:a∈fp) :
  Walks prog w A I fp [I] vs.length (fun i v=>vs[i]? = some v) (fun i h=>∃ first,h.get? I=some (siO first (i:Int) (.ref a) (es.size:Int) (ep:Int))∧h.get? a=some (sObj es ep t)∧zg8 w a es ep t vs h i first∧∀ T:Addr,first = .ref T→T∈fp) where
 sub:=fun b hb=>by rw [List.mem_singleton.mp hb];exact hI
 frame:=fun i h h' ⟨first,e1,e2,m,m2⟩ k=>by
  refine ⟨first,k I hI _ e1,k a ha _ e2,?_,m2⟩
  rcases m with z | z | ⟨bt,T,pl,ef,eT,r⟩
  ·exact .inl z
  ·exact .inr (.inl z)
  ·exact .inr (.inr ⟨bt,T,pl,ef,k T (m2 T ef) _ eT,r⟩)
 item:=fun i s Q E hi ⟨first,e1,e2,m,m2⟩ q=>by
  have hx:vs[i]? = some vs[i]:=List.getElem?_eq_getElem hi
  refine zkJ e1 e2 hf hr m hx fun h' first' b g m' mt=>?_
  have:=q vs[i] h' s.toks hx ⟨first',g,b.extBut a _ (Ne.symm hIa) e2,m',?_⟩ fun b' o hb' e=>b.extBut b' o (fun z=>hb' (by rw [z];exact List.mem_singleton.mpr rfl)) e
  ·exact this
  ·exact fun T z=>m2 T (mt T z)
 done:=fun s Q E ⟨first,e1,e2,m,m2⟩ q=>zkK hh e1 e2 hf hr m fun h' k=>q h' s.toks fun b o hb e=>k b o (fun z=>hb (by rw [z];exact List.mem_singleton.mpr rfl)) e
 self:=fun i s Q E ⟨first,e1,e2,m,m2⟩ q=>by
  have hT:s.TypeIs (.ref I) "set_iterator" := ⟨_,e1,rfl⟩
  refine wpAny_pyIter_slot hT zcz (wpAny_call_entry zcz hT zen ?_ (zff _))
  delta Builtin.«dict_keyiterator.__iter__»
  refine wpAny_bind (m:=slotArgs "__iter__" 0 _) (wpAny_pure ?_)
  exact wpAny_pure ⟨_,rfl,"set_iterator",_,hT,slot_si_next.lookup,q⟩
end
end L2
end
section
namespace L2
open PySem PySem.Spec PyProof.Rows
section
variable {prog:Program} {w:World} {A:Around} {E:Value→Shared→Prop} {s:Shared}
theorem zgA (es:Array (Int×Value)):(List.range es.size).map (fun p=>((es[p]?).getD (0,.none)).2)=es.toList.map (·.2):=by
 apply List.ext_getElem
 ·simp
 ·intro i h1 h2
  have hi:i<es.size:=by simpa using h1
  simp [Array.getElem?_eq_getElem hi]
theorem zi4 {a:Addr} {es:Array (Int×Value)} {ep:Nat} {t:SetTable} {Q:Value→Shared→Prop} (ha:s.heap.get? a=some (sObj es ep t)) (Tb:Tab (!w.params.followText "set-order") t es.size) (hz:es.size≤sizeLine)
  (q:∀ (h':Heap) (d:Drawn) (I:Addr) (first:Value) (vs:List Value),(∀ b o,s.heap.get? b=some o→h'.get? b=some o)→h'.get? I=some (siO first 0 (.ref a) (es.size:Int) (ep:Int))→zg8 w a es ep t vs h' 0 first→vs.Perm (es.toList.map (·.2))→s.heap.objs.size≤I→I<h'.objs.size→(∀ T:Addr,first = .ref T→s.heap.objs.size≤T∧T<h'.objs.size)→Q (.ref I) { s with heap:=h',drawn:=d }) :
  wpAny (model prog w) A (pyIter (.ref a)) Q E s:=by
 have hT:s.TypeIs (.ref a) "set" := ⟨_,ha,rfl⟩
 refine wpAny_pyIter_slot hT F.slot_set_iter (wpAny_call_entry F.slot_set_iter hT zeZ ?_ (F.args_set_iter_1 _))
 delta Builtin.«frozenset.__iter__»
 unfold Builtin.Frozenset.slot0
 refine wpAny_bind (wpAny_bind (m:=slotArgs "__iter__" 0 _) (wpAny_pure ?_))
 unfold Builtin.Frozenset.addrOf
 refine wpAny_pure ?_
 dsimp only
 unfold Builtin.Frozenset.sizeOf
 refine wpAny_bind (wpAny_bind (wpAny_setEntries_of ha rfl Tb.fits (wpAny_pure ?_)))
 unfold setDrawn setsByText
 refine wpAny_bind (wpAny_bind (wpAny_setState_of ha rfl Tb.fits ?_))
 refine wpAny_bind (wpAny_bind (wpAny_askSetting (wpAny_pure (wpAny_pure ?_))))
 rw [show (model prog w).w.params.followText "set-order" = w.params.followText "set-order" from rfl]
 have fin:∀ (s1:Shared) (first:Value),s1.heap.get? a=some (sObj es ep t)→(Q (.ref s1.heap.objs.size) { s1 with heap:=s1.heap.push (siO first 0 (.ref a) (es.size:Int) (ep:Int)) }) →
   wpAny (model prog w) A.in1 (do let __do_lift ← setEpoch a;let __do_lift ← newFields "set_iterator" [first,rawInt 0,.ref a,rawInt (es.size:Int),rawInt (__do_lift:Int)];ret __do_lift) (fun fin s'=>∃ v,fin = .done (.ret v)∧∃ T' r,s'.TypeIs v T'∧typeLookup (.type T') (Str.ofString "__next__")=pure (some r)∧Q v s') E s1:=fun s1 first h1 hq=>by
  refine wpAny_bind (wpAny_setEpoch_of h1 rfl Tb.fits ?_)
  refine wpAny_bind (wpAny_newObj_type ?_)
  exact wpAny_pure ⟨_,rfl,"set_iterator",_,⟨_,Heap.get?_push_size _ rfl,rfl⟩,slot_si_next.lookup,hq⟩
 have plain:∀ vs:List Value,zg8 w a es ep t vs (s.heap.push (siO (.int 0 0) 0 (.ref a) (es.size:Int) (ep:Int))) 0 (.int 0 0)→vs.Perm (es.toList.map (·.2))→Q (.ref s.heap.objs.size) { s with heap:=s.heap.push (siO (.int 0 0) 0 (.ref a) (es.size:Int) (ep:Int)) }:=fun vs m p =>
  q _ s.drawn s.heap.objs.size (.int 0 0) vs (fun b o e=>Heap.get?_push_of_some _ e) (Heap.get?_push_size _ rfl) m p (Nat.le_refl _) (by rw [Heap.size_push];exact Nat.lt_succ_self _) (fun T z=>by cases z)
 cases bt:w.params.followText "set-order" with
 | true =>
  rw (transparency:=.default) [if_neg (show ¬ (!true && (!t.plain && decide (es.size > 1)))=true from Bool.false_ne_true)]
  refine wpAny_bind (wpAny_pure (fin s (rawInt 0) ha (plain _ (.inl ⟨bt,⟨0,rfl⟩,rfl⟩) ((zhN _ es).map _))))
 | false =>
  have led:t.led=true:=by have:=Tb.led;rw [bt] at this;exact this
  cases hd:(!t.plain && decide (es.size > 1)) with
  | false =>
   rw (transparency:=.default) [if_neg (show ¬ (!false && (!t.plain && decide (es.size > 1)))=true by rw [hd];exact Bool.false_ne_true)]
   refine wpAny_bind (wpAny_pure (fin s (rawInt 0) ha (plain _ (.inr (.inl ⟨bt,hd,led,⟨0,rfl,zg3 Tb.ris⟩,rfl⟩)) .rfl)))
  | true =>
   rw (transparency:=.default) [if_pos (show (!false && (!t.plain && decide (es.size > 1)))=true by rw [hd];rfl)]
   refine wpAny_bind (zdN es.size (List.range es.size) s _ (by simp) fun ps d pp=>?_)
   refine wpAny_bind (wpAny_newTuple ?_ ?_)
   ·refine fin { s with heap:=s.heap.push { cls:=.type "tuple",data:=.seq (ps.map fun (i:Nat)=>rawInt (i:Int)).toArray },drawn:=d } (.ref s.heap.objs.size) (Heap.get?_push_of_some _ ha) ?_
    have hps:∀ p∈ps,p<es.size:=fun p hp=>List.mem_range.mp (pp.mem_iff.mp hp)
    refine q _ d _ (.ref s.heap.objs.size) (ps.map fun p=>((es[p]?).getD (0,.none)).2) (fun b o e=>Heap.get?_push_of_some _ (Heap.get?_push_of_some _ e)) (Heap.get?_push_size _ rfl) (.inr (.inr ⟨bt,s.heap.objs.size,ps,rfl,Heap.get?_push_of_some _ (Heap.get?_push_size _ rfl),by rw [pp.length_eq,List.length_range],hps,rfl⟩)) ?_ ?_ ?_ ?_
    ·rw [← zgA];exact pp.map _
    ·show s.heap.objs.size≤(s.heap.push _).objs.size
     rw [Heap.size_push];exact Nat.le_succ _
    ·show (s.heap.push _).objs.size<((s.heap.push _).push _).objs.size
     simp only [Heap.size_push];exact Nat.lt_succ_self _
    ·intro T z
     cases z
     refine ⟨Nat.le_refl _,?_⟩
     show s.heap.objs.size<((s.heap.push _).push _).objs.size
     simp only [Heap.size_push];exact Nat.lt_succ_of_lt (Nat.lt_succ_self _)
   ·rw [List.length_map,pp.length_eq,List.length_range];exact hz
def fpOf:Value→List Addr
 | .ref T=>[T]
 | _=>[]
theorem zd3:typeLookup (.type "set") (Str.ofString "__len__")=pure (some (.builtin "set.__len__")):=F.slot_set_len.lookup
theorem zi5 {a:Addr} (hT:s.TypeIs (.ref a) "set") {Q:Bool→Shared→Prop} (h:Q false s):wpAny (model prog w) A (Builtin.List.listLengthHint (.ref a)) Q E s:=by
 unfold Builtin.List.listLengthHint;refine wpAny_bind (wpAny_specialOf hT zd3 ?_)
 generalize hid:("set.__len__" : String)=id1;wp_delta
 rw [show splitId id1=some ("set","__len__") from by subst hid;decide +kernel];subst hid
 refine wpAny_bind (wpAny_isInstance (T := "set") (b:=true) hT (by rw [isSubtype_type];kernel_rfl) ?_);refine wpAny_ite_split (fun z=>absurd z (by decide)) (fun _=>?_)
 refine wpAny_ite_split (fun _=>?_) (fun z=>absurd (by decide +kernel) z);exact wpAny_bind (wpAny_typeOf hT (wpAny_pure h))
theorem zkz {es:List (Int×Value)} (h:∀ e∈es,EOk e):∀ {vs:List Value},vs.Perm (es.map (·.2))→∃ ns,IntsAre vs ns∧ns.Perm (zim es):=fun {vs} p=>by
 have vI:∀ v∈vs,∃ n t,v=Value.int n t:=fun v hv=>by
  obtain ⟨e,he,rfl⟩:=List.mem_map.mp (p.mem_iff.mp hv)
  obtain ⟨n,t,rfl⟩:=h e he
  exact ⟨n,t,rfl⟩
 have g:∀ l:List Value,(∀ v∈l,∃ n t,v=Value.int n t)→IntsAre l (l.map fun v=>eInt (0,v)):=fun l=>by
  induction l with
  | nil=>exact fun _=>.nil
  | cons v l ih =>
   intro hl
   obtain ⟨n,t,rfl⟩:=hl v (List.mem_cons_self ..)
   exact .cons _ _ (ih fun v hv=>hl v (List.mem_cons_of_mem _ hv))
 refine ⟨vs.map fun v=>eInt (0,v),g vs vI,?_⟩
 have q:=p.map fun v=>eInt (0,v)
 rw [List.map_map] at q
 exact q
theorem zfr {a:Addr} {S:List Int} {R:List Value→Shared→Prop} (hh:A.handled=none) (hS:SetI (!w.params.followText "set-order") s.heap a S) (hz:S.length<1000)
  (h:∀ (h':Heap) (tk:Nat) (d:Drawn) (ns:List Int) (vs:List Value),(∀ b o,s.heap.get? b=some o→h'.get? b=some o)→IntsAre vs ns→ns.Perm S→R vs { s with heap:=h',toks:=tk,drawn:=d }) :
  wpAny (model prog w) A (collect (.ref a)) R E s:=by
 obtain ⟨es,ep,t,ha,hE,hP,hN,Tb⟩:=hS
 have hsz:es.size=S.length:=by rw [← Array.length_toList,← hP.length_eq];unfold zim;rw [List.length_map]
 have hzl:es.size≤sizeLine:=Nat.le_trans (show es.size≤1000 by omega) (by decide)
 have hal:a<s.heap.objs.size:=Heap.lt_size ha
 unfold collect
 refine wpAny_bind (wpAny_runValue (codeAny_builtin F.entry_proto_collect ?_));rw [Around.under_plainId F.plain_proto_collect _]
 show wpAny _ A.in1 (newList [] >>= fun l=>again (.builtin "list.__iadd__" ⟨[l,.ref a],[]⟩)) _ _ s;refine wpAny_bind (wpAny_newObj_type ?_)
 refine wpAny_pure ⟨plainId_quiet F.plain_list_iadd _,codeAny_builtin F.entry_list_iadd ?_⟩;rw [Around.under_plainId F.plain_list_iadd _]
 generalize hD:s.heap.objs.size=D
 have hg:s.heap.push { cls:=.type "list",data:=.seq ([]:List Value).toArray }=s.heap.push (seqObj "list" #[] 0):=rfl
 generalize hh1:s.heap.push { cls:=.type "list",dict:=none,data:=.seq ([]:List Value).toArray }=h1
 have k1:∀ b o,s.heap.get? b=some o→h1.get? b=some o:=fun b o e=>by rw [← hh1];exact Heap.get?_push_of_some _ e
 have eD:h1.get? D=some { cls:=.type "list",data:=.seq #[] }:=by rw [← hh1,← hD];exact Heap.get?_push_size _ rfl
 have sz1:h1.objs.size=D+1:=by rw [← hh1,Heap.size_push,hD]
 have ha1:=k1 _ _ ha
 show wpAny _ A.in1 (Builtin.List.listExtendWith (.ref D) (.ref a) (.ref D)) _ _ { s with heap:=h1 }
 unfold Builtin.List.listExtendWith
 refine wpAny_bind (wpAny_typeOf (show Shared.TypeIs { s with heap:=h1 } (.ref a) "set" from ⟨_,ha1,rfl⟩) ?_)
 have ns:Builtin.List.listSameRef (.ref D) (.ref a)=false:=by
  have hne:D≠a:=by rw [← hD];exact Nat.ne_of_gt hal
  simp [Builtin.List.listSameRef,hne]
 rw [if_neg (by rw [ns];decide)]
 refine wpAny_bind (zi4 (s:={ s with heap:=h1 }) ha1 Tb hzl fun h2 d I first vs k2 eI m pv hI hI2 hT=>?_)
 have k12:∀ b o,s.heap.get? b=some o→h2.get? b=some o:=fun b o e=>k2 b o (k1 b o e)
 have ha2:=k12 _ _ ha
 refine wpAny_bind (wpAny_holding ?_)
 refine zi5 (show Shared.TypeIs { s with heap:=h2,drawn:=d } (.ref a) "set" from ⟨_,ha2,rfl⟩) ?_
 have eD2:=k2 _ _ eD
 refine wpAny_ite_split (fun _=>?_) (fun z=>absurd (by decide +kernel) z)
 refine wpAny_bind (wpAny_rule (wpAny_bind ?_))
 show wpAny _ A.in1 (updateSeq D (·.push .none) >>= fun _=>updateSeq D (·.pop)) _ _ { s with heap:=h2,drawn:=d }
 refine wpAny_bind (wpAny_updateSeq eD2 rfl ?_)
 have eD3:=Heap.get?_update_self (Obj.mapSeq (·.push Value.none)) eD2 rfl
 refine wpAny_updateSeq eD3 rfl ?_
 have eD4:=Heap.get?_update_self (Obj.mapSeq (·.pop)) eD3 rfl
 generalize hh4:(h2.update D (Obj.mapSeq (·.push Value.none))).update D (Obj.mapSeq (·.pop))=h4 at eD4
 have k24:∀ b o,b≠D→h2.get? b=some o→h4.get? b=some o:=fun b o hb e=>by
  rw [← hh4]
  exact (Heap.get?_update_other _ _ (Ne.symm hb)).trans ((Heap.get?_update_other _ _ (Ne.symm hb)).trans e)
 have naD:a≠D:=by rw [← hD];exact Nat.ne_of_lt hal
 have hI':h1.objs.size≤I:=hI
 have hT':∀ T:Addr,first = .ref T→h1.objs.size≤T:=fun T z=>(hT T z).1
 have nID:I≠D:=fun z=>by rw [z,sz1] at hI';exact absurd hI' (Nat.not_succ_le_self D)
 have nTD:∀ T:Addr,first = .ref T→T≠D:=fun T z z2=>by have q:=hT' T z;rw [z2,sz1] at q;exact absurd q (Nat.not_succ_le_self D)
 have hIa:I≠a:=fun z=>by rw [z,sz1,← hD] at hI';exact absurd (Nat.lt_of_lt_of_le hal (Nat.le_trans (Nat.le_succ _) hI')) (Nat.lt_irrefl _)
 have W:Walks prog w A.in1 I (I :: a :: fpOf first) [I] vs.length (fun i v=>vs[i]? = some v) _:=zi1 (es:=es) (ep:=ep) (t:=t) (vs:=vs) hh Tb.fits Tb.ris hIa (List.mem_cons_self ..) (List.mem_cons_of_mem _ (List.mem_cons_self ..))
 have hSf:D ∉ I :: a :: fpOf first:=fun z=>by
  rcases List.mem_cons.mp z with z | z
  ·exact nID z.symm
  ·rcases List.mem_cons.mp z with z | z
   ·exact naD z.symm
   ·cases first with
    | ref T=>exact nTD T rfl (List.mem_singleton.mp z).symm
    | _=>cases z
 refine wpAny_pure ⟨plainId_quiet F.plain_extend_loop _,codeAny_extend_loopS W.toS (by rw [pv.length_eq,List.length_map,Array.length_toList];exact hzl) D hSf (.ref D) vs.length 0 { s with heap:=h4,drawn:=d } _ _ rfl (Nat.zero_le _) ?_ eD4 (ItemsOf.nil _) fun s' acc' c' hm hS' hacc=>?_⟩
 ·refine ⟨first,k24 _ _ nID eI,k24 _ _ naD ha2,?_,fun T z=>?_⟩
  ·rcases m with z | z | ⟨bt,T,pl,ef,eT,r⟩
   ·exact .inl z
   ·exact .inr (.inl z)
   ·exact .inr (.inr ⟨bt,T,pl,ef,k24 _ _ (nTD T ef) eT,r⟩)
  ·subst z;exact List.mem_cons_of_mem _ (List.mem_cons_of_mem _ (List.mem_singleton.mpr rfl))
 ·show wpAny _ A (load D >>= _) _ _ s'
  refine wpAny_bind (wpAny_load hS' (wpAny_pure ?_))
  have ev:acc'.toList=vs:=by
   obtain ⟨z1,z2⟩:=hacc
   apply List.ext_getElem?
   intro j
   by_cases hj:j<acc'.size
   ·have e1:acc'.toList[j]? = some acc'[j]:=by rw [Array.getElem?_toList,Array.getElem?_eq_getElem hj]
    rw [e1,z2 j acc'[j] (Array.getElem?_eq_getElem hj)]
   ·rw [List.getElem?_eq_none (by rw [Array.length_toList];exact Nat.not_lt.mp hj),List.getElem?_eq_none (by rw [← z1];exact Nat.not_lt.mp hj)]
  rw [ev]
  obtain ⟨nn,hi,hp⟩:=zkz (es:=es.toList) hE pv
  have kk:∀ b o,s.heap.get? b=some o→s'.heap.get? b=some o:=fun b o e=>by
   have hb:=Heap.lt_size e
   have nb:b≠D:=fun z=>by rw [z,hD] at hb;exact absurd hb (Nat.lt_irrefl _)
   refine hm.heap b o (fun z=>?_) (k24 b o nb (k12 b o e))
   rcases List.mem_cons.mp z with z | z
   ·exact nb z
   ·rw [List.mem_singleton.mp z] at hb
    rw [sz1,← hD] at hI'
    exact absurd (Nat.lt_of_lt_of_le hb (Nat.le_trans (Nat.le_succ _) hI')) (Nat.lt_irrefl _)
  have fin:=h s'.heap s'.toks d nn vs kk hi (hp.trans hP)
  have g:s'.gens=s.gens:=hm.gens
  have dd:s'.drawn=d:=hm.drawn
  have oo:s'.os=s.os:=hm.os
  have e':s'={ s with heap:=s'.heap,toks:=s'.toks,drawn:=d }:=by
   rw [← g,← dd,← oo]
  rw [e'];exact fin
end
end L2
end
section
namespace L2
open PySem PySem.Spec PyProof.Rows HT
theorem Inv.draw {X:Cx} {pins:List (Addr×Obj)} {σ:St} {H:Hp} {s:Shared} (I:Inv X pins σ H s) (d:Drawn):Inv X pins σ H { s with drawn:=d }:=⟨I.ok,I.os,I.bare,I.base,I.loc,I.cell,I.free,I.freeC,I.pin,I.hok,I.len⟩
def stI (w:World) (a:Addr) (S:List Int):Heap→Prop:=fun h=>SetI (!w.params.followText "set-order") h a S
theorem stI_ok {P:Program} {w:World} {H:Hp} {h:Heap} {a:Addr} {S:List Int} (x:stI w a S h):ObjOk P w H h a (.ext (stI w a S)):=by
 refine ⟨x,?_,fun h1 h2 y k=>y.at k⟩
 obtain ⟨es,ep,t,g,_⟩:=x
 exact ⟨_,g⟩
theorem ze3 {X:Cx} (hc:X.calm=true):zbY X (.builtin "sorted") (fun xs H Q=>∃ (a:Addr) (S:List Int),xs=[.ref a]∧H a=some (.ext (stI X.w a S))∧S.length<64 ∧
  ∀ (l:Addr) (ns:List Int),H l=none→ns.Perm S→ns.Pairwise (·≤·)→Q (.ref l) (upd H l (.lst (ns.map V.int)))):=by
 intro pins s σ H xs us Q I r h
 obtain ⟨a,S,rfl,ea,h64,q⟩:=h
 obtain ⟨u,rfl,r1⟩:=zcC r
 obtain rfl:u=Value.ref a:=r1
 obtain ⟨hS,_,_⟩:=(show ObjOk X.prog X.w H s.heap a (.ext (stI X.w a S)) from I.hok a _ ea)
 refine zc3 (zfr (I.ok.hd hc) hS (by omega) fun h' tk d ks vs kp hI hP=>?_)
 have hl:vs.length=ks.length:=hI.length
 have hk:ks.length<64:=by rw [hP.length_eq];exact h64
 refine ⟨Nat.le_trans (show vs.length≤64 by omega) (by decide),?_⟩
 refine list_sort_tree (s:={ s with heap:=h'.push (seqObj "list" vs.toArray 0),toks:=tk,drawn:=d }) (Heap.get?_push_size _ rfl) hI (by omega) fun out ns a1 a2 a3=>⟨rfl,?_⟩
 have hsz:h'.objs.size<(h'.push (seqObj "list" vs.toArray 0)).objs.size:=by rw [Heap.size_push];exact Nat.lt_succ_self _
 have I2:Inv X pins σ H { s with heap:=h',toks:=tk,drawn:=d }:=(I.kept (t':=tk) kp).draw d
 obtain ⟨c,hc'⟩:=sortedHeap_at (a:=h'.objs.size) (vs:=vs) (out:=out) (Heap.get?_push_size (h:=h') (o:=seqObj "list" vs.toArray 0) rfl)
 refine ⟨.ref _,_,I2.laid (t':=tk) (o:=.lst (ns.map V.int)) (fun b o eb=>?_) (Nat.le_refl _) ?_,rfl,q _ ns (I2.hok.fresh (Nat.le_refl _)) (a2.trans hP) a3⟩
 ·have hb:=Heap.lt_size eb
  rw [sortedHeap_old (Nat.ne_of_lt hb) (Nat.lt_trans hb hsz)];exact Heap.get?_push_of_some _ eb
 ·refine ⟨?_,out.toList,_,zbZ a1,by simpa [seqObj] using hc'⟩
  rw [List.length_map,a2.length_eq];exact Nat.le_trans (Nat.le_of_lt hk) (by decide)
end L2
end
section
namespace L2
open PySem PySem.Spec PyProof.Rows
abbrev TEm (α:Type):=St→Hp→(α→Hp→Prop)→Prop
def PEm {α:Type} (B:Nat) (Y:Cx) (EM:Env→Addr→(Shared→Prop)→Shared→Prop) (AO:List α→Obj→Prop) (em:TEm α):Prop:=
 ∀ (D:Addr) (pins:List (Addr×Obj)) (s:Shared) (σ:St) (H:Hp) (Q:α→Hp→Prop) (ys:List α) (o:Obj),Inv Y pins σ H s→(D,o)∈pins→AO ys o→ys.length<B→em σ H Q →
  EM Y.env D (fun s'=>∃ y H8 s8 h' o' tk,Inv Y pins σ H8 s8∧AO (ys ++ [y]) o'∧Heap.SameBut D s8.heap h'∧h'.get? D=some o'∧s'={ s8 with heap:=h',toks:=tk }∧Q y H8) s
def ziP {α:Type} (B:Nat) (J:It) (g:TG) (tf:TT) (em:TEm α) (Q:List α→Hp→Prop) (σ0:St) (H1:Hp):Prop:=
 ∃ W:Nat→Nat→List α→St→Hp→Prop,(∃ m,W 0 m [] σ0 H1)∧∀ i m ys σc Hc,W i m ys σc Hc →
  (J.stop i Hc∧ys.length≤B∧Q ys Hc) ∨
  (J.go i Hc∧ys.length<B∧∃ N:List α→St→Hp→Prop,(∀ ys' σ' H',N ys' σ' H'→∃ m',m'<m∧W (i+1) m' ys' σ' H') ∧
   ∀ x H',J.yld i Hc x H'→g x σc H' fun σ2 H2=>tf σ2 H2 fun b H3=>if b=true then em σ2 H3 fun y H4=>N (ys ++ [y]) σ2 H4 else N ys σ2 H3)
structure CLoop (prog:Program) (w:World) (A:Around) (tg:Expr) (ifs:List Expr) (ce:Expr) (it:Value) (EM:Env→Addr→(Shared→Prop)→Shared→Prop):Prop where
 mono:∀ (env:Env) (D:Addr) (p q:Shared→Prop) (s:Shared),EM env D p s→(∀ s',p s'→q s')→EM env D q s
 loop:∀ (env:Env) (D:Addr) (I:Nat→Shared→Prop) {R:Result→Shared→Prop} (turn:∀ n s,I n s→wpAny (model prog w) A (pyNext it) (fun r s1=>match r with
   | none=>R (.ok .next) s1
   | some v=>wpAny (model prog w) A (letOwnedTupleGo tg it v) (fun _ s2=>wpAny (model prog w) A (assign tg env v) (fun _ s3 =>
     wpAny (model prog w) A (forIn ifs true fun c r=>if r=true then do let ok ← isTrue c env (eval c env);pure (ForInStep.yield ok) else pure (ForInStep.yield r)) (fun ok s4 =>
      if ok=true then EM env D (fun s6=>∃ m,m<n∧I m s6) s4 else ∃ m,m<n∧I m s4) (fun _ _=>False) s3) (fun _ _=>False) s2) (fun _ _=>False) s1) (fun _ _=>False) s)
  (n:Nat) (s:Shared) (h:I n s),codeAny (model prog w) A (.compLoop ce 0 it (.ref D) env) R s
 start:∀ (env:Env) (D:Addr) (R:Result→Shared→Prop) (s:Shared),codeAny (model prog w) A (.compLoop ce 0 it (.ref D) env) R s →
  wpAny (model prog w) A (pyIter it) (fun it' s'=>codeAny (model prog w) A (.compLoop ce 0 it' (.ref D) env) R s') (notedBy (model prog w) A env fun x s'=>R (.error x) s') s→codeAny (model prog w) A (.compStart ce 0 it (.ref D) env) R s
theorem zgZ {α:Type} {X:Cx} {pins:List (Addr×Obj)} {σ:St} {H2:Hp} {s2:Shared} {Nc:List Str} {src:List (Option Nat)} {scope:Scope} {cl:List (Str×Addr)} {fp:List Addr} {tg ce:Expr} {ifs:List Expr}
  {it:Addr} {tn:Nat→Heap→Prop} {J:It} {g:TG} {tf:TT} {em:TEm α} {Qf:List α→Hp→Prop} {E:Value→Shared→Prop} {RR:Value→Addr→Result→Shared→Prop} {mk:Sem Value} {o0:Obj} {AO:List α→Obj→Prop} {ho:Addr→List α→HO} {B:Nat} {EM:Env→Addr→(Shared→Prop)→Shared→Prop}
  (hc:X.calm=true) (I2:Inv X pins σ H2 s2) (S:CompOk X.N X.env.scope Nc src scope)
  (hcl1:∀ (x:Str) (c:Addr),cl.lookup x=some c→X.env.cells.lookup x=some c) (hcl2:∀ x∈scope.names,x.2 = .free→∃ c,cl.lookup x.1=some c)
  (T:Turn X.prog X.w X.K tg J fp it tn) (st2:tn 0 s2.heap) (f2:∀ b∈fp,FpOk X pins H2 b)
  (hg:∀ cl C fp s2 H2,PG (cxC X Nc scope cl C fp s2 H2) tg g) (hf:∀ cl C fp s2 H2,PF (cxC X Nc scope cl C fp s2 H2) ifs tf) (he:∀ cl C fp s2 H2,PEm B (cxC X Nc scope cl C fp s2 H2) EM AO em)
  (hmk:∀ (Q:Value→Shared→Prop) (s:Shared),Q (.ref s.heap.objs.size) { s with heap:=s.heap.push o0 }→wpAny (model X.prog X.w) X.A mk Q E s) (hfr:o0.isFreed=false) (h0:AO [] o0) (hcell:∀ ys o v,AO ys o→o.data≠.cell v)
  (hho:∀ ys o H h D,AO ys o→ys.length≤B→s2.heap.objs.size≤D→h.get? D=some o→ObjOk X.prog X.w (upd H D (ho D ys)) h D (ho D ys))
  (hlp:CLoop X.prog X.w X.A tg ifs ce (.ref it) EM)
  (hw:ziP B J g tf em Qf (zaT src σ) H2)
  (fin:∀ (H4:Hp) (s4:Shared) (ys:List α) (m:Str→Option Value) (C:Addr),s2.heap.objs.size≤C→H4 s2.heap.objs.size=none→Inv X pins σ (upd H4 s2.heap.objs.size (ho s2.heap.objs.size ys)) s4→s4.heap.Ns C m→upd H4 s2.heap.objs.size (ho s2.heap.objs.size ys) C=none→Qf ys H4→RR (.ref s2.heap.objs.size) C (.ok .next) s4) :
  wpAny (model X.prog X.w) X.A mk (fun acc s3=>wpAny (model X.prog X.w) X.A (newFunctionEnv scope X.env.globals cl [] X.env.qual none .none (some X.env)) (fun cenv s4 =>
   codeAny (model X.prog X.w) X.A (.compStart ce 0 (.ref it) acc { cenv with scope:=relabel scope X.env }) (RR acc cenv.locals) s4) E s3) E s2:=by
 refine hmk _ s2 (wpAny_newFunctionEnv S.nocell (by intro y hy;simp at hy) (fun h1 hns1 hsb1=>?_) S.kind)
 dsimp only at hns1 hsb1 ⊢
 generalize hH2:s2.heap.push o0=G2 at hns1 hsb1 ⊢
 have hCz:G2.objs.size=s2.heap.objs.size+1:=by rw [← hH2,Heap.size_push]
 generalize hCe:G2.objs.size=C at hns1 hsb1 hCz ⊢
 generalize hDe:s2.heap.objs.size=D at fin hCz ⊢
 have hDC:D≠C:=by omega
 have hCle:s2.heap.objs.size≤C:=by omega
 have hDle:s2.heap.objs.size≤D:=by omega
 have old:∀ b o,s2.heap.get? b=some o→h1.get? b=some o:=fun b o e=>hsb1.extBut b o (Nat.ne_of_lt (Nat.lt_of_lt_of_le (Heap.lt_size e) hCle)) (Heap.get?_push_of_some _ (hH2 ▸ Heap.get?_push_of_some _ e))
 have hacc:h1.get? D=some o0:=by
  refine hsb1.extBut _ _ hDC (Heap.get?_push_of_some _ ?_)
  rw [← hH2,← hDe]
  exact Heap.get?_push_size _ hfr
 have hfp:∀ b∈fp,b<s2.heap.objs.size:=fun b hb=>by
  obtain ⟨o,e,_⟩:=T.obj 0 _ st2 b hb
  exact Heap.lt_size e
 have ok:=zkl (Nc:=Nc) (src:=src) (scope:=scope) (cl:=cl) (C:=C) (fp:=fp) I2 S hcl1 hcl2 hCle hfp f2
 generalize hXC:cxC X Nc scope cl C fp s2 H2=Y at ok
 have hYN:Y.N=Nc:=by rw [← hXC];rfl
 
 have I0:Inv (cxC X Nc scope cl C fp s2 H2) [] (zaT src σ) H2 { s2 with heap:=h1,toks:=s2.toks+([]:List (Str×Value)).length }:=by
  rw [← hXC] at ok
  refine ⟨ok,rfl,I2.bare,Un.kept old,⟨_,hns1,fun j x v e1 e2 _=>?_⟩,fun x c e=>?_,I2.hok.fresh hCle,fun x c e=>I2.freeC x c (hcl1 _ _ e),(fun p hp=>nomatch hp),I2.hok.kept old,?_⟩
  ·
   have e2':(zaT src σ)[j]? = some (some v):=e2
   have e1':Nc[j]? = some x:=e1
   unfold zaT at e2'
   rw [List.getElem?_map] at e2'
   cases hs:src[j]? with
   | none=>rw [hs] at e2';cases e2'
   | some o =>
    rw [hs] at e2'
    cases o with
    | none=>cases e2'
    | some i =>
     simp only [Option.map_some,Option.some.injEq] at e2'
     obtain ⟨y,hy1,hy2,hy3⟩:=S.src j i hs
     rw [e1'] at hy1;cases hy1
     have hσ:σ[i]? = some (some v):=by
      cases hq:σ[i]? with
      | none=>rw [hq] at e2';cases e2'
      | some z=>rw [hq] at e2';simp only [Option.getD_some] at e2';rw [e2']
     have hm:=zbH hy3
     have hfr:=S.free _ hm rfl
     obtain ⟨m0,hn0,hl0⟩:=I2.loc
     obtain ⟨u,r,l⟩:=hl0 i x v hy2 hσ (Or.inr hfr)
     refine ⟨u,r,.inr ⟨?_,?_⟩⟩
     ·show (relabel scope X.env).names.lookup x=some .cell∨(relabel scope X.env).names.lookup x=some .free
      rw [zbd,hy3]
      simp only [Option.map_some]
      split
      ·exact .inl rfl
      ·exact .inr rfl
     ·rcases l with ⟨k,_⟩ | ⟨_,c,hc1,hc2⟩
      ·have k':X.env.scope.names.lookup x=some .local:=k
       rw [k'] at hfr;rcases hfr with z | z <;> cases z
      ·obtain ⟨c',hc'⟩:=hcl2 _ hm rfl
       have:=hcl1 _ _ hc'
       rw [hc1] at this;cases this
       exact ⟨c,hc',hc2.keeps old⟩
  ·obtain ⟨v,z⟩:=I2.cell x c (hcl1 _ _ e)
   exact ⟨v,z.keeps old⟩
  ·show (zaT src σ).length=Nc.length
   unfold zaT;rw [List.length_map];exact S.len
 obtain ⟨W,⟨m0,w0⟩,turn⟩:=hw
 have loop:codeAny (model X.prog X.w) X.A (.compLoop ce 0 (.ref it) (.ref D) (compEnvC scope cl C X.env)) (RR (.ref D) C) { s2 with heap:=h1,toks:=s2.toks+([]:List (Str×Value)).length }:=by
  have fpk:∀ {H':Hp} {ob:Obj},(∀ b∈fp,H' b=none)→∀ b∈fp,FpOk (cxC X Nc scope cl C fp s2 H2) [(D,ob)] H' b:=fun {H' ob} hn b hb =>
   ⟨hn b hb,(I0.ok.exf b hb).1,I0.ok.exfs b hb,.inl hb,(I0.ok.exf b hb).2,fun p hp=>by
    have e:p=(D,ob):=List.mem_singleton.mp hp
    subst e
    exact Nat.ne_of_gt (Nat.lt_of_lt_of_le (hfp b hb) hDle)⟩
  have hDfs:D ∉ frs X.stack:=fun hs=>by
   rcases List.mem_cons.mp (I2.stkSub D hs) with z | z
   ·exact absurd (Nat.lt_of_lt_of_le I2.lt hDle) (by rw [z];exact Nat.lt_irrefl _)
   ·exact I2.nofs hDle z
  refine hlp.loop (compEnvC scope cl C X.env) D (fun n s'=>∃ i ys σ' H' ob,Inv (cxC X Nc scope cl C fp s2 H2) [] σ' H' s'∧tn i s'.heap∧(∀ b∈fp,H' b=none)∧H' D=none∧s'.heap.get? D=some ob∧AO ys ob∧W i n ys σ' H') ?_ m0 _
   ⟨0,[],zaT src σ,H2,o0,I0,T.keep _ _ _ st2 fun b hb o e=>old b o e,fun b hb=>(f2 b hb).1,I2.hok.fresh hDle,hacc,h0,w0⟩
  rintro n s3 ⟨i,ys,σ3,H3,ob,I3,st3,fr3,hD3,hO3,vs3,w3⟩
  have I3':Inv (cxC X Nc scope cl C fp s2 H2) [(D,ob)] σ3 H3 s3:=I3.pins_of fun p hp=>by
   have e:=List.mem_singleton.mp hp
   subst e
   exact ⟨hO3,hD3,hDC,hDfs,fun v z=>hcell ys ob v vs3 z⟩
  rcases turn i n ys σ3 H3 w3 with ⟨stop,hlen,qn⟩ | ⟨go,hlen,N,hN,step⟩
  ·refine thn (T.done (cxC X Nc scope cl C fp s2 H2) rfl rfl rfl hc i _ s3 σ3 H3 _ I3' (fpk fr3) st3 stop) fun r s4 ⟨hr,I4⟩=>?_
   subst hr
   have hO4:=(I4.pin (D,_) (List.mem_append_right _ (List.mem_singleton.mpr rfl))).1
   obtain ⟨m4,hn4,_⟩:=I4.loc
   have fC:H3 C=none:=I4.free
   have uD:upd H3 D (ho D ys) C=none:=by rw [zah hDC.symm];exact fC
   have hl2:∀ b v,H2 b=some v→b<s2.heap.objs.size:=fun b v e=>I2.hok.lt e
   have Iout:Inv X pins σ (upd H3 D (ho D ys)) s4:=by
    refine I2.call' (ch:=fp) I4.os (Un.track I4.base hDle hl2) (HOk.track I4.hok hD3 (hho ys ob H3 s4.heap D vs3 hlen hDle hO4)) I4.bare fun b hb=>?_
    obtain ⟨_,a1,_,a3,a4,a5⟩:=f2 b hb
    exact ⟨a3,a1,a4,a5⟩
   exact fin H3 s4 ys m4 C (by omega) hD3 Iout hn4 uD qn
  ·refine thn (T.item (cxC X Nc scope cl C fp s2 H2) rfl rfl rfl hc i _ s3 σ3 H3 _ I3' (fpk fr3) st3 go) fun r s4 ⟨u,hr,h4⟩=>?_
   subst hr
   refine thn h4 fun _ s5 ⟨x,H5,I5,r5,y5,st5,fr5⟩=>?_
   have I5':=I5.pinned (fpk fr5) (T.obj _ _ st5)
   refine thn (hg cl C fp s2 H2 _ s5 σ3 H5 x u _ I5' r5 (step x H5 y5)) fun _ s6 ⟨σ6,H6,I6,q6⟩=>?_
   refine thn (hf cl C fp s2 H2 _ s6 σ6 H6 _ I6 q6) fun ok s7 ⟨H7,I7,q7⟩=>?_
   have back:∀ {s8:Shared} {σ8:St} {H8:Hp},Inv (cxC X Nc scope cl C fp s2 H2) ([(D,ob)] ++ zdF fp s5.heap) σ8 H8 s8 →
     tn (i+1) s8.heap∧(∀ b∈fp,H8 b=none)∧H8 D=none∧s8.heap.get? D=some ob:=fun {s8 σ8 H8} I8=>by
    refine ⟨T.keep _ _ _ st5 fun b hb o e=>(I8.pin (b,o) (List.mem_append_right _ (List.mem_append_right _ (zaU hb e)))).1,fun b hb=>?_,?_,?_⟩
    ·obtain ⟨o,e,d⟩:=T.obj _ _ st5 b hb
     exact (I8.pin (b,o) (List.mem_append_right _ (List.mem_append_right _ (zaU hb e)))).2.1
    ·exact (I8.pin (D,_) (List.mem_append_right _ (List.mem_append_left _ (List.mem_singleton.mpr rfl)))).2.1
    ·exact (I8.pin (D,_) (List.mem_append_right _ (List.mem_append_left _ (List.mem_singleton.mpr rfl)))).1
   cases ok with
   | false =>
    obtain ⟨m',hm',w7⟩:=hN _ _ _ q7
    obtain ⟨b1,b2,b3,b4⟩:=back I7
    exact ⟨m',hm',i+1,ys,σ6,H7,ob,I7.pins_of (fun p hp=>nomatch hp),b1,b2,b3,b4,vs3,w7⟩
   | true =>
    refine hlp.mono _ _ _ _ _ (he cl C fp s2 H2 D _ s7 σ6 H7 _ ys ob I7 (List.mem_append_left _ (List.mem_singleton.mpr rfl)) vs3 hlen q7) fun s9 ⟨y,H8,s8,h9,o9,tk9,I8,a9,sb9,g9,e9,q8⟩=>?_
    subst e9
    obtain ⟨m',hm',w8⟩:=hN _ _ _ q8
    obtain ⟨b1,b2,b3,b4⟩:=back I8
    have I8n:Inv (cxC X Nc scope cl C fp s2 H2) [] σ6 H8 s8:=I8.pins_of fun p hp=>nomatch hp
    have I9:Inv (cxC X Nc scope cl C fp s2 H2) [] σ6 H8 { s8 with heap:=h9,toks:=tk9 }:=
     I8n.turned (it:=D) (fun b o hb e=>sb9.extBut b o hb e) b3 hDC (.inr hDle) (fun x c e z=>by
      obtain ⟨w',z'⟩:=I2.cell x c (hcl1 _ _ e)
      exact absurd (Nat.lt_of_lt_of_le z'.lt hDle) (by rw [z];exact Nat.lt_irrefl _)) (fun p hp=>nomatch hp)
    refine ⟨m',hm',i+1,ys ++ [y],σ6,H8,o9,I9,T.keep _ _ _ b1 fun b hb o e=>sb9.extBut b o (Nat.ne_of_lt (Nat.lt_of_lt_of_le (hfp b hb) hDle)) e,b2,b3,g9,a9,w8⟩
 exact hlp.start _ D _ _ loop (T.self X.A 0 _ _ _ (T.keep _ _ _ st2 fun b hb o e=>old b o e) loop)
end L2
end
section
namespace L2
open PySem PySem.Spec PyProof.Rows
theorem ziV (elt target iter:Expr) (ifs:List Expr) (scope:Scope) (pos:Pos) (it acc:Value) (env:Env):compTurn (.SetComp elt [⟨target,iter,ifs,0⟩] scope pos) 0 it acc env=(do
   standAt iter.pos;match ← pyNext it with
   | none=>pure (.done .next)
   | some v=>do
    letOwnedTupleGo target it v;assign target env v;let mut ok:=true
    for c in ifs do if ok then ok ← isTrue c env (eval c env)
    if ok then (do let v ← eval elt env;standAt elt.pos;let _ ← call (.builtin "set.add") [acc,v])
    again (.compLoop (.SetComp elt [⟨target,iter,ifs,0⟩] scope pos) 0 it acc env)):=by rfl
section
variable {prog:Program} {w:World} {A:Around} {E:Value→Shared→Prop} {R:Result→Shared→Prop} {s:Shared}
theorem zhg {elt target iter ifs rest scope pos it acc env}
  (h0:codeAny (model prog w) A (.compLoop (.SetComp elt (⟨target,iter,ifs,0⟩ :: rest) scope pos) 0 it acc env) R s)
  (h:wpAny (model prog w) A (pyIter it) (fun it' s'=>codeAny (model prog w) A (.compLoop (.SetComp elt (⟨target,iter,ifs,0⟩ :: rest) scope pos) 0 it' acc env) R s') (notedBy (model prog w) A env fun x s'=>R (.error x) s') s) :
  codeAny (model prog w) A (.compStart (.SetComp elt (⟨target,iter,ifs,0⟩ :: rest) scope pos) 0 it acc env) R s:=by
 refine codeAny_of_tree ?_
 show wpAny _ A ((compStart (.SetComp elt (⟨target,iter,ifs,0⟩ :: rest) scope pos) 0 it acc env).onRaise (fun x=>do noteFrame x env;standAt theWindowsPlace)) _ _ s
 refine wpAny_notedAt ?_;unfold compStart;show wpAny _ A (ask >>= _) _ _ s;refine wpAny_bind (wpAny_askSetting (wpAny_ite ?_))
 split
 ·first | exact wpAny_bind (wpAny_pure (wpAny_pure (And.intro rfl h0))) | exact wpAny_pure (And.intro rfl h0)
 ·first | exact wpAny_bind (wpAny_rule (wpAny_bind (wpAny_standAt (wpAny_bind (wpAny_mono h (fun it' s' h'=>wpAny_pure (And.intro rfl h')) fun _ _ x=>x))))) | (refine wpAny_bind (wpAny_rule ?_);show wpAny _ _ (standAt iter.pos >>= _) _ _ s;exact wpAny_bind (wpAny_standAt (wpAny_bind (wpAny_mono h (fun it' s' h'=>wpAny_pure (And.intro rfl h')) fun _ _ x=>x))))
def EMs (prog:Program) (w:World) (A:Around) (elt:Expr) (env:Env) (D:Addr) (p:Shared→Prop) (s:Shared):Prop:=
 wpAny (model prog w) A (eval elt env) (fun v s5=>wpAny (model prog w) A (call (.builtin "set.add") [.ref D,v]) (fun _ s6=>p s6) (fun _ _=>False) s5) (fun _ _=>False) s
theorem zjt {elt target iter:Expr} {ifs:List Expr} {scope:Scope} {pos:Pos} {it:Value}:CLoop prog w A target ifs (.SetComp elt [⟨target,iter,ifs,0⟩] scope pos) it (EMs prog w A elt) where
 mono:=fun env D p q s h k=>wpAny_mono h (fun v s5 h5=>wpAny_mono h5 (fun _ s6 h6=>k s6 h6) fun _ _ e=>e) fun _ _ e=>e
 loop:=fun env D I {R} turn n s h=>by
  refine codeAny_loop rfl I (fun n s hI=>?_) n h
  show wpAny _ A ((compTurn (.SetComp elt [⟨target,iter,ifs,0⟩] scope pos) 0 it (.ref D) env).onRaise (fun x=>do noteFrame x env;theTreesLotGoes x)) _ _ s
  refine wpAny_noted ?_
  rw [ziV]
  refine wpAny_bind (wpAny_standAt (wpAny_bind (wpAny_mono (turn n s hI) (fun r s1 h1=>?_) fun _ _ h'=>h'.elim)))
  cases r with
  | none=>exact wpAny_pure h1
  | some v =>
   refine wpAny_bind (wpAny_mono h1 (fun _ s2 h2=>?_) fun _ _ h'=>h'.elim)
   refine wpAny_bind (wpAny_mono h2 (fun _ s3 h3=>wpAny_bind (wpAny_mono h3 (fun ok s4 h4=>?_) fun _ _ h'=>h'.elim)) fun _ _ h'=>h'.elim)
   cases ok with
   | false=>exact wpAny_pure ⟨rfl,h4⟩
   | true =>
    exact wpAny_bind (wpAny_bind (wpAny_mono h4 (fun x s5 h5=>wpAny_bind (wpAny_standAt (wpAny_bind (wpAny_mono h5 (fun _ s6 h6=>wpAny_pure (wpAny_pure ⟨rfl,h6⟩)) fun _ _ h'=>h'.elim)))) fun _ _ h'=>h'.elim))
 start:=fun env D R s h0 h=>zhg h0 h
end
def dd (ys:List Int):List Int:=ys.foldl (fun S n=>if n∈S then S else S ++ [n]) []
theorem zls (ys:List Int) (n:Int):dd (ys ++ [n])=if n∈dd ys then dd ys else dd ys ++ [n]:=by unfold dd;rw [List.foldl_append];rfl
theorem zki (ys:List Int):(dd ys).length≤ys.length:=by
 have g:∀ (l:List Int) (S:List Int),(l.foldl (fun S n=>if n∈S then S else S ++ [n]) S).length≤S.length+l.length:=by
  intro l
  induction l with
  | nil=>intro S;exact Nat.le_refl _
  | cons a l ih =>
   intro S
   refine Nat.le_trans (ih _) ?_
   dsimp only
   split
   ·rw [List.length_cons];omega
   ·have e1:(S ++ [a]).length=S.length+1:=by rw [List.length_append];rfl
    have e2:(a :: l).length=l.length+1:=rfl
    omega
 have:=g ys []
 simpa [dd] using this
theorem mem_dd {ys:List Int} {n:Int}:n∈dd ys↔n∈ys:=by
 have g:∀ (l:List Int) (S:List Int),n∈(l.foldl (fun S n=>if n∈S then S else S ++ [n]) S)↔n∈S∨n∈l:=by
  intro l
  induction l with
  | nil=>intro S;simp
  | cons a l ih =>
   intro S
   rw [List.foldl_cons,ih]
   by_cases h:a∈S
   ·rw [if_pos h]
    constructor
    ·rintro (z | z)
     ·exact .inl z
     ·exact .inr (List.mem_cons_of_mem _ z)
    ·rintro (z | z)
     ·exact .inl z
     ·rcases List.mem_cons.mp z with rfl | z
      ·exact .inl h
      ·exact .inr z
   ·rw [if_neg h];simp [or_assoc]
 have:=g ys []
 simpa [dd] using this
def AOs (w:World) (ys:List Int) (o:Obj):Prop:=∃ es ep t,o=sObj es ep t∧(∀ e∈es.toList,EOk e)∧(zim es.toList).Perm (dd ys)∧(dd ys).Nodup∧Tab (!w.params.followText "set-order") t es.size
theorem AOs.at {w:World} {ys:List Int} {o:Obj} (x:AOs w ys o) {h:Heap} {a:Addr} (e:h.get? a=some o):SetI (!w.params.followText "set-order") h a (dd ys):=by
 obtain ⟨es,ep,t,rfl,r⟩:=x
 exact ⟨es,ep,t,e,r⟩
def emS (te:TE):TEm Int:=fun σ H Q=>te σ H fun v H1=>∃ i,v = .int i∧Q i H1
theorem zkT {Y:Cx} {elt:Expr} {te:TE} (he:PE Y elt te) (hxe:Y.xe=fun _ _=>False):PEm 500 Y (EMs Y.prog Y.w Y.A elt) (AOs Y.w) (emS te):=by
 intro D pins s σ H Q ys o I hp ao hl h
 refine wpAny_mono (he pins s σ H _ I h) (fun v s5 ⟨x,H5,I5,rx,i,ex,q⟩=>?_) fun e s' z=>by rw [hxe] at z;exact z
 subst ex
 obtain ⟨t,rfl⟩:=(show ∃ t,v=Value.int i t from rx)
 have g5:=(I5.pin (D,o) (List.mem_append_right _ hp)).1
 refine zkM (ao.at g5) (Nat.lt_of_le_of_lt (zki ys) (by omega)) fun h' sb x=>?_
 rw [← zls] at x
 obtain ⟨es,ep,t',g',r'⟩:=x
 exact ⟨i,H5,s5,h',_,_,I5,⟨es,ep,t',rfl,r'⟩,sb,g',rfl,q⟩
section
variable {X:Cx} {Nc:List Str} {src:List (Option Nat)} {scope:Scope} {elt tg iter:Expr} {ifs:List Expr} {pos:Pos} {wi:TI} {g:TG} {tf:TT} {te:TE}
theorem cxC_xe (cl:List (Str×Addr)) (C:Addr) (fp:List Addr) (s2:Shared) (H2:Hp):(cxC X Nc scope cl C fp s2 H2).xe=fun _ _=>False:=rfl
def tSetC (w:World) (src:List (Option Nat)) (wi:TI) (g:TG) (tf:TT) (te:TE):TE:=fun σ H Q=>wi σ H fun J H1 =>
 ziP 500 J g tf (emS te) (fun ys H2=>∀ D,H2 D=none→Q (.ref D) (upd H2 D (.ext (stI w D (dd ys))))) (zaT src σ) H1
theorem mk_set {prog:Program} {w:World} {A:Around} {E:Value→Shared→Prop} (Q:Value→Shared→Prop) (s:Shared) (q:Q (.ref s.heap.objs.size) { s with heap:=s.heap.push (sObj #[] 0 (.fresh 0 0 (!w.params.followText "set-order"))) }):wpAny (model prog w) A (newSet (.type "set")) Q E s:=by
 unfold newSet setsByText
 exact wpAny_bind (wpAny_bind (wpAny_askSetting (wpAny_pure (wpAny_newObj_type q))))
theorem ev_set (elt:Expr) (gens:List Comprehension) (scope:Scope) (pos:Pos) (env:Env):eval (.SetComp elt gens scope pos) env=comprehension (.SetComp elt gens scope pos) scope env (firstIterPos gens pos) (newSet (.type "set")) (firstAsync gens) (firstIter gens env):=rfl
theorem zgD (src:List (Option Nat)) (hc:X.calm=true) (S:CompOk X.N X.env.scope Nc src scope) (hi:PI X tg iter wi)
  (hg:∀ cl C fp s2 H2,PG (cxC X Nc scope cl C fp s2 H2) tg g) (hf:∀ cl C fp s2 H2,PF (cxC X Nc scope cl C fp s2 H2) ifs tf) (he:∀ cl C fp s2 H2,PE (cxC X Nc scope cl C fp s2 H2) elt te)
  (hs:∀ x,foldedSetIterable iter X.env x=pure x:=by intro _;rfl):PE X (.SetComp elt [⟨tg,iter,ifs,0⟩] scope pos) (tSetC X.w src wi g tf te):=by
 intro pins s σ H Q I h
 obtain ⟨cl,hclos,hcl1,hcl2⟩:=zbq I.ok (scope:=scope) S.free
 rw [ev_set]
 refine wpAny_comprehension_free (use:=none) rfl hs hclos S.kind (fun x hx hl=>by obtain ⟨n,k⟩:=x;cases hl;exact zbp S.nodup hx) (thn (hi pins s σ H _ I h) fun xv s1 h1=>thn h1 fun itv s2 h2=>?_)
 obtain ⟨it,fp,tn,J,H2,e,I2,T,st2,f2,hw⟩:=h2
 subst e
 refine zgZ (α:=Int) (B:=500) (ho:=fun D ys=>.ext (stI X.w D (dd ys))) (AO:=AOs X.w) (RR:=fun acc C=>compPost (model X.prog X.w) X.A X.xe none (EP X pins σ Q) acc C) hc I2 S hcl1 hcl2 T st2 f2 hg hf (fun cl C fp s2 H2=>zkT (he cl C fp s2 H2) (cxC_xe cl C fp s2 H2)) mk_set rfl ?_ ?_ ?_ zjt hw ?_
 ·exact ⟨#[],0,_,rfl,(fun e he=>nomatch he),.rfl,List.nodup_nil,⟨rfl,List.Pairwise.nil,rfl⟩⟩
 ·rintro ys o v ⟨es,ep,t,rfl,_⟩ z
  have z':Data.set es ep t=Data.cell v:=z
  cases z'
 ·intro ys o H h D ao _ _ g'
  exact stI_ok (ao.at g')
 intro H4 s4 ys m C hC hD Iout hn hCn q
 refine ⟨m,hn,fun h' sb=>⟨.ref s2.heap.objs.size,_,?_,rfl,q _ hD⟩⟩
 obtain ⟨f0,f1,f3,f4,f5,f6⟩:=I2.fpOk (H':=upd H4 s2.heap.objs.size (.ext (stI X.w s2.heap.objs.size (dd ys)))) hC hCn
 exact Iout.turned (t':=s4.toks) (it:=C) (fun b o hb e=>(sb.2 b hb).trans e) f0 f1 f4 f5 f6
end
end L2
end
section
namespace L2
open PySem PySem.Spec PyProof.Rows
section
variable {prog:Program} {w:World} {A:Around} {E:Value→Shared→Prop} {R:Result→Shared→Prop} {s:Shared}
end
section
variable {X:Cx} {Nc:List Str} {src:List (Option Nat)} {scope:Scope} {kx vx tg iter:Expr} {ifs:List Expr} {pos:Pos} {wi:TI} {g:TG} {tf:TT} {tk tv:TE}
end
end L2
end
section
namespace L2
open PySem PySem.Spec PyProof.Rows
section
variable {X:Cx} {Nc:List Str} {src:List (Option Nat)} {scope:Scope} {kx vx tg iter:Expr} {ifs:List Expr} {pos:Pos} {wi:TI} {g:TG} {tf:TT} {tk tv:TE}
end
end L2
end
section
namespace L2
open PySem PySem.Spec PyProof.Rows
section
variable {X:Cx}
end
section
variable {K:PySem.W.Frag} {α:Type} {B:Nat} {g:TG} {tf:TT} {em:TEm α} {Q:List α→Hp→Prop} {σ:St} {H:Hp}
theorem ziw {a:Addr} {xs:List V} (Pv:Nat→List α→St→Hp→Prop) (hn:xs.length≤B) (h0:Pv 0 [] σ H) (hl:∀ i ys σ H,i≤xs.length→Pv i ys σ H→SqT K H a xs∧ys.length≤i)
  (hs:∀ i x ys σ H,xs[i]? = some x→Pv i ys σ H→g x σ H fun σ2 H2=>tf σ2 H2 fun b H3=>if b=true then em σ2 H3 fun y H4=>Pv (i+1) (ys ++ [y]) σ2 H4 else Pv (i+1) ys σ2 H3)
  (hd:∀ ys σ H,Pv xs.length ys σ H→Q ys H):ziP B (Itt K a) g tf em Q σ H:=by
 refine ⟨fun i m ys σ H=>m=xs.length - i∧i≤xs.length∧Pv i ys σ H,⟨xs.length,by simp,Nat.zero_le _,h0⟩,?_⟩
 rintro i m ys σ H ⟨rfl,hi,p⟩
 obtain ⟨q,hz⟩:=hl i ys σ H hi p
 by_cases hlt:i<xs.length
 ·refine .inr ⟨⟨xs,xs[i],q,by simp [hlt]⟩,by omega,Pv (i+1),fun ys' σ' H' p'=>⟨xs.length - (i+1),by omega,rfl,hlt,p'⟩,fun x H' y=>?_⟩
  obtain ⟨e,y⟩:=y
  subst e
  exact hs i x ys σ _ (y xs q) p
 ·have e:i=xs.length:=by omega
  subst e
  exact .inl ⟨⟨xs,q,Nat.le_refl _⟩,by omega,hd ys σ H p⟩
end
end L2
end
section
namespace L2
open PySem PySem.Spec PyProof.Rows
section
variable {X:Cx} {k:Nat} {ks:List Str} {m:Str} {pos apos:Pos} {e o:Expr} {es:List Expr} {kws:List Keyword} {ta:TE} {t tk:TA}
end
end L2
end
section
namespace L2
open PySem PySem.Spec PyProof.Rows
section
variable {X:Cx}
def rIxN (K:PySem.W.Frag):V→V→Hp→VK→Prop:=fun x y H Q=>∃ p xs i v,x = .ref p∧y = .int i∧0≤i∧SqL K H p xs∧atI xs i=some v∧Q v H
theorem zhP:PGet X (rIxN X.K):=by
 intro pins s σ H x y v u Q I rx ry h
 obtain ⟨p,xs,i,z,rfl,rfl,h0,hq,he,q⟩:=h
 cases rx
 obtain ⟨t,rfl⟩:=ry
 obtain ⟨its,r,pl,hz⟩:=I.list hq
 obtain ⟨j,h1,h2,h3,h4,h5⟩:=zfO he
 obtain ⟨w,ew,rw'⟩:=r.get h2
 have hl:=r.length
 have hn:=zdK
 have hj:i.toNat=j:=by
  rw [seqIndex_of h0 h5] at h1
  exact Option.some.inj h1
 exact wpAny_getItem_list pl.isList h0 (by omega) (by rw [hj];simpa using ew) ⟨z,H,I,rw',q⟩
end
end L2
end
section
namespace L2
open PySem PySem.Spec PyProof.Rows PySem.SeqAt
section
variable {X:Cx} {K:PySem.W.Frag}
end
end L2
end
section
namespace L2
open PySem PySem.Spec PyProof.Rows HT PySem.W PySem.Calls
def xFr (e C:Addr) (od:Option Addr):Heap→Prop:=fun h=>∃ t,h.get? e=some { cls:=.ref C,dict:=od,data:=.fields #[.ref t,.none,.none,.none,.bool false,.none] }
def xDc (dx:Addr) (fs:List (Str×V)):Heap→Prop:=fun h=>fs.length≤100∧∃ mA,h.Ns1 dx mA∧(∀ f,RelO (fs.lookup f) (mA f))∧PySem.Within mA (fs.map (·.1))
section
variable {P:Program} {w:World} {H:Hp} {h:Heap} {e C dx:Addr} {od:Option Addr} {fs:List (Str×V)}
theorem zk4 (x:xFr e C od h):ObjOk P w H h e (.ext (xFr e C od)):=by
 obtain ⟨t,g⟩:=id x
 exact ⟨x,⟨_,g⟩,fun h1 h2 ⟨t1,q⟩ k=>⟨t1,k _ q⟩⟩
theorem ok_dc (x:xDc dx fs h):ObjOk P w H h dx (.ext (xDc dx fs)):=by
 obtain ⟨l,mA,⟨o,es,ep,e,r⟩,r1,r2⟩:=id x
 exact ⟨x,⟨_,e⟩,fun h1 h2 ⟨l,mA,⟨o,es,ep,e,r⟩,r1,r2⟩ k=>⟨l,mA,⟨o,es,ep,k _ e,r⟩,r1,r2⟩⟩
end
def NsKI (K:PySem.W.Frag) (N fI:Addr):Prop:=∃ c d es ep sl,K.lookup N=some ⟨c,d,.dict es ep,sl⟩∧StrKeys es∧nsFind es "__init__" = some (.ref fI)
structure ExcI (K:PySem.W.Frag) (C fI:Addr):Prop where
 ex:∃ nm q N bs bm sn sub ab col dd k0 k1 k2 k3 k5,K.lookup C=some (excClassObj nm q C N bs bm true sn sub ab col dd k0 k1 k2 k3 k5 "ValueError.__new__")∧NsKI K N fI∧TailK K bm
 sa:findIn K (.ref C) "__setattr__" = some (some (.builtin "object.__setattr__"))
theorem TailK.pass {K:PySem.W.Frag} {bm:List Value} (x:TailK K bm) (self:Value):refuseLoop self "__setattr__" bm=pure ():=by
 induction x with
 | base=>exact PySem.F.store_ValueError.passes self
 | own e n _ ih=>rw [refuseLoop_ref];exact ih
theorem TailK.has {K:PySem.W.Frag} {bm:List Value} (x:TailK K bm):bm.contains (.type "object")=true:=by
 induction x with
 | base=>decide +kernel
 | own e n _ ih=>rw [List.contains_cons,ih,Bool.or_true]
section
variable {prog:Program} {w:World} {A:Around} {E:Value→Shared→Prop} {s:Shared} {K:PySem.W.Frag} {x dx C fI:Addr} {mA:Str→Option Value} {name:Str} {v:Value} {ox:Obj} {od:Option Obj}
theorem zes {tk:Tok} {R:Result→Shared→Prop} (X:K.In s.heap) (I:InstAt s.heap x ox C od) (c:ExcI K C fI) (ht:takerIn K C name=some none)
  (h:∀ b,wpAny (model prog w) A.in1 (Builtin.ObjectAttr.storeInOwnDict (.ref x) (.ref C) (.str name tk) name v b)
   (fun fin s'=>match fin with | .done f=>R (.ok f) s' | .again c'=>c'.quiet=true∧codeAny (model prog w) A c' R s') (fun e s'=>R (.error e) s') s) :
  codeAny (model prog w) A (.call (.builtin "object.__setattr__") ⟨[.ref x,.str name tk,v],[]⟩) R s:=by
 have SF:=PySem.F.store_object
 obtain ⟨nm,q,N,bs,bm,sn,sub,ab,col,dd,k0,k1,k2,k3,k5,hC,hN,hT⟩:=c.ex
 have hc:∃ cd,clsIn K C=some cd∧cd.mro = .ref C :: bm:=⟨_,by unfold clsIn;rw [hC],rfl⟩
 obtain ⟨cd,hc,hmr⟩:=hc
 have hcon:cd.mro.contains (.type "object")=true:=by rw [hmr,List.contains_cons,hT.has,Bool.or_true]
 have ne:cd.mro.isEmpty=false:=by rw [hmr];rfl
 have sub:Looks (model prog w) s.heap (isInstance (.ref x) (.type "object")) true:=I.type.andThen (looks_mroIn X (by unfold mroIn;rw [hc,Option.bind_some,if_neg (by rw [ne];decide),hcon]))
 refine codeAny_call_builtin SF.slot.plain SF.entry (@check_slot (model prog w) _ _ s "object.__setattr__" "object" "__setattr__" (.ref x) [.str name tk,v] [] _ SF.kind SF.split sub (SF.args (.ref x) (.str name tk) v) ?_)
 obtain ⟨attr,ha,hr⟩:=Option.bind_eq_some_iff.mp ht
 have hm:Looks (model prog w) s.heap (mroOf (.ref C)) cd.mro:=(looks_clsIn X hc).andThen .now
 have L3:Looks (model prog w) s.heap (Builtin.ObjectAttr.storeTaker? attr) none:=by
  cases attr with
  | none=>exact .now
  | some a =>
   obtain ⟨b,hb,hb2⟩:=Option.map_eq_some_iff.mp hr
   refine (looks_takesIn X hb).andThen ?_
   cases b with
   | true=>cases hb2
   | false=>exact .now
 rw [osa_eq,refuse_eq]
 refine wpAny_bind (wpAny_bind (I.type.here (wpAny_bind (hm.here ?_))))
 rw [hmr,refuseLoop_ref,hT.pass]
 refine wpAny_pure (wpAny_bind (I.type.here (wpAny_bind ((looks_findIn X ha).here (wpAny_bind (L3.here ?_))))))
 exact h _
theorem zgr {vs:Array Value} {Q:Unit→Shared→Prop} (X:K.In s.heap) (hx:s.heap.get? x=some { cls:=.ref C,dict:=none,data:=.fields vs }) (c:ExcI K C fI) (ht:takerIn K C name=some none)
  (h:∀ h',(∀ b o,b≠x→s.heap.get? b=some o→h'.get? b=some o)→h'.get? x=some { cls:=.ref C,dict:=some s.heap.objs.size,data:=.fields vs }→h'.Ns1 s.heap.objs.size (fun y=>if y=name then some v else none)→Q () { s with heap:=h',toks:=s.toks+2 }) :
  wpAny (model prog w) A (setAttr (.ref x) name v) Q E s:=by
 have J:InstAt s.heap x { cls:=.ref C,dict:=none,data:=.fields vs } C none:=⟨hx,rfl,rfl,trivial⟩
 refine set_plain X J c.sa (zes (s:={ s with toks:=s.toks+1 }) X J c ht fun b=>?_)
 obtain ⟨nm,q,N,bs,bm,sn,sub,ab,col,dd,k0,k1,k2,k3,k5,hC,hN,hT⟩:=c.ex
 have hc:∃ cd,clsIn K C=some cd∧cd.hasDict=true:=⟨_,by unfold clsIn;rw [hC],rfl⟩
 obtain ⟨cd,hc,hd'⟩:=hc
 have hxs:x≠s.heap.objs.size:=Nat.ne_of_lt (Heap.lt_size hx)
 refine wpAny_bind (wpAny_pure (wpAny_bind (wpAny_bind (wpAny_loadPart hx (wpAny_bind (Looks.here (s:={ s with toks:=s.toks+1 }) (looks_clsIn X hc) ?_))))))
 rw [hd']
 have hx₁:(s.heap.push { cls:=.type "dict",data:=.dict #[] }).get? x=some { cls:=.ref C,dict:=none,data:=.fields vs }:=Heap.get?_push_of_some _ hx
 obtain ⟨hp,g,d,t,os⟩:=s
 refine wpAny_bind (wpAny_alloc' ?_)
 refine wpAny_bind (wpAny_update' hx₁ ?_)
 refine wpAny_pure ?_
 have hgd:((hp.push { cls:=.type "dict",data:=.dict #[] }).update x fun o=>{ cls:=o.cls,dict:=some hp.objs.size,data:=o.data,slots:=o.slots }).get? hp.objs.size=some { cls:=.type "dict",data:=.dict #[] }:=
  (Heap.get?_update_ne _ _ _ _ hxs.symm).trans (Heap.get?_push_at rfl rfl)
 have hnd:((hp.push { cls:=.type "dict",data:=.dict #[] }).update x fun o=>{ cls:=o.cls,dict:=some hp.objs.size,data:=o.data,slots:=o.slots }).Ns hp.objs.size (fun _=>none):=
  ⟨_,#[],_,hgd,rfl,fun e he=>absurd he (by simp),fun _=>rfl⟩
 show wpAny _ _ (Builtin.ObjectAttr.storeInDict hp.objs.size (.str name t) name v) _ _ _
 unfold Builtin.ObjectAttr.storeInDict Builtin.ObjectAttr.newKeyGuard
 refine wpAny_bind (wpAny_pure (wpAny_bind (wpAny_nsSet1 (Heap.Ns1.of_empty hnd) fun h' hn' hs=>?_)))
 obtain ⟨oD,esD,epD,hoD,hdD,hcD⟩:=hn'.count (Within.cons name v Within.nil)
 refine wpAny_bind (wpAny_lookBehind hoD (by rw [hdD];exact pastItsLine_dict (Nat.le_trans hcD (by rw [List.length_cons,List.length_nil,sizeLine_eq];omega))) ?_)
 refine wpAny_pure (h h' (fun b o hb e=>?_) ?_ ?_)
 ·exact (hs.2 b (Nat.ne_of_lt (Heap.lt_size e))).trans ((Heap.get?_update_ne _ _ _ _ hb).trans (Heap.get?_push_of_some _ e))
 ·exact (hs.2 x hxs).trans (Heap.get?_update_self _ hx₁ rfl)
 ·exact hn'
theorem zhb {vs:Array Value} {ns:List Str} {Q:Unit→Shared→Prop} (X:K.In s.heap) (hx:s.heap.get? x=some { cls:=.ref C,dict:=some dx,data:=.fields vs }) (hne:dx≠x) (hn:s.heap.Ns1 dx mA) (c:ExcI K C fI) (ht:takerIn K C name=some none)
  (hw:PySem.Within mA ns) (hsz:ns.length≤1000)
  (h:∀ h',h'.Ns1 dx (fun y=>if y=name then some v else mA y)→Heap.SameBut dx s.heap h'→Q () { s with heap:=h',toks:=s.toks+2 }) :
  wpAny (model prog w) A (setAttr (.ref x) name v) Q E s:=by
 obtain ⟨oD0,hoD0,hl⟩:=zdl hn
 have J:InstAt s.heap x { cls:=.ref C,dict:=some dx,data:=.fields vs } C (some oD0):=⟨hx,rfl,rfl,hoD0⟩
 refine set_plain X J c.sa (zes (s:={ s with toks:=s.toks+1 }) X J c ht fun b=>?_)
 obtain ⟨nm,q,N,bs,bm,sn,sub,ab,col,dd,k0,k1,k2,k3,k5,hC,hN,hT⟩:=c.ex
 have hc:∃ cd,clsIn K C=some cd∧cd.hasDict=true:=⟨_,by unfold clsIn;rw [hC],rfl⟩
 obtain ⟨cd,hc,hd'⟩:=hc
 refine wpAny_bind (wpAny_pure (wpAny_bind (wpAny_bind (wpAny_loadPart hx (wpAny_bind (Looks.here (s:={ s with toks:=s.toks+1 }) (looks_clsIn X hc) ?_))))))
 rw [hd']
 refine wpAny_pure (a:=some dx) (wpAny_bind (wpAny_pure (wpAny_bind ?_)))
 refine wpAny_nsSet1 (s:={ s with toks:=s.toks+1 }) hn fun h' hn2 hs2=>?_
 obtain ⟨oD,esD,epD,hoD,hdD,hcD⟩:=hn2.count (PySem.Within.cons name v hw)
 refine wpAny_bind (wpAny_lookBehind hoD (by rw [hdD];exact pastItsLine_dict (Nat.le_trans hcD (by rw [List.length_cons,sizeLine_eq];omega))) ?_)
 exact wpAny_pure (h _ hn2 hs2)
theorem xget {Q:Value→Shared→Prop} {expr:Bool} (X:K.In s.heap) (I:InstAt s.heap x ox C od) (hga:findIn K (.ref C) "__getattribute__" = some (some (.builtin "BaseException.__getattribute__"))) (hgr:findIn K (.ref C) "__getattr__" = some none)
  (hf:findObj K C od name=some (.value v)) (hsub:subIn K (.ref C) (.type "BaseException")=some true) (hv:handedIn v=true)
  (h:Q v { s with toks:=s.toks+1 }):wpAny (model prog w) A (getAttr (.ref x) name expr) Q E s:=by
 obtain ⟨hh,g,d,t,os⟩:=s
 have L0:=I.type (M:=model prog w)
 have L1:=looks_findIn (M:=model prog w) X hga
 have L2:=looks_findIn (M:=model prog w) X hgr
 unfold getAttr getAttrBy
 refine wpAny_bind (wpAny_mkText (wpAny_holding (wpAny_bind (L0.at (wpAny_bind (L1.at ?_))))))
 have hx2:(Value.builtin "BaseException.__getattribute__" == Value.builtin "object.__getattribute__")=false:=by decide +kernel
 have hx:(onTheHeap (Value.ref C) && Value.builtin "BaseException.__getattribute__" == Value.builtin "object.__getattribute__")=false:=by rw [hx2];rfl
 show wpAny _ _ (if (onTheHeap (Value.ref C) && Value.builtin "BaseException.__getattribute__" == Value.builtin "object.__getattribute__")=true then _ else _) _ _ _
 rw [hx,if_neg Bool.false_ne_true]
 unfold getAttrByItsOwn
 have hb:hookBefore (Value.ref C)=typeLookup (Value.ref C) "__getattr__" := rfl
 rw [hb]
 refine wpAny_bind (L2.at ?_)
 refine wpAny_bind (wpAny_attempt (wpAny_holding ?_))
 have hc:callGetattribute (Value.ref x) (Value.str name t) (Value.builtin "BaseException.__getattribute__") expr=boundAndCalled (Value.builtin "BaseException.__getattribute__") (Value.ref x) (Value.str name t):=by
  unfold callGetattribute
  rw [if_neg (by cases expr <;> decide +kernel)]
 rw [hc]
 unfold boundAndCalled
 rw [PySem.F.excAttr_ValueError.ga.bind (.ref x)]
 refine wpAny_bind (wpAny_pure ?_)
 show wpAny _ _ (call (.builtin "BaseException.__getattribute__") [.ref x,.str name t]) _ _ _
 refine wpAny_call ?_
 have hk:builtinKind "BaseException.__getattribute__" = some .slot:=by decide +kernel
 have hs:splitId "BaseException.__getattribute__" = some ("BaseException","__getattribute__"):=by decide +kernel
 refine codeAny_call_builtin PySem.F.excAttr_ValueError.ga.plain PySem.F.entry_bexc_ga ?_
 have hi:Looks (model prog w) hh (isInstance (.ref x) (.type "BaseException")) true:=L0.andThen (looks_subIn X hsub)
 have ha:=PySem.F.args_bexc_ga (.ref x) (.str name t)
 have LF:=looks_find (M:=model prog w) X I hf
 refine @check_slot _ _ _ _ _ _ _ _ _ _ _ hk hs hi ha ?_
 unfold Builtin.«object.__getattribute__»
 refine wpAny_bind (wpAny_of_eq (a:=(Value.ref x,[Value.str name t])) rfl ?_)
 dsimp only
 refine wpAny_bind (wpAny_pure (wpAny_bind (L0.at (wpAny_bind (LF.at ?_)))))
 refine wpAny_pure ?_
 show wpAny _ _ (handedOut v) _ _ _
 rw [handedOut_of hv]
 exact wpAny_pure h
end
end L2
end
section
namespace L2
open PySem PySem.Spec PyProof.Rows HT PySem.W PySem.Calls
section
variable {X:Cx} {pins:List (Addr×Obj)} {σ:St} {H:Hp} {s:Shared}
theorem Inv.trackE {ea:Addr} {φ:Heap→Prop} (I:Inv X pins σ H s) (hn:H ea=none) (ho:∀ H',ObjOk X.prog X.w H' s.heap ea (.ext φ)) (h:zfQ X pins ea):Inv X pins σ (upd H ea (.ext φ)) s:=by
 have up:∀ b o,H b=some o→upd H ea (.ext φ) b=some o:=fun b o e=>by rw [zah (fun z=>by rw [z,hn] at e;cases e)];exact e
 refine ⟨I.ok,I.os,I.bare,⟨I.base.keep,I.base.slot,fun b o e n hx=>?_,I.base.there,fun b xs e=>up _ _ (I.base.tups b xs e),fun b o u e=>up _ _ (I.base.frzs b o u e),fun b ps e=>?_⟩,I.loc,I.cell,?_,fun x c e=>?_,fun p hp=>?_,fun a o e=>?_,I.len⟩
 ·rw [zah (fun z=>by rw [z,h.1] at e;cases e)];exact I.base.free b o e n hx
 ·obtain ⟨more,q⟩:=I.base.tbls b ps e
  exact ⟨more,up _ _ q⟩
 ·rw [zah (Ne.symm h.2.1)];exact I.free
 ·rw [zah (h.2.2.1 x c e)];exact I.freeC x c e
 ·obtain ⟨e,n,r⟩:=I.pin p hp
  exact ⟨e,by rw [zah (h.2.2.2 p hp)];exact n,r⟩
 ·by_cases z:a=ea
  ·subst z
   rw [zab] at e
   cases e
   exact ho _
  ·rw [zah z] at e
   exact (I.hok a o e).stay (fun _ _ _ q=>q) (fun b q=>up _ _ q) fun b xs q=>up _ _ q
end
def sFldX0 (K:PySem.W.Frag) (ta tv:TE) (f:Str):TS:=fun D σ H=>tv σ H fun y H1=>ta σ H1 fun x H2=>∃ a C fI,x = .ref a∧H2 a=some (.ext (xFr a C none))∧ExcI K C fI∧takerIn K C f=some none ∧
 ∀ dx,H2 dx=none→dx≠a→D.nx σ (upd (upd H2 a (.ext (xFr a C (some dx)))) dx (.ext (xDc dx [(f,y)])))
def sFldX1 (K:PySem.W.Frag) (ta tv:TE) (f:Str):TS:=fun D σ H=>tv σ H fun y H1=>ta σ H1 fun x H2=>∃ a C fI dx fs,x = .ref a∧H2 a=some (.ext (xFr a C (some dx)))∧dx≠a∧H2 dx=some (.ext (xDc dx fs))∧fs.length<100∧ExcI K C fI∧takerIn K C f=some none ∧
 D.nx σ (upd H2 dx (.ext (xDc dx (putF f y fs))))
def tFldX (K:PySem.W.Frag) (ta:TE) (f:Str):TE:=fun σ H Q=>ta σ H fun x H1=>∃ a C dx fs v,x = .ref a∧H1 a=some (.ext (xIs a (.ref C) (some dx)))∧H1 dx=some (.ext (xDc dx fs))∧XCls K C∧hasDictIn K C=true∧findIn K (.ref C) f=some none∧fs.lookup f=some v∧Q v H1
section
variable {X:Cx} {o e value:Expr} {f:Str} {pos pos':Pos} {ta tv:TE}
theorem zje (hex:X.ex=[]) (ha:PE X o ta) (hv:PE X value tv) (hs:swapsWith value (some (.Attribute o f pos')) pos.line X.env=pure false):PS X (.Assign [.Attribute o f pos'] value pos) (sFldX0 X.K ta tv f):=by
 intro pins s σ H D I h
 refine plainObj_wpAny_Assign_Attribute (thn (hv pins s σ H _ I h) fun u s1 ⟨y,H1,I1,ry,q⟩=>thn (ha pins s1 σ H1 _ I1 q) fun ov s2 ⟨x,H2,I2,rx,a,C,fI,ex,ea,c,ht,q2⟩=>?_) hs
 subst ex
 obtain rfl:ov=Value.ref a:=rx
 obtain ⟨t,g⟩:=(show xFr a C none s2.heap from (I2.hok a _ ea).1)
 have hnew:s2.heap.get? s2.heap.objs.size=none:=Heap.get?_none_of_le (Nat.le_refl _)
 have ne:s2.heap.objs.size≠a:=fun z=>by rw [z,g] at hnew;cases hnew
 refine zgr I2.kIn g c ht fun h' k1 k2 k3=>⟨σ,_,?_,q2 s2.heap.objs.size (I2.hok.fresh (Nat.le_refl _)) ne⟩
 have J:Inv X pins σ (upd H2 a (.ext (xFr a C (some s2.heap.objs.size)))) { s2 with heap:=h',toks:=s2.toks+2 }:=
  I2.write (x:=a) (e:=a) (by rw [ea];exact True.intro) (.inl rfl) k1 ⟨_,k2⟩ (zk4 ⟨t,k2⟩)
 refine J.trackE (by rw [zah ne];exact I2.hok.fresh (Nat.le_refl _)) (fun H'=>ok_dc ⟨by show 1≤100;decide,_,k3,fun g=>?_,fun g hg=>?_⟩) (I2.none_ours hnew (by rw [hex];simp))
 ·show RelO (List.lookup g [(f,y)]) (if g=f then some u else none)
  by_cases q:g=f
  ·subst q
   rw [if_pos rfl]
   simp only [List.lookup,beq_self_eq_true]
   exact ry
  ·rw [if_neg q]
   have:(g == f)=false:=by simpa using q
   simp only [List.lookup,this]
   exact True.intro
 ·by_cases q:g=f
  ·rw [q];simp
  ·exact absurd (show (if g=f then some u else none)=none by rw [if_neg q]) hg
theorem zd6 (ha:PE X o ta) (hv:PE X value tv) (hs:swapsWith value (some (.Attribute o f pos')) pos.line X.env=pure false):PS X (.Assign [.Attribute o f pos'] value pos) (sFldX1 X.K ta tv f):=by
 intro pins s σ H D I h
 refine plainObj_wpAny_Assign_Attribute (thn (hv pins s σ H _ I h) fun u s1 ⟨y,H1,I1,ry,q⟩=>thn (ha pins s1 σ H1 _ I1 q) fun ov s2 ⟨x,H2,I2,rx,a,C,fI,dx,fs,ex,ea,ne,ed,hl,c,ht,q2⟩=>?_) hs
 subst ex
 obtain rfl:ov=Value.ref a:=rx
 obtain ⟨t,g⟩:=(show xFr a C (some dx) s2.heap from (I2.hok a _ ea).1)
 obtain ⟨_,mA,hn,r,wi⟩:=(show xDc dx fs s2.heap from (I2.hok dx _ ed).1)
 refine zhb I2.kIn g ne hn c ht wi (by rw [List.length_map];omega) fun h' n' sb=>⟨σ,_,?_,q2⟩
 have hd:∃ o,h'.get? dx=some o:=let ⟨o,_,_,e',_⟩:=n';⟨o,e'⟩
 refine I2.write (x:=dx) (e:=dx) (by rw [ed];exact True.intro) (.inl rfl) (fun b u hb z=>(sb.2 b hb).trans z) hd (ok_dc ⟨?_,_,n',fun g=>?_,fun g hg=>?_⟩)
 ·have:=zbV f y fs;omega
 ·show RelO ((putF f y fs).lookup g) (if g=f then some u else mA g)
  rw [zbU]
  by_cases q:g=f
  ·rw [if_pos q,if_pos q];exact ry
  ·rw [if_neg q,if_neg q];exact r g
 ·by_cases q:g=f
  ·rw [q];exact (zbB f y fs).1
  ·refine (zbB f y fs).2 g (wi g fun z=>hg ?_)
   show (if g=f then some u else mA g)=none
   rw [if_neg q];exact z
theorem zea (he:PE X e ta) (hb:attributeBase e f X.env (eval e X.env)=eval e X.env):PE X (.Attribute e f pos) (tFldX X.K ta f):=by
 intro pins s σ H Q I h
 refine ziI hb (thn (he pins s σ H _ I h) fun u s1 ⟨x,H1,I1,rx,a,C,dx,fs,v,ex,ea,ed,c,hh,ha,l,q⟩=>?_)
 subst ex
 obtain rfl:u=Value.ref a:=rx
 obtain ⟨oe,vs,g1,⟨g2,g3⟩,g4⟩:=(show xIs a (.ref C) (some dx) s1.heap from (I1.hok a _ ea).1)
 obtain ⟨_,mA,hn,r,wi⟩:=(show xDc dx fs s1.heap from (I1.hok dx _ ed).1)
 obtain ⟨oD,hoD,hl⟩:=zdl hn
 have J:InstAt s1.heap a oe C (some oD):=⟨g1,g2,by unfold notCls;rw [g4],by rw [g3];exact hoD⟩
 obtain ⟨u',hu,ru⟩:=RelO.some_of (v:=v) (o:=mA f) (by rw [← l];exact r f)
 exact xget I1.kIn J c.ga c.gr (findObj_own hh ha rfl (by rw [hl,hu])) c.sub (zeU ru) ⟨v,H1,I1.tok _,ru,q⟩
end
structure SupI (K:PySem.W.Frag) (mg:Str→Option Value) (x:Str):Prop where
 ex:∃ B,mg x=some (.ref B)∧specialIn K (.ref B) "__getattribute__" = some (some (.builtin "type.__getattribute__"))∧readsIn K B (.type "type")=true∧findCls K (.ref B) (.type "type") "__init__" = some (.val (.builtin "ValueError.__init__"))
def tXini (K:PySem.W.Frag) (t:TA):TE:=fun σ H Q=>t σ H fun vs H1=>∃ a C fI od z,vs=[.ref a,z]∧H1 a=some (.ext (xFr a C od))∧ExcI K C fI∧Q .non H1
section
variable {X:Cx} {x:Str} {p pos apos:Pos} {e e2:Expr} {t:TA}
theorem zkU (M:SupI X.K X.mg x) (hg:Gl X x) {pl:Sem Bool} (ha:PA X [e,e2] t) (hdb:(x == ("__debug__" : Str))=false:=by decide)
  (hst:starEach [e,e2] X.env=(false,eval e X.env) :: starEach [e2] X.env:=by rfl) (hpl:(backTo pos (starEach [e2] X.env)).any (·.1)=false:=by rfl)
  (ht:eval (.Call (.Attribute (.Name x p) "__init__" apos) [e,e2] [] pos) X.env=(do
   let ov ← eval (.Name x p) X.env
   standAt apos.atName
   let (f,first) ← holding [ov] (getMethod ov "__init__" pl)
   callWith pos f first (backTo pos (starEach [e,e2] X.env)) (backToKw pos (keywordEach [] X.env))):=by rfl) :
  PE X (.Call (.Attribute (.Name x p) "__init__" apos) [e,e2] [] pos) (tXini X.K t):=by
 obtain ⟨B,hm,hs,hrd,hf⟩:=M.ex
 intro pins s σ H Q I h
 refine PySem.W.methodCall_KW (pl:=pl) ?_ ht
 refine zbe I hg hm ?_ hdb
 refine PySem.W.method_cls I.kIn hs (PySem.W.cls_value I.kIn hrd hf rfl ?_)
 have I0:=I.tok (s.toks+1)
 have h2:=ha pos pins _ σ H _ I0 h
 rw [hst] at h2 ⊢
 refine Calls.callWith_builtin (by show (false || (backTo pos (starEach [e2] X.env)).any (·.1))=false;rw [hpl];rfl) (Calls.evalArgs_plain (thn h2 fun us s2 ⟨vs,H2,I2,r,a,C,fI,od,z,ev,ea,c,q2⟩=>?_))
 subst ev
 obtain ⟨v1,v2,rfl,r1,r2⟩:=zgs r
 obtain rfl:v1=Value.ref a:=r1
 obtain ⟨t,g⟩:=(show xFr a C od s2.heap from (I2.hok a _ ea).1)
 obtain ⟨nm,q,N,bs,bm,sn,sub,ab,col,dd,k0,k1,k2,k3,k5,hC,hN,hT⟩:=c.ex
 have F:=PySem.F.excBase_ValueError
 have T:=hT.tail I2.kIn
 have hC':=I2.kIn _ _ hC
 have I3:=I2
 obtain ⟨hp,gg,dr,tk,os⟩:=s2
 show wpAny _ _ (call (.builtin "ValueError.__init__") [.ref a,v2]) _ _ _
 refine wpAny_call (codeAny_call_builtin F.init.plain F.initEntry (wpAny_check_init_subT F T hC' g rfl ?_))
 wp_walk
 have g1:(hp.push { cls:=.type "tuple",data:=.seq #[v2] }).get? a=some { cls:=.ref C,dict:=od,data:=.fields #[.ref t,.none,.none,.none,.bool false,.none] }:=Heap.get?_push_of_some _ g
 have g2:=Heap.get?_update_self (Obj.mapFields fun x=>x.setIfInBounds 0 (Value.ref hp.objs.size)) g1 rfl
 refine ⟨.non,H2,?_,rfl,q2⟩
 have hu:upd H2 a (.ext (xFr a C od))=H2:=by
  funext b
  by_cases hb:b=a
  ·rw [hb,zab,ea]
  ·rw [zah hb]
 have J:=I2.write (x:=a) (e:=a) (o:=.ext (xFr a C od)) (t':=tk) (h':=(hp.push { cls:=.type "tuple",data:=.seq #[v2] }).update a (Obj.mapFields fun x=>x.setIfInBounds 0 (Value.ref hp.objs.size))) (by rw [ea];exact True.intro) (.inl rfl)
  (fun b u hb z=>(Heap.get?_update_other _ _ (Ne.symm hb)).trans (Heap.get?_push_of_some _ z)) ⟨_,g2⟩ (zk4 ⟨hp.objs.size,g2⟩)
 rw [hu] at J
 exact J
end
theorem PA.nox {X:Cx} {es:List Expr} {t:TA} (h:PA X.nox es t):PA X es t:=fun p pins s σ H Q I hw =>
 wpAny_mono (h p pins s σ H Q (I.wish _) hw) (fun _ _ ⟨vs,H',I',r,q⟩=>⟨vs,H',I'.unwish,r,q⟩) fun _ _ z=>False.elim z
def unt (H:Hp) (e:Addr):Hp:=fun b=>if b=e then none else H b
theorem zfU {H:Hp} {e:Addr}:unt H e e=none:=by unfold unt;rw [if_pos rfl]
theorem zfV {H:Hp} {e b:Addr} (h:b≠e):unt H e b=H b:=by unfold unt;rw [if_neg h]
theorem zhc {P:Program} {w:World} {K:PySem.W.Frag} {mg:Str→Option Value} {base:Heap} {N:List Str} {qual:Str} {scope:Scope} {f:Addr} {cd:Value} {A:Around} {outer:List Env} {s:Shared} {H:Hp} {E:XK}
  {pins:List (Addr×Obj)} {σ:St} {H2:Hp} {s2:Shared} {e C:Addr} {od:Option Addr} (I:Inv (cxOf (CX1 P w) P w K mg base N qual scope f cd A outer s H E) pins σ H2 s2) (ee:H2 e=some (.ext (xFr e C od))) (hn:s.heap.get? e=none) (hE:E (.ref C) od (unt H2 e)) :
  (cxOf (CX1 P w) P w K mg base N qual scope f cd A outer s H E).xe (.ref e) s2:=by
 obtain ⟨t,he⟩:=(show xFr e C od s2.heap from (I.hok e _ ee).1)
 have b1:=I.base
 refine zdR I.ok.frames I.stack (L:=s.heap.objs.size) rfl he rfl rfl fun h'' T fT sl x=>?_
 have ne:∀ b o,s.heap.get? b=some o→b ∉ [e]:=fun b o q z=>by rw [List.mem_singleton.mp z,hn] at q;cases q
 have nL:∀ b o,s.heap.get? b=some o→b ∉ frs outer→b ∉ ((envOfC qual scope s.heap.objs.size f cd) :: outer).filterMap (·.frame):=fun b o q hb z=>by
  rcases List.mem_cons.mp (show b∈s.heap.objs.size :: outer.filterMap (·.frame) from z) with r | r
  ·exact absurd r (Nat.ne_of_lt (Heap.lt_size q))
  ·exact hb r
 have nex:∀ b,b ∉ (cxOf (CX1 P w) P w K mg base N qual scope f cd A outer s H E).ex:=fun b=>by show b ∉ ([]:List Addr);simp
 have dif:∀ b o,H2 b=some o→o≠.ext (xFr e C od)→unt H2 e b=some o:=fun b o q hne=>by
  rw [zfV fun z=>hne (by rw [z,ee] at q;exact (Option.some.inj q).symm)];exact q
 refine ⟨e,T,unt H2 e,C,od,rfl,I.os,I.bare,⟨fun b o q n hb _=>?_,fun b o q n hb _=>?_,fun b o q n _=>?_,fun b o q _=>?_,fun b xs q=>dif _ _ (b1.tups b xs q) (fun z=>nomatch z),fun b o u q=>dif _ _ (b1.frzs b o u q) (fun z=>nomatch z),fun b ps q=>?_⟩,?_,x,hn,?_,zfU,?_,hE⟩
 ·exact (sl b o (b1.keep b o q n hb (nex b)) (ne b o q)).1 (nL b o q hb)
 ·obtain ⟨t1,e1⟩:=b1.slot b o q n hb (nex b)
  obtain ⟨t2,e2⟩:=(sl b _ e1 (ne b o q)).2
  exact ⟨t2,e2⟩
 ·have:=b1.free b o q n (nex b)
  unfold unt
  split
  ·rfl
  ·exact this
 ·obtain ⟨o',e1⟩:=b1.there b o q (nex b)
  obtain ⟨t2,e2⟩:=(sl b _ e1 (ne b o q)).2
  exact ⟨_,e2⟩
 ·obtain ⟨more,q'⟩:=b1.tbls b ps q
  exact ⟨more,dif _ _ q' (fun z=>nomatch z)⟩
 ·intro a o q
  have hae:a≠e:=fun z=>by rw [z,zfU] at q;cases q
  rw [zfV hae] at q
  refine (I.hok a o q).stay (fun b u hb hu=>?_) (fun b z=>dif _ _ z (fun z=>nomatch z)) fun b xs z=>dif _ _ z (fun z=>nomatch z)
  have hbe:b≠e:=by
   rcases hb with rfl | hb
   ·exact hae
   ·exact fun z=>by rw [z,ee] at hb;cases hb
  refine (sl b u hu fun z=>hbe (List.mem_singleton.mp z)).1 fun z=>?_
  have hf:H2 b=none:=I.stkFree b z
  rcases hb with rfl | hb
  ·rw [hf] at q;cases q
  ·rw [hf] at hb;cases hb
 ·cases q:s.heap.get? T with
  | none=>rfl
  | some o =>
   obtain ⟨o',q'⟩:=b1.there T o q (nex T)
   rw [fT] at q';cases q'
 ·have:=I.hok.none_of fT
  unfold unt
  split
  ·rfl
  ·exact this
structure XIni (P:Program) (w:World) (K:PySem.W.Frag) (mg:Str→Option Value) (base:Heap) (k:Nat) (x:Str) (C:Addr) (sp:Sp):Prop where
 at_:mg x=some (.ref C)
 ex:∃ fI fd ps oI,ExcI K C fI∧(K.lookup fI=some oI∧oI.cls = .type "function")∧FnOk P w K mg base CX0 k fI fd ps sp∧Binds K fd ps []
def zkA (C:Addr) (sp:Sp) (E:XK) (t:TA):TS:=fun _ σ H=>t σ H fun vs H1=>vs.length≤1000∧∀ e,H1 e=none→sp ((.ref e :: vs) ++ []) (upd H1 e (.ext (xFr e C none))) (fun v H2=>v = .non∧∃ od,H2 e=some (.ext (xFr e C od))∧E (.ref C) od (unt H2 e)) E0
section
variable {X:Cx} {x:Str} {C:Addr} {e:Expr} {es:List Expr} {t:TA} {np cpos pos:Pos} {k:Nat} {sp:Sp} {E:XK}
theorem zhH (M:XIni X.prog X.w X.K X.mg X.base k x C sp) (hr:Room (k+1) X.A) (hg:Gl X x) (hc:X.calm=true) (hex:X.ex=[]) (ha:PA X (e :: es) t)
  (hx:∀ (pins:List (Addr×Obj)) (σ:St) (H2:Hp) (s2:Shared) (ea:Addr) (od:Option Addr),Inv X pins σ H2 s2→H2 ea=some (.ext (xFr ea C od))→X.s₀.heap.get? ea=none→E (.ref C) od (unt H2 ea)→X.xe (.ref ea) s2)
  (hd:(x == ("__debug__" : Str))=false:=by decide) (hst:starEach (e :: es) X.env=(false,eval e X.env) :: starEach es X.env:=by rfl) (hpl:(backTo cpos (starEach es X.env)).any (·.1)=false:=by rfl) :
  PS X (.Raise (some (.Call (.Name x np) (e :: es) [] cpos)) none pos) (zkA C sp E t):=by
 intro pins s σ H D I h
 obtain ⟨hm,fI,fd,ps,oI,c,⟨hfI,hfc⟩,F,hb⟩:=M
 obtain ⟨nm,q,N,bs,bm,sn,sub,ab,col,dd,k0,k1,k2,k3,k5,hC,hN,hT⟩:=id c.ex
 obtain ⟨cN,d,es',ep,sl,hNl,hNs,hi⟩:=hN
 have T:=hT.tail I.kIn
 have hbase:bm.contains (.type "BaseException")=true:=T.hasType PySem.F.excBase_ValueError.hasBase
 refine zkx (C:=C) (nm:=nm) (q:=q) (N:=N) (bs:=bs) (bm:=bm) (hdct:=true) (sn:=sn) (sub:=sub) (ab:=ab) (col:=col) (dd:=dd) (k0:=k0) (k1:=k1) (k2:=k2) (k3:=k3) (k5:=k5) (mN:=nsFind es') (fI:=fI) (oI:=oI)
  hbase (I.ok.hd hc) (by rw [hst];show (false || (backTo cpos (starEach es X.env)).any (·.1))=false;rw [hpl];rfl) hi hfc (zbe I hg hm ⟨rfl,?_⟩ hd)
 have h2:=ha cpos pins s σ H _ I h
 rw [hst] at h2 ⊢
 refine Calls.evalArgs_plain (thn h2 fun us s2 h3=>?_)
 obtain ⟨vs,H1,I2,r,hl,q1⟩:=h3
 have hlen:us.length=vs.length:=r.length.symm
 refine ⟨rfl,by show us.length≤sizeLine;rw [hlen,sizeLine_eq];omega,I2.kIn _ _ hC,⟨_,es',ep,I2.kIn _ _ hNl,rfl,hNs,fun _=>rfl⟩,hT.tail I2.kIn,I2.kIn _ _ hfI,fun h' ea hm'=>?_⟩
 have hnone:H1 ea=none:=I2.hok.none_of hm'.new
 have ours:=I2.none_ours hm'.new (by rw [hex];simp)
 have J:Inv X pins σ H1 { s2 with heap:=h' }:=I2.kept (t':=s2.toks) hm'.keeps
 obtain ⟨tt,ht,_⟩:=hm'.there
 have J2:Inv X pins σ (upd H1 ea (.ext (xFr ea C none))) { s2 with heap:=h' }:=J.trackE hnone (fun H'=>zk4 ⟨tt,ht⟩) ours
 have q2:=q1 ea hnone
 have r2:Vals ((V.ref ea :: vs) ++ []) ((Value.ref ea :: us) ++ []):=(show Vals (V.ref ea :: vs) (Value.ref ea :: us) from .cons rfl r).append .nil
 have hl2:((Value.ref ea :: us) ++ []).length=ps.length:=by rw [← r2.length];exact F.len _ _ _ _ q2
 refine wpAny_call (codeAny_mono (F.run _ X.stack _ _ ⟨Value.ref ea :: us,[]⟩ _ _ _ E0 (hr.make C us []) (J2.env0.make C us []) (hb _ (Value.ref ea :: us) J2.kIn hl2) r2 q2) fun rr s' hq=>?_)
 cases rr with
 | error ex=>exact False.elim hq
 | ok fl =>
  cases fl with
  | ret u =>
   obtain ⟨v,H',J3,rv,ev,od,e2,hE⟩:=J2.after hq
   subst ev
   obtain ⟨t3,g3⟩:=(show xFr ea C od s'.heap from (J3.hok ea _ e2).1)
   exact ⟨rv,t3,od,J3.kIn _ _ hC,g3,hx pins σ H' s' ea od J3 e2 ours.1 hE⟩
  | next=>exact False.elim hq
  | brk=>exact False.elim hq
  | cont=>exact False.elim hq
end
def prD (q:Int×Int):PyData:=.tuple [.int q.1,.int q.2]
def PrsH (H:Hp) (p:Addr) (l:List (Int×Int)):Prop:=∃ ts:List Addr,H p=some (.tup (ts.map V.ref))∧ts.length=l.length∧∀ (j:Nat) (t:Addr) (q:Int×Int),ts[j]? = some t→l[j]? = some q→H t=some (.tup [.int q.1,.int q.2])
def jPrs (ta:TE) (t:TJ):TJ:=fun σ H R=>ta σ H fun x H1=>∃ (p:Addr) (l:List (Int×Int)),x = .ref p∧PrsH H1 p l∧l.length≤8∧(∀ q∈l,q.1.natAbs<10 ^ 12∧q.2.natAbs<10 ^ 12)∧t σ H1 R
theorem zeu {P:Program} {w:World} {H:Hp} {h:Heap} {p:Addr} {xs:List V} {ds:List PyData} {as:List Addr} (x:ObjOk P w H h p (.tup xs)) (hr:∀ its,Vals xs its→ReadsAll h its ds as):Reads h (.ref p) (.tuple ds) as:=by
 obtain ⟨_,its,rv,⟨c0,d0,dt0,sl0⟩,g1,g2,n,g3⟩:=x
 exact .tuple g1 g2 g3 (by simpa using hr its rv)
theorem zeD {P:Program} {w:World} {H:Hp} {h:Heap} (hok:HOk P w H h):∀ (ts:List Addr) (l:List (Int×Int)),ts.length=l.length→(∀ (j:Nat) (t:Addr) (q:Int×Int),ts[j]? = some t→l[j]? = some q→H t=some (.tup [.int q.1,.int q.2]))→∀ its,Vals (ts.map V.ref) its→ReadsAll h its (l.map prD) []
 | [],[],_,_,_,r=>by cases r;exact .nil
 | t :: ts,q :: l,hl,hh,_,r=>by
  cases r with
  | cons a b =>
   rename_i u us
   obtain rfl:u=Value.ref t:=a
   refine ReadsAll.cons (as:=[]) (bs:=[]) ?_ (zeD hok ts l (by simpa using hl) (fun j t' q' e1 e2=>hh (j+1) t' q' (by simpa using e1) (by simpa using e2)) us b)
   refine zeu (hok t _ (hh 0 t q rfl rfl)) fun its rv=>?_
   obtain ⟨v1,v2,rfl,⟨t1,rfl⟩,⟨t2,rfl⟩⟩:=zgs rv
   exact ReadsAll.cons (as:=[]) (bs:=[]) (.int _ _) (ReadsAll.cons (as:=[]) (bs:=[]) (.int _ _) .nil)
 | [],_ :: _,hl,_,_,_=>by simp at hl
 | _ :: _,[],hl,_,_,_=>by simp at hl
theorem zhK {q:Int×Int} (h:q.1.natAbs<10 ^ 12∧q.2.natAbs<10 ^ 12):(prD q).shown.length≤40∧(prD q).showable=true∧(prD q).hasDict=false:=by
 have h1:=PyData.shown_int_le h.1
 have h2:=PyData.shown_int_le h.2
 have lg:∀ {i:Int},i.natAbs<10 ^ 12→i.natAbs.log2<1920:=fun {i} hi=>by
  by_cases z:i.natAbs=0
  ·rw [z];decide
  ·exact Nat.lt_of_lt_of_le ((Nat.log2_lt z).mpr (show i.natAbs<2 ^ 40 by omega)) (by decide)
 refine ⟨?_,?_,rfl⟩
 ·have:=tupleText_len_le [PyData.shown (.int q.1),PyData.shown (.int q.2)]
  simp only [List.map,List.sum_cons,List.sum_nil,List.length_cons,List.length_nil] at this
  show (tupleText [PyData.shown (.int q.1),PyData.shown (.int q.2)]).length≤40
  omega
 ·show (PyData.showable (.int q.1) && (PyData.showable (.int q.2) && true))=true
  unfold PyData.showable
  rw [decide_eq_true (lg h.1),decide_eq_true (lg h.2)];rfl
theorem zhI:∀ (l:List (Int×Int)),(∀ q∈l,q.1.natAbs<10 ^ 12∧q.2.natAbs<10 ^ 12)→((PyData.shownAll (l.map prD)).map (·.length)).sum≤40 * l.length∧(PyData.shownAll (l.map prD)).length=l.length∧PyData.showableAll (l.map prD)=true∧PyData.hasDictAll (l.map prD)=false∧PyData.depthAll (l.map prD)≤1
 | [],_=>⟨Nat.le_refl _,rfl,rfl,rfl,Nat.zero_le _⟩
 | q :: l,h=>by
  obtain ⟨a1,a2,a3,a4,a5⟩:=zhI l fun q hq=>h q (List.mem_cons_of_mem _ hq)
  obtain ⟨b1,b2,b3⟩:=zhK (h q List.mem_cons_self)
  refine ⟨?_,?_,?_,?_,?_⟩
  ·show (PyData.shown (prD q)).length+((PyData.shownAll (l.map prD)).map (·.length)).sum≤40 * (l.length+1)
   omega
  ·show (PyData.shownAll (l.map prD)).length+1=l.length+1
   omega
  ·show (PyData.showable (prD q) && PyData.showableAll (l.map prD))=true
   rw [b2,a3];rfl
  ·show (PyData.hasDict (prD q) || PyData.hasDictAll (l.map prD))=false
   rw [b3,a4];rfl
  ·show max (PyData.depth (prD q)) (PyData.depthAll (l.map prD))≤1
   have:PyData.depth (prD q)=1:=rfl
   omega
section
variable {X:Cx} {v:Expr} {es:List Expr} {p2:Pos} {ta:TE} {t:TJ}
theorem pj_prs (hgd:X.A.guards=some []) (hu:X.A.units+64<cLine) (hv:PE X v ta) (hs:PJ X es t):PJ X (.FormattedValue v (-1) none p2 :: es) (jPrs ta t):=fun out pins s σ H R hl I h=>by
 refine joinParts_consE (joinParts_cons (FormattedValue_plain (thn (hv pins s σ H _ I h) fun u s1 ⟨x,H1,I1,rx,p,l,ex,⟨ts,ep,hlt,hts⟩,hl8,hb,q⟩=>?_)))
 subst ex
 obtain rfl:u=Value.ref p:=rx
 have rd:Reads s1.heap (.ref p) (.tuple (l.map prD)) []:=zeu (I1.hok p _ ep) (zeD I1.hok ts l hlt hts)
 obtain ⟨a1,a2,a3,a4,a5⟩:=zhI l hb
 have hlen:(PyData.shown (.tuple (l.map prD))).length≤1000:=by
  have:=tupleText_len_le (PyData.shownAll (l.map prD))
  show (tupleText (PyData.shownAll (l.map prD))).length≤1000
  omega
 have hz:(100000:Nat)≤sizeLine:=by decide
 simp only [List.length_cons] at hl
 have hdp:PyData.depth (.tuple (l.map prD))≤2:=by
  show PyData.depthAll (l.map prD)+1≤2
  omega
 refine formatField_of_reads rd (show PyData.showableAll (l.map prD)=true from a3) (PyData.noDict_hsm (show PyData.hasDictAll (l.map prD)=false from a4)) hgd (by omega) (fun _ _ z=>z) (fun h' u tk hk=>⟨by rw [strLen_append];omega,?_⟩) (by omega)
 exact hs _ pins _ σ H1 R (by rw [strLen_append];omega) (I1.kept (t':=tk) hk) q
end
end L2
end
section
namespace L2
open PySem PySem.Spec PyProof.Rows HT PySem.W PySem.Calls
theorem zcg:entryFor table "dict.update.loop" = some Builtin.«dict.update.loop»:=entryFor_of_tree (by kernel_rfl)
theorem zb5 (args:Args):(Code.builtin "dict.update.loop" args).quiet=true:=Code.quiet_builtin args (by decide +kernel)
theorem zh8:typeLookup (.type "tuple") "keys" = pure none:=by rw [typeLookup_type,builtinLookup_eq_fast];kernel_rfl
set_option maxRecDepth 8000 in
theorem zh7 {prog:Program} {w:World} {A:Around} {E:Value→Shared→Prop} {s:Shared} {a:Addr} {o:Obj} {xs:Array Value} {k:Nat} {Q:Option Value→Shared→Prop}
  (hx:s.heap.get? a=some o) (hc:o.cls = .type "tuple") (hdat:o.data = .seq xs k) (hd:o.dict=none) (hA:A.handled=none)
  (h:∀ h' tk,(∀ b o,s.heap.get? b=some o→h'.get? b=some o)→Q none { s with heap:=h',toks:=tk }):wpAny (model prog w) A (getAttr? (.ref a) "keys") Q E s:=by
 have hname:(["__module__","__name__","__qualname__","__doc__","__annotations__"]:List Str).contains ("keys" : Str)=false:=by decide +kernel
 have hsz:("keys" : Str).length+100≤sizeLine:=by decide
 obtain ⟨c,dct,dat,sl⟩:=o
 simp only at hc hdat hd
 subst hc hdat hd
 obtain ⟨hp,g,d,tk,os⟩:=s
 have hT:∀ tk',(⟨hp,g,d,tk',os⟩:Shared).TypeIs (.ref a) "tuple" := fun _=>⟨_,hx,rfl⟩
 have f1:=sub_AttributeError
 have f3:=F.slot_tuple_getattribute.lookup
 have f4:=F.slot_tuple_getattribute.bind (.ref a)
 have f5:=am_tuple_getattr_none
 unfold getAttr? getAttrBy? getAttrBy
 repeat (any_goals (first | assumption | exact hT _ | ((with_reducible show wpAny _ _ (call (Value.builtin "tuple.__getattribute__") _ _) _ _ _);refine call_meets F.slot_tuple_getattribute (hT _) am_entry_tuple_getattribute (F.args_tuple_getattribute_2 _ _) (meets_getattribute_miss_tuple a xs k sl "keys" _ zh8 hname hsz) ⟨hx,hA,fun h' tk' e hx'=>?_⟩) | wp_step))
 obtain ⟨t',u',he⟩:=hx'.there
 show wpAny _ _ (getattributeRaised _ _ _ _ _ _ _) _ _ _
 unfold getattributeRaised
 repeat (any_goals (first | assumption | wp_step))
 exact h _ _ hx'.of.keeps
theorem zgx {kvs:List (Key×Value)} {k:Key} {v:Value} (h:k ∉ kvs.map (·.1)):stored kvs k v=kvs ++ [(k,v)]:=by
 unfold stored
 rw [if_neg]
 rw [List.any_eq_true]
 rintro ⟨kv,h1,h2⟩
 exact h (List.mem_map.mpr ⟨kv,h1,of_decide_eq_true h2⟩)
section
variable {prog:Program} {w:World} {A:Around}
theorem zfT {d it p:Addr} {items:Array Value} (hh:A.handled=none) (hdi:d≠it) (hpi:p≠it) (hpd:p≠d) {R:Result→Shared→Prop}:∀ (ps:List (Addr×Value×Value×Int)) (i:Nat) (done:List (Key×Value)) (s:Shared),
  (∀ j,items[i+j]? = (ps[j]?).map fun z=>Value.ref z.1) →
  (∀ z∈ps,z.1≠it∧z.1≠d∧s.heap.IsTuple z.1 #[z.2.1,z.2.2.1]∧RelV (.int z.2.2.2) z.2.1) →
  s.heap.IsTupleIter it p i→s.heap.IsTuple p items→s.heap.DictOf (zaz prog w) d done→done.length+ps.length≤100 →
  (done.map (·.1) ++ ps.map (fun z=>(Sum.inl z.2.2.2:Key))).Nodup →
  (∀ h' tk,(∀ b o,b≠it→b≠d→s.heap.get? b=some o→h'.get? b=some o)→h'.DictOf (zaz prog w) d (done ++ ps.map fun z=>((Sum.inl z.2.2.2:Key),z.2.2.1))→R (.ok (.ret .none)) { s with heap:=h',toks:=tk }) →
  codeAny (model prog w) A (.builtin "dict.update.loop" ⟨[.ref d,.ref it,rawInt (i:Int),.none],[]⟩) R s
 | [],i,done,s,hit,hz,hi,hp,hd,hl,hn,hR=>by
  refine codeAny_builtin zcg ?_
  unfold Builtin.«dict.update.loop»
  refine wpAny_bind (wpAny_pyNext_tuple_end hh hi hp (by have:=hit 0;simpa using this) fun h' ext=>?_)
  show wpAny _ _ (Builtin.Dict.addKeywords d [] >>= _) _ _ _
  refine wpAny_bind (wpAny_pure (wpAny_pure ?_))
  have hd':h'.DictOf (zaz prog w) d done:=by
   obtain ⟨o,es,ep,e,r⟩:=hd
   exact ⟨o,es,ep,ext d o hdi e,r⟩
  exact hR h' s.toks (fun b o hb _ e=>ext b o hb e) (by simpa using hd')
 | z :: ps,i,done,s,hit,hz,hi,hp,hd,hl,hn,hR=>by
  refine codeAny_builtin zcg ?_
  unfold Builtin.«dict.update.loop»
  have h0:items[i]? = some (.ref z.1):=by have:=hit 0;simpa using this
  obtain ⟨z1,z2,zt,zr⟩:=hz z List.mem_cons_self
  refine wpAny_bind (wpAny_pyNext_tuple_item hi hp h0 fun h1 hi1 sb1=>?_)
  refine wpAny_bind (wpAny_holding ?_)
  obtain ⟨oz,ez,cz,nz,dz⟩:=zt
  have ez1:h1.get? z.1=some oz:=(sb1.2 z.1 z1).trans ez
  refine wpAny_bind (wpAny_tryCatch ?_)
  unfold Builtin.Dict.pairItems
  refine wpAny_bind (wpAny_typeOf (T := "tuple") ⟨oz,ez1,cz⟩ ?_)
  rw [if_pos (by decide +kernel)]
  refine wpAny_bind (wpAny_seqItems ez1 dz (wpAny_pure ?_))
  show wpAny _ _ (holding [z.2.1,z.2.2.1] (dictSet d z.2.1 z.2.2.1)) _ _ _
  have hd1:h1.DictOf (zaz prog w) d done:=by
   obtain ⟨o,es,ep,e,r⟩:=hd
   exact ⟨o,es,ep,(sb1.2 d hdi).trans e,r⟩
  have hnk:(Sum.inl z.2.2.2:Key) ∉ done.map (·.1):=fun hm=>by
   rw [List.nodup_append] at hn
   exact hn.2.2 _ hm _ (by rw [List.map_cons];exact List.mem_cons_self) rfl
  refine wpAny_holding (wpAny_dictSet_pairs (k:=(Sum.inl z.2.2.2:Key)) (zgR (k:=Sum.inl z.2.2.2) zr) hd1 (fun h2 hd2 sb2=>?_) (by simp only [List.length_cons] at hl;rw [sizeLine_eq];omega))
  rw [zgx hnk] at hd2
  refine wpAny_pure ⟨zb5 _,?_⟩
  have hi2:h2.IsTupleIter it p (i+1):=by
   obtain ⟨o,e,r⟩:=hi1
   exact ⟨o,(sb2.2 it (Ne.symm hdi)).trans e,r⟩
  have hp2:h2.IsTuple p items:=by
   obtain ⟨o,e,r⟩:=hp
   exact ⟨o,(sb2.2 p hpd).trans ((sb1.2 p hpi).trans e),r⟩
  refine zfT hh hdi hpi hpd ps (i+1) (done ++ [((Sum.inl z.2.2.2:Key),z.2.2.1)]) _ (fun j=>?_) (fun y hy=>?_) hi2 hp2 hd2 ?_ ?_ fun h' tk kp hd'=>?_
  ·have:=hit (j+1)
   rw [show i+1+j=i+(j+1) by omega]
   simpa using this
  ·obtain ⟨y1,y2,⟨oy,ey,r⟩,yr⟩:=hz y (List.mem_cons_of_mem _ hy)
   exact ⟨y1,y2,⟨oy,(sb2.2 y.1 y2).trans ((sb1.2 y.1 y1).trans ey),r⟩,yr⟩
  ·rw [List.length_append];simp only [List.length_cons,List.length_nil] at hl ⊢;omega
  ·rw [List.map_append,List.append_assoc];simpa using hn
  ·refine hR h' tk (fun b o hb hb2 e=>kp b o hb hb2 ((sb2.2 b hb2).trans ((sb1.2 b hb).trans e))) ?_
   rw [List.append_assoc] at hd'
   simpa using hd'
end
section
variable {X:Cx}
theorem zf6 {P:Program} {w:World} {H:Hp} {h:Heap} (hok:HOk P w H h):∀ (ts:List Addr) (l:List (Int×Int)),ts.length=l.length→(∀ (j:Nat) (t:Addr) (q:Int×Int),ts[j]? = some t→l[j]? = some q→H t=some (.tup [.int q.1,.int q.2])) →
  ∃ ps:List (Addr×Value×Value×Int),ps.map (·.1)=ts∧(∀ z∈ps,h.IsTuple z.1 #[z.2.1,z.2.2.1]∧RelV (.int z.2.2.2) z.2.1)∧ps.map (fun z=>z.2.2.2)=l.map (·.1)∧KV (knV l) (ps.map fun z=>((Sum.inl z.2.2.2:Key),z.2.2.1))
 | [],[],_,_=>⟨[],rfl,(fun z hz=>nomatch hz),rfl,.nil⟩
 | t :: ts,q :: l,hl,hh=>by
  obtain ⟨ps,e1,e2,e3,e4⟩:=zf6 hok ts l (by simpa using hl) (fun j t' q' a b=>hh (j+1) t' q' (by simpa using a) (by simpa using b))
  obtain ⟨_,its,rv,g⟩:=(show ObjOk P w H h t (.tup [.int q.1,.int q.2]) from hok t _ (hh 0 t q rfl rfl))
  obtain ⟨v1,v2,rfl,r1,r2⟩:=zgs rv
  refine ⟨(t,v1,v2,q.1) :: ps,by rw [List.map_cons,e1],fun z hz=>?_,by rw [List.map_cons,e3];rfl,.cons ⟨rfl,r2⟩ e4⟩
  rcases List.mem_cons.mp hz with rfl | hz
  ·exact ⟨g,r1⟩
  ·exact e2 z hz
 | [],_ :: _,hl,_=>by simp at hl
 | _ :: _,[],hl,_=>by simp at hl
theorem ze8 (hu:X.A.units+1<cLine) (hc:X.calm=true):zbY X (.type "dict") (fun xs H Q=>∃ (p:Addr) (l:List (Int×Int)),xs=[.ref p]∧PrsH H p l∧l.length≤8∧(l.map (·.1)).Nodup∧∀ d,H d=none→Q (.ref d) (upd H d (.dK (knV l)))):=by
 intro pins s σ H xs us Q I r h
 obtain ⟨p,l,rfl,⟨ts,ep,hlt,hts⟩,hl8,hnd,q⟩:=h
 obtain ⟨u,rfl,r1⟩:=zcC r
 obtain rfl:u=Value.ref p:=r1
 obtain ⟨⟨_,o1,eo1,dn1⟩,its,rv,o,eo,co,n,do'⟩:=(show ObjOk X.prog X.w H s.heap p (.tup (ts.map V.ref)) from I.hok p _ ep)
 rw [eo1] at eo
 cases eo
 obtain rfl:its=ts.map Value.ref:=zhF rv
 obtain ⟨ps,p1,p2,p3,p4⟩:=zf6 I.hok ts l hlt hts
 have hA:X.A.handled=none:=I.ok.hd hc
 refine callType_codes (Q₁:=fun obj s₁=>obj = .ref s.heap.objs.size∧s₁={ s with heap:=s.heap.push { cls:=.type "dict",data:=.dict #[] } }) PySem.F.kt_called_dict (PySem.F.kt_typeCall_dict_1 _) PySem.F.entry_dict_init (kt_code_dict_new _ ⟨rfl,rfl⟩) ?_
 rintro obj s₁ ⟨rfl,rfl⟩
 have hnew:(s.heap.push { cls:=.type "dict",data:=.dict #[] }).DictOf (zaz X.prog X.w) s.heap.objs.size []:=Heap.DictOf.new s.heap
 have ltP:p<s.heap.objs.size:=Heap.lt_size eo1
 have eo2:(s.heap.push { cls:=.type "dict",data:=.dict #[] }).get? p=some o1:=Heap.get?_push_of_some _ eo1
 refine ⟨hnew.typeIs,PySem.F.args_dict_init_2 _ _,?_⟩
 unfold Builtin.«dict.__init__»
 refine wpAny_bind ?_
 unfold Builtin.Dict.selfAndRest
 refine wpAny_bind (wpAny_notOrdered_dict hnew.typeIs ?_)
 show wpAny _ _ (pure (s.heap.objs.size,[Value.ref p])) _ _ _
 refine wpAny_pure ?_
 show wpAny _ _ (Builtin.Dict.updateFrom "dict.__init__" s.heap.objs.size (.ref p) [] .none) _ _ _
 unfold Builtin.Dict.updateFrom
 refine wpAny_bind (wpAny_typeOf (T := "tuple") ⟨o1,eo2,co⟩ ?_)
 rw [if_pos (by decide)]
 refine wpAny_bind (zh7 eo2 co do' dn1 hA fun h1 tk1 kp1=>?_)
 have hp1:h1.IsTuple p (ts.map Value.ref).toArray:=⟨o1,kp1 _ _ eo2,co,n,do'⟩
 refine wpAny_bind (wpAny_rule (wpAny_bind (wpAny_pyIter_tuple hp1 (wpAny_pure ⟨zb5 _,?_⟩))))
 have ltd:s.heap.objs.size<h1.objs.size:=by
  obtain ⟨o,_,_,e,_⟩:=hnew
  exact Heap.lt_size (kp1 _ _ e)
 have k2:∀ b o,s.heap.get? b=some o→(h1.push { cls:=.type "tuple_iterator",data:=.fields #[.ref p,.int 0 0] }).get? b=some o:=fun b o e=>Heap.get?_push_of_some _ (kp1 _ _ (Heap.get?_push_of_some _ e))
 refine zfT (prog:=X.prog) (w:=X.w) (A:=X.A.in1) (R:=wants (fun r s₂=>r=Value.none∧EP X pins σ Q (Value.ref s.heap.objs.size) s₂) X.xe) (items:=(ts.map Value.ref).toArray) (p:=p) (show X.A.in1.handled=none from hA) (Nat.ne_of_lt ltd) (Nat.ne_of_lt (Nat.lt_trans ltP ltd)) (Nat.ne_of_lt ltP) ps 0 [] ⟨h1.push { cls:=.type "tuple_iterator",data:=.fields #[.ref p,.int 0 0] },s.gens,s.drawn,tk1,s.os⟩ (fun j=>?_) (fun z hz=>?_) ⟨_,Heap.get?_push_size _ rfl,rfl,rfl⟩ (hp1.push _) ?_ ?_ ?_ fun h' tk kp hd=>⟨rfl,?_⟩
 ·rw [Nat.zero_add,List.getElem?_toArray,← p1,List.map_map,List.getElem?_map]
  rfl
 ·obtain ⟨⟨oz,ez,rz⟩,rr⟩:=p2 z hz
  have:=Heap.lt_size ez
  exact ⟨Nat.ne_of_lt (Nat.lt_trans this ltd),Nat.ne_of_lt this,⟨oz,k2 _ _ ez,rz⟩,rr⟩
 ·obtain ⟨o,es,ep',e,r'⟩:=hnew
  exact ⟨o,es,ep',Heap.get?_push_of_some _ (kp1 _ _ e),r'⟩
 ·have:ps.length=l.length:=by have:=congrArg List.length p3;simpa using this
  simp only [List.length_nil];omega
 ·rw [List.map_nil,List.nil_append,show ps.map (fun z=>(Sum.inl z.2.2.2:Key))=(l.map (·.1)).map Sum.inl by rw [← p3,List.map_map];rfl]
  exact List.pairwise_map.mpr (List.Pairwise.imp (fun h e=>h (Sum.inl.inj e)) hnd)
 ·rw [List.nil_append] at hd
  refine ⟨.ref s.heap.objs.size,_,I.laid (a:=s.heap.objs.size) (o:=.dK (knV l)) (t':=tk) (h':=h') (fun b o e=>?_) (Nat.le_refl _) (zkg ?_ (beq_eq_false_iff_ne.mpr (Ne.symm (Nat.ne_of_lt I.big))) p4 hd),rfl,q _ (I.hok.fresh (Nat.le_refl _))⟩
  ·have lb:=Heap.lt_size e
   exact kp b o (Nat.ne_of_lt (Nat.lt_trans lb ltd)) (Nat.ne_of_lt lb) (k2 _ _ e)
  ·unfold knV;rw [List.length_map,sizeLine_eq];omega
end
end L2
end
set_option maxHeartbeats 8000000
namespace Cb
open PySem L2
def top (i:Nat):Stmt:=PySem.Challenge.pw_chipbus_k57_whole_clash_or_one.main.body.getD i (.Pass ⟨0,0,0,0⟩)
theorem ziG {b:Int} {k:Nat} (h:b.natAbs<2 ^ k):Builtin.Int.intBits b≤k:=by
 unfold Builtin.Int.intBits
 split
 ·omega
 ·rename_i h0
  have h1:b.natAbs≠0:=by first | omega | (intro z;simp_all)
  have:=(Nat.log2_lt h1).mpr h
  omega
theorem zdJ {a b:Int} (ha:a.natAbs<2 ^ 200) (hb:b.natAbs<2 ^ 200):IntMulOk a b:=IntMulOk.of_bits (Nat.le_trans (ziG ha) (by decide)) (Nat.le_trans (ziG hb) (by decide))
theorem log_ok {m:Int} (h:0<m) (h2:m≤2 ^ 64):m.natAbs.log2<9000:=by
 have h1:m.natAbs≠0:=by omega
 exact Nat.lt_of_lt_of_le ((Nat.log2_lt h1).mpr (show m.natAbs<2 ^ 65 by omega)) (by decide)
local macro_rules | `(tactic| walk_at "sd")=>`(tactic| first | assumption | (exact ⟨by decide,by decide,by decide⟩) | (exact ⟨by assumption,by assumption⟩) | (exact ⟨by decide,by decide +kernel⟩) | (show (0:Int)<_;decide))
local macro_rules | `(tactic| walk_at "hp")=>`(tactic| first | assumption | exact zab)
local macro_rules | `(tactic| walk_at "vc")=>`(tactic| repeat (first | refine ⟨_,rfl,?_⟩ | refine ⟨_,_,rfl,rfl,?_⟩ | refine ⟨_,_,rfl,?_⟩ | refine ⟨_,_,_,_,rfl,rfl,SqL.of (by walk_at "hp"),rfl,?_⟩ | refine ⟨_,_,_,_,rfl,rfl,(by walk_at "hp"),rfl,?_⟩ | refine And.intro (by walk_at "sd") ?_))
theorem zaw {t u:TS} {D:Ends} (S S':St→Hp→Prop) (h1:∀ σ H,S σ H→∀ N:St→Hp→Prop,(∀ σ' H',S' σ' H'→N σ' H')→t { D with nx:=N } σ H) (h2:∀ σ' H',S' σ' H'→u D σ' H'):∀ σ H,S σ H→tSeq t u D σ H:=
 fun σ H s=>h1 σ H s _ h2
theorem ln0 {α:Type} {P:List α→Prop} (us:List α) (h:us.length=0) (k:P []):P us:=by
 rw [List.eq_nil_of_length_eq_zero h];exact k
theorem lnS {α:Type} {P:List α→Prop} {n:Nat} (us:List α) (h:us.length=n+1) (k:∀ a (r:List α),r.length=n→P (a :: r)):P us:=by
 cases us with
 | nil=>cases h
 | cons a r=>exact k a r (Nat.succ.inj h)
theorem ln1 {α:Type} {P:List α→Prop} (us:List α) (h:us.length=1) (k:∀ a,P [a]):P us:=lnS us h fun a r h=>ln0 (P:=fun r=>P (a :: r)) r h (k a)
theorem ln2 {α:Type} {P:List α→Prop} (us:List α) (h:us.length=2) (k:∀ a b,P [a,b]):P us:=lnS us h fun a r h=>ln1 (P:=fun r=>P (a :: r)) r h (k a)
theorem ln3 {α:Type} {P:List α→Prop} (us:List α) (h:us.length=3) (k:∀ a b c,P [a,b,c]):P us:=lnS us h fun a r h=>ln2 (P:=fun r=>P (a :: r)) r h (k a)
theorem ln4 {α:Type} {P:List α→Prop} (us:List α) (h:us.length=4) (k:∀ a b c d,P [a,b,c,d]):P us:=lnS us h fun a r h=>ln3 (P:=fun r=>P (a :: r)) r h (k a)
theorem ln5 {α:Type} {P:List α→Prop} (us:List α) (h:us.length=5) (k:∀ a b c d e,P [a,b,c,d,e]):P us:=lnS us h fun a r h=>ln4 (P:=fun r=>P (a :: r)) r h (k a)
local macro_rules | `(tactic| walk_at "o")=>`(tactic| first | exact Or.inl rfl | exact Or.inr (Or.inl rfl) | exact Or.inr (Or.inr rfl))
local macro_rules | `(tactic| walk_at "p")=>`(tactic| first | exact .inl rfl | exact .inr rfl | assumption)
local macro_rules | `(tactic| walk_at "m")=>`(tactic| first | decide | omega)
theorem zhD {α:Type} (n:Nat) (x:α):(List.replicate n [x]).flatten=List.replicate n x:=by
 induction n with
 | zero=>rfl
 | succ n ih=>rw [List.replicate_succ,List.flatten_cons,ih,List.replicate_succ];rfl
theorem ty_seq {K:PySem.W.Frag} {H:Hp} {t:Bool} {a:Addr} {xs:List V} (h:SqX t H a xs):TyOf K H (.ref a) (.type (sqC t)):=by
 cases t with
 | true=>exact .tup (xs:=xs) h
 | false=>exact .lst (xs:=xs) h
theorem zgk {xs:List V} {m:Nat} (h:m≤xs.length):cutV xs none (some (m:Int))=xs.take m:=by
 unfold cutV HT.sIx
 have e:((m:Int)).toNat=m:=by omega
 simp only [List.drop_zero,Nat.sub_zero]
 split
 ·omega
 ·rw [e,Nat.min_eq_left h]
theorem ziJ {P:Hp→Prop} {Hr:Hp} (R:Hp→Prop) (hr:R Hr) (h:∀ H',R H'→P H'):P Hr:=h _ hr
theorem zaN {D:Ends} {σ:St} {H:Hp} (h:D.nx σ H):tNext D σ H:=h
def mulL:List Nat→List Nat→List Nat
 | a :: r,b :: s=>(a * b) :: mulL r s
 | _,_=>[]
theorem zek {α:Type} {l:List α} {x y:α} {k:Nat} (h:(l ++ [x])[k]? = some y):l[k]? = some y∨(k=l.length∧y=x):=by
 rcases Nat.lt_trichotomy k l.length with z | z | z
 ·rw [List.getElem?_append_left z] at h;exact .inl h
 ·subst z;simp at h;exact .inr ⟨rfl,h.symm⟩
 ·rw [List.getElem?_eq_none (by simp;omega)] at h;cases h
inductive D where
 | non | bl (b:Bool) | int (i:Int) | str | oth | tup (l:List D)
inductive Dv (p:Addr) (H:Hp):V→D→Prop where
 | non:Dv p H .non .non
 | bl (b:Bool):Dv p H (.bl b) (.bl b)
 | int (i:Int):Dv p H (.int i) (.int i)
 | str (x:Str):Dv p H (.str x) .str
 | lst {a:Addr} {xs:List V} (e:H a=some (.lst xs)) (ha:a≠p):Dv p H (.ref a) .oth
 | dic {a:Addr} {kvs:List (Key×V)} (e:H a=some (.dK kvs)) (ha:a≠p):Dv p H (.ref a) .oth
 | tup {a:Addr} {xs:List V} {ds:List D} (e:H a=some (.tup xs)) (ha:a≠p) (hl:xs.length=ds.length) (h:∀ (i:Nat) (x:V) (d:D),xs[i]? = some x→ds[i]? = some d→Dv p H x d):Dv p H (.ref a) (.tup ds)
theorem Dv.keep {p:Addr} {H H':Hp} {v:V} {d:D} (h:Dv p H v d) (k:KeepP p H H'):Dv p H' v d:=by
 induction h with
 | non=>exact .non
 | bl b=>exact .bl b
 | int i=>exact .int i
 | str x=>exact .str x
 | lst e ha=>exact .lst (k _ _ ha e) ha
 | dic e ha=>exact .dic (k _ _ ha e) ha
 | tup e ha hl _ ih=>exact .tup (k _ _ ha e) ha hl ih
theorem Dv.same {p:Addr} {H H':Hp} {v:V} {d:D} (h:Dv p H v d) (s:Same H H'):Dv p H' v d:=h.keep (.of s)
def tl:D→Nat
 | .tup l=>l.length
 | _=>0
def isI:D→Bool
 | .int _=>true
 | .bl _=>true
 | _=>false
def isB:D→Bool
 | .bl _=>true
 | _=>false
def isT:D→Bool
 | .tup _=>true
 | _=>false
theorem Dv.ty {K:PySem.W.Frag} {p:Addr} {H:Hp} {v:V} {d:D} (h:Dv p H v d):∃ t,TyOf K H v t∧PySem.W.kitOne K t (.type "int")=some (isI d)∧PySem.W.kitOne K t (.type "bool")=some (isB d)∧PySem.W.kitOne K t (.type "tuple")=some (isT d):=by
 cases h with
 | non=>exact ⟨_,.non,rfl,rfl,rfl⟩
 | bl b=>exact ⟨_,.bl b,rfl,rfl,rfl⟩
 | int i=>exact ⟨_,.int i,rfl,rfl,rfl⟩
 | str x=>exact ⟨_,.str x,rfl,rfl,rfl⟩
 | lst e _=>exact ⟨_,.lst e,rfl,rfl,rfl⟩
 | dic e _=>exact ⟨_,.dK e,rfl,rfl,rfl⟩
 | tup e _ _ _=>exact ⟨_,.tup e,rfl,rfl,rfl⟩
def numD (last:Int):D→Bool
 | .int i=>decide (0≤i∧i≤last)
 | _=>false
def natD:D→Nat
 | .int i=>i.toNat
 | _=>0
theorem zcR {last:Int} {d:D} (h:numD last d=true):∃ n:Nat,d = .int (n:Int)∧(n:Int)≤last:=by
 cases d with
 | int i =>
  have h:=of_decide_eq_true h
  exact ⟨i.toNat,by rw [Int.toNat_of_nonneg h.1],by rw [Int.toNat_of_nonneg h.1];exact h.2⟩
 | _=>cases h
def chD (last:Int) (m w:D):Bool:=numD last m && numD last w && decide (natD w &&& natD m=natD w)
def latD:D→Bool
 | .tup [c,m,w]=>numD 99 c && chD 255 m w
 | _=>false
def latN:D→Bool
 | .non=>true
 | d=>latD d
def rowD (last:Int):D→Bool
 | .tup [m,w,i,c,l]=>chD last m w && numD last i && decide (natD i &&& natD m=0) && numD 99 c && latN l
 | _=>false
def zbl:Sp:=fun vs H Q _=>∃ p v d last,vs=[v,.int last]∧Dv p H v d∧Q (.bl (numD last d)) H
def zcN:Sp:=fun vs H Q _=>∃ p v w d e last,vs=[v,w,.int last]∧Dv p H v d∧Dv p H w e∧Q (.bl (chD last d e)) H
def zhm:Sp:=fun vs H Q _=>∃ p v d,vs=[v]∧Dv p H v d∧Q (.bl (latD d)) H
def zhj:Sp:=fun vs H Q _=>∃ p v d,∃ n:Nat,vs=[.int (n:Int),v]∧Dv p H v d∧1≤n∧n≤16∧∀ H',Same H H'→Q (.bl (rowD (2 ^ n - 1) d)) H'
def zfX:Sp:=fun vs H Q _=>∃ n:Nat,vs=[.int (n:Int)]∧n≤16∧Q (.int (2 ^ n)) H
theorem in_vN (l:List Nat) (j:Nat):inV (V.int (j:Int)) (vN l)=decide (j∈l):=by
 induction l with
 | nil=>rfl
 | cons a l ih =>
  show (eqV (V.int (a:Int)) (V.int (j:Int)) || inV (V.int (j:Int)) (vN l))=_
  rw [ih,Bool.eq_iff_iff]
  simp only [Bool.or_eq_true,decide_eq_true_eq,List.mem_cons]
  have e:eqV (V.int (a:Int)) (V.int (j:Int))=true↔j=a:=by
   simp [eqV]
   omega
  rw [e]
theorem strKey {v:Value} (h:(match v with | .str _ _=>true | _=>false)=true):∃ n t,v = .str n t:=by
 cases v with
 | str n t=>exact ⟨n,t,rfl⟩
 | _=>cases h
theorem zhW (m:Nat):ones (2 * m)=ones m:=by rw [zcv,show 2 * m % 2=0 by omega,show 2 * m / 2=m by omega];omega
theorem zjm (m:Nat):ones (2 * m+1)=ones m+1:=by rw [zcv,show (2 * m+1) % 2=1 by omega,show (2 * m+1) / 2=m by omega];omega
theorem zeF:ones 0=0:=by simp [ones]
theorem bor (a b:Nat):Builtin.bitOr (a:Int) (b:Int)=((a ||| b:Nat):Int):=by
 unfold Builtin.bitOr Builtin.bitAnd Builtin.bitNot
 rw [decide_eq_false (show ¬ (0:Int)≤-(a:Int) - 1 by omega),decide_eq_false (show ¬ (0:Int)≤-(b:Int) - 1 by omega)]
 show -(-((((-(-(a:Int) - 1) - 1).toNat ||| (-(-(b:Int) - 1) - 1).toNat:Nat)):Int) - 1) - 1=_
 rw [show -(-(a:Int) - 1) - 1=(a:Int) by omega,show -(-(b:Int) - 1) - 1=(b:Int) by omega,Int.toNat_natCast,Int.toNat_natCast]
 omega
theorem zgo (a b:Nat):Builtin.bitAnd (a:Int) (Builtin.bitNot (b:Int))=((a - (a &&& b):Nat):Int):=by
 unfold Builtin.bitAnd Builtin.bitNot
 rw [decide_eq_true (show (0:Int)≤(a:Int) by omega),decide_eq_false (show ¬ (0:Int)≤-(b:Int) - 1 by omega)]
 show (a:Int) - ((((a:Int)).toNat &&& (-(-(b:Int) - 1) - 1).toNat:Nat):Int)=_
 rw [show -(-(b:Int) - 1) - 1=(b:Int) by omega,Int.toNat_natCast,Int.toNat_natCast]
 have:=Nat.and_le_left (n:=a) (m:=b)
 omega
theorem zbh {H H':Hp} {p:Addr} (s:Same H H') (h:H' p=none):H p=none:=by
 cases e:H p with
 | none=>rfl
 | some o=>rw [s _ _ e] at h;cases h
theorem zeq (op:Nat→Nat→Nat) (f:Bool→Bool→Bool) (hop:∀ a b i,(op a b).testBit i=f (a.testBit i) (b.testBit i)) (hf:f false false=false) (x y:Nat) :
  op x y=(f (x % 2 == 1) (y % 2 == 1)).toNat+2 * op (x / 2) (y / 2):=by
 apply Nat.eq_of_testBit_eq
 intro i
 cases i with
 | zero =>
  rw [hop]
  simp only [Nat.testBit_zero]
  cases h:f (x % 2 == 1) (y % 2 == 1) <;> simp_all [Nat.add_mod]
 | succ i =>
  rw [hop]
  simp only [Nat.testBit_succ]
  rw [show ((f (x % 2 == 1) (y % 2 == 1)).toNat+2 * op (x / 2) (y / 2)) / 2=op (x / 2) (y / 2) by cases f (x % 2 == 1) (y % 2 == 1) <;> simp <;> omega,hop]
theorem or_is:∀ a b:Nat,a ||| b=(a ^^^ b)+(a &&& b):=by
 intro a
 induction a using Nat.strongRecOn with
 | _ a ih =>
  intro b
  by_cases h0:a=0
  ·subst h0;simp
  have e1:a ||| b=((a % 2 == 1) || (b % 2 == 1)).toNat+2 * (a / 2 ||| b / 2):=zeq (· ||| ·) (· || ·) Nat.testBit_or rfl a b
  have e2:a ^^^ b=(Bool.xor (a % 2 == 1) (b % 2 == 1)).toNat+2 * (a / 2 ^^^ b / 2):=zeq (· ^^^ ·) Bool.xor Nat.testBit_xor rfl a b
  have e3:a &&& b=((a % 2 == 1) && (b % 2 == 1)).toNat+2 * (a / 2 &&& b / 2):=zeq (· &&& ·) (· && ·) Nat.testBit_and rfl a b
  have e4:=ih (a / 2) (by omega) (b / 2)
  rw [e1,e2,e3,e4]
  cases (a % 2 == 1) <;> cases (b % 2 == 1) <;> simp <;> omega
theorem bxor (a b:Nat):Builtin.bitXor (a:Int) (b:Int)=((a ^^^ b:Nat):Int):=by
 unfold Builtin.bitXor
 rw [bor,band,or_is]
 omega
def agr (m w n v:Nat):Bool:=decide ((w ^^^ v) &&& m &&& n=0)
def ziZ:Sp:=fun vs H Q _=>∃ m w n v:Nat,vs=[.int (m:Int),.int (w:Int),.int (n:Int),.int (v:Int)]∧Q (.bl (agr m w n v)) H
def LatV (H:Hp) (v:V):Option (Nat×Nat×Nat)→Prop
 | none=>v = .non
 | some (c,a,b)=>∃ u:Addr,v = .ref u∧H u=some (.tup [.int (c:Int),.int (a:Int),.int (b:Int)])
def latA:Option (Nat×Nat×Nat)→Option (Nat×Nat×Nat)→Bool
 | some (c,a,b),some (d,x,y)=>if c=d then agr a b x y else true
 | _,_=>true
def zhn:Sp:=fun vs H Q _=>∃ x y o p,vs=[x,y]∧LatV H x o∧LatV H y p∧Q (.bl (latA o p)) H
structure Rw where
 m:Nat
 w:Nat
 i:Nat
 c:Nat
 l:Option (Nat×Nat×Nat)
def RwAt (H:Hp) (t:Addr) (r:Rw):Prop:=∃ lt:V,H t=some (.tup [.int (r.m:Int),.int (r.w:Int),.int (r.i:Int),.int (r.c:Int),lt])∧LatV H lt r.l
def zbD (r q:Rw):Bool:=agr r.m r.w q.m q.w && latA r.l q.l
def zfn:Sp:=fun vs H Q _=>∃ t u r q,vs=[.ref t,.ref u]∧RwAt H t r∧RwAt H u q∧Q (.bl (zbD r q)) H
theorem zdu:bootBuiltins "sorted" = some (.builtin "sorted"):=by decide +kernel
def lwL:Option (Nat×Nat×Nat)→Option (Nat×Nat×Nat)→List (Int×Int)
 | none,none=>[]
 | some (c,_,b),none=>[((c:Int),(b:Int))]
 | none,some (d,_,y)=>[((d:Int),(y:Int))]
 | some (c,_,b),some (d,_,y)=>if c=d then [((c:Int),((b ||| y:Nat):Int))] else srt2 [((c:Int),(b:Int)),((d:Int),(y:Int))]
def PrsAt (H:Hp) (p:Addr) (l:List (Int×Int)):Prop:=∃ ts:List Addr,H p=some (.tup (ts.map V.ref))∧ts.length=l.length∧∀ (j:Nat) (t:Addr) (q:Int×Int),ts[j]? = some t→l[j]? = some q→H t=some (.tup [.int q.1,.int q.2])
def zfl:Sp:=fun vs H Q _=>∃ t u r q,vs=[.ref t,.ref u]∧RwAt H t r∧RwAt H u q∧∀ (p:Addr) (H':Hp),H p=none→PrsAt H' p (lwL r.l q.l)→Same H H'→Q (.ref p) H'
theorem LatV.same {H H':Hp} {v:V} {o:Option (Nat×Nat×Nat)} (h:LatV H v o) (s:Same H H'):LatV H' v o:=by
 match o,h with
 | none,h=>exact h
 | some (c,a,b),⟨u,e,eu⟩=>exact ⟨u,e,s _ _ eu⟩
theorem RwAt.same {H H':Hp} {t:Addr} {r:Rw} (h:RwAt H t r) (s:Same H H'):RwAt H' t r:=by
 obtain ⟨lt,e,hl⟩:=h
 exact ⟨lt,s _ _ e,hl.same s⟩
def dOne:Option (Nat×Nat×Nat)→List (Nat×Nat)
 | none=>[]
 | some (c,_,b)=>[(c,b)]
def dPut (l:List (Nat×Nat)):Option (Nat×Nat×Nat)→List (Nat×Nat)
 | none=>l
 | some (c,_,b)=>match l with
  | []=>[(c,b)]
  | (d,y) :: _=>if d=c then [(c,y ||| b)] else [(d,y),(c,b)]
def knN (l:List (Nat×Nat)):List (Int×Int):=l.map fun q=>((q.1:Int),(q.2:Int))
theorem zlc:∀ o p:Option (Nat×Nat×Nat),srt2 (knN (dPut (dOne o) p))=lwL o p
 | none,none=>rfl
 | some (c,_,b),none=>rfl
 | none,some (d,_,y)=>rfl
 | some (c,_,b),some (d,_,y)=>by
  show srt2 (knN (if c=d then [(d,b ||| y)] else [(c,b),(d,y)]))=if c=d then [((c:Int),((b ||| y:Nat):Int))] else srt2 [((c:Int),(b:Int)),((d:Int),(y:Int))]
  by_cases h:c=d
  ·rw [if_pos h,if_pos h,h];rfl
  ·rw [if_neg h,if_neg h];rfl
theorem zdO (o p:Option (Nat×Nat×Nat)):((knN (dPut (dOne o) p)).map (·.1)).Nodup:=by
 match o,p with
 | none,none=>simp [dPut,dOne,knN]
 | some (c,_,b),none=>simp [dPut,dOne,knN]
 | none,some (d,_,y)=>simp [dPut,dOne,knN]
 | some (c,_,b),some (d,_,y) =>
  show ((knN (if c=d then [(d,b ||| y)] else [(c,b),(d,y)])).map (·.1)).Nodup
  by_cases h:c=d
  ·rw [if_pos h];simp [knN]
  ·rw [if_neg h];simp [knN];omega
theorem zgj (o p:Option (Nat×Nat×Nat)):(knN (dPut (dOne o) p)).length≤2:=by
 match o,p with
 | none,none=>simp [dPut,dOne,knN]
 | some (c,_,b),none=>simp [dPut,dOne,knN]
 | none,some (d,_,y)=>simp [dPut,dOne,knN]
 | some (c,_,b),some (d,_,y) =>
  show (knN (if c=d then [(d,b ||| y)] else [(c,b),(d,y)])).length≤2
  by_cases h:c=d
  ·rw [if_pos h];simp [knN]
  ·rw [if_neg h];simp [knN]
theorem zj0 {l:List (Nat×Nat)} (hl:l.length≤1) (c a b:Nat):∃ n:Nat,(valV (knV (knN l)) (Sum.inl (c:Int))).getD (.int 0) = .int (n:Int)∧putK (knV (knN l)) (Sum.inl (c:Int)) (.int ((n ||| b:Nat):Int))=knV (knN (dPut l (some (c,a,b)))):=by
 match l,hl with
 | [],_=>exact ⟨0,rfl,by simp [putK,knV,knN,dPut]⟩
 | [(d,y)],_ =>
  by_cases h:d=c
  ·subst h
   refine ⟨y,by simp [valV,knV,knN],by simp [putK,knV,knN,dPut]⟩
  ·have h':¬ (d:Int)=(c:Int):=by omega
   refine ⟨0,by simp [valV,knV,knN,h',List.find?],by simp [putK,knV,knN,dPut,h,h']⟩
 | _ :: _ :: _,hl=>simp at hl
def fnd1 (rs:List Rw) (i j:Nat):List (List Int):=match rs[i]?,rs[j]? with
 | some r,some q=>if zbD r q=true then [[((r.w ||| q.w:Nat):Int),(i:Int),(j:Int)]] else []
 | _,_=>[]
def fndR (rs:List Rw) (j m:Nat):List (List Int):=(List.range m).flatMap fun i=>fnd1 rs i j
def fndL (rs:List Rw) (m:Nat):List (List Int):=(List.range m).flatMap fun j=>fndR rs j j
theorem zdr (rs:List Rw) (j m:Nat):fndR rs j (m+1)=fndR rs j m ++ fnd1 rs m j:=by
 unfold fndR;rw [List.range_succ,List.flatMap_append];simp
theorem zeY (rs:List Rw) (m:Nat):fndL rs (m+1)=fndL rs m ++ fndR rs m m:=by
 unfold fndL;rw [List.range_succ,List.flatMap_append];simp
theorem zjH (rs:List Rw) (i j:Nat):(fnd1 rs i j).length≤1:=by
 unfold fnd1
 split
 ·split <;> simp
 ·simp
theorem zel (rs:List Rw) (j:Nat):∀ m,(fndR rs j m).length≤m
 | 0=>by simp [fndR]
 | m+1=>by
  have:=zel rs j m
  have:=zjH rs m j
  rw [zdr,List.length_append];omega
theorem zgi (rs:List Rw):∀ m,(fndL rs m).length≤m * m
 | 0=>by simp [fndL]
 | m+1=>by
  have:=zgi rs m
  have:=zel rs m m
  rw [zeY,List.length_append,Nat.add_mul,Nat.mul_add];omega
def FndAt (X:Hp) (ts:List Addr) (nss:List (List Int)):Prop:=ts.length=nss.length∧∀ (i:Nat) (t:Addr) (ns:List Int),ts[i]? = some t→nss[i]? = some ns→X t=some (.tup (ns.map V.int))
theorem FndAt.same {X Y:Hp} {ts:List Addr} {nss:List (List Int)} (h:FndAt X ts nss) (s:Same X Y):FndAt Y ts nss:=⟨h.1,fun i t ns e1 e2=>s _ _ (h.2 i t ns e1 e2)⟩
theorem FndAt.snoc {X Y:Hp} {ts:List Addr} {nss:List (List Int)} {t:Addr} {ns:List Int} (h:FndAt Y ts nss) (ht:Y t=some (.tup (ns.map V.int))):FndAt Y (ts ++ [t]) (nss ++ [ns]):=by
 refine ⟨by rw [List.length_append,List.length_append,h.1];rfl,fun i t' ns' e1 e2=>?_⟩
 rcases zek e1 with z | ⟨z1,rfl⟩
 ·rcases zek e2 with y | ⟨y1,rfl⟩
  ·exact h.2 i t' ns' z y
  ·have:=(List.getElem?_eq_some_iff.mp z).1
   have:=h.1
   omega
 ·rcases zek e2 with y | ⟨y1,rfl⟩
  ·have:=(List.getElem?_eq_some_iff.mp y).1
   have:=h.1
   omega
  ·exact ht
def zb3:Sp:=fun vs H Q _=>∃ (p:Addr) (as:List Addr) (rs:List Rw),vs=[.ref p]∧H p=some (.tup (as.map V.ref))∧as.length=rs.length∧rs.length≤100∧(∀ (j:Nat) (a:Addr) (r:Rw),as[j]? = some a→rs[j]? = some r→RwAt H a r) ∧
 (fndL rs rs.length=[]→∀ H',Same H H'→Q .non H') ∧
 (∀ (x:Nat) (i j:Nat) (r q:Rw),(fndL rs rs.length)[PySem.argBest (fun i j=>HT.lexLt ((fndL rs rs.length).getD i []) ((fndL rs rs.length).getD j [])) ((fndL rs rs.length).length - 1)]? = some [(x:Int),(i:Int),(j:Int)]→rs[i]? = some r→rs[j]? = some q →
  ∀ (tp wp:Addr) (H':Hp),H tp=none→H' tp=some (.tup [.int (x:Int),.int (i:Int),.int (j:Int),.ref wp])→PrsAt H' wp (lwL r.l q.l)→Same H H'→Q (.ref tp) H')
theorem zjG {rs:List Rw} {i j:Nat} {ns:List Int} (h:ns∈fnd1 rs i j):∃ (r q:Rw) (x:Nat),rs[i]? = some r∧rs[j]? = some q∧ns=[(x:Int),(i:Int),(j:Int)]:=by
 unfold fnd1 at h
 split at h
 ·rename_i r q e1 e2
  split at h
  ·exact ⟨r,q,_,e1,e2,List.mem_singleton.mp h⟩
  ·simp at h
 ·simp at h
theorem zjF {rs:List Rw} {m:Nat} {ns:List Int} (h:ns∈fndL rs m):∃ (i j:Nat) (r q:Rw) (x:Nat),rs[i]? = some r∧rs[j]? = some q∧ns=[(x:Int),(i:Int),(j:Int)]:=by
 unfold fndL at h
 obtain ⟨j,_,h⟩:=List.mem_flatMap.mp h
 unfold fndR at h
 obtain ⟨i,_,h⟩:=List.mem_flatMap.mp h
 obtain ⟨r,q,x,e⟩:=zjG h
 exact ⟨i,j,r,q,x,e⟩
theorem zfN (bt:Nat→Nat→Bool):∀ n,PySem.argBest bt n≤n
 | 0=>Nat.le_refl _
 | n+1=>by
  have:=zfN bt n
  show (if bt (n+1) (PySem.argBest bt n)=true then n+1 else PySem.argBest bt n)≤n+1
  split <;> omega
def zfg:Option (Nat×Nat×Nat)→Prop
 | none=>True
 | some (c,a,b)=>c<100∧a<256∧b &&& a=b
structure RwOk (m:Nat) (r:Rw):Prop where
 m0:r.m<2 ^ m
 w0:r.w<2 ^ m
 wm:r.w &&& r.m=r.w
 i0:r.i<2 ^ m
 im:r.i &&& r.m=0
 c0:r.c<100
 l0:zfg r.l
def dN (keys:List Nat) (f:Nat→V):List (Key×V):=keys.map fun (c:Nat)=>(Sum.inl (c:Int),f c)
theorem dN_len (keys:List Nat) (f:Nat→V):(dN keys f).length=keys.length:=List.length_map ..
theorem dN_any {keys:List Nat} {f:Nat→V} {c:Nat}:((dN keys f).any fun kv=>decide (kv.fst=Sum.inl (c:Int)))=decide (c∈keys):=by
 rw [Bool.eq_iff_iff,List.any_eq_true,decide_eq_true_iff]
 constructor
 ·rintro ⟨x,hx,e⟩
  obtain ⟨k,hk,rfl⟩:=List.mem_map.mp hx
  have e:=of_decide_eq_true e
  injection e with e
  rw [← Int.ofNat.inj e];exact hk
 ·intro h
  exact ⟨_,List.mem_map.mpr ⟨c,h,rfl⟩,decide_eq_true rfl⟩
theorem zgY {keys:List Nat} {f:Nat→V} {c:Nat} {v:V} (h:c ∉ keys):putK (dN keys f) (Sum.inl (c:Int)) v=dN (keys ++ [c]) fun k=>if k=c then v else f k:=by
 unfold putK
 rw [dN_any,decide_eq_false h,if_neg (by decide)]
 unfold dN
 rw [List.map_append]
 congr 1
 ·refine List.map_congr_left fun k hk=>?_
  dsimp only
  rw [if_neg (fun z:k=c=>h (z ▸ hk))]
 ·simp
theorem zkk {f:Nat→V} {c:Nat}:∀ {keys:List Nat},c∈keys→valV (dN keys f) (Sum.inl (c:Int))=some (f c)
 | [],h=>nomatch h
 | k :: keys,h=>by
  unfold valV dN
  rw [List.map_cons,List.find?_cons]
  by_cases z:k=c
  ·subst z;simp
  ·have e:decide ((Sum.inl (k:Int):Key)=Sum.inl (c:Int))=false:=decide_eq_false fun y=>z (by injection y with y;exact Int.ofNat.inj y)
   simp only [e]
   exact zkk (keys:=keys) ((List.mem_cons.mp h).resolve_left (fun y=>z y.symm))
theorem zjN {keys:List Nat} {f g:Nat→V} (h:∀ k∈keys,f k=g k):dN keys f=dN keys g:=List.map_congr_left fun (k:Nat) hk=>by rw [h k hk]
theorem or_of {w a b x y:Nat} (h1:w &&& a=b) (h2:w &&& x=y):b ||| y=w &&& (a ||| x):=by
 rw [← h1,← h2,Nat.and_or_distrib_left]
theorem zk1 {w a b x y:Nat} (h1:w &&& a=b) (h2:w &&& x=y):(b ||| y) &&& a=b∧(b ||| y) &&& x=y:=by
 rw [or_of h1 h2]
 subst h1 h2
 constructor
 ·apply Nat.eq_of_testBit_eq;intro i
  simp only [Nat.testBit_and,Nat.testBit_or]
  cases w.testBit i <;> cases a.testBit i <;> cases x.testBit i <;> rfl
 ·apply Nat.eq_of_testBit_eq;intro i
  simp only [Nat.testBit_and,Nat.testBit_or]
  cases w.testBit i <;> cases a.testBit i <;> cases x.testBit i <;> rfl
theorem zcf {w a b x y:Nat} (h1:w &&& a=b) (h2:w &&& x=y):agr a b x y=true:=by
 subst h1 h2
 refine decide_eq_true (Nat.eq_of_testBit_eq fun i=>?_)
 simp only [Nat.testBit_and,Nat.testBit_xor,Nat.zero_testBit]
 cases w.testBit i <;> cases a.testBit i <;> cases x.testBit i <;> rfl
theorem zcU {a b x y:Nat} (hb:b &&& a=b) (hy:y &&& x=y) (h:agr a b x y=true):(b ||| y) &&& a=b∧(b ||| y) &&& x=y:=by
 have h:=of_decide_eq_true h
 have g:∀ i,((b.testBit i ^^ y.testBit i) && a.testBit i && x.testBit i)=false:=fun i=>by
  have:=congrArg (fun n=>Nat.testBit n i) h
  simpa only [Nat.testBit_and,Nat.testBit_xor,Nat.zero_testBit] using this
 have gb:∀ i,(b.testBit i && a.testBit i)=b.testBit i:=fun i=>by
  have:=congrArg (fun n=>Nat.testBit n i) hb
  simpa only [Nat.testBit_and] using this
 have gy:∀ i,(y.testBit i && x.testBit i)=y.testBit i:=fun i=>by
  have:=congrArg (fun n=>Nat.testBit n i) hy
  simpa only [Nat.testBit_and] using this
 constructor
 ·apply Nat.eq_of_testBit_eq;intro i
  have e1:=g i;have e2:=gb i;have e3:=gy i
  simp only [Nat.testBit_and,Nat.testBit_or]
  revert e1 e2 e3
  cases b.testBit i <;> cases a.testBit i <;> cases x.testBit i <;> cases y.testBit i <;> simp
 ·apply Nat.eq_of_testBit_eq;intro i
  have e1:=g i;have e2:=gb i;have e3:=gy i
  simp only [Nat.testBit_and,Nat.testBit_or]
  revert e1 e2 e3
  cases b.testBit i <;> cases a.testBit i <;> cases x.testBit i <;> cases y.testBit i <;> simp
theorem zfW {a b:Nat} (h:b &&& a=b) (ha:a<256):b<256:=by
 have:b &&& a≤a:=Nat.and_le_right
 omega
theorem or_256 {a b:Nat} (ha:a<256) (hb:b<256):a ||| b<256:=Nat.or_lt_two_pow (n:=8) ha hb
theorem g_tup3 {K:PySem.W.Frag} {i j k:Nat} {T:Addr} {x y z:V} {σ:St} {H:Hp} {Q:St→Hp→Prop} (e:H T=some (.tup [x,y,z])) (h:Q (((σ.set i (some x)).set j (some y)).set k (some z)) H) :
  gTup K 3 (zdA (za1 i) (zdA (za1 j) (zdA (za1 k) gNil))) (.ref T) σ H Q:=
 ⟨T,[x,y,z],rfl,SqT.of e,rfl,x,[y,z],rfl,y,[z],rfl,z,[],rfl,rfl,h⟩
def cand (rs:List Rw) (i j x:Nat):Prop:=i<j∧∃ r q,rs[i]? = some r∧rs[j]? = some q∧zbD r q=true∧x=r.w ||| q.w
def zju (x i j y k l:Nat):Prop:=x<y∨(x=y∧(i<k∨(i=k∧j≤l)))
def IsDue (rs:List Rw) (x i j:Nat):Prop:=cand rs i j x∧∀ i' j' x',cand rs i' j' x'→zju x i j x' i' j'
theorem IsDue.uniq {rs:List Rw} {x i j y k l:Nat} (h:IsDue rs x i j) (g:IsDue rs y k l):x=y∧i=k∧j=l:=by
 have h1:=h.2 _ _ _ g.1
 have h2:=g.2 _ _ _ h.1
 unfold zju at h1 h2
 omega
theorem zgc {rs:List Rw} {i j:Nat} (hij:i<j) {ns:List Int}:ns∈fnd1 rs i j↔∃ x,ns=[((x:Nat):Int),(i:Int),(j:Int)]∧cand rs i j x:=by
 constructor
 ·intro h
  unfold fnd1 at h
  split at h
  ·rename_i r q e1 e2
   split at h
   ·rename_i hc
    exact ⟨_,List.mem_singleton.mp h,hij,r,q,e1,e2,hc,rfl⟩
   ·simp at h
  ·simp at h
 ·rintro ⟨x,rfl,_,r,q,e1,e2,hc,rfl⟩
  unfold fnd1
  rw [e1,e2]
  dsimp only
  rw [if_pos hc]
  exact List.mem_cons_self
theorem mem_fndL {rs:List Rw} {ns:List Int}:ns∈fndL rs rs.length↔∃ i j x:Nat,ns=[(x:Int),(i:Int),(j:Int)]∧cand rs i j x:=by
 unfold fndL fndR
 rw [List.mem_flatMap]
 constructor
 ·rintro ⟨j,hj,h⟩
  obtain ⟨i,hi,h⟩:=List.mem_flatMap.mp h
  obtain ⟨x,e,hc⟩:=(zgc (List.mem_range.mp hi)).mp h
  exact ⟨i,j,x,e,hc⟩
 ·rintro ⟨i,j,x,e,hc⟩
  obtain ⟨hij,r,q,e1,e2,hcl,hx⟩:=id hc
  exact ⟨j,List.mem_range.mpr (List.getElem?_eq_some_iff.mp e2).1,List.mem_flatMap.mpr ⟨i,List.mem_range.mpr hij,(zgc hij).mpr ⟨x,e,hc⟩⟩⟩
theorem zgh {rs:List Rw} (h:fndL rs rs.length=[]):∀ i j x,¬ cand rs i j x:=fun i j x hc=>by
 have:=mem_fndL.mpr ⟨i,j,x,rfl,hc⟩
 rw [h] at this
 cases this
theorem zgn (bt:Nat→Nat→Bool) (N:Nat) (tr:∀ a b c,a≤N→b≤N→c≤N→bt a b=false→bt b c=false→bt a c=false) (ir:∀ a,a≤N→bt a a=false) (as:∀ a b,a≤N→b≤N→bt a b=true→bt b a=false) :
  ∀ n,n≤N→∀ k,k≤n→bt k (PySem.argBest bt n)=false
 | 0,hn,k,hk=>by
  obtain rfl:k=0:=by omega
  exact ir 0 hn
 | n+1,hn,k,hk=>by
  have ih:=zgn bt N tr ir as n (by omega)
  have hb:=zfN bt n
  show bt k (if bt (n+1) (PySem.argBest bt n)=true then n+1 else PySem.argBest bt n)=false
  by_cases h:bt (n+1) (PySem.argBest bt n)=true
  ·rw [if_pos h]
   rcases (show k≤n∨k=n+1 by omega) with z | z
   ·exact tr k (PySem.argBest bt n) (n+1) (by omega) (by omega) hn (ih k z) (as _ _ hn (by omega) h)
   ·rw [z];exact ir _ hn
  ·rw [if_neg h]
   rcases (show k≤n∨k=n+1 by omega) with z | z
   ·exact ih k z
   ·rw [z];exact Bool.eq_false_iff.mpr h
theorem lex3 (x i j y k l:Int):HT.lexLt [x,i,j] [y,k,l]=decide (x<y∨(x=y∧(i<k∨(i=k∧j<l)))):=by
 rw [HT.lexLt_cons]
 by_cases h1:x=y
 ·rw [if_pos h1,HT.lexLt_cons]
  by_cases h2:i=k
  ·rw [if_pos h2,HT.lexLt_cons]
   by_cases h3:j=l
   ·rw [if_pos h3,HT.lexLt_nil_nil];symm;apply decide_eq_false;omega
   ·rw [if_neg h3,decide_eq_decide];omega
  ·rw [if_neg h2,decide_eq_decide];omega
 ·rw [if_neg h1,decide_eq_decide];omega
theorem zeo {rs:List Rw} {x i j:Nat} (h:(fndL rs rs.length)[PySem.argBest (fun i j=>HT.lexLt ((fndL rs rs.length).getD i []) ((fndL rs rs.length).getD j [])) ((fndL rs rs.length).length - 1)]? = some [(x:Int),(i:Int),(j:Int)]):IsDue rs x i j:=by
 generalize hL:fndL rs rs.length=L at h
 have mem:∀ ns,ns∈L↔∃ i j x:Nat,ns=[(x:Int),(i:Int),(j:Int)]∧cand rs i j x:=fun ns=>by rw [← hL];exact mem_fndL
 have hpos:0<L.length:=Nat.lt_of_le_of_lt (Nat.zero_le _) (List.getElem?_eq_some_iff.mp h).1
 have at_:∀ a,a≤L.length - 1→∃ x i j:Int,L.getD a []=[x,i,j]:=fun a ha=>by
  have e:L[a]? = some (L[a]'(by omega)):=List.getElem?_eq_getElem (by omega)
  obtain ⟨i,j,x,e2,_⟩:=(mem _).mp (List.mem_of_getElem? e)
  exact ⟨_,_,_,by rw [List.getD_eq_getElem?_getD,e,e2];rfl⟩
 have hmin:=zgn (fun i j=>HT.lexLt (L.getD i []) (L.getD j [])) (L.length - 1)
  (fun a b c ha hb hc h1 h2=>by
   obtain ⟨x1,i1,j1,e1⟩:=at_ a ha
   obtain ⟨x2,i2,j2,e2⟩:=at_ b hb
   obtain ⟨x3,i3,j3,e3⟩:=at_ c hc
   rw [e1,e2,lex3,decide_eq_false_iff_not] at h1
   rw [e2,e3,lex3,decide_eq_false_iff_not] at h2
   rw [e1,e3,lex3,decide_eq_false_iff_not]
   omega)
  (fun a ha=>by
   obtain ⟨x1,i1,j1,e1⟩:=at_ a ha
   rw [e1,lex3,decide_eq_false_iff_not]
   omega)
  (fun a b ha hb h1=>by
   obtain ⟨x1,i1,j1,e1⟩:=at_ a ha
   obtain ⟨x2,i2,j2,e2⟩:=at_ b hb
   rw [e1,e2,lex3,decide_eq_true_iff] at h1
   rw [e2,e1,lex3,decide_eq_false_iff_not]
   omega) (L.length - 1) (Nat.le_refl _)
 have hc:cand rs i j x:=by
  obtain ⟨i',j',x',e,hc⟩:=(mem _).mp (List.mem_of_getElem? h)
  injection e with e1 e;injection e with e2 e;injection e with e3 e
  rw [Int.ofNat.inj e1,Int.ofNat.inj e2,Int.ofNat.inj e3];exact hc
 refine ⟨hc,fun i' j' x' hc'=>?_⟩
 obtain ⟨k,hk⟩:=List.mem_iff_getElem?.mp ((mem _).mpr ⟨i',j',x',rfl,hc'⟩)
 have hk2:k<L.length:=(List.getElem?_eq_some_iff.mp hk).1
 have:=hmin k (by omega)
 rw [List.getD_eq_getElem?_getD,hk,List.getD_eq_getElem?_getD,h] at this
 rw [show (some [(x':Int),(i':Int),(j':Int)]).getD []=[(x':Int),(i':Int),(j':Int)] from rfl,show (some [(x:Int),(i:Int),(j:Int)]).getD []=[(x:Int),(i:Int),(j:Int)] from rfl,lex3,decide_eq_false_iff_not] at this
 unfold zju
 omega
theorem PrsAt.same {H H':Hp} {p:Addr} {l:List (Int×Int)} (h:PrsAt H p l) (s:Same H H'):PrsAt H' p l:=by
 obtain ⟨ts,e,hl,ht⟩:=h
 exact ⟨ts,s _ _ e,hl,fun j t q e1 e2=>s _ _ (ht j t q e1 e2)⟩
theorem zka (o p:Option (Nat×Nat×Nat)):(lwL o p).length≤2:=by
 match o,p with
 | none,none=>simp [lwL]
 | some (c,_,b),none=>simp [lwL]
 | none,some (d,_,y)=>simp [lwL]
 | some (c,_,b),some (d,_,y) =>
  show (if c=d then [((c:Int),((b ||| y:Nat):Int))] else if ((d:Int),(y:Int)).1<((c:Int),(b:Int)).1 then [((d:Int),(y:Int)),((c:Int),(b:Int))] else [((c:Int),(b:Int)),((d:Int),(y:Int))]).length≤2
  split
  ·simp
  ·split <;> simp
theorem clash_parts {r q:Rw}:zbD r q=true↔agr r.m r.w q.m q.w=true∧latA r.l q.l=true:=by unfold zbD;rw [Bool.and_eq_true]
def NC (r q:Rw):Prop:=zbD r q=false∧zbD q r=false
def RwsAt2 (m:Nat) (X:Hp) (ws:List (Addr×Rw)):Prop:=∀ z∈ws,RwAt X z.1 z.2∧RwOk m z.2
theorem RwsAt2.same {m:Nat} {X Y:Hp} {ws:List (Addr×Rw)} (h:RwsAt2 m X ws) (s:Same X Y):RwsAt2 m Y ws:=fun z hz=>⟨(h z hz).1.same s,(h z hz).2⟩
def refs {α:Type} (ws:List (Addr×α)):List V:=ws.map fun z=>.ref z.1
theorem zau {α:Type} (ws:List (Addr×α)):(refs ws).length=ws.length:=List.length_map ..
theorem LatV.updL {X:Hp} {l:Addr} {v:V} {o:Option (Nat×Nat×Nat)} {xs ys:List V} (h:LatV X v o) (hl:X l=some (.lst xs)):LatV (upd X l (.lst ys)) v o:=by
 match o,h with
 | none,h=>exact h
 | some (c,a,b),⟨u,e,eu⟩=>exact ⟨u,e,by rw [zah (fun z=>by rw [z,hl] at eu;cases eu)];exact eu⟩
theorem RwAt.updL {X:Hp} {l t:Addr} {r:Rw} {xs ys:List V} (h:RwAt X t r) (hl:X l=some (.lst xs)):RwAt (upd X l (.lst ys)) t r:=by
 obtain ⟨lt,e,hlt⟩:=h
 exact ⟨lt,by rw [zah (fun z=>by rw [z,hl] at e;cases e)];exact e,hlt.updL hl⟩
theorem zbT {α:Type} {ws:List (Addr×α)} {k:Nat} {z:Addr×α} (h:ws[k]? = some z):(refs ws)[k]? = some (.ref z.1):=by unfold refs;rw [List.getElem?_map,h];rfl
theorem zeB {α:Type} (ws:List (Addr×α)) (z:Addr×α):refs (ws ++ [z])=refs ws ++ [.ref z.1]:=by unfold refs;rw [List.map_append];rfl
theorem zbE {α:Type} {ws:List (Addr×α)} {k:Nat} {x:V} (h:(refs ws)[k]? = some x):∃ z,ws[k]? = some z∧x = .ref z.1:=by
 unfold refs at h
 rw [List.getElem?_map] at h
 obtain ⟨z,h1,h2⟩:=Option.map_eq_some_iff.mp h
 exact ⟨z,h1,h2.symm⟩
def dV (keys:List Nat) (g:Nat→Nat):List (Key×V):=dN keys fun c=>.int (g c:Int)
def wrd (keys:List Nat) (g:Nat→Nat) (c:Nat):Nat:=if c∈keys then g c else 0
theorem ziu {f:Nat→V} {c:Nat}:∀ {keys:List Nat},c ∉ keys→valV (dN keys f) (Sum.inl (c:Int))=none
 | [],_=>rfl
 | k :: keys,h=>by
  unfold valV dN
  rw [List.map_cons,List.find?_cons]
  have z:¬ k=c:=fun z=>h (z ▸ List.mem_cons_self)
  have e:decide ((Sum.inl (k:Int):Key)=Sum.inl (c:Int))=false:=decide_eq_false fun y=>z (by injection y with y;exact Int.ofNat.inj y)
  simp only [e]
  exact ziu (keys:=keys) fun y=>h (List.mem_cons_of_mem _ y)
theorem zkj (keys:List Nat) (g:Nat→Nat) (c:Nat):(valV (dV keys g) (Sum.inl (c:Int))).getD (.int 0) = .int (wrd keys g c:Int):=by
 unfold dV wrd
 by_cases h:c∈keys
 ·rw [zkk h,if_pos h];rfl
 ·rw [ziu h,if_neg h];rfl
theorem dV_len (keys:List Nat) (g:Nat→Nat):(dV keys g).length=keys.length:=dN_len _ _
def awk (r:Rw) (W:Nat→Nat):Bool:=match r.l with
 | none=>true
 | some (c,a,b)=>decide (W c &&& a=b)
def met (r:Rw) (x:Nat):Bool:=decide (x &&& r.m=r.w)
def zf0:Sp:=fun vs H Q _=>∃ (t:Addr) (r:Rw) (x:Nat),vs=[.ref t,.int (x:Int)]∧RwAt H t r∧Q (.bl (met r x)) H
def zd0:Sp:=fun vs H Q _=>∃ (t d:Addr) (r:Rw) (keys:List Nat) (g:Nat→Nat),vs=[.ref t,.ref d]∧RwAt H t r∧H d=some (.dK (dV keys g))∧Q (.bl (awk r (wrd keys g))) H
def ans (r:Rw) (x:Nat) (W:Nat→Nat):Bool:=met r x && awk r W
def fstA (rs:List Rw) (x:Nat) (W:Nat→Nat):V:=match rs.findIdx? (fun r=>ans r x W) with
 | none=>.non
 | some i=>.int (i:Int)
def zhr:Sp:=fun vs H Q _=>∃ (p d:Addr) (x:Nat) (ws:List (Addr×Rw)) (keys:List Nat) (g:Nat→Nat),vs=[.ref p,.int (x:Int),.ref d]∧H p=some (.tup (refs ws))∧(∀ z∈ws,RwAt H z.1 z.2)∧H d=some (.dK (dV keys g))∧∀ H',Same H H'→Q (fstA (ws.map (·.2)) x (wrd keys g)) H'
theorem zkr {keys:List Nat} {g:Nat→Nat} {c a b:Nat} {r:Rw} (h:r.l=some (c,a,b)):decide (V.int (Builtin.bitAnd (wrd keys g c:Int) (a:Int))=V.int (b:Int))=awk r (wrd keys g):=by
 rw [band]
 unfold awk
 rw [h]
 show _=decide (wrd keys g c &&& a=b)
 by_cases z:wrd keys g c &&& a=b
 ·rw [decide_eq_true z,z];exact decide_eq_true rfl
 ·rw [decide_eq_false z];exact decide_eq_false fun y=>z (by injection y with y;exact Int.ofNat.inj y)
theorem met_eq {r:Rw} {x:Nat}:decide (V.int (Builtin.bitAnd (x:Int) (r.m:Int))=V.int (r.w:Int))=met r x:=by
 rw [band]
 unfold met
 by_cases h:x &&& r.m=r.w
 ·rw [decide_eq_true h,h];exact decide_eq_true rfl
 ·rw [decide_eq_false h];exact decide_eq_false fun z=>h (by injection z with z;exact Int.ofNat.inj z)
theorem zii {rs:List Rw} {x:Nat} {W:Nat→Nat} (h:∀ r∈rs,ans r x W=false):fstA rs x W = .non:=by
 unfold fstA
 rw [List.findIdx?_eq_none_iff.mpr h]
theorem zih {rs:List Rw} {x i:Nat} {W:Nat→Nat} {r:Rw} (hr:rs[i]? = some r) (h:ans r x W=true) (hb:∀ j q,j<i→rs[j]? = some q→ans q x W=false):fstA rs x W = .int (i:Int):=by
 unfold fstA
 obtain ⟨hi,e⟩:=List.getElem?_eq_some_iff.mp hr
 rw [List.findIdx?_eq_some_iff_getElem.mpr ⟨hi,by rw [e];exact h,fun j hj=>by rw [hb j _ hj (List.getElem?_eq_getElem (by omega))];decide⟩]
theorem zbk (x m w e:Nat):(x &&& m=w)↔(x / 2 ^ e &&& m / 2 ^ e=w / 2 ^ e∧x % 2 ^ e &&& m % 2 ^ e=w % 2 ^ e):=by
 have h1:(x &&& m) / 2 ^ e=x / 2 ^ e &&& m / 2 ^ e:=by
  apply Nat.eq_of_testBit_eq;intro i
  simp only [Nat.testBit_div_two_pow,Nat.testBit_and]
 have h2:(x &&& m) % 2 ^ e=x % 2 ^ e &&& m % 2 ^ e:=by
  apply Nat.eq_of_testBit_eq;intro i
  simp only [Nat.testBit_mod_two_pow,Nat.testBit_and]
  cases decide (i<e) <;> simp
 rw [← h1,← h2]
 constructor
 ·intro h;rw [h];exact ⟨rfl,rfl⟩
 ·rintro ⟨a,b⟩
  rw [← Nat.div_add_mod (x &&& m) (2 ^ e),← Nat.div_add_mod w (2 ^ e),a,b]
theorem zci (p:Nat→Bool):∀ n,(List.range (2 * n)).countP p=(List.range n).countP (fun k=>p (2 * k))+(List.range n).countP (fun k=>p (2 * k+1))
 | 0=>rfl
 | n+1=>by
  rw [show 2 * (n+1)=2 * n+1+1 by omega,List.range_succ,List.range_succ,List.countP_append,List.countP_append,zci p n,List.range_succ,List.countP_append,List.countP_append]
  simp only [List.countP_singleton]
  omega
theorem zbC {p q:Nat→Bool} {n:Nat} (h:∀ k,k<n→p k=q k):(List.range n).countP p=(List.range n).countP q:=by
 apply List.countP_congr
 intro k hk
 rw [h k (List.mem_range.mp hk)]
theorem zdt {p:Nat→Bool} {n:Nat} (h:∀ k,k<n→p k=false):(List.range n).countP p=0:=by
 rw [List.countP_eq_zero]
 intro k hk
 rw [h k (List.mem_range.mp hk)];decide
theorem ziy:∀ e m w,m<2 ^ e→w &&& m=w→(List.range (2 ^ e)).countP (fun k=>decide (k &&& m=w))=2 ^ (e - ones m)
 | 0,m,w,hm,hw=>by
  obtain rfl:m=0:=by simpa using hm
  obtain rfl:w=0:=by simpa using hw.symm
  simp
 | e+1,m,w,hm,hw=>by
  have hm2:m / 2<2 ^ e:=by rw [Nat.pow_succ] at hm;omega
  obtain ⟨s1,s2⟩:=(zbk w m w 1).mp hw
  have hw2:w / 2 &&& m / 2=w / 2:=by simpa using s1
  have s2:w % 2 &&& m % 2=w % 2:=by simpa using s2
  have ih:=ziy e (m / 2) (w / 2) hm2 hw2
  have ho:=zec e (m / 2) hm2
  have hm1:=zcv m
  have ev:∀ k,(2 * k &&& m=w)↔(k &&& m / 2=w / 2∧w % 2=0):=fun k=>by
   have:=zbk (2 * k) m w 1
   rw [show 2 * k / 2 ^ 1=k by omega,show 2 * k % 2 ^ 1=0 by omega,Nat.zero_and] at this
   rw [this];constructor <;> rintro ⟨a,b⟩ <;> exact ⟨a,by simpa using b.symm⟩
  have od:∀ k,(2 * k+1 &&& m=w)↔(k &&& m / 2=w / 2∧m % 2=w % 2):=fun k=>by
   have:=zbk (2 * k+1) m w 1
   rw [show (2 * k+1) / 2 ^ 1=k by omega,show (2 * k+1) % 2 ^ 1=1 by omega] at this
   have e1:1 &&& m % 2 ^ 1=m % 2:=by
    rcases Nat.mod_two_eq_zero_or_one m with h | h <;> simp [h]
   rw [e1] at this
   rw [this]
  rw [show 2 ^ (e+1)=2 * 2 ^ e by rw [Nat.pow_succ];omega,zci]
  have full:(List.range (2 ^ e)).countP (fun k=>decide (k &&& m / 2=w / 2))=2 ^ (e - ones (m / 2)):=ih
  rcases Nat.mod_two_eq_zero_or_one m with h | h
  ·have w0:w % 2=0:=by rw [h] at s2;simpa using s2.symm
   rw [zbC (q:=fun k=>decide (k &&& m / 2=w / 2)) (fun k _=>by rw [decide_eq_decide,ev];exact ⟨fun z=>z.1,fun z=>⟨z,w0⟩⟩),
    zbC (q:=fun k=>decide (k &&& m / 2=w / 2)) (p:=fun k=>decide (2 * k+1 &&& m=w)) (fun k _=>by rw [decide_eq_decide,od];exact ⟨fun z=>z.1,fun z=>⟨z,by omega⟩⟩),full,hm1,h,
    show e+1 - (0+ones (m / 2))=(e - ones (m / 2))+1 by omega,Nat.pow_succ]
   omega
  ·have e2:e+1 - ones m=e - ones (m / 2):=by rw [hm1,h];omega
   rw [e2]
   rcases Nat.mod_two_eq_zero_or_one w with w0 | w1
   ·rw [zbC (q:=fun k=>decide (k &&& m / 2=w / 2)) (fun k _=>by rw [decide_eq_decide,ev];exact ⟨fun z=>z.1,fun z=>⟨z,w0⟩⟩),
     zdt (p:=fun k=>decide (2 * k+1 &&& m=w)) (fun k _=>decide_eq_false fun z=>by have:=((od k).mp z).2;omega),full]
    rfl
   ·rw [zdt (p:=fun k=>decide (2 * k &&& m=w)) (fun k _=>decide_eq_false fun z=>by have:=((ev k).mp z).2;omega),
     zbC (q:=fun k=>decide (k &&& m / 2=w / 2)) (p:=fun k=>decide (2 * k+1 &&& m=w)) (fun k _=>by rw [decide_eq_decide,od];exact ⟨fun z=>z.1,fun z=>⟨z,by omega⟩⟩),full,Nat.zero_add]
def cnt (r:Rw) (s n:Nat):Nat:=(List.range n).countP fun k=>met r (s+k)
theorem zlt {r:Rw} {m:Nat} (hr:RwOk m r) (h e:Nat):cnt r (2 ^ e * h) (2 ^ e)=if h &&& r.m / 2 ^ e=r.w / 2 ^ e then 2 ^ (e - ones (r.m % 2 ^ e)) else 0:=by
 have hp:0<2 ^ e:=Nat.pow_pos (by decide)
 have sp:∀ k,k<2 ^ e→(met r (2 ^ e * h+k)=true↔(h &&& r.m / 2 ^ e=r.w / 2 ^ e∧k &&& r.m % 2 ^ e=r.w % 2 ^ e)):=fun k hk=>by
  unfold met
  rw [decide_eq_true_iff,zbk _ _ _ e,show (2 ^ e * h+k) / 2 ^ e=h by rw [Nat.mul_add_div hp,Nat.div_eq_of_lt hk];rfl,show (2 ^ e * h+k) % 2 ^ e=k by rw [Nat.mul_add_mod];exact Nat.mod_eq_of_lt hk]
 have hw:=((zbk r.w r.m r.w e).mp hr.wm).2
 unfold cnt
 by_cases c:h &&& r.m / 2 ^ e=r.w / 2 ^ e
 ·rw [if_pos c,← ziy e (r.m % 2 ^ e) (r.w % 2 ^ e) (Nat.mod_lt _ hp) hw]
  refine zbC fun k hk=>?_
  rw [Bool.eq_iff_iff,sp k hk,decide_eq_true_iff]
  exact ⟨fun z=>z.2,fun z=>⟨c,z⟩⟩
 ·rw [if_neg c]
  exact zdt fun k hk=>by rw [Bool.eq_false_iff];intro z;exact c ((sp k hk).mp z).1
theorem zkw {h w m:Nat} (hw:w &&& m=w):(h ^^^ w) &&& m=0↔h &&& m=w:=by
 constructor
 ·intro z
  apply Nat.eq_of_testBit_eq;intro i
  have z:=congrArg (fun n=>Nat.testBit n i) z
  have y:=congrArg (fun n=>Nat.testBit n i) hw
  simp only [Nat.testBit_and,Nat.testBit_xor,Nat.zero_testBit] at z y ⊢
  revert z y
  cases h.testBit i <;> cases w.testBit i <;> cases m.testBit i <;> simp
 ·intro z
  apply Nat.eq_of_testBit_eq;intro i
  have z:=congrArg (fun n=>Nat.testBit n i) z
  simp only [Nat.testBit_and,Nat.testBit_xor,Nat.zero_testBit] at z ⊢
  revert z
  cases h.testBit i <;> cases w.testBit i <;> cases m.testBit i <;> simp
theorem zjR {r:Rw} {m:Nat} (hr:RwOk m r) (h e:Nat):(2 ^ e * h ^^^ r.w) &&& r.m<2 ^ e↔h &&& r.m / 2 ^ e=r.w / 2 ^ e:=by
 have hp:0<2 ^ e:=Nat.pow_pos (by decide)
 have h1:((2 ^ e * h ^^^ r.w) &&& r.m) / 2 ^ e=(h ^^^ r.w / 2 ^ e) &&& r.m / 2 ^ e:=by
  apply Nat.eq_of_testBit_eq;intro i
  have e1:h=2 ^ e * h / 2 ^ e:=(Nat.mul_div_cancel_left h hp).symm
  conv=>rhs;rw [e1]
  simp only [Nat.testBit_div_two_pow,Nat.testBit_and,Nat.testBit_xor]
 rw [← Nat.div_eq_zero_iff_lt hp,h1]
 exact zkw ((zbk r.w r.m r.w e).mp hr.wm).1
def hol (rs:List Rw) (s n:Nat):Nat:=(List.range n).countP fun k=>rs.all fun r=>!met r (s+k)
def Dis (rs:List Rw):Prop:=rs.Pairwise fun r q=>∀ x,¬ (met r x=true∧met q x=true)
theorem zdP {p q t:Nat→Bool} (h:∀ k,(p k).toNat=(q k).toNat+(t k).toNat):∀ l:List Nat,l.countP p=l.countP q+l.countP t
 | []=>rfl
 | a :: l=>by
  have ih:=zdP h l
  have:=h a
  rw [List.countP_cons,List.countP_cons,List.countP_cons,ih]
  revert this
  cases p a <;> cases q a <;> cases t a <;> simp <;> omega
theorem zif {s n:Nat}:∀ {rs:List Rw},Dis rs→hol rs s n+(rs.map fun r=>cnt r s n).sum=n
 | [],_=>by
  unfold hol
  rw [List.map_nil,List.sum_nil]
  have:(List.range n).countP (fun _=>true)=n:=by rw [List.countP_true,List.length_range]
  exact this
 | r :: rs,h=>by
  obtain ⟨h1,h2⟩:=List.pairwise_cons.mp h
  have ih:=zif (s:=s) (n:=n) h2
  have:hol rs s n=hol (r :: rs) s n+cnt r s n:=by
   refine zdP (fun k=>?_) _
   rw [List.all_cons]
   cases hm:met r (s+k) with
   | false=>simp
   | true =>
    have:(rs.all fun q=>!met q (s+k))=true:=List.all_eq_true.mpr fun q hq=>by
     cases e:met q (s+k) with
     | false=>rfl
     | true=>exact absurd ⟨hm,e⟩ (h1 q hq (s+k))
    rw [this];rfl
  rw [List.map_cons,List.sum_cons]
  omega
theorem zll (rs:List Rw) (s a b:Nat):hol rs s (a+b)=hol rs s a+hol rs (s+a) b:=by
 unfold hol
 rw [List.range_add,List.countP_append,List.countP_map]
 congr 1
 apply List.countP_congr
 intro k _
 show (rs.all fun r=>!met r (s+(a+k)))=true↔(rs.all fun r=>!met r (s+a+k))=true
 rw [Nat.add_assoc]
def zeT (rs:List Rw) (x:Nat):Bool:=rs.all fun r=>!met r x
theorem zlk (rs:List Rw) (s:Nat):hol rs s 1=(zeT rs s).toNat:=by
 unfold hol zeT
 rw [show List.range 1=[0] from rfl,List.countP_singleton,Nat.add_zero]
 cases rs.all fun r=>!met r s <;> rfl
theorem ziH {W:Nat→Nat}:∀ {ws:List (Addr×Rw)},ws.Pairwise (fun a b=>NC a.2 b.2)→Dis ((ws.filter fun z=>awk z.2 W).map (·.2)):=fun {ws} h=>by
 unfold Dis
 rw [List.pairwise_map]
 refine (List.Pairwise.filter _ h).imp_of_mem ?_
 intro a b ha hb hn x ⟨h1,h2⟩
 have aa:=(List.mem_filter.mp ha).2
 have ab:=(List.mem_filter.mp hb).2
 have g1:agr a.2.m a.2.w b.2.m b.2.w=true:=zcf (w:=x) (of_decide_eq_true h1) (of_decide_eq_true h2)
 have g2:latA a.2.l b.2.l=true:=by
  unfold awk at aa ab
  cases e1:a.2.l with
  | none=>rfl
  | some o =>
   cases e2:b.2.l with
   | none=>obtain ⟨c,u,v⟩:=o;rfl
   | some q =>
    obtain ⟨c,u,v⟩:=o
    obtain ⟨d,u',v'⟩:=q
    rw [e1] at aa
    rw [e2] at ab
    show (if c=d then agr u v u' v' else true)=true
    by_cases z:c=d
    ·subst z
     rw [if_pos rfl]
     exact zcf (w:=W c) (of_decide_eq_true aa) (of_decide_eq_true ab)
    ·rw [if_neg z]
 have:=hn.1
 rw [clash_parts.mpr ⟨g1,g2⟩] at this
 cases this
def zfm:Sp:=fun vs H Q _=>∃ (L:Addr) (h e m:Nat) (ws:List (Addr×Rw)),vs=[.ref L,.int ((2 ^ e * h:Nat):Int),.int ((2 ^ e:Nat):Int)]∧e≤16∧m≤16∧H L=some (.lst (refs ws))∧RwsAt2 m H ws∧Dis (ws.map (·.2))∧∀ H',Same H H'→Q (.int (hol (ws.map (·.2)) (2 ^ e * h) (2 ^ e):Int)) H'
def awks (ws:List (Addr×Rw)) (W:Nat→Nat):List Rw:=(ws.filter fun z=>awk z.2 W).map (·.2)
def zdW:Sp:=fun vs H Q _=>∃ (p d:Addr) (m:Nat) (ws:List (Addr×Rw)) (keys:List Nat) (g:Nat→Nat),vs=[.int (m:Int),.ref p,.ref d]∧m≤16∧H p=some (.tup (refs ws))∧ws.length≤100∧RwsAt2 m H ws∧ws.Pairwise (fun a b=>NC a.2 b.2)∧H d=some (.dK (dV keys g))∧∀ H',Same H H'→Q (.int (hol (awks ws (wrd keys g)) 0 (2 ^ m):Int)) H'
def ansL (rs:List Rw) (x:Nat) (W:Nat→Nat) (n:Nat):List Nat:=(List.range n).filter fun k=>match rs[k]? with | some r=>ans r x W | none=>false
theorem ziL (rs:List Rw) (x:Nat) (W:Nat→Nat) (n:Nat):ansL rs x W (n+1)=ansL rs x W n ++ (match rs[n]? with | some r=>if ans r x W=true then [n] else [] | none=>[]):=by
 unfold ansL
 rw [List.range_succ,List.filter_append]
 congr 1
 cases h:rs[n]? with
 | none=>simp [h]
 | some r =>
  by_cases e:ans r x W=true
  ·simp [h,e]
  ·simp [h,e]
theorem ansL_mem {rs:List Rw} {x k:Nat} {W:Nat→Nat} {n:Nat}:k∈ansL rs x W n↔k<n∧∃ r,rs[k]? = some r∧ans r x W=true:=by
 unfold ansL
 rw [List.mem_filter,List.mem_range]
 constructor
 ·rintro ⟨h1,h2⟩
  refine ⟨h1,?_⟩
  cases h:rs[k]? with
  | none=>rw [h] at h2;cases h2
  | some r=>rw [h] at h2;exact ⟨r,rfl,h2⟩
 ·rintro ⟨h1,r,h2,h3⟩
  exact ⟨h1,by rw [h2];exact h3⟩
theorem zjT (rs:List Rw) (x:Nat) (W:Nat→Nat) (n:Nat):(ansL rs x W n).length≤n:=Nat.le_trans (List.length_filter_le _ _) (by rw [List.length_range];exact Nat.le_refl _)
theorem zdv (rs:List Rw) (x:Nat) (W:Nat→Nat) (n:Nat):(ansL rs x W n).Pairwise (· < ·):=List.Pairwise.filter _ List.pairwise_lt_range
def pr13 (rs:List Rw) (x i j:Nat):Prop:=i<j∧∃ r q,rs[i]? = some r∧rs[j]? = some q∧zbD r q=true∧met r x=true∧met q x=true
theorem zik {rs:List Rw} {m x i j:Nat} (hok:∀ r∈rs,RwOk m r) (h:pr13 rs x i j) (hx:∀ y,y<x→∀ k l,¬ pr13 rs y k l) (hmin:∀ k l,pr13 rs x k l→i<k∨(i=k∧j≤l)):IsDue rs x i j:=by
 have low:∀ {y k l},pr13 rs y k l→∀ r q,rs[k]? = some r→rs[l]? = some q→(r.w ||| q.w)≤y∧pr13 rs (r.w ||| q.w) k l:=fun {y k l} hp r q e1 e2=>by
  obtain ⟨hkl,r',q',f1,f2,hc,m1,m2⟩:=hp
  rw [e1] at f1;cases f1
  rw [e2] at f2;cases f2
  have g1:y &&& r.m=r.w:=of_decide_eq_true m1
  have g2:y &&& q.m=q.w:=of_decide_eq_true m2
  obtain ⟨o1,o2⟩:=zk1 g1 g2
  exact ⟨by rw [or_of g1 g2];exact Nat.and_le_left,hkl,r,q,e1,e2,hc,decide_eq_true o1,decide_eq_true o2⟩
 obtain ⟨hij,r,q,e1,e2,hc,m1,m2⟩:=id h
 obtain ⟨l1,l2⟩:=low h r q e1 e2
 have ex:x=r.w ||| q.w:=by
  rcases (show (r.w ||| q.w)=x∨(r.w ||| q.w)<x by omega) with z | z
  ·exact z.symm
  ·exact absurd l2 (hx _ z i j)
 refine ⟨⟨hij,r,q,e1,e2,hc,ex⟩,fun k l y hcand=>?_⟩
 obtain ⟨hkl,r',q',f1,f2,hc',ey⟩:=hcand
 have g1:=(hok r' (List.mem_of_getElem? f1)).wm
 have g2:=(hok q' (List.mem_of_getElem? f2)).wm
 obtain ⟨o1,o2⟩:=zcU g1 g2 (clash_parts.mp hc').1
 have hp:pr13 rs y k l:=⟨hkl,r',q',f1,f2,hc',by rw [ey];exact decide_eq_true o1,by rw [ey];exact decide_eq_true o2⟩
 unfold zju
 rcases (show y<x∨x=y∨x<y by omega) with z | z | z
 ·exact absurd hp (hx y z k l)
 ·subst z
  have:=hmin k l hp
  omega
 ·exact .inl z
theorem no_due {rs:List Rw} {m:Nat} (hok:∀ r∈rs,RwOk m r) (h:∀ y,y<2 ^ m→∀ k l,¬ pr13 rs y k l):∀ i j x,¬ cand rs i j x:=fun i j x hcand=>by
 obtain ⟨hkl,r',q',f1,f2,hc',ey⟩:=hcand
 have k1:=hok r' (List.mem_of_getElem? f1)
 have k2:=hok q' (List.mem_of_getElem? f2)
 obtain ⟨o1,o2⟩:=zcU k1.wm k2.wm (clash_parts.mp hc').1
 exact h x (by rw [ey];exact Nat.or_lt_two_pow k1.w0 k2.w0) i j ⟨hkl,r',q',f1,f2,hc',by rw [ey];exact decide_eq_true o1,by rw [ey];exact decide_eq_true o2⟩
theorem nc_of {ws:List (Addr×Rw)} (h:∀ i j x,¬ cand (ws.map (·.2)) i j x):ws.Pairwise fun a b=>zbD a.2 b.2=false:=by
 rw [List.pairwise_iff_getElem]
 intro i j hi hj hij
 cases e:zbD ws[i].2 ws[j].2 with
 | false=>rfl
 | true=>exact absurd ⟨hij,ws[i].2,ws[j].2,by rw [List.getElem?_map,List.getElem?_eq_getElem hi];rfl,by rw [List.getElem?_map,List.getElem?_eq_getElem hj];rfl,e,rfl⟩ (h i j _)
theorem dV_new {sk:List Nat} {sg:Nat→Nat} {x v:Nat} (h:x ∉ sk):putK (dV sk sg) (Sum.inl (x:Int)) (.int (v:Int))=dV (sk ++ [x]) fun k=>if k=x then v else sg k:=by
 unfold dV
 rw [zgY h]
 exact zjN fun k _=>by by_cases z:k=x <;> simp [z]
def mapD (last:Int):D→Bool
 | .tup l=>l.all (rowD last)
 | _=>false
def zhk:Sp:=fun vs H Q _=>∃ p v d,∃ n:Nat,vs=[.int (n:Int),v]∧Dv p H v d∧tl d≤300∧1≤n∧n≤16∧∀ H',Same H H'→Q (.bl (mapD (2 ^ n - 1) d)) H'
def zjx:Option (Nat×Nat×Nat)→D
 | none=>.non
 | some (c,a,b)=>.tup [.int (c:Int),.int (a:Int),.int (b:Int)]
def zhz (r:Rw):D:=.tup [.int (r.m:Int),.int (r.w:Int),.int (r.i:Int),.int (r.c:Int),zjx r.l]
theorem zk7 {m n:Nat} (h:n<2 ^ m):numD (2 ^ m - 1) (.int (n:Int))=true:=by
 refine decide_eq_true ⟨by omega,?_⟩
 have:((2 ^ m:Nat):Int)=(2:Int) ^ m:=by norm_cast
 have h2:(n:Int)<((2 ^ m:Nat):Int):=Int.ofNat_lt.mpr h
 omega
theorem map_ok {m:Nat} {ws:List (Addr×Rw)} (h:∀ z∈ws,RwOk m z.2):mapD (2 ^ m - 1) (.tup (ws.map fun z=>zhz z.2))=true:=by
 show (ws.map fun z=>zhz z.2).all (rowD (2 ^ m - 1))=true
 rw [List.all_map,List.all_eq_true]
 intro z hz
 have ok:=h z hz
 show (chD (2 ^ m - 1) (.int (z.2.m:Int)) (.int (z.2.w:Int)) && numD (2 ^ m - 1) (.int (z.2.i:Int)) && decide (natD (.int (z.2.i:Int)) &&& natD (.int (z.2.m:Int))=0) && numD 99 (.int (z.2.c:Int)) && latN (zjx z.2.l))=true
 have hc:numD 99 (.int (z.2.c:Int))=true:=decide_eq_true ⟨by omega,by have:=ok.c0;omega⟩
 have hl:latN (zjx z.2.l)=true:=by
  have l0:=ok.l0
  cases hl:z.2.l with
  | none=>rfl
  | some o =>
   obtain ⟨c,a,b⟩:=o
   rw [hl] at l0
   obtain ⟨h1,h2,h3⟩:=l0
   show (numD 99 (.int (c:Int)) && chD 255 (.int (a:Int)) (.int (b:Int)))=true
   have hb:b≤a:=by rw [← h3];exact Nat.and_le_right
   have g1:numD 99 (.int (c:Int))=true:=decide_eq_true ⟨by omega,by omega⟩
   have g2:numD 255 (.int (a:Int))=true:=decide_eq_true ⟨by omega,by omega⟩
   have g3:numD 255 (.int (b:Int))=true:=decide_eq_true ⟨by omega,by omega⟩
   unfold chD
   rw [g1,g2,g3]
   simp only [natD,Int.toNat_natCast,h3,Bool.true_and,decide_true]
 unfold chD
 rw [zk7 ok.m0,zk7 ok.w0,zk7 ok.i0,hc,hl]
 simp only [natD,Int.toNat_natCast,ok.wm,ok.im,Bool.true_and,Bool.and_true,decide_true]
def hdN (l:List Nat):V:=match l with
 | []=>.non
 | i :: _=>.int (i:Int)
theorem lnB1 {α:Type} {P:List α→Prop} (k:∀ a,P [a]):∀ us:List α,us.length=1→P us:=fun us h=>ln1 us h k
theorem lnB2 {α:Type} {P:List α→Prop} (k:∀ a b,P [a,b]):∀ us:List α,us.length=2→P us:=fun us h=>ln2 us h k
theorem lnB3 {α:Type} {P:List α→Prop} (k:∀ a b c,P [a,b,c]):∀ us:List α,us.length=3→P us:=fun us h=>ln3 us h k
theorem lnB4 {α:Type} {P:List α→Prop} (k:∀ a b c d,P [a,b,c,d]):∀ us:List α,us.length=4→P us:=fun us h=>ln4 us h k
theorem lnB5 {α:Type} {P:List α→Prop} (k:∀ a b c d e,P [a,b,c,d,e]):∀ us:List α,us.length=5→P us:=fun us h=>ln5 us h k
section
variable {P:Program} {w:World} {K:PySem.W.Frag} {mg:Str→Option Value} {base:Heap} {k:Nat} {f C:Addr} {fd:FuncData} {ps ks:List Str} {sp:Sp} {x m:Str} {g:List Value→List Value→List Value} {gV:List V→List V→List V}
theorem zax (G:FnOk P w K mg base CX0 k f fd ps sp) (a:mg x=some (.ref f)) (kp:PySem.W.keepIn K (.ref f)=true) (b:Binds K fd ps []):Cal P w K mg base k x ps sp:=⟨f,fd,G,a,kp,b⟩
theorem zk9 (c:Cls K C) (a:PySem.W.findIn K (.ref C) m=some (some (.ref f))) (fn:PySem.W.isFn K (.ref f)=true) (kp:PySem.W.keepIn K (.ref f)=true) (G:FnOk P w K mg base CX0 k f fd ps sp) (b:KBinds K fd ps ks g gV):Mth P w K mg base k C m ks gV sp:=⟨c,f,fd,ps,g,⟨a,fn,kp⟩,G,b⟩
theorem zj9 (c:Cls K C) (a:PySem.W.findIn K (.ref C) m=some (some (.ref f))) (fn:PySem.W.isFn K (.ref f)=true) (kp:PySem.W.keepIn K (.ref f)=true) (G:FnOk P w K mg base CX0 k f fd ps sp) (b:Binds K fd ps []):Mth P w K mg base k C m [] (fun vs _=>vs) sp:=zk9 c a fn kp G (.pos b)
theorem zh2 (a:mg x=some (.ref C)) (mk:PySem.W.makesIn K C=true) (at_:PySem.W.findIn K (.ref C) "__init__" = some (some (.ref f))) (fn:PySem.W.isFn K (.ref f)=true) (kc:PySem.W.keepIn K (.ref C)=true) (G:FnOk P w K mg base CX0 k f fd ps sp) (b:KBinds K fd ps ks g gV):Mak P w K mg base k x C ks gV sp:=⟨a,f,fd,ps,g,⟨mk,at_,fn,kc⟩,G,b⟩
end
structure Nums (mg:Str→Option Value):Prop where
 MOST_BITS:∃ t,mg "MOST_BITS" = some (.int 16 t)
 LAST_CHIP:∃ t,mg "LAST_CHIP" = some (.int 99 t)
 LAST_WORD:∃ t,mg "LAST_WORD" = some (.int 255 t)
 MOST_CELLS:∃ t,mg "MOST_CELLS" = some (.int 4096 t)
 SIXTEEN:∃ t,mg "SIXTEEN" = some (.str "0123456789abcdef" t)
 READ:∃ t,mg "READ" = some (.str "read" t)
 WRITE:∃ t,mg "WRITE" = some (.str "write" t)
 BOTH:∃ t,mg "BOTH" = some (.str "both" t)
abbrev zbv:Stmt:=top 11
theorem scsingle_ones:FnScope ["mask","singles","rest"] ["mask"] (zai zbv):=⟨rfl,rfl,rfl,by decide +kernel,rfl,by decide +kernel,by decide +kernel⟩
section
variable {P:Program} {w:World} {K:PySem.W.Frag} {mg:Str→Option Value} {base:Heap}
theorem zed {f:Addr} {fd:FuncData} (F:Fun K "single_ones" "single_ones" zbv f fd) (T:Blt mg):FnOk P w K mg base CX0 1 f fd ["mask"] zc0:=by
 refine F.ok scsingle_ones (fun vs H Q E h=>?_) (fun cdv A outer s H vs Q E hr h=>?_)
 ·obtain ⟨n,rfl,_⟩:=h;rfl
 ·obtain ⟨n,rfl,hn,k⟩:=h
  refine ⟨_,(zac (zat (i:=1) scsingle_ones.nd rfl (Or.inl rfl) (zaQ zae))
   (zac (zjd PassesOwn.never (zaA zjk (pv 0) zaf (zay _)) (zac (zat (i:=2) scsingle_ones.nd rfl (Or.inl rfl) (zar zaJ (pv 0) (zar zdH (pv 0) zaf)))
   (zac (zaZ (zji PySem.F.plainAttrs_list PySem.F.slot_list_append PySem.F.type_list_append zcd (pv 1) (zaa (zar zdH (pv 0) (pv 2)) zae)))
   (zag (zat (i:=0) scsingle_ones.nd rfl (Or.inl rfl) (pv 2))))))
   (zag (zao (pv 1))))),?rd⟩
  refine ⟨by show 0≤sizeLine;decide,fun l hl=>?_⟩
  refine ziU (fun σ H2=>∃ (m:Nat) (r:Option V) (d:List Nat),σ=[some (.int (m:Int)),some (.ref l),r]∧m<2 ^ 64∧Same H H2∧H2 l=some (.lst (vN d))∧d ++ sgl m=sgl n) (fun σ _=>match σ with | some (.int i) :: _=>i.toNat | _=>0)
   ⟨n,none,[],rfl,hn,zad hl,zab,rfl⟩ ?_ ?_
  ·rintro σ H2 ⟨m,r,d,rfl,hm,hs,hL,hd⟩
   walk_at "vc"
   refine ite2 (fun h1=>?_) (fun h1=>?_)
   ·have h1:0<m:=by have:=of_decide_eq_true h1;omega
    obtain ⟨s1,s2⟩:=zi3 m h1
    have e1:((m:Int) - 1)=((m - 1:Nat):Int):=by omega
    walk_at "vc"
    have hlen:(vN d).length<sizeLine:=by
     have h2:=congrArg List.length hd
     rw [List.length_append,zcm,zcm] at h2
     have h3:=zec 64 n hn
     rw [zaG];exact zht (by omega)
    refine ⟨.inl ⟨rfl,_,SqL.of hL⟩,?_⟩
    walk_at "vc"
    refine ⟨l,_,_,rfl,rfl,hL,hlen,?_⟩
    walk_at "vc"
    have e2:Builtin.bitAnd (m:Int) ((m:Int) - 1)=((m &&& (m - 1):Nat):Int):=by rw [e1,band]
    have e3:(m:Int) - Builtin.bitAnd (m:Int) ((m:Int) - 1)=((m - (m &&& (m - 1)):Nat):Int):=by rw [e2];omega
    refine ⟨⟨m &&& (m - 1),some (.int ((m &&& (m - 1):Nat):Int)),d ++ [m - (m &&& (m - 1))],?_,by omega,fun b o e=>?_,?_,?_⟩,?_⟩
    ·show List.set (List.set _ _ _) _ _=_
     simp only [List.set]
     rw [e2]
    ·rw [zah (zaj e hl)];exact hs b o e
    ·rw [zab,zfi,← e3]
    ·rw [← hd,s2];simp
    ·show (Builtin.bitAnd (m:Int) ((m:Int) - 1)).toNat<((m:Nat):Int).toNat
     rw [e2];simpa using s1
   ·have h1:m=0:=by have:=h1;simp at this;omega
    subst h1
    walk_at "vc"
    rw [zi2,List.append_nil] at hd
    subst hd
    exact k l H2 hl hL hs
  ·rintro σ H2 Q1 Q2 hq h
   obtain ⟨v,e,i,j,e1,e2,c,e3,h⟩:=h
   exact ⟨v,e,i,j,e1,e2,c,e3,hq _ _ h⟩
abbrev zd2:Stmt:=top 12
theorem zhx:FnScope ["mask"] ["mask"] (zai zd2):=⟨rfl,rfl,rfl,by decide +kernel,rfl,by decide +kernel,by decide +kernel⟩
theorem zhY {f:Addr} {fd:FuncData} (F:Fun K "ones_of" "ones_of" zd2 f fd) (T:Blt mg) (Gsingle_ones:Cal P w K mg base 1 "single_ones" ["mask"] zc0):FnOk P w K mg base CX0 2 f fd ["mask"] zfY:=by
 refine F.ok zhx (fun vs H Q E h=>?_) (fun cdv A outer s H vs Q E hr h=>?_)
 ·obtain ⟨n,rfl,_⟩:=h;rfl
 ·obtain ⟨n,rfl,hn,k⟩:=h
  refine ⟨_,(zag (zao (zan zav (by rfl) T.len PySem.boot_len (zaa (zal Gsingle_ones (hr.mono (by walk_at "m")) rfl (zaa (pv 0) zae)) zae)))),?rd⟩
  refine ⟨_,rfl,n,rfl,hn,fun p H' hp hL hs=>?_⟩
  refine ⟨p,_,rfl,.inl (SqL.of hL),?_⟩
  rw [zaG,zcm]
  exact k H' hs
abbrev zck:Stmt:=top 16
theorem zfs:FnScope ["thing","last"] ["thing","last"] (zai zck):=⟨rfl,rfl,rfl,by decide +kernel,rfl,by decide +kernel,by decide +kernel⟩
theorem zfz {f:Addr} {fd:FuncData} (F:Fun K "is_number" "is_number" zck f fd) (T:Blt mg):FnOk P w K mg base CX0 1 f fd ["thing","last"] zbl:=by
 refine F.ok zfs (fun vs H Q E h=>?_) (fun cdv A outer s H vs Q E hr h=>?_)
 ·obtain ⟨p,v,d,l,rfl,_⟩:=h;rfl
 ·obtain ⟨p,v,d,l,rfl,hd,k⟩:=h
  refine ⟨_,(zag (zao (za7 (zan (zaE "int" (K:=K) rfl) (by rfl) T.isinstance za4 (zaa (pv 0) (zaa (zaI rfl T.int zfa zhB) zae))) (za7 (zj3 (zan (zaE "bool" (K:=K) rfl) (by rfl) T.isinstance za4 (zaa (pv 0) (zaa (zaI rfl T.bool ziE zhC) zae)))) (zbj (zjh op_le op_le zaf (pv 0) (pv 1))))))),?rd⟩
  have no:isI d=false→numD l d=false:=fun z=>by cases d <;> first | rfl | cases z
  have nb:isB d=true→numD l d=false:=fun z=>by cases d <;> first | rfl | cases z
  obtain ⟨t,ty,k1,k2,_⟩:=hd.ty (K:=K)
  refine ⟨_,rfl,_,_,_,rfl,ty,k1,_,rfl,ite2 (fun h1=>?_) (fun h1=>?_)⟩
  ·refine ⟨_,rfl,_,_,_,rfl,ty,k2,_,rfl,_,rfl,ite2 (fun h2=>?_) (fun h2=>?_)⟩
   ·cases hd with
    | int a =>
     refine ⟨_,rfl,_,_,rfl,rfl,_,rfl,ite2 (fun h=>?_) (fun h=>?_)⟩
     ·have h:=of_decide_eq_true h
      refine ⟨_,rfl,_,_,rfl,rfl,?_⟩
      rw [show numD l (.int a)=decide (a≤l) from decide_eq_decide.mpr ⟨fun z=>z.2,fun z=>⟨h,z⟩⟩] at k
      exact k
     ·have h:¬ 0≤a:=fun z=>h (decide_eq_true z)
      rw [show numD l (.int a)=false from decide_eq_false fun z=>h z.1] at k
      exact k
    | bl b=>cases h2
    | _=>cases h1
   ·rw [nb (by cases e:isB d with | true=>rfl | false=>rw [e] at h2;exact absurd rfl h2)] at k
    exact k
  ·have e:isI d=false:=by cases e:isI d with | true=>exact absurd e h1 | false=>rfl
   rw [no e] at k
   exact k
abbrev zdV:Stmt:=top 21
theorem zhv:FnScope ["bits"] ["bits"] (zai zdV):=⟨rfl,rfl,rfl,by decide +kernel,rfl,by decide +kernel,by decide +kernel⟩
theorem zhX {f:Addr} {fd:FuncData} (F:Fun K "size_of" "size_of" zdV f fd) (T:Blt mg):FnOk P w K mg base CX0 1 f fd ["bits"] zfX:=by
 refine F.ok zhv (fun vs H Q E h=>?_) (fun cdv A outer s H vs Q E hr h=>?_)
 ·obtain ⟨n,rfl,_⟩:=h;rfl
 ·obtain ⟨n,rfl,hn,k⟩:=h
  refine ⟨_,(zag (zao (zar zbK zaf (zan (ziD rfl) (by rfl) T.max PyProof.Rows.boot_max (zaa (pv 0) (zaa zaf zae)))))),?rd⟩
  refine ⟨_,rfl,_,_,rfl,?_⟩
  refine ⟨_,_,rfl,rfl,?_,?_⟩
  ·rw [if_neg (by omega)]
   exact ⟨by omega,by omega,by decide⟩
  ·have e:(1:Int) * 2 ^ (if (0:Int) > (n:Int) then 0 else (n:Int)).toNat=2 ^ n:=by
    rw [if_neg (by omega),Int.one_mul,Int.toNat_natCast]
   show Q (V.int ((1:Int) * 2 ^ (if (0:Int) > (n:Int) then 0 else (n:Int)).toNat)) H
   rw [e]
   exact k
abbrev zcl:Stmt:=top 22
theorem zft:FnScope ["mask","want","last"] ["mask","want","last"] (zai zcl):=⟨rfl,rfl,rfl,by decide +kernel,rfl,by decide +kernel,by decide +kernel⟩
theorem zfA {f:Addr} {fd:FuncData} (F:Fun K "is_choice" "is_choice" zcl f fd) (T:Blt mg) (Gis_number:Cal P w K mg base 1 "is_number" ["thing","last"] zbl):FnOk P w K mg base CX0 2 f fd ["mask","want","last"] zcN:=by
 refine F.ok zft (fun vs H Q E h=>?_) (fun cdv A outer s H vs Q E hr h=>?_)
 ·obtain ⟨p,v,w,d,e,l,rfl,_⟩:=h;rfl
 ·obtain ⟨p,v,w,d,e,l,rfl,hd,he,k⟩:=h
  refine ⟨_,(zag (zao (za7 (zal Gis_number (hr.mono (by walk_at "m")) rfl (zaa (pv 0) (zaa (pv 2) zae))) (za7 (zal Gis_number (hr.mono (by walk_at "m")) rfl (zaa (pv 1) (zaa (pv 2) zae))) (zbj (zaR zcH (zar zaJ (pv 1) (pv 0)) (pv 1) (zay _))))))),?rd⟩
  refine ⟨_,rfl,_,rfl,p,v,d,l,rfl,hd,_,rfl,ite2 (fun h1=>?_) (fun h1=>?_)⟩
  ·refine ⟨_,rfl,_,rfl,p,w,e,l,rfl,he,_,rfl,ite2 (fun h2=>?_) (fun h2=>?_)⟩
   ·obtain ⟨a,rfl,_⟩:=zcR h1
    obtain ⟨b,rfl,_⟩:=zcR h2
    cases hd
    cases he
    refine ⟨_,rfl,_,rfl,_,_,rfl,rfl,_,rfl,rfl,?_⟩
    have e:chD l (.int (a:Int)) (.int (b:Int))=decide (V.int (Builtin.bitAnd (b:Int) (a:Int))=V.int (b:Int)):=by
     unfold chD
     rw [h1,h2]
     rw [band,Bool.true_and,Bool.true_and]
     refine decide_eq_decide.mpr ⟨fun z=>?_,fun z=>?_⟩
     ·have z:(b &&& a)=b:=z
      rw [z]
     ·have z:=V.int.inj z
      show (b &&& a)=b
      omega
    rw [← e]
    exact k
   ·unfold chD at k
    rw [h1,eq_false_of_ne_true h2] at k
    exact k
  ·unfold chD at k
   rw [eq_false_of_ne_true h1] at k
   exact k
abbrev zc4:Stmt:=top 23
theorem scis_latch:FnScope ["thing","chip","mask","want"] ["thing"] (zai zc4):=⟨rfl,rfl,rfl,by decide +kernel,rfl,by decide +kernel,by decide +kernel⟩
theorem zjy {ds:List D} (h:ds.length≠3):latD (.tup ds)=false:=by
 match ds,h with
 | [],_=>rfl
 | [_],_=>rfl
 | [_,_],_=>rfl
 | [_,_,_],h=>exact absurd rfl h
 | _ :: _ :: _ :: _ :: _,_=>rfl
theorem zgH {f:Addr} {fd:FuncData} (F:Fun K "is_latch" "is_latch" zc4 f fd) (T:Blt mg) (N:Nums mg) (Gis_number:Cal P w K mg base 1 "is_number" ["thing","last"] zbl) (Gis_choice:Cal P w K mg base 2 "is_choice" ["mask","want","last"] zcN):FnOk P w K mg base CX0 3 f fd ["thing"] zhm:=by
 refine F.ok scis_latch (fun vs H Q E h=>?_) (fun cdv A outer s H vs Q E hr h=>?_)
 ·obtain ⟨p,v,d,rfl,_⟩:=h;rfl
 ·obtain ⟨p,v,d,rfl,hd,k⟩:=h
  refine ⟨_,(zac (zaD (PW.pt (zb6 (zaP (zaF (zan (zaE "tuple" (K:=K) rfl) (by rfl) T.isinstance za4 (zaa (pv 0) (zaa (zaI rfl T.tuple za8 zb4) zae))))) (zbA (zaA zfx (zan zav (by rfl) T.len PySem.boot_len (zaa (pv 0) zae)) zaf (zay _))))) (zag (zao zcs)) zaq)
   (zac (zb8 (pv 0) (zbi rfl (zam (zak (i:=1) scis_latch.nd rfl (Or.inl rfl)) (zam (zak (i:=2) scis_latch.nd rfl (Or.inl rfl)) (zam (zak (i:=3) scis_latch.nd rfl (Or.inl rfl)) zaM)))))
   (zag (zao (za7 (zal Gis_number (hr.mono (by walk_at "m")) rfl (zaa (pv 1) (zaa (zbG rfl N.LAST_CHIP) zae))) (zbj (zal Gis_choice (hr.mono (by walk_at "m")) rfl (zaa (pv 2) (zaa (pv 3) (zaa (zbG rfl N.LAST_WORD) zae)))))))))),?rd⟩
  obtain ⟨t,ty,_,_,k3⟩:=hd.ty (K:=K)
  refine ⟨_,rfl,_,_,_,rfl,ty,k3,_,rfl,?_⟩
  cases hd with
  | @tup a xs ds e ha hl h =>
   refine iteF ⟨_,rfl,a,xs,rfl,.inr (SqT.of e),rfl,_,rfl,ite2 (fun h1=>?_) (fun h1=>?_)⟩
   ·have n3:ds.length≠3:=fun z=>by
     rw [decide_eq_true (show V.int (xs.length:Int)=V.int 3 by rw [hl,z];rfl)] at h1
     cases h1
    rw [zjy n3] at k
    exact k
   ·have n3:xs.length=3:=by
     by_cases z:xs.length=3
     ·exact z
     ·rw [decide_eq_false (show ¬ V.int (xs.length:Int)=V.int 3 from fun q=>z (by have:=V.int.inj q;omega))] at h1
      exact absurd rfl h1
    match xs,ds,n3,hl,h,e with
    | [x,y,z],[c,m,w_],_,_,h,e =>
     refine ⟨_,rfl,a,_,rfl,SqT.of e,rfl,x,_,rfl,y,_,rfl,z,_,rfl,rfl,?_⟩
     refine ⟨_,rfl,p,x,c,99,rfl,h 0 x c rfl rfl,_,rfl,ite2 (fun h1=>?_) (fun h1=>?_)⟩
     ·refine ⟨_,rfl,_,rfl,p,y,z,m,w_,255,rfl,h 1 y m rfl rfl,h 2 z w_ rfl rfl,?_⟩
      rw [show latD (.tup [c,m,w_])=(numD 99 c && chD 255 m w_) from rfl,h1] at k
      exact k
     ·rw [show latD (.tup [c,m,w_])=(numD 99 c && chD 255 m w_) from rfl,eq_false_of_ne_true h1] at k
      exact k
  | _=>exact iteT (iteT k)
abbrev zfp:Stmt:=top 24
theorem scis_row:FnScope ["bits","thing","mask","want","inner","chip","latch","last"] ["bits","thing"] (zai zfp):=⟨rfl,rfl,rfl,by decide +kernel,rfl,by decide +kernel,by decide +kernel⟩
theorem zi8 {l:Int} {ds:List D} (h:ds.length≠5):rowD l (.tup ds)=false:=by
 match ds,h with
 | [],_=>rfl
 | [_],_=>rfl
 | [_,_],_=>rfl
 | [_,_,_],_=>rfl
 | [_,_,_,_],_=>rfl
 | [_,_,_,_,_],h=>exact absurd rfl h
 | _ :: _ :: _ :: _ :: _ :: _ :: _,_=>rfl
theorem zge {n m:Nat} {A B:Prop} (h1:n≠m→A) (h2:n=m→B):if (!decide (V.int (n:Int)=V.int (m:Int)))=true then A else B:=by
 by_cases z:n=m
 ·rw [decide_eq_true (by rw [z])]
  exact iteF (h2 z)
 ·rw [decide_eq_false (fun q=>z (by have:=V.int.inj q;omega))]
  exact iteT (h1 z)
theorem zkp {b:Bool} (h:(!b)=true):b=false:=by cases b <;> first | rfl | cases h
theorem zkq {b:Bool} (h:¬ (!b)=true):b=true:=by cases b <;> first | rfl | exact absurd rfl h
theorem zjn {f:Addr} {fd:FuncData} (F:Fun K "is_row" "is_row" zfp f fd) (T:Blt mg) (N:Nums mg) (Gis_number:Cal P w K mg base 1 "is_number" ["thing","last"] zbl) (Gsize_of:Cal P w K mg base 1 "size_of" ["bits"] zfX) (Gis_choice:Cal P w K mg base 2 "is_choice" ["mask","want","last"] zcN) (Gis_latch:Cal P w K mg base 3 "is_latch" ["thing"] zhm):FnOk P w K mg base CX0 4 f fd ["bits","thing"] zhj:=by
 refine F.ok scis_row (fun vs H Q E h=>?_) (fun cdv A outer s H vs Q E hr h=>?_)
 ·obtain ⟨p,v,d,n,rfl,_⟩:=h;rfl
 ·obtain ⟨p,v,d,n,rfl,hd,hn,hn2,k⟩:=h
  refine ⟨_,(zac (zaD (PW.pt (zb6 (zaP (zaF (zan (zaE "tuple" (K:=K) rfl) (by rfl) T.isinstance za4 (zaa (pv 1) (zaa (zaI rfl T.tuple za8 zb4) zae))))) (zbA (zaA zfx (zan zav (by rfl) T.len PySem.boot_len (zaa (pv 1) zae)) zaf (zay _))))) (zag (zao zcs)) zaq)
   (zac (zb8 (pv 1) (zbi rfl (zam (zak (i:=2) scis_row.nd rfl (Or.inl rfl)) (zam (zak (i:=3) scis_row.nd rfl (Or.inl rfl)) (zam (zak (i:=4) scis_row.nd rfl (Or.inl rfl)) (zam (zak (i:=5) scis_row.nd rfl (Or.inl rfl)) (zam (zak (i:=6) scis_row.nd rfl (Or.inl rfl)) zaM)))))))
   (zac (zat (i:=7) scis_row.nd rfl (Or.inl rfl) (zar zdH (zal Gsize_of (hr.mono (by walk_at "m")) rfl (zaa (pv 0) zae)) zaf))
   (zac (zaD (PW.pt (zb6 (zaP (zaF (zal Gis_choice (hr.mono (by walk_at "m")) rfl (zaa (pv 2) (zaa (pv 3) (zaa (pv 7) zae)))))) (zb6 (zaP (zaF (zal Gis_number (hr.mono (by walk_at "m")) rfl (zaa (pv 4) (zaa (pv 7) zae))))) (zbA (zaA zfx (zar zaJ (pv 4) (pv 2)) zaf (zay _)))))) (zag (zao zcs)) zaq)
   (zag (zao (za7 (zal Gis_number (hr.mono (by walk_at "m")) rfl (zaa (pv 5) (zaa (zbG rfl N.LAST_CHIP) zae))) (zbj (pe_or (zhS (zbJ (pv 6))) (zbj (zal Gis_latch (hr.mono (by walk_at "m")) rfl (zaa (pv 6) zae)))))))))))),?rd⟩
  have k:=k H (Same.refl _)
  obtain ⟨t,ty,_,_,k3⟩:=hd.ty (K:=K)
  refine ⟨_,rfl,_,_,_,rfl,ty,k3,_,rfl,?_⟩
  cases hd with
  | @tup a xs ds e ha hl h =>
   refine iteF ⟨_,rfl,a,xs,rfl,.inr (SqT.of e),rfl,_,rfl,zge (m:=5) (fun h1=>?_) (fun h1=>?_)⟩
   ·rw [zi8 (by omega)] at k
    exact k
   ·match xs,ds,h1,hl,h,e with
    | [x0,x1,x2,x3,x4],[m,w_,i,c,l],_,_,h,e =>
     refine ⟨_,rfl,a,_,rfl,SqT.of e,rfl,x0,_,rfl,x1,_,rfl,x2,_,rfl,x3,_,rfl,x4,_,rfl,rfl,?_⟩
     refine ⟨_,rfl,n,rfl,hn2,_,_,rfl,rfl,?_⟩
     have d0:=h 0 x0 m rfl rfl
     have d1:=h 1 x1 w_ rfl rfl
     have d2:=h 2 x2 i rfl rfl
     have d3:=h 3 x3 c rfl rfl
     have d4:=h 4 x4 l rfl rfl
     have ek:rowD (2 ^ n - 1) (.tup [m,w_,i,c,l])=(chD (2 ^ n - 1) m w_ && numD (2 ^ n - 1) i && decide (natD i &&& natD m=0) && numD 99 c && latN l):=rfl
     rw [ek] at k
     refine ⟨_,rfl,_,rfl,_,rfl,p,x0,x1,m,w_,_,rfl,d0,d1,?_⟩
     refine ⟨_,rfl,ite2 (fun h1=>?_) (fun h1=>?_)⟩
     ·rw [zkp h1] at k
      exact iteT k
     have c1:=zkq h1
     have c1':=c1
     unfold chD at c1'
     rw [Bool.and_eq_true,Bool.and_eq_true] at c1'
     obtain ⟨m',rfl,_⟩:=zcR c1'.1.1
     rw [c1] at k
     refine ⟨_,rfl,_,rfl,p,x2,i,_,rfl,d2,_,rfl,ite2 (fun h2=>?_) (fun h2=>?_)⟩
     ·rw [zkp h2] at k
      exact iteT k
     have c2:=zkq h2
     obtain ⟨i',rfl,_⟩:=zcR c2
     rw [c2] at k
     cases d0
     cases d2
     refine ⟨_,rfl,_,rfl,_,_,rfl,rfl,rfl,_,rfl,?_⟩
     rw [show (fun i j=>V.int (Builtin.bitAnd i j)) (i':Int) (m':Int)=V.int ((i' &&& m':Nat):Int) from congrArg V.int (band _ _)]
     refine zge (m:=0) (fun h3=>?_) (fun h3=>?_)
     ·rw [show decide (natD (.int (i':Int)) &&& natD (.int (m':Int))=0)=false from decide_eq_false h3] at k
      exact k
     rw [show decide (natD (.int (i':Int)) &&& natD (.int (m':Int))=0)=true from decide_eq_true h3] at k
     refine ⟨_,rfl,p,x3,c,99,rfl,d3,_,rfl,ite2 (fun h4=>?_) (fun h4=>?_)⟩
     ·rw [h4] at k
      cases d4 with
      | non=>exact ⟨_,rfl,_,rfl,iteT k⟩
      | bl b=>exact ⟨_,rfl,_,rfl,iteF ⟨_,rfl,p,_,_,rfl,.bl b,k⟩⟩
      | int b=>exact ⟨_,rfl,_,rfl,iteF ⟨_,rfl,p,_,_,rfl,.int b,k⟩⟩
      | str b=>exact ⟨_,rfl,_,rfl,iteF ⟨_,rfl,p,_,_,rfl,.str b,k⟩⟩
      | lst e5 h5=>exact ⟨_,rfl,_,rfl,iteF ⟨_,rfl,p,_,_,rfl,.lst e5 h5,k⟩⟩
      | dic e5 h5=>exact ⟨_,rfl,_,rfl,iteF ⟨_,rfl,p,_,_,rfl,.dic e5 h5,k⟩⟩
      | tup e5 h5 l5 g5=>exact ⟨_,rfl,_,rfl,iteF ⟨_,rfl,p,_,_,rfl,.tup e5 h5 l5 g5,k⟩⟩
     ·rw [eq_false_of_ne_true h4] at k
      exact k
  | _=>exact iteT (iteT k)
abbrev zfq:Stmt:=top 25
theorem zi6:FnScope ["bits","thing"] ["bits","thing"] (zai zfq):=⟨rfl,rfl,rfl,by decide +kernel,rfl,by decide +kernel,by decide +kernel⟩
theorem zjo {f:Addr} {fd:FuncData} (F:Fun K "is_map" "is_map" zfq f fd) (T:Blt mg) (Gis_row:Cal P w K mg base 4 "is_row" ["bits","thing"] zhj):FnOk P w K mg base CX0 5 f fd ["bits","thing"] zhk:=by
 refine F.ok zi6 (fun vs H Q E h=>?_) (fun cdv A outer s H vs Q E hr h=>?_)
 ·obtain ⟨p,v,d,n,rfl,_⟩:=h;rfl
 ·obtain ⟨p,v,d,n,rfl,hd,htl,hn,hn2,k⟩:=h
  refine' ⟨_,(zag (zao (za7 (zan (zaE "tuple" (K:=K) rfl) (by rfl) T.isinstance za4 (zaa (pv 1) (zaa (zaI rfl T.tuple za8 zb4) zae))) (zbj (zan (ze9 rfl) (by rfl) T.all zko (zaa ?c1 zae)))))),?rd⟩
  (case c1=>exact (zde (Nc:=["row","bits"]) [none,some 0] rfl (za3 (by rfl)) (zf8 (pv 1)) (fun _ _ _ _ _=>(zak (i:=0) (show (["row","bits"]:List Str).Nodup by decide +kernel) rfl (Or.inl rfl))) (fun _ _ _ _ _=>zf9) (fun _ _ _ _ _=>(zal Gis_row (hr.mono (by walk_at "m")) rfl (zaa (pv 1) (zaa (pv 0) zae))))))
  obtain ⟨t,ty,_,_,t3⟩:=hd.ty (K:=K)
  refine ⟨_,rfl,_,_,_,rfl,ty,t3,_,rfl,?_⟩
  cases hd with
  | @tup a xs ds e ha hl h =>
   have hl3:ds.length≤300:=htl
   refine iteT ⟨_,rfl,a,rfl,⟨_,SqT.of e⟩,?_⟩
   refine zgl (K:=K) (xs:=xs) (fun j rs σ H1=>∃ v0,σ=[v0,some (.int (n:Int))]∧rs=(ds.take j).map (fun d=>V.bl (rowD (2 ^ n - 1) d))∧Same H H1) (Nat.le_trans (show _≤300 by omega) (by decide)) ⟨none,rfl,rfl,Same.refl _⟩ ?_ ?_ ?_
   ·rintro j rs σ H1 hj ⟨v0,rfl,rfl,s1⟩
    exact ⟨SqT.of (s1 _ _ e),by rw [List.length_map,List.length_take];omega⟩
   ·rintro j x rs σ H1 hx ⟨v0,rfl,rfl,s1⟩
    have hj:j<xs.length:=(List.getElem?_eq_some_iff.mp hx).1
    have hd:ds[j]? = some (ds[j]'(by omega)):=List.getElem?_eq_getElem (by omega)
    refine ⟨_,rfl,_,rfl,p,x,_,n,rfl,(h j x _ hx hd).same s1,hn,hn2,fun H2 s2=>⟨_,rfl,?_,s1.trans s2⟩⟩
    rw [List.take_succ,hd,List.map_append]
    rfl
   ·rintro rs σ H1 ⟨v0,rfl,rfl,s1⟩ Dd hD
    refine ⟨Dd,ds.map (rowD (2 ^ n - 1)),rfl,SqL.of (by rw [hl,List.take_of_length_le (Nat.le_refl _),List.map_map];exact zab),?_⟩
    have e2:(ds.map (rowD (2 ^ n - 1))).all id=mapD (2 ^ n - 1) (.tup ds):=by rw [List.all_map];rfl
    rw [e2]
    exact k _ (s1.trans (zad hD))
  | _=>exact iteF (k H (Same.refl _))
abbrev zhs:Stmt:=top 26
theorem zkN:FnScope ["row","address"] ["row","address"] (zai zhs):=⟨rfl,rfl,rfl,by decide +kernel,rfl,by decide +kernel,by decide +kernel⟩
theorem zk3 {f:Addr} {fd:FuncData} (F:Fun K "meets" "meets" zhs f fd) (T:Blt mg):FnOk P w K mg base CX0 1 f fd ["row","address"] zf0:=by
 refine F.ok zkN (fun vs H Q E h=>?_) (fun cdv A outer s H vs Q E hr h=>?_)
 ·obtain ⟨t,r,x,rfl,_⟩:=h;rfl
 ·obtain ⟨t,r,x,rfl,⟨lt,et,hlt⟩,k⟩:=h
  refine ⟨_,(zag (zao (zaR zcH (zar zaJ (pv 1) (zas zap (pv 0) zaf (fun _ _=>rfl))) (zas zap (pv 0) zaf (fun _ _=>rfl)) (zay _)))),?rd⟩
  refine ⟨_,rfl,_,rfl,t,_,_,_,rfl,rfl,SqT.of et,rfl,_,_,rfl,rfl,_,rfl,t,_,_,_,rfl,rfl,SqT.of et,rfl,rfl,?_⟩
  have e:decide (V.int (Builtin.bitAnd (x:Int) (r.m:Int))=V.int (r.w:Int))=met r x:=by
   rw [band]
   unfold met
   by_cases h:x &&& r.m=r.w
   ·rw [decide_eq_true h,h];exact decide_eq_true rfl
   ·rw [decide_eq_false h];exact decide_eq_false fun z=>h (by injection z with z;exact Int.ofNat.inj z)
  rw [← e] at k
  exact k
abbrev zba:Stmt:=top 29
theorem zc8:FnScope ["mask","want","other_mask","other_want"] ["mask","want","other_mask","other_want"] (zai zba):=⟨rfl,rfl,rfl,by decide +kernel,rfl,by decide +kernel,by decide +kernel⟩
theorem zdh {f:Addr} {fd:FuncData} (F:Fun K "choices_agree" "choices_agree" zba f fd) (T:Blt mg):FnOk P w K mg base CX0 1 f fd ["mask","want","other_mask","other_want"] ziZ:=by
 refine F.ok zc8 (fun vs H Q E h=>?_) (fun cdv A outer s H vs Q E hr h=>?_)
 ·obtain ⟨m,x,n,v,rfl,_⟩:=h;rfl
 ·obtain ⟨m,x,n,v,rfl,k⟩:=h
  refine ⟨_,(zag (zao (zaR zcH (zar zaJ (zar zaJ (zar zeE (pv 1) (pv 3)) (pv 0)) (pv 2)) zaf (zay _)))),?rd⟩
  refine ⟨_,rfl,_,rfl,_,_,rfl,rfl,_,rfl,_,_,rfl,rfl,_,rfl,_,_,rfl,rfl,rfl,?_⟩
  have e:decide (V.int (Builtin.bitAnd (Builtin.bitAnd (Builtin.bitXor (x:Int) (v:Int)) (m:Int)) (n:Int))=V.int 0)=agr m x n v:=by
   rw [bxor,band,band]
   unfold agr
   exact decide_eq_decide.mpr ⟨fun h=>by have:=V.int.inj h;omega,fun h=>by rw [h];rfl⟩
  exact Eq.mpr (congrArg (fun b=>Q (V.bl b) H) e) k
abbrev za9:Stmt:=top 30
theorem zc6:FnScope ["latch","other"] ["latch","other"] (zai za9):=⟨rfl,rfl,rfl,by decide +kernel,rfl,by decide +kernel,by decide +kernel⟩
theorem zdg {f:Addr} {fd:FuncData} (F:Fun K "latches_agree" "latches_agree" za9 f fd) (T:Blt mg) (Gchoices_agree:Cal P w K mg base 1 "choices_agree" ["mask","want","other_mask","other_want"] ziZ):FnOk P w K mg base CX0 2 f fd ["latch","other"] zhn:=by
 refine F.ok zc6 (fun vs H Q E h=>?_) (fun cdv A outer s H vs Q E hr h=>?_)
 ·obtain ⟨x,y,o,p,rfl,_⟩:=h;rfl
 ·obtain ⟨x,y,o,p,rfl,hx,hy,k⟩:=h
  refine ⟨_,(zac (zaD (PW.pt (zb6 (za6 (zbJ (pv 0))) (zb6 (za6 (zbJ (pv 1))) (zbA (zaA zfx (zas zap (pv 0) zaf (fun _ _=>rfl)) (zas zap (pv 1) zaf (fun _ _=>rfl)) (zay _)))))) (zag (zao zcs)) zaq)
   (zag (zao (zal Gchoices_agree (hr.mono (by walk_at "m")) rfl (zaa (zas zap (pv 0) zaf (fun _ _=>rfl)) (zaa (zas zap (pv 0) zaf (fun _ _=>rfl)) (zaa (zas zap (pv 1) zaf (fun _ _=>rfl)) (zaa (zas zap (pv 1) zaf (fun _ _=>rfl)) zae)))))))),?rd⟩
  cases o with
  | none =>
   obtain rfl:x = .non:=hx
   exact ⟨_,rfl,_,rfl,iteT (iteT k)⟩
  | some o =>
   obtain ⟨c,a,b⟩:=o
   obtain ⟨u,rfl,eu⟩:=hx
   refine ⟨_,rfl,_,rfl,iteF ?_⟩
   cases p with
   | none =>
    obtain rfl:y = .non:=hy
    exact ⟨_,rfl,_,rfl,iteT (iteT k)⟩
   | some p =>
    obtain ⟨d,x',y'⟩:=p
    obtain ⟨u',rfl,eu'⟩:=hy
    refine ⟨_,rfl,_,rfl,iteF ?_⟩
    refine ⟨_,rfl,u,_,_,_,rfl,rfl,SqT.of eu,rfl,_,rfl,u',_,_,_,rfl,rfl,SqT.of eu',rfl,rfl,_,rfl,?_⟩
    by_cases h:c=d
    ·subst h
     rw [show (!decide (V.int (c:Int)=V.int (c:Int)))=false by simp]
     refine iteF ?_
     refine ⟨_,rfl,u,_,_,_,rfl,rfl,SqT.of eu,rfl,_,rfl,u,_,_,_,rfl,rfl,SqT.of eu,rfl,_,rfl,u',_,_,_,rfl,rfl,SqT.of eu',rfl,_,rfl,u',_,_,_,rfl,rfl,SqT.of eu',rfl,a,b,x',y',rfl,?_⟩
     rw [show latA (some (c,a,b)) (some (c,x',y'))=agr a b x' y' from if_pos rfl] at k
     exact k
    ·rw [show (!decide (V.int (c:Int)=V.int (d:Int)))=true by simp;omega]
     rw [show latA (some (c,a,b)) (some (d,x',y'))=true from if_neg h] at k
     exact iteT k
abbrev zbN:Stmt:=top 31
theorem zez:FnScope ["row","other"] ["row","other"] (zai zbN):=⟨rfl,rfl,rfl,by decide +kernel,rfl,by decide +kernel,by decide +kernel⟩
theorem zeH {f:Addr} {fd:FuncData} (F:Fun K "rows_clash" "rows_clash" zbN f fd) (T:Blt mg) (Gchoices_agree:Cal P w K mg base 1 "choices_agree" ["mask","want","other_mask","other_want"] ziZ) (Glatches_agree:Cal P w K mg base 2 "latches_agree" ["latch","other"] zhn):FnOk P w K mg base CX0 3 f fd ["row","other"] zfn:=by
 refine F.ok zez (fun vs H Q E h=>?_) (fun cdv A outer s H vs Q E hr h=>?_)
 ·obtain ⟨t,u,r,q,rfl,_⟩:=h;rfl
 ·obtain ⟨t,u,r,q,rfl,⟨lt,et,hl⟩,⟨lu,eu,hk⟩,k⟩:=h
  refine ⟨_,(zag (zao (za7 (zal Gchoices_agree (hr.mono (by walk_at "m")) rfl (zaa (zas zap (pv 0) zaf (fun _ _=>rfl)) (zaa (zas zap (pv 0) zaf (fun _ _=>rfl)) (zaa (zas zap (pv 1) zaf (fun _ _=>rfl)) (zaa (zas zap (pv 1) zaf (fun _ _=>rfl)) zae))))) (zbj (zal Glatches_agree (hr.mono (by walk_at "m")) rfl (zaa (zas zap (pv 0) zaf (fun _ _=>rfl)) (zaa (zas zap (pv 1) zaf (fun _ _=>rfl)) zae))))))),?rd⟩
  refine ⟨_,rfl,t,_,_,_,rfl,rfl,SqT.of et,rfl,_,rfl,t,_,_,_,rfl,rfl,SqT.of et,rfl,_,rfl,u,_,_,_,rfl,rfl,SqT.of eu,rfl,_,rfl,u,_,_,_,rfl,rfl,SqT.of eu,rfl,r.m,r.w,q.m,q.w,rfl,_,rfl,?_⟩
  unfold zbD at k
  cases h:agr r.m r.w q.m q.w with
  | false =>
   rw [h] at k
   exact iteF k
  | true =>
   rw [h] at k
   exact iteT ⟨_,rfl,t,_,_,_,rfl,rfl,SqT.of et,rfl,_,rfl,u,_,_,_,rfl,rfl,SqT.of eu,rfl,lt,lu,r.l,q.l,rfl,hl,hk,k⟩
abbrev zbx:Stmt:=top 32
theorem scleast_words:FnScope ["row","other","least","latch","chip"] ["row","other"] (zai zbx):=⟨rfl,rfl,rfl,by decide +kernel,rfl,by decide +kernel,by decide +kernel⟩
theorem zee {f:Addr} {fd:FuncData} (F:Fun K "least_words" "least_words" zbx f fd) (T:Blt mg) (GBsorted:mg "sorted" = none):FnOk P w K mg base CX0 1 f fd ["row","other"] zfl:=by
 refine F.ok scleast_words (fun vs H Q E h=>?_) (fun cdv A outer s H vs Q E hr h=>?_)
 ·obtain ⟨t,u,r,q,rfl,_⟩:=h;rfl
 ·obtain ⟨t,u,r,q,rfl,⟨lt,et,hl⟩,⟨lu,eu,hk⟩,k⟩:=h
  refine ⟨_,(zac (zat (i:=2) scleast_words.nd rfl (Or.inl rfl) zcb)
   (zac (zaS PassesOwn.never rfl (zf8 (zb9 (zaa (zas zap (pv 0) zaf (fun _ _=>rfl)) (zaa (zas zap (pv 1) zaf (fun _ _=>rfl)) zae)))) (zak (i:=3) scleast_words.nd rfl (Or.inl rfl))
   (zag (zaD (za6 (zct (pv 3))) (zac (zat (i:=4) scleast_words.nd rfl (Or.inl rfl) (zas zap (pv 3) zaf (fun _ _=>rfl)))
   (zag (zd7 (zbu hr) (pv 2) (pv 4) (zar zhT (zcc (zbu hr) (pv 2) (pv 4) zaf ⟨rfl,rfl,rfl,rfl⟩) (zas zap (pv 3) zaf (fun _ _=>rfl))) rfl))) zaq)))
   (zag (zao (za0 zbr (by rfl) T.tuple za8 (zaa (zan (ze4 rfl) (by rfl) GBsorted zdu (zaa (pe_bm0 PySem.F.plainAttrs_dict PySem.F.slot_dict_items PySem.F.type_dict_items zjq (pv 2)) zae)) zae)))))),?rd⟩
  refine fun d hd=>⟨_,rfl,t,_,_,_,rfl,rfl,SqT.of (zad hd _ _ et),rfl,_,rfl,u,_,_,_,rfl,rfl,SqT.of (zad hd _ _ eu),rfl,by show 2≤sizeLine;decide,fun tp htp=>⟨tp,rfl,⟨_,SqT.of zab⟩,?_⟩⟩
  have s1:Same H (upd H d (.dK [])):=zad hd
  have s2:=s1.trans (zad (o:=.tup [lt,lu]) htp)
  have ndt:d≠tp:=fun z=>by rw [← z,zab] at htp;cases htp
  refine zlr (K:=K) (a:=tp) (xs:=[lt,lu]) (fun i σ X=>∃ (v3 v4:Option V),σ=[some (.ref t),some (.ref u),some (.ref d),v3,v4]∧X d=some (.dK (knV (knN (if i=0 then [] else if i=1 then dOne r.l else dPut (dOne r.l) q.l))))∧X tp=some (.tup [lt,lu])∧Same H X)
   ⟨none,none,rfl,by rw [zah ndt];exact zab,zab,s2⟩ (fun i σ X hi ⟨_,_,_,_,e,_⟩=>SqT.of e) ?_ ?_
  ·rintro i x σ X hx ⟨v3,v4,rfl,ed,etp,sX⟩
   
   obtain ⟨l,o,hlen,hlx,hnow,hnext⟩:∃ (l:List (Nat×Nat)) (o:Option (Nat×Nat×Nat)),l.length≤1∧LatV H x o∧(if i=0 then [] else if i=1 then dOne r.l else dPut (dOne r.l) q.l)=l∧(if i+1=0 then [] else if i+1=1 then dOne r.l else dPut (dOne r.l) q.l)=dPut l o:=by
    rcases (show i=0∨i=1 by have:=(List.getElem?_eq_some_iff.mp hx).1;simp at this;omega) with rfl | rfl
    ·cases hx
     refine ⟨[],r.l,by simp,hl,rfl,?_⟩
     show dOne r.l=dPut [] r.l
     cases r.l with
     | none=>rfl
     | some z=>rfl
    ·cases hx
     refine ⟨dOne r.l,q.l,?_,hk,rfl,rfl⟩
     cases r.l with
     | none=>simp [dOne]
     | some z=>simp [dOne]
   rw [hnow] at ed
   rw [hnext]
   match o,hlx with
   | none,hlx =>
    obtain rfl:x = .non:=hlx
    exact ⟨_,rfl,_,rfl,iteF ⟨_,_,rfl,ed,etp,sX⟩⟩
   | some (c,a,b),hlx =>
    obtain ⟨lp,rfl,elp⟩:=hlx
    have elX:=sX _ _ elp
    obtain ⟨n,hv,hput⟩:=zj0 hlen c a b
    refine ⟨_,rfl,_,rfl,iteT ?_⟩
    refine ⟨_,rfl,lp,_,_,_,rfl,rfl,SqT.of elX,rfl,?_⟩
    refine ⟨_,rfl,d,rfl,.inl ⟨_,.inl ed⟩,_,rfl,_,DGet.k (k:=Sum.inl (c:Int)) ed,?_⟩
    rw [hv]
    refine ⟨_,rfl,lp,_,_,_,rfl,rfl,SqT.of elX,rfl,_,_,rfl,rfl,_,rfl,_,rfl,d,_,rfl,DPut.k (k:=Sum.inl (c:Int)) ed ?_,?_⟩
    ·unfold knV knN
     rw [List.length_map,List.length_map]
     exact Nat.lt_of_le_of_lt hlen (by decide)
    ·refine ⟨_,_,rfl,?_,by rw [zah (Ne.symm ndt)];exact etp,fun z o e=>?_⟩
     ·rw [zab,show ((fun (i j:Int)=>V.int (Builtin.bitOr i j)) (n:Int) (b:Int))=V.int ((n ||| b:Nat):Int) from congrArg V.int (bor n b),hput]
     ·rw [zah (zaj e hd)];exact sX _ _ e
  ·rintro σ X ⟨v3,v4,rfl,ed,etp,sX⟩
   have ed:X d=some (.dK (knV (knN (dPut (dOne r.l) q.l)))):=ed
   refine ⟨_,rfl,.inr (.inr (.inl ⟨rfl,.inl ⟨_,ed⟩⟩)),d,_,rfl,rfl,ed,fun vp hvp=>?_⟩
   refine ⟨vp,d,_,rfl,zab,zad hvp _ _ ed,zgj _ _,zdO _ _,fun l ts X2 hts hl2 s2 el hpr=>?_⟩
   refine ⟨l,_,rfl,.inl ⟨SqL.of el,fun p hp=>?_⟩⟩
   have sF:=sX.trans ((zad hvp).trans s2)
   refine k p _ (zbh sF hp) ⟨ts,zab,?_,fun j t' q' e1 e2=>?_⟩ (sF.trans (zad hp))
   ·rw [hts,← zlc]
    have:∀ l:List (Int×Int),(srt2 l).length=l.length:=fun l=>by
     match l with
     | []=>rfl
     | [_]=>rfl
     | [x,y] =>
      show (if y.1<x.1 then [y,x] else [x,y]).length=2
      split <;> rfl
     | _ :: _ :: _ :: _=>rfl
    exact (this _).symm
   ·rw [← zlc] at e2
    exact zad hp _ _ (hpr j t' q' e1 e2).2
abbrev zc7:Stmt:=top 33
theorem scclash_of:FnScope ["rows","found","second","other","first","row","address"] ["rows"] (zai zc7):=⟨rfl,rfl,rfl,by decide +kernel,rfl,by decide +kernel,by decide +kernel⟩
theorem zgJ {f:Addr} {fd:FuncData} (F:Fun K "clash_of" "clash_of" zc7 f fd) (T:Blt mg) (Grows_clash:Cal P w K mg base 3 "rows_clash" ["row","other"] zfn) (Gleast_words:Cal P w K mg base 1 "least_words" ["row","other"] zfl):FnOk P w K mg base CX0 4 f fd ["rows"] zb3:=by
 refine F.ok scclash_of (fun vs H Q E h=>?_) (fun cdv A outer s H vs Q E hr h=>?_)
 ·obtain ⟨p,as,rs,rfl,_⟩:=h;rfl
 ·obtain ⟨p,as,rs,rfl,hp,hla,hrs,hrw,k1,k2⟩:=h
  refine ⟨_,(zac (zat (i:=1) scclash_of.nd rfl (Or.inl rfl) (zaQ zae))
   (zac (zaS PassesOwn.never rfl (zcP rfl T.enumerate (zaa (pv 0) zae)) (zbi rfl (zam (zak (i:=2) scclash_of.nd rfl (Or.inl rfl)) (zam (zak (i:=3) scclash_of.nd rfl (Or.inl rfl)) zaM)))
   (zag (zaS PassesOwn.never rfl (zcP rfl T.enumerate (zaa (zcQ (zfo (K:=K) rfl) (pv 0) zd9 (zd8 (pv 2))) zae)) (zbi rfl (zam (zak (i:=4) scclash_of.nd rfl (Or.inl rfl)) (zam (zak (i:=5) scclash_of.nd rfl (Or.inl rfl)) zaM)))
   (zag (zaD (zaF (zal Grows_clash (hr.mono (by walk_at "m")) rfl (zaa (pv 5) (zaa (pv 3) zae)))) (zag (zaZ (zji PySem.F.plainAttrs_list PySem.F.slot_list_append PySem.F.type_list_append zcd (pv 1) (zaa (zb9 (zaa (zar zhT (zas zap (pv 5) zaf (fun _ _=>rfl)) (zas zap (pv 3) zaf (fun _ _=>rfl))) (zaa (pv 4) (zaa (pv 2) zae)))) zae)))) zaq)))))
   (zac (zaD (zaP (zjc (pv 1) (fun _=>rfl))) (zag (zao zca)) zaq)
   (zac (zb8 (zan (ziC rfl (zbu hr)) (by rfl) T.min PyProof.Rows.boot_min (zaa (pv 1) zae)) (zbi rfl (zam (zak (i:=6) scclash_of.nd rfl (Or.inl rfl)) (zam (zak (i:=4) scclash_of.nd rfl (Or.inl rfl)) (zam (zak (i:=2) scclash_of.nd rfl (Or.inl rfl)) zaM)))))
   (zag (zao (zb9 (zaa (pv 6) (zaa (pv 4) (zaa (pv 2) (zaa (zal Gleast_words (hr.mono (by walk_at "m")) rfl (zaa (zas zap (pv 0) (pv 4) (fun _ _=>rfl)) (zaa (zas zap (pv 0) (pv 2) (fun _ _=>rfl)) zae))) zae))))))))))),?rd⟩
  refine ⟨by show 0≤sizeLine;decide,fun fa hfa=>?_⟩
  refine ⟨_,rfl,p,rfl,⟨_,SqT.of (zad hfa _ _ hp)⟩,?_⟩
  have nfa:∀ (X:Hp) (ts:List Addr) (t:Addr) (o:List V),X fa=some (.lst (ts.map V.ref))→X t=some (.tup o)→t≠fa:=fun X ts t o e1 e2 z=>by rw [z,e1] at e2;cases e2
  refine zce (K:=K) (a:=p) (xs:=as.map V.ref) (fun j σ X=>∃ (v2 v3 v4 v5:Option V) (ts:List Addr),σ=[some (.ref p),some (.ref fa),v2,v3,v4,v5,none]∧X fa=some (.lst (ts.map V.ref))∧FndAt X ts (fndL rs j)∧Same H X)
   ⟨none,none,none,none,[],rfl,zab,⟨rfl,fun i t ns e1=>by simp at e1⟩,zad hfa⟩ (fun i σ X hi ⟨_,_,_,_,_,_,_,_,s⟩=>SqT.of (s _ _ hp)) ?_ ?_
  ·rintro j x T0 σ X hx hT0 ⟨v2,v3,v4,v5,ts,rfl,efa,hF,sX⟩
   rw [List.getElem?_map] at hx
   obtain ⟨b,hb,rfl⟩:=Option.map_eq_some_iff.mp hx
   have hj:j<as.length:=(List.getElem?_eq_some_iff.mp hb).1
   obtain ⟨q,hq⟩:∃ q,rs[j]? = some q:=⟨_,List.getElem?_eq_getElem (by omega)⟩
   refine zeV ?_
   have sT:Same H (upd X T0 (.tup [.int (j:Int),.ref b])):=sX.trans (zad hT0)
   refine ⟨_,rfl,_,rfl,_,rfl,p,_,rfl,SqT.of (sT _ _ hp),fun z=>?_,fun u hu=>?_⟩
   ·exfalso
    rw [zgk (by rw [List.length_map];omega)] at z
    have:=congrArg List.length z
    rw [List.length_take,List.length_map] at this
    omega
   have ecut:cutV (as.map V.ref) none (some (j:Int))=(as.take j).map V.ref:=by rw [zgk (by rw [List.length_map];omega),← List.map_take]
   refine ⟨u,rfl,⟨_,SqT.of zab⟩,?_⟩
   rw [ecut] at *
   have sU:Same X (upd (upd X T0 (.tup [.int (j:Int),.ref b])) u (.tup ((as.take j).map V.ref))):=(zad hT0).trans (zad hu)
   refine zce (K:=K) (a:=u) (xs:=(as.take j).map V.ref) (fun i σ Y=>∃ (v4 v5:Option V) (ts:List Addr),σ=[some (.ref p),some (.ref fa),some (.int (j:Int)),some (.ref b),v4,v5,none]∧Y fa=some (.lst (ts.map V.ref))∧FndAt Y ts (fndL rs j ++ fndR rs j i)∧Y u=some (.tup ((as.take j).map V.ref))∧Same H Y)
    ⟨v4,v5,ts,rfl,sU _ _ efa,by rw [show fndR rs j 0=[] from rfl,List.append_nil];exact hF.same sU,zab,sX.trans sU⟩ (fun i σ Y hi ⟨_,_,_,_,_,_,e,_⟩=>SqT.of e) ?_ ?_
   ·rintro i y T1 σ Y hy hT1 ⟨v4,v5,ts,rfl,efa,hF,eu,sY⟩
    rw [List.getElem?_map] at hy
    obtain ⟨a,ha,rfl⟩:=Option.map_eq_some_iff.mp hy
    have hij:i<j:=by have:=(List.getElem?_eq_some_iff.mp ha).1;rw [List.length_take] at this;omega
    have ha':as[i]? = some a:=by rw [List.getElem?_take] at ha;simpa [hij] using ha
    obtain ⟨r,hr'⟩:∃ r,rs[i]? = some r:=⟨_,List.getElem?_eq_getElem (by omega)⟩
    refine zeV ?_
    have s1:Same Y (upd Y T1 (.tup [.int (i:Int),.ref a])):=zad hT1
    have s2:=sY.trans s1
    have rwa:=hrw i a r ha' hr'
    have rwb:=hrw j b q hb hq
    have e1:fnd1 rs i j=if zbD r q=true then [[((r.w ||| q.w:Nat):Int),(i:Int),(j:Int)]] else []:=by unfold fnd1;rw [hr',hq]
    refine ⟨_,rfl,_,rfl,a,b,r,q,rfl,rwa.same s2,rwb.same s2,_,rfl,ite2 (fun hc=>?_) (fun hc=>?_)⟩
    ·obtain ⟨la,ea,hla2⟩:=rwa.same s2
     obtain ⟨lb,eb,hlb⟩:=rwb.same s2
     have efa1:=s1 _ _ efa
     refine ⟨_,rfl,.inl ⟨rfl,_,SqL.of efa1⟩,_,rfl,a,_,_,_,rfl,rfl,SqT.of ea,rfl,_,rfl,b,_,_,_,rfl,rfl,SqT.of eb,rfl,_,_,rfl,rfl,_,rfl,_,rfl,by show 3≤sizeLine;decide,fun T2 hT2=>?_⟩
     have s3:=zad (o:=.tup [.int (Builtin.bitOr (r.w:Int) (q.w:Int)),.int (i:Int),.int (j:Int)]) hT2
     have efa2:=s3 _ _ efa1
     have nT2:T2≠fa:=fun z=>by rw [z,efa1] at hT2;cases hT2
     refine ⟨fa,_,_,rfl,rfl,efa2,?_,?_⟩
     ·rw [List.length_map,hF.1,List.length_append]
      have a1:=zgi rs j
      have a2:=zel rs j i
      have a3:j * j≤100 * 100:=Nat.mul_le_mul (by omega) (by omega)
      exact Nat.lt_of_le_of_lt (show _≤10100 by omega) (by decide)
     ·have hF2:FndAt (upd (upd (upd Y T1 (.tup [.int (i:Int),.ref a])) T2 (.tup [.int (Builtin.bitOr (r.w:Int) (q.w:Int)),.int (i:Int),.int (j:Int)])) fa (.lst (ts.map V.ref ++ [.ref T2]))) ts (fndL rs j ++ fndR rs j i):=⟨hF.1,fun z t ns e2 e3=>by
       have h9:=hF.2 z t ns e2 e3
       rw [zah (nfa Y ts t _ efa h9)]
       exact s3 _ _ (s1 _ _ h9)⟩
      refine ⟨_,_,ts ++ [T2],rfl,by rw [zab,List.map_append];rfl,?_,?_,fun z o e=>?_⟩
      ·rw [zdr,← List.append_assoc,e1,if_pos hc]
       refine hF2.snoc (X:=H) ?_
       rw [zah nT2,zab]
       show some (HO.tup [V.int (Builtin.bitOr (r.w:Int) (q.w:Int)),V.int (i:Int),V.int (j:Int)])=some (HO.tup [V.int ((r.w ||| q.w:Nat):Int),V.int (i:Int),V.int (j:Int)])
       rw [bor]
      ·rw [zah (nfa Y ts u _ efa eu)]
       exact s3 _ _ (s1 _ _ eu)
      ·rw [zah (zaj e hfa)]
       exact s3 _ _ (s2 _ _ e)
    ·refine ⟨_,_,ts,rfl,s1 _ _ efa,?_,s1 _ _ eu,s2⟩
     rw [zdr,← List.append_assoc,e1,if_neg hc,List.append_nil]
     exact hF.same s1
   ·rintro σ Y ⟨v4,v5,ts,rfl,efa,hF,eu,sY⟩
    rw [List.length_map,List.length_take,Nat.min_eq_left (by omega)] at hF
    exact ⟨_,_,_,_,ts,rfl,efa,by rw [zeY];exact hF,sY⟩
  ·rintro σ X ⟨v2,v3,v4,v5,ts,rfl,efa,hF,sX⟩
   rw [List.length_map,hla] at hF
   have hfl:=hF.1
   by_cases h0:fndL rs rs.length=[]
   ·have et:ts=[]:=List.eq_nil_of_length_eq_zero (by rw [hfl,h0];rfl)
    subst et
    refine ⟨_,rfl,_,.inl ⟨_,SqL.of efa,rfl⟩,?_⟩
    exact iteT (k1 h0 X sX)
   ·have hpos:0<(fndL rs rs.length).length:=List.length_pos_iff.mpr h0
    refine ⟨_,rfl,_,.inl ⟨_,SqL.of efa,rfl⟩,?_⟩
    have hne:(!(ts.map V.ref).isEmpty)=true:=by
     cases ts with
     | nil=>rw [← hfl] at hpos;simp at hpos
     | cons _ _=>rfl
    rw [hne]
    refine iteF ?_
    refine ⟨_,rfl,fa,ts,fndL rs rs.length,rfl,efa,by omega,hfl,hF.2,fun t ht=>?_⟩
    rw [hfl] at ht
    obtain ⟨ns,hns⟩:∃ ns,(fndL rs rs.length)[PySem.argBest (fun i j=>HT.lexLt ((fndL rs rs.length).getD i []) ((fndL rs rs.length).getD j [])) ((fndL rs rs.length).length - 1)]? = some ns:=⟨_,List.getElem?_eq_getElem (by have:=(List.getElem?_eq_some_iff.mp ht).1;omega)⟩
    have et:=hF.2 _ t ns ht hns
    obtain ⟨i,j,r,q,x,hr',hq',rfl⟩:=zjF (List.mem_of_getElem? hns)
    have et:X t=some (.tup [.int (x:Int),.int (i:Int),.int (j:Int)]):=et
    have hi:i<rs.length:=(List.getElem?_eq_some_iff.mp hr').1
    have hj:j<rs.length:=(List.getElem?_eq_some_iff.mp hq').1
    obtain ⟨a,ha⟩:∃ a,as[i]? = some a:=⟨_,List.getElem?_eq_getElem (by omega)⟩
    obtain ⟨b,hb⟩:∃ b,as[j]? = some b:=⟨_,List.getElem?_eq_getElem (by omega)⟩
    refine ⟨t,[.int (x:Int),.int (i:Int),.int (j:Int)],rfl,SqT.of et,rfl,_,_,rfl,_,_,rfl,_,_,rfl,rfl,?_⟩
    have hpX:=sX _ _ hp
    refine ⟨_,rfl,_,rfl,_,rfl,_,rfl,_,rfl,p,_,_,V.ref a,rfl,rfl,SqT.of hpX,zaL (by rw [List.getElem?_map,ha];rfl),_,rfl,_,rfl,p,_,_,V.ref b,rfl,rfl,SqT.of hpX,zaL (by rw [List.getElem?_map,hb];rfl),a,b,r,q,rfl,(hrw i a r ha hr').same sX,(hrw j b q hb hq').same sX,fun wp Y hwp hpr sY=>?_⟩
    refine ⟨by show 4≤sizeLine;decide,fun tp htp=>?_⟩
    have sF:=sX.trans sY
    refine k2 x i j r q hns hr' hq' tp wp _ (zbh sF htp) zab ?_ (sF.trans (zad htp))
    obtain ⟨ts',e1,e2,e3⟩:=hpr
    exact ⟨ts',zad htp _ _ e1,e2,fun z t' q' h1 h2=>zad htp _ _ (e3 z t' q' h1 h2)⟩
abbrev zc5:Stmt:=top 34
theorem scis_awake:FnScope ["row","words","latch","chip","mask","want"] ["row","words"] (zai zc5):=⟨rfl,rfl,rfl,by decide +kernel,rfl,by decide +kernel,by decide +kernel⟩
theorem zgI {f:Addr} {fd:FuncData} (F:Fun K "is_awake" "is_awake" zc5 f fd) (T:Blt mg):FnOk P w K mg base CX0 1 f fd ["row","words"] zd0:=by
 refine F.ok scis_awake (fun vs H Q E h=>?_) (fun cdv A outer s H vs Q E hr h=>?_)
 ·obtain ⟨t,d,r,keys,g,rfl,_⟩:=h;rfl
 ·obtain ⟨t,d,r,keys,g,rfl,⟨lt,et,hlt⟩,ed,k⟩:=h
  refine ⟨_,(zac (zat (i:=2) scis_awake.nd rfl (Or.inl rfl) (zas zap (pv 0) zaf (fun _ _=>rfl)))
   (zac (zaD (za6 (zbJ (pv 2))) (zag (zao zcs)) zaq)
   (zac (zb8 (pv 2) (zbi rfl (zam (zak (i:=3) scis_awake.nd rfl (Or.inl rfl)) (zam (zak (i:=4) scis_awake.nd rfl (Or.inl rfl)) (zam (zak (i:=5) scis_awake.nd rfl (Or.inl rfl)) zaM)))))
   (zag (zao (zaR zcH (zar zaJ (zcc (zbu hr) (pv 1) (pv 3) zaf ⟨rfl,rfl,rfl,rfl⟩) (pv 4)) (pv 5) (zay _))))))),?rd⟩
  refine ⟨_,rfl,t,_,_,_,rfl,rfl,SqT.of et,rfl,?_⟩
  cases hl:r.l with
  | none =>
   rw [hl] at hlt
   obtain rfl:lt = .non:=hlt
   refine ⟨_,rfl,_,rfl,iteT ?_⟩
   rw [show awk r (wrd keys g)=true by unfold awk;rw [hl]] at k
   exact k
  | some o =>
   obtain ⟨c,a,b⟩:=o
   rw [hl] at hlt
   obtain ⟨lp,rfl,elp⟩:=hlt
   refine ⟨_,rfl,_,rfl,iteF ?_⟩
   refine ⟨_,rfl,lp,_,rfl,SqT.of elp,rfl,_,_,rfl,_,_,rfl,_,_,rfl,rfl,?_⟩
   refine ⟨_,rfl,d,rfl,.inl ⟨_,.inl ed⟩,_,rfl,_,DGet.k (k:=Sum.inl (c:Int)) ed,?_⟩
   rw [zkj]
   refine ⟨_,rfl,_,_,rfl,rfl,_,rfl,rfl,?_⟩
   rw [← zkr hl] at k
   exact k
abbrev zco:Stmt:=top 35
theorem scanswering:FnScope ["rows","address","words","number","row"] ["rows","address","words"] (zai zco):=⟨rfl,rfl,rfl,by decide +kernel,rfl,by decide +kernel,by decide +kernel⟩
theorem zfC {f:Addr} {fd:FuncData} (F:Fun K "answering" "answering" zco f fd) (T:Blt mg) (Gmeets:Cal P w K mg base 1 "meets" ["row","address"] zf0) (Gis_awake:Cal P w K mg base 1 "is_awake" ["row","words"] zd0):FnOk P w K mg base CX0 2 f fd ["rows","address","words"] zhr:=by
 refine F.ok scanswering (fun vs H Q E h=>?_) (fun cdv A outer s H vs Q E hr h=>?_)
 ·obtain ⟨p,d,x,ws,keys,g,rfl,_⟩:=h;rfl
 ·obtain ⟨p,d,x,ws,keys,g,rfl,hp,hws,ed,k⟩:=h
  refine ⟨_,(zac (zaS PassesOwn.never rfl (zcP rfl T.enumerate (zaa (pv 0) zae)) (zbi rfl (zam (zak (i:=3) scanswering.nd rfl (Or.inl rfl)) (zam (zak (i:=4) scanswering.nd rfl (Or.inl rfl)) zaM)))
   (zag (zaD (PW.pt (zeC (zaF (zal Gmeets (hr.mono (by walk_at "m")) rfl (zaa (pv 4) (zaa (pv 1) zae)))) (zdc (zaF (zal Gis_awake (hr.mono (by walk_at "m")) rfl (zaa (pv 4) (zaa (pv 2) zae))))))) (zag (zao (pv 3))) zaq)))
   (zag (zao zca))),?rd⟩
  refine ⟨_,rfl,p,rfl,⟨_,SqT.of hp⟩,?_⟩
  refine zce (K:=K) (a:=p) (xs:=refs ws) (fun i σ X=>∃ (v3 v4:Option V),σ=[some (.ref p),some (.int (x:Int)),some (.ref d),v3,v4]∧(∀ (j:Nat) (q:Rw),j<i→(ws.map (·.2))[j]? = some q→ans q x (wrd keys g)=false)∧Same H X) ⟨_,_,rfl,(fun j q hj=>absurd hj (Nat.not_lt_zero _)),Same.refl _⟩ (fun i σ X hi ⟨_,_,_,_,s⟩=>SqT.of (s _ _ hp)) ?_ ?_
  ·rintro i y U σ X hy hU ⟨v3,v4,rfl,hb,sX⟩
   obtain ⟨z,hz,rfl⟩:=zbE hy
   have sU:=sX.trans (zad (o:=.tup [.int (i:Int),.ref z.1]) hU)
   have rwz:=(hws z (List.mem_of_getElem? hz)).same sU
   have hzi:(ws.map (·.2))[i]? = some z.2:=by rw [List.getElem?_map,hz];rfl
   have next:ans z.2 x (wrd keys g)=false→∃ (v3 v4:Option V),[some (.ref p),some (.int (x:Int)),some (.ref d),some (.int (i:Int)),some (.ref z.1)]=[some (.ref p),some (.int (x:Int)),some (.ref d),v3,v4]∧(∀ (j:Nat) (q:Rw),j<i+1→(ws.map (·.2))[j]? = some q→ans q x (wrd keys g)=false)∧Same H (upd X U (.tup [.int (i:Int),.ref z.1])):=fun hn=>⟨_,_,rfl,fun j q hj hq=>by
    rcases (show j<i∨j=i by omega) with e | e
    ·exact hb j q e hq
    ·rw [e,hzi] at hq;cases hq;exact hn,sU⟩
   refine zeV ?_
   refine ⟨_,rfl,_,rfl,z.1,z.2,x,rfl,rwz,_,rfl,ite2 (fun h1=>?_) (fun h1=>?_)⟩
   ·refine ⟨_,rfl,_,rfl,z.1,d,z.2,keys,g,rfl,rwz,sU _ _ ed,_,rfl,ite2 (fun h2=>?_) (fun h2=>?_)⟩
    ·refine ⟨_,rfl,?_⟩
     have:=k _ sU
     rw [zih hzi (by unfold ans;rw [h1,h2];rfl) hb] at this
     exact this
    ·exact next (by unfold ans;rw [Bool.eq_false_iff.mpr h2,Bool.and_false])
   ·exact iteF (next (by unfold ans;rw [Bool.eq_false_iff.mpr h1,Bool.false_and]))
  ·rintro σ X ⟨v3,v4,rfl,hb,sX⟩
   have:=k X sX
   rw [zau] at hb
   rw [zii (fun r hr'=>by
    obtain ⟨j,hj⟩:=List.mem_iff_getElem?.mp hr'
    exact hb j r (by have:=(List.getElem?_eq_some_iff.mp hj).1;rw [List.length_map] at this;exact this) hj)] at this
   exact this
abbrev zby:Stmt:=top 36
theorem scholes_among:FnScope ["rows","start","size","met","row","mask","want"] ["rows","start","size"] (zai zby):=⟨rfl,rfl,rfl,by decide +kernel,rfl,by decide +kernel,by decide +kernel⟩
theorem zef {f:Addr} {fd:FuncData} (F:Fun K "holes_among" "holes_among" zby f fd) (T:Blt mg) (Gones_of:Cal P w K mg base 2 "ones_of" ["mask"] zfY):FnOk P w K mg base CX0 3 f fd ["rows","start","size"] zfm:=by
 refine F.ok scholes_among (fun vs H Q E h=>?_) (fun cdv A outer s H vs Q E hr h=>?_)
 ·obtain ⟨L,hh,e,m,ws,rfl,_⟩:=h;rfl
 ·obtain ⟨L,hh,e,m,ws,rfl,he,hm,eL,hws,hdis,k⟩:=h
  refine ⟨_,(zac (zat (i:=3) scholes_among.nd rfl (Or.inl rfl) zaf)
   (zac (zaS PassesOwn.never rfl (zdd (pv 0)) (zak (i:=4) scholes_among.nd rfl (Or.inl rfl))
   (zac (zb8 (zcQ (zfo (K:=K) rfl) (pv 4) zd9 (zd8 zaf)) (zbi rfl (zam (zak (i:=5) scholes_among.nd rfl (Or.inl rfl)) (zam (zak (i:=6) scholes_among.nd rfl (Or.inl rfl)) zaM))))
   (zag (zaD (zaA zgF (zar zaJ (zar zeE (pv 1) (pv 6)) (pv 5)) (pv 2) (zay _)) (zag (zj2 (i:=3) scholes_among.nd rfl (Or.inl rfl) (zar op_shr (pv 2) (zal Gones_of (hr.mono (by walk_at "m")) rfl (zaa (zar zaJ (pv 5) (zar zdH (pv 2) zaf)) zae))) zid)) zaq))))
   (zag (zao (zar zdH (pv 2) (pv 3)))))),?rd⟩
  have hp:0<2 ^ e:=Nat.pow_pos (by decide)
  have hp16:2 ^ e≤65536:=Nat.pow_le_pow_right (n:=2) (by decide) he
  refine ⟨_,rfl,L,rfl,⟨_,SqL.of eL⟩,?_⟩
  refine zcS (K:=K) (a:=L) (xs:=refs ws) (fun i σ X=>∃ (v4 v5 v6:Option V),σ=[some (.ref L),some (.int ((2 ^ e * hh:Nat):Int)),some (.int ((2 ^ e:Nat):Int)),some (.int ((((ws.map (·.2)).take i).map fun r=>cnt r (2 ^ e * hh) (2 ^ e)).sum:Nat)),v4,v5,v6]∧Same H X) ⟨_,_,_,rfl,Same.refl _⟩ (fun i σ X hi ⟨_,_,_,_,s⟩=>SqL.of (s _ _ eL)) ?_ ?_
  ·rintro i x σ X hx ⟨v4,v5,v6,rfl,sX⟩
   obtain ⟨z,hz,rfl⟩:=zbE hx
   obtain ⟨rwz,okz⟩:=hws z (List.mem_of_getElem? hz)
   obtain ⟨lt,ez,hlt⟩:=rwz.same sX
   have hzi:(ws.map (·.2))[i]? = some z.2:=by rw [List.getElem?_map,hz];rfl
   have tk:(((ws.map (·.2)).take (i+1)).map fun r=>cnt r (2 ^ e * hh) (2 ^ e)).sum=(((ws.map (·.2)).take i).map fun r=>cnt r (2 ^ e * hh) (2 ^ e)).sum+cnt z.2 (2 ^ e * hh) (2 ^ e):=by
    rw [List.take_succ,hzi,List.map_append,List.sum_append];simp
   have hblk:=zlt okz hh e
   have htest:=zjR okz hh e
   
   refine ⟨_,rfl,_,rfl,z.1,_,rfl,SqT.of ez,fun y=>absurd (show (2:Nat)=5 from congrArg List.length y) (by decide),fun u hu=>⟨u,_,rfl,SqT.of zab,rfl,_,_,rfl,_,_,rfl,rfl,?_⟩⟩
   have sU:=sX.trans (zad (o:=.tup [V.int (z.2.m:Int),V.int (z.2.w:Int)]) hu)
   refine ⟨_,rfl,_,rfl,_,_,rfl,rfl,_,rfl,_,_,rfl,rfl,_,rfl,_,_,rfl,rfl,_,rfl,?_⟩
   have ev:Builtin.bitAnd (Builtin.bitXor ((2 ^ e * hh:Nat):Int) (z.2.w:Int)) (z.2.m:Int)=(((2 ^ e * hh ^^^ z.2.w) &&& z.2.m:Nat):Int):=by rw [bxor,band]
   have et:decide (Builtin.bitAnd (Builtin.bitXor ((2 ^ e * hh:Nat):Int) (z.2.w:Int)) (z.2.m:Int)<((2 ^ e:Nat):Int))=decide (hh &&& z.2.m / 2 ^ e=z.2.w / 2 ^ e):=by
    rw [ev,decide_eq_decide,← htest];omega
   refine ite2 (fun h1=>?_) (fun h1=>?_)
   ·have c:hh &&& z.2.m / 2 ^ e=z.2.w / 2 ^ e:=of_decide_eq_true (et ▸ h1)
    rw [if_pos c] at hblk
    have hmm:z.2.m % 2 ^ e<2 ^ e:=Nat.mod_lt _ hp
    have hon:=zec e (z.2.m % 2 ^ e) hmm
    have e1:Builtin.bitAnd (z.2.m:Int) (((2 ^ e:Nat):Int) - 1)=((z.2.m % 2 ^ e:Nat):Int):=by
     rw [show ((2 ^ e:Nat):Int) - 1=((2 ^ e - 1:Nat):Int) by omega,band,Nat.and_two_pow_sub_one_eq_mod]
    refine ⟨_,rfl,_,rfl,_,rfl,_,rfl,_,_,rfl,rfl,_,_,rfl,rfl,z.2.m % 2 ^ e,congrArg (fun z=>[V.int z]) e1,by omega,fun X2 s2=>?_⟩
    refine ⟨_,_,rfl,rfl,by omega,_,_,rfl,rfl,some (.ref z.1),some (.int (z.2.m:Int)),some (.int (z.2.w:Int)),?_,sU.trans s2⟩
    have e2:((2 ^ e:Nat):Int) / 2 ^ ((ones (z.2.m % 2 ^ e):Nat):Int).toNat=((2 ^ (e - ones (z.2.m % 2 ^ e)):Nat):Int):=by
     rw [Int.toNat_natCast,show (2:Int) ^ ones (z.2.m % 2 ^ e)=((2 ^ ones (z.2.m % 2 ^ e):Nat):Int) by norm_cast,← Int.natCast_ediv,Nat.pow_div hon (by decide)]
    show List.set (List.set (List.set _ _ _) _ _) _ _=_
    simp only [List.set]
    rw [e2,tk,hblk]
    norm_cast
   ·have c:¬ hh &&& z.2.m / 2 ^ e=z.2.w / 2 ^ e:=fun y=>h1 (et ▸ decide_eq_true y)
    rw [if_neg c] at hblk
    refine ⟨some (.ref z.1),some (.int (z.2.m:Int)),some (.int (z.2.w:Int)),?_,sU⟩
    rw [tk,hblk,Nat.add_zero]
    rfl
  ·rintro σ X ⟨v4,v5,v6,rfl,sX⟩
   rw [zau,List.take_of_length_le (by rw [List.length_map];exact Nat.le_refl _)]
   refine ⟨_,rfl,_,rfl,_,_,rfl,rfl,?_⟩
   have:=zif (s:=2 ^ e * hh) (n:=2 ^ e) hdis
   have ee:((2 ^ e:Nat):Int) - (((ws.map (·.2)).map fun r=>cnt r (2 ^ e * hh) (2 ^ e)).sum:Nat)=((hol (ws.map (·.2)) (2 ^ e * hh) (2 ^ e):Nat):Int):=by omega
   have kk:=k X sX
   rw [← ee] at kk
   exact kk
abbrev zbM:Stmt:=top 37
theorem zey:FnScope ["bits","rows","words"] ["bits","rows","words"] (zai zbM):=⟨rfl,rfl,rfl,by decide +kernel,rfl,by decide +kernel,by decide +kernel⟩
theorem zeG {f:Addr} {fd:FuncData} (F:Fun K "unanswered" "unanswered" zbM f fd) (T:Blt mg) (Gis_awake:Cal P w K mg base 1 "is_awake" ["row","words"] zd0) (Gsize_of:Cal P w K mg base 1 "size_of" ["bits"] zfX) (Gholes_among:Cal P w K mg base 3 "holes_among" ["rows","start","size"] zfm):FnOk P w K mg base CX0 4 f fd ["bits","rows","words"] zdW:=by
 refine F.ok zey (fun vs H Q E h=>?_) (fun cdv A outer s H vs Q E hr h=>?_)
 ·obtain ⟨p,d,m,ws,keys,g,rfl,_⟩:=h;rfl
 ·obtain ⟨p,d,m,ws,keys,g,rfl,hm,hp,hl,hws,hnc,ed,k⟩:=h
  refine' ⟨_,(zag (zao (zal Gholes_among (hr.mono (by walk_at "m")) rfl (zaa ?c1 (zaa zaf (zaa (zal Gsize_of (hr.mono (by walk_at "m")) rfl (zaa (pv 0) zae)) zae)))))),?rd⟩
  (case c1=>exact (zde (Nc:=["row","words"]) [none,some 2] rfl (za3 (by rfl)) (zf8 (pv 1)) (fun _ _ _ _ _=>(zak (i:=0) (show (["row","words"]:List Str).Nodup by decide +kernel) rfl (Or.inl rfl))) (fun _ _ _ _ _=>(zhQ (zaF (zal Gis_awake (hr.mono (by walk_at "m")) rfl (zaa (pv 0) (zaa (pv 1) zae)))))) (fun _ _ _ _ _=>(pv 0))))
  refine ⟨_,rfl,p,rfl,⟨_,SqT.of hp⟩,?_⟩
  refine zgl (K:=K) (a:=p) (xs:=refs ws) (fun i ys σ X=>∃ v0:Option V,σ=[v0,some (.ref d)]∧ys=refs ((ws.take i).filter fun z=>awk z.2 (wrd keys g))∧X=H) (by rw [zau];exact Nat.le_trans hl (by decide)) ⟨none,rfl,rfl,rfl⟩ ?_ ?_ ?_
  ·rintro i ys σ X hi ⟨v0,_,rfl,rfl⟩
   exact ⟨SqT.of hp,by rw [zau];exact Nat.le_trans (List.length_filter_le _ _) (by rw [List.length_take];omega)⟩
  ·rintro i x ys σ X hx ⟨v0,rfl,rfl,rfl⟩
   obtain ⟨z,hz,rfl⟩:=zbE hx
   have rwz:=(hws z (List.mem_of_getElem? hz)).1
   have tk:(ws.take (i+1)).filter (fun z=>awk z.2 (wrd keys g))=(ws.take i).filter (fun z=>awk z.2 (wrd keys g)) ++ (if awk z.2 (wrd keys g)=true then [z] else []):=by
    rw [List.take_succ,hz,List.filter_append]
    congr 1
    by_cases e:awk z.2 (wrd keys g)=true
    ·rw [if_pos e];simp [e]
    ·rw [if_neg e];simp [e]
   refine ⟨_,rfl,_,rfl,z.1,d,z.2,keys,g,rfl,rwz,ed,_,rfl,ite2 (fun h1=>?_) (fun h1=>?_)⟩
   ·exact ⟨_,rfl,_,rfl,by rw [tk,if_pos h1,zeB],rfl⟩
   ·exact ⟨_,rfl,by rw [tk,if_neg h1,List.append_nil],rfl⟩
  rintro ys σ X ⟨v0,_,rfl,rfl⟩ L hL
  rw [zau,List.take_of_length_le (Nat.le_refl _)]
  have sL:=zad (o:=.lst (refs (ws.filter fun z=>awk z.2 (wrd keys g)))) hL
  refine ⟨_,rfl,m,rfl,hm,?_⟩
  refine ⟨L,0,m,m,ws.filter (fun z=>awk z.2 (wrd keys g)),?_,hm,hm,zab,fun z hz=>(hws.same sL) z (List.mem_filter.mp hz).1,ziH hnc,fun H' s'=>?_⟩
  ·rw [Nat.mul_zero]
   exact congrArg (fun z=>[V.ref L,V.int 0,V.int z]) (show (2:Int) ^ m=((2 ^ m:Nat):Int) by norm_cast)
  ·rw [Nat.mul_zero]
   exact k H' (sL.trans s')
theorem zk6:∀ vs H Q E,zdX vs H Q E→zbl vs H Q E:=by
 rintro vs H Q E ⟨a,b,rfl,q⟩
 exact ⟨0,_,.int a,b,rfl,.int a,q⟩
abbrev zd5:Stmt:=top 17
theorem zhy:FnScope ["thing"] ["thing"] (zai zd5):=⟨rfl,rfl,rfl,by decide +kernel,rfl,by decide +kernel,by decide +kernel⟩
theorem zhZ {f:Addr} {fd:FuncData} (F:Fun K "is_word" "is_word" zd5 f fd) (T:Blt mg) (N:Nums mg) (Gis_number:Cal P w K mg base 1 "is_number" ["thing","last"] zdX):FnOk P w K mg base CX0 2 f fd ["thing"] zb2:=by
 refine F.ok zhy (fun vs H Q E h=>?_) (fun cdv A outer s H vs Q E hr h=>?_)
 ·obtain ⟨a,rfl,_⟩:=h;rfl
 ·obtain ⟨a,rfl,k⟩:=h
  refine ⟨_,(zag (zao (zal Gis_number (hr.mono (by walk_at "m")) rfl (zaa (pv 0) (zaa (zbG rfl N.LAST_WORD) zae))))),?rd⟩
  exact ⟨_,rfl,a,255,rfl,k⟩
abbrev zbO:Stmt:=top 18
theorem zeA:FnScope ["word"] ["word"] (zai zbO):=⟨rfl,rfl,rfl,by decide +kernel,rfl,by decide +kernel,by decide +kernel⟩
theorem zeI {f:Addr} {fd:FuncData} (F:Fun K "check_word" "check_word" zbO f fd) (T:Blt mg) (Gis_word:Cal P w K mg base 2 "is_word" ["thing"] zb2):FnOk P w K mg base CX0 3 f fd ["word"] zc2:=by
 refine F.ok zeA (fun vs H Q E h=>?_) (fun cdv A outer s H vs Q E hr h=>?_)
 ·obtain ⟨a,rfl,_⟩:=h;rfl
 ·obtain ⟨a,rfl,h0,h1,k⟩:=h
  refine ⟨_,(zag (zaD (zaP (zaF (zal Gis_word (hr.mono (by walk_at "m")) rfl (zaa (pv 0) zae)))) (zag zbF) zaq)),?rd⟩
  refine ⟨_,rfl,a,rfl,_,rfl,zic ⟨h0,h1⟩ k⟩
abbrev zbc:Stmt:=zcw (top 44) 0
theorem zc9:FnScope ["self","head","held"] ["self","head","held"] (zai zbc):=⟨rfl,rfl,rfl,by decide +kernel,rfl,by decide +kernel,by decide +kernel⟩
theorem zdj {f:Addr} {fd:FuncData} (F:Fun K "__init__" "Chip.__init__" zbc f fd) (T:Blt mg):FnOk P w K mg base CX0 1 f fd ["self","head","held"] (zf1 K):=by
 refine F.ok zc9 (fun vs H Q E h=>?_) (fun cdv A outer s H vs Q E hr h=>?_)
 ·obtain ⟨a,C,dx,p,hd,rfl,_⟩:=h;rfl
 ·obtain ⟨a,C,dx,p,hd,rfl,ha,c,k⟩:=h
  refine ⟨_,(zac (zb7 (pv 0) (pv 1) rfl)
   (zag (zb7 (pv 0) (pv 2) rfl))),?rd⟩
  refine ⟨_,rfl,_,rfl,a,C,dx,_,rfl,ha,c.cl,c.head,by show 0<1000;decide,?_⟩
  refine ⟨_,rfl,_,rfl,a,C,dx,_,rfl,zab,c.cl,c.held,by show 1<1000;decide,?_⟩
  exact k _ zab fun b hb=>by rw [zah hb,zah hb]
def FIG:Str := "0123456789abcdef"
def figc (k:Nat):Nat:=(FIG.cps.toList[k]?).getD 0
def fig2 (n:Nat):Str:=(⟨#[figc (n / 16)]⟩:Str) ++ (⟨#[figc (n % 16)]⟩:Str)
def phead (r:Nat):Str:=Str.empty ++ ("pipe " : Str) ++ fig2 r
def two (_:List V):Nat:=2
def zku (C:Addr) (H:Hp) (a:Addr) (ws:List V) (hd:Str) (Q:VK):Prop:=∀ (p:Addr) (H':Hp),H p=none→(∃ dx,H' a=some (.ins C dx [("head",.str hd),("held",.ref p)]))→H' p=some (.lst ws)→KeepP a H H'→Q .non H'
def zfZ (C:Addr) (hd:Str):Sp:=fun vs H Q _=>∃ a dx,∃ v:Int,vs=[.ref a,.int v]∧0≤v∧v≤255∧H a=some (.ins C dx [])∧zku C H a [.int v] hd Q
def zdC (C:Addr):Sp:=fun vs H Q _=>∃ a dx,∃ (n:Nat) (v:Int),vs=[.ref a,.int (n:Int),.int v]∧1≤n∧n≤4096∧0≤v∧v≤255∧H a=some (.ins C dx [])∧zku C H a (List.replicate n (.int v)) "store" Q
def kname:Nat→Str
 | 0 => "store"
 | 1 => "fixed"
 | 2 => "latch"
 | 3 => "meter"
 | _ => "pipe"
def khead (kd n:Nat):Str:=if kd=4 then phead n else kname kd
def kext (kd n:Nat):List (Str×V):=if kd=4 then [("room",.int (n:Int))] else []
def zfJ (kd:Nat) (ws:List Nat):Nat:=if kd=4 then 2 else ws.length
structure Kd (kd n:Nat) (ws:List Nat):Prop where
 k5:(kd=0∨kd=2)
 w5:∀ v∈ws,v≤255
 ln:ws.length≤4096
 l1:kd≠4→1≤ws.length
 l3:kd=3→ws.length=1
 pi:kd=4→ws.length≤n∧1≤n
 n2:n≤255
structure Chp (cs:Nat→Addr) (H:Hp) (x p:Addr) (kd n:Nat) (ws:List Nat):Prop where
 ex:∃ dx,H x=some (.ins (cs kd) dx (("head",.str (khead kd n)) :: ("held",.ref p) :: kext kd n))
 ls:H p=some (.lst (vN ws))
theorem Chp.same {cs:Nat→Addr} {H H':Hp} {x p:Addr} {kd n:Nat} {ws:List Nat} (o:Chp cs H x p kd n ws) (s:Same H H'):Chp cs H' x p kd n ws:=by
 obtain ⟨⟨dx,e⟩,l⟩:=o
 exact ⟨⟨dx,s _ _ e⟩,s _ _ l⟩
def csOf (a b c d e:Addr):Nat→Addr
 | 0=>a
 | 1=>b
 | 2=>c
 | 3=>d
 | _=>e
abbrev zbn:Stmt:=zcw (top 44) 1
theorem zdw:FnScope ["self"] ["self"] (zai zbn):=⟨rfl,rfl,rfl,by decide +kernel,rfl,by decide +kernel,by decide +kernel⟩
theorem zbL {f C:Addr} {fd:FuncData} (F:Fun K "__len__" "Chip.__len__" zbn f fd) (T:Blt mg) (c:ClsOk K C):FnOk P w K mg base CX0 1 f fd ["self"] (zhl C List.length):=by
 refine F.ok zdw (fun vs H Q E h=>?_) (fun cdv A outer s H vs Q E hr h=>?_)
 ·obtain ⟨a,p,ws,ext,rfl,_⟩:=h;rfl
 ·obtain ⟨a,p,ws,ext,rfl,o,k⟩:=h
  refine ⟨_,(zag (zao (zan zav (by rfl) T.len PySem.boot_len (zaa (pe_fld (pv 0) rfl) zae)))),?rd⟩
  obtain ⟨⟨dx,hd,e⟩,l,nn⟩:=o
  exact ⟨_,rfl,a,C,dx,_,_,rfl,e,c.cl,c.held,rfl,p,ws,rfl,.inl (SqL.of l),k⟩
abbrev zaV:Stmt:=zcw (top 45) 0
theorem zcD:FnScope ["self","cells","word"] ["self","cells","word"] (zai zaV):=⟨rfl,rfl,rfl,by decide +kernel,rfl,by decide +kernel,by decide +kernel⟩
theorem zcI {f C:Addr} {fd:FuncData} {dV:Value} (F:FunD K "__init__" "Store.__init__" zaV dV f fd) (T:Blt mg) (N:Nums mg) (c:ClsOk K C) (Gis_number:Cal P w K mg base 1 "is_number" ["thing","last"] zdX) (Gis_word:Cal P w K mg base 2 "is_word" ["thing"] zb2) (GCChip___init__:Clm P w K mg base 1 "Chip" "__init__" (zf1 K)):FnOk P w K mg base CX0 3 f fd ["self","cells","word"] (zdC C):=by
 refine F.ok zcD (fun vs H Q E h=>?_) (fun cdv A outer s H vs Q E hr h=>?_)
 ·obtain ⟨a,dx,n,v,rfl,_⟩:=h;rfl
 ·obtain ⟨a,dx,n,v,rfl,h0,h1,h2,h3,ha,k⟩:=h
  refine ⟨_,(zac (zaD (PW.pt (zb6 (zaP (zaF (zal Gis_number (hr.mono (by walk_at "m")) rfl (zaa (pv 1) (zaa (zbG rfl N.MOST_CELLS) zae))))) (zb6 (zaA zgF (pv 1) zaf (zay _)) (zbA (zaP (zaF (zal Gis_word (hr.mono (by walk_at "m")) rfl (zaa (pv 2) zae)))))))) (zag zbF) zaq)
   (zag (zaZ (zj5 GCChip___init__ (hr.mono (by walk_at "m")) rfl (zaa (pv 0) (zaa zdG (zaa (zar zj6 (zaQ (zaa (pv 2) zae)) (pv 1)) zae))))))),?rd⟩
  refine ⟨_,rfl,(n:Int),4096,rfl,_,rfl,?_⟩
  rw [decide_eq_true (show (0:Int)≤(n:Int)∧(n:Int)≤4096 by omega)]
  refine iteF ⟨_,rfl,_,_,rfl,rfl,_,rfl,?_⟩
  rw [decide_eq_false (show ¬ (n:Int)<1 by omega)]
  refine iteF ⟨_,rfl,v,rfl,_,rfl,zic ⟨h2,h3⟩ ?_⟩
  refine ⟨_,rfl,_,rfl,by show 1≤sizeLine;decide,fun l hl=>?_⟩
  have en:((n:Int)).toNat=n:=by omega
  refine ⟨_,rfl,l,_,_,rfl,rfl,zab,by omega,by omega,?_,fun p hp=>?_⟩
  ·rw [en];show 1 * n≤sizeLine;exact Nat.le_trans (by omega) (show 4096≤sizeLine by decide)
  rw [en,show (List.replicate n [V.int v]).flatten=List.replicate n (V.int v) from zhD n _]
  have nl:l≠a:=fun z=>by rw [z,ha] at hl;cases hl
  have hpl:p≠l:=fun z=>by rw [z,zab] at hp;cases hp
  have hp0:H p=none:=by rw [zah hpl] at hp;exact hp
  have ne:p≠a:=fun z=>by rw [z,ha] at hp0;cases hp0
  refine ⟨a,C,dx,p,_,rfl,by rw [zah (Ne.symm ne),zah (Ne.symm nl)];exact ha,c,fun H' e1 e2=>?_⟩
  refine k p H' hp0 ⟨dx,e1⟩ (by rw [e2 p ne];exact zab) fun b o hb e=>?_
  rw [e2 b hb,zah (zaj e hp0),zah (zaj e hl)];exact e
abbrev zaW:Stmt:=zcw (top 46) 0
theorem zcE:FnScope ["self","word"] ["self","word"] (zai zaW):=⟨rfl,rfl,rfl,by decide +kernel,rfl,by decide +kernel,by decide +kernel⟩
theorem zcJ {f C:Addr} {fd:FuncData} {dV:Value} (F:FunD K "__init__" "Latch.__init__" zaW dV f fd) (T:Blt mg) (c:ClsOk K C) (Gis_word:Cal P w K mg base 2 "is_word" ["thing"] zb2) (GCChip___init__:Clm P w K mg base 1 "Chip" "__init__" (zf1 K)):FnOk P w K mg base CX0 3 f fd ["self","word"] (zfZ C "latch"):=by
 refine F.ok zcE (fun vs H Q E h=>?_) (fun cdv A outer s H vs Q E hr h=>?_)
 ·obtain ⟨a,dx,v,rfl,_⟩:=h;rfl
 ·obtain ⟨a,dx,v,rfl,h0,h1,ha,k⟩:=h
  refine ⟨_,(zac (zaD (zaP (zaF (zal Gis_word (hr.mono (by walk_at "m")) rfl (zaa (pv 1) zae)))) (zag zbF) zaq)
   (zag (zaZ (zj5 GCChip___init__ (hr.mono (by walk_at "m")) rfl (zaa (pv 0) (zaa zdG (zaa (zaQ (zaa (pv 1) zae)) zae))))))),?rd⟩
  refine ⟨_,rfl,v,rfl,_,rfl,zic ⟨h0,h1⟩ ?_⟩
  refine ⟨_,rfl,_,rfl,by show 1≤sizeLine;decide,fun p hp=>?_⟩
  have ne:p≠a:=fun z=>by rw [z,ha] at hp;cases hp
  refine ⟨a,C,dx,p,_,rfl,by rw [zah (Ne.symm ne)];exact ha,c,fun H' e1 e2=>?_⟩
  refine k p H' hp ⟨dx,e1⟩ (by rw [e2 p ne];exact zab) fun b o hb e=>?_
  rw [e2 b hb,zah (zaj e hp)];exact e
abbrev zaX:Stmt:=zcw (top 9) 0
theorem zcF:FnScope ["self","address","first","second","words"] ["self","address","first","second","words"] (zai zaX):=⟨rfl,rfl,rfl,by decide +kernel,rfl,by decide +kernel,by decide +kernel⟩
def clF (x i j:Nat) (p:Addr):List (Str×V):=[("address",.int (x:Int)),("first",.int (i:Int)),("second",.int (j:Int)),("words",.ref p)]
def zkH (C:Addr):Sp:=fun vs H Q _=>∃ (e p:Addr) (x i j:Nat) (l:List (Int×Int)),vs=[.ref e,.int (x:Int),.int (i:Int),.int (j:Int),.ref p]∧x<2 ^ 100∧i<2 ^ 100∧j<2 ^ 100∧H e=some (.ext (xFr e C none))∧PrsAt H p l∧l.length≤8∧(∀ q∈l,q.1.natAbs<10 ^ 12∧q.2.natAbs<10 ^ 12) ∧
 ∀ (dx:Addr) (H':Hp),H dx=none→dx≠e→H' e=some (.ext (xFr e C (some dx)))→H' dx=some (.ext (xDc dx (clF x i j p)))→(∀ b o,b≠e→H b=some o→H' b=some o)→Q .non H'
theorem zcK {f C fI:Addr} {fd:FuncData} (F:Fun K "__init__" "Clash.__init__" zaX f fd) (T:Blt mg) (GSBusError:SupI K mg "BusError") (c:ExcI K C fI) (t1:PySem.W.takerIn K C "address" = some none) (t2:PySem.W.takerIn K C "first" = some none) (t3:PySem.W.takerIn K C "second" = some none) (t4:PySem.W.takerIn K C "words" = some none):FnOk P w K mg base CX0 1 f fd ["self","address","first","second","words"] (zkH C):=by
 refine F.ok zcF (fun vs H Q E h=>?_) (fun cdv A outer s H vs Q E hr h=>?_)
 ·obtain ⟨e,p,x,i,j,l,rfl,_⟩:=h;rfl
 ·obtain ⟨e,p,x,i,j,l,rfl,hx,hi,hj,ee,hp,hl,hb,k⟩:=h
  have sm:∀ {n:Nat},n<2 ^ 100→((n:Int)).natAbs<2 ^ 1000:=fun {n} h=>by
   rw [Int.natAbs_natCast];exact Nat.lt_of_lt_of_le h (Nat.pow_le_pow_right (by decide) (by decide))
  refine ⟨_,(zac (zaZ (zkU GSBusError rfl (zaa (pv 0) (zaa (pe_fsN ⟨_,_,_,rfl⟩ (zf7 zdG (zhM (pv 2) (zf7 zdG (zhM (pv 3) (zf7 zdG (zhM (pv 1) (zf7 zdG (pj_prs hr.gd hr.units (pv 4) pj_nil))))))))) zae))))
   (zac (zje rfl (pv 0) (pv 1) rfl)
   (zac (zd6 (pv 0) (pv 2) rfl)
   (zac (zd6 (pv 0) (pv 3) rfl)
   (zag (zd6 (pv 0) (pv 4) rfl)))))),?rd⟩
  refine ⟨_,rfl,_,rfl,(by decide:(5:Nat)≤1000),_,rfl,(i:Int),rfl,sm hi,_,rfl,(by decide:(5:Nat)≤1000),_,rfl,(j:Int),rfl,sm hj,_,rfl,(by decide:(10:Nat)≤1000),_,rfl,(x:Int),rfl,sm hx,_,rfl,(by decide:(4:Nat)≤1000),_,rfl,p,l,rfl,hp,hl,hb,fun z=>?_⟩
  refine ⟨e,C,fI,none,_,rfl,ee,c,?_⟩
  refine ⟨_,rfl,_,rfl,e,C,fI,rfl,ee,c,t1,fun dx hdx ne=>?_⟩
  have e1:upd (upd H e (.ext (xFr e C (some dx)))) dx (.ext (xDc dx [("address",.int (x:Int))])) e=some (.ext (xFr e C (some dx))):=by rw [zah (Ne.symm ne)];exact zab
  refine ⟨_,rfl,_,rfl,e,C,fI,dx,_,rfl,e1,ne,zab,(by decide:(1:Nat)<100),c,t2,?_⟩
  rw [zfj]
  refine ⟨_,rfl,_,rfl,e,C,fI,dx,_,rfl,by rw [zah (Ne.symm ne)];exact zab,ne,zab,(by decide:(2:Nat)<100),c,t3,?_⟩
  rw [zfj]
  refine ⟨_,rfl,_,rfl,e,C,fI,dx,_,rfl,by rw [zah (Ne.symm ne)];exact zab,ne,zab,(by decide:(3:Nat)<100),c,t4,?_⟩
  rw [zfj]
  refine k dx _ hdx ne (by rw [zah (Ne.symm ne)];exact zab) zab fun b o hb eb=>?_
  rw [zah (zaj eb hdx),zah hb]
  exact eb
theorem zij {f:Addr} (h:PySem.W.isFn K (.ref f)=true):∃ oI,K.lookup f=some oI∧oI.cls = .type "function" := by
 have h:PySem.W.typeIn K (.ref f)=some (.type "function"):=beq_iff_eq.mp h
 unfold PySem.W.typeIn at h
 obtain ⟨oI,h1,h2⟩:=Option.map_eq_some_iff.mp h
 exact ⟨oI,h1,h2⟩
abbrev zcX:Stmt:=top 52
theorem scrow_fits:FnScope ["row","chips","inner","chip","latch"] ["row","chips"] (zai zcX):=⟨rfl,rfl,rfl,by decide +kernel,rfl,by decide +kernel,by decide +kernel⟩
def lenK (kd:Nat):List V→Nat:=if kd=4 then two else List.length
theorem Chp.ob {cs:Nat→Addr} {H:Hp} {x p:Addr} {kd n:Nat} {ws:List Nat} (o:Chp cs H x p kd n ws):Ob (cs kd) H x p (vN ws) (kext kd n):=by
 obtain ⟨dx,e⟩:=o.ex
 refine ⟨⟨dx,_,e⟩,o.ls,?_⟩
 unfold kext
 split
 ·exact .inr ⟨_,rfl⟩
 ·exact .inl rfl
structure Dt where
 m:Nat
 x:Nat→Addr
 p:Nat→Addr
 kd:Nat→Nat
 n:Nat→Nat
 sz:Nat→Nat
structure Chs (cs:Nat→Addr) (D:Dt) (Y:Hp) (us:Nat→List Nat):Prop where
 o:∀ i,i<D.m→Chp cs Y (D.x i) (D.p i) (D.kd i) (D.n i) (us i)
 k:∀ i,i<D.m→Kd (D.kd i) (D.n i) (us i)
 h1:∀ i,i<D.m→D.kd i=2∨D.kd i=3→(us i).length=1
 z:∀ i,i<D.m→zfJ (D.kd i) (us i)=D.sz i
 inj:∀ i j,i<D.m→j<D.m→D.p i=D.p j→i=j
 m1:D.m≤200
theorem Chs.same {cs:Nat→Addr} {D:Dt} {Y Z:Hp} {us:Nat→List Nat} (S:Chs cs D Y us) (s:Same Y Z):Chs cs D Z us:=⟨fun i h=>(S.o i h).same s,S.k,S.h1,S.z,S.inj,S.m1⟩
def chL (D:Dt):List V:=(List.range D.m).map fun i=>.ref (D.x i)
theorem ziA (D:Dt):(chL D).length=D.m:=by unfold chL;rw [List.length_map,List.length_range]
theorem zkm {D:Dt} {i:Nat} (h:i<D.m):(chL D)[i]? = some (.ref (D.x i)):=by unfold chL;rw [List.getElem?_map,List.getElem?_range h];rfl
def Fit (D:Dt) (r:Rw):Prop:=r.c<D.m∧2 ^ ones r.i≤D.sz r.c∧∀ c a b,r.l=some (c,a,b)→c<D.m∧D.kd c=2
def zhp (cs:Nat→Addr):Sp:=fun vs H Q _=>∃ (t L:Addr) (r:Rw) (D:Dt) (us:Nat→List Nat),vs=[.ref t,.ref L]∧RwAt H t r∧r.i<2 ^ 16∧H L=some (.lst (chL D))∧Chs cs D H us∧Fit D r∧∀ H',Same H H'→Q (.bl true) H'
theorem zgG {f:Addr} {cs:Nat→Addr} {fd:FuncData} (F:Fun K "row_fits" "row_fits" zcX f fd) (T:Blt mg) (Gones_of:Cal P w K mg base 2 "ones_of" ["mask"] zfY) (GLatch:mg "Latch" = some (.ref (cs 2))) (kk:PySem.W.kitOne K (.ref (cs 2)) (.ref (cs 2))=some true) (TL:∀ {H:Hp} {a dx:Addr} {fs:List (Str×V)},H a=some (.ins (cs 2) dx fs)→TyOf K H (.ref a) (.ref (cs 2)))
  (ML:∀ kd,(kd=0∨kd=2)→Mth P w K mg base 1 (cs kd) "__len__" [] (fun vs _=>vs) (zhl (cs kd) (lenK kd))):FnOk P w K mg base CX0 3 f fd ["row","chips"] (zhp cs):=by
 refine F.ok scrow_fits (fun vs H Q E h=>?_) (fun cdv A outer s H vs Q E hr h=>?_)
 ·obtain ⟨t,L,r,D,us,rfl,_⟩:=h;rfl
 ·obtain ⟨t,L,r,D,us,rfl,⟨lt,et,hlt⟩,hi,eL,S,⟨f1,f2,f3⟩,k⟩:=h
  refine ⟨_,(zac (zb8 (zcQ (zfo (K:=K) rfl) (pv 0) (zd8 zaf) zd9) (zbi rfl (zam (zak (i:=2) scrow_fits.nd rfl (Or.inl rfl)) (zam (zak (i:=3) scrow_fits.nd rfl (Or.inl rfl)) (zam (zak (i:=4) scrow_fits.nd rfl (Or.inl rfl)) zaM)))))
   (zac (zaD (PW.pt (zb6 (zaA op_ge (pv 3) (zan zav (by rfl) T.len PySem.boot_len (zaa (pv 1) zae)) (zay _)) (zbA (zaA zjk (zar zbK zaf (zal Gones_of (hr.mono (by walk_at "m")) rfl (zaa (pv 2) zae))) (zkY 1 ⟨rfl,rfl,rfl,rfl,rfl⟩ (hr.mono (by walk_at "m")) rfl T.len (zas zaO (pv 1) (pv 3) (fun _ _=>rfl))) (zay _))))) (zag (zao zcs)) zaq)
   (zag (zao (pe_or (zhS (zbJ (pv 4))) (zbj (za7 (zaR zgF (zas zap (pv 4) zaf (fun _ _=>rfl)) (zan zav (by rfl) T.len PySem.boot_len (zaa (pv 1) zae)) (zay _)) (zbj (zan (zjO (K:=K) rfl) (by rfl) T.isinstance za4 (zaa (zas zaO (pv 1) (zas zap (pv 4) zaf (fun _ _=>rfl)) (fun _ _=>rfl)) (zaa (zjg rfl GLatch) zae))))))))))),?rd⟩
  have ec:cutV [V.int (r.m:Int),.int (r.w:Int),.int (r.i:Int),.int (r.c:Int),lt] (some 2) none=[.int (r.i:Int),.int (r.c:Int),lt]:=rfl
  have hsz:∀ i,i<D.m→D.sz i≤5000:=fun i h=>by
   rw [← S.z i h]
   unfold zfJ
   split
   ·decide
   ·have:=(S.k i h).ln;omega
  refine ⟨_,rfl,2,rfl,t,_,rfl,SqT.of et,(fun e=>absurd (congrArg List.length e) (by rw [ec];simp)),fun tp htp=>?_⟩
  rw [ec]
  have s1:=zad (H:=H) (o:=HO.tup [.int (r.i:Int),.int (r.c:Int),lt]) htp
  refine ⟨tp,_,rfl,SqT.of zab,rfl,_,_,rfl,_,_,rfl,_,_,rfl,rfl,?_⟩
  refine ⟨_,rfl,_,rfl,L,_,rfl,.inl (SqL.of (s1 _ _ eL)),_,_,rfl,rfl,_,rfl,?_⟩
  rw [ziA,decide_eq_false (show ¬ (D.m:Int)≤(r.c:Int) by omega)]
  refine iteF ⟨_,rfl,r.i,rfl,Nat.lt_of_lt_of_le hi (by decide),fun H2 s2=>?_⟩
  have S2:=S.same (s1.trans s2)
  have h64:ones r.i≤64:=by
   have:=hsz _ f1
   by_cases hc:ones r.i≤64
   ·exact hc
   ·have:2 ^ 64≤2 ^ ones r.i:=Nat.pow_le_pow_right (by decide) (by omega)
    have:(5000:Nat)<2 ^ 64:=by decide
    omega
  obtain ⟨dx,ex⟩:=(S2.o _ f1).ex
  have k5:=(S2.k _ f1).k5
  have hlen:lenK (D.kd r.c) (vN (us r.c))=D.sz r.c:=by
   rw [← S.z _ f1]
   unfold lenK zfJ
   split
   ·rfl
   ·exact zaG _
  refine ⟨_,_,rfl,rfl,⟨by omega,by omega,by decide⟩,_,rfl,_,rfl,L,_,_,_,rfl,rfl,SqL.of (s2 _ _ (s1 _ _ eL)),zaL (zkm f1),?_⟩
  refine ⟨_,cs (D.kd r.c),dx,_,_,_,rfl,ex,ML _ k5,_,_,_,_,rfl,(S2.o _ f1).ob,?_⟩
  rw [hlen]
  have hz:=hsz _ f1
  refine ⟨_,rfl,by omega,by omega,_,_,rfl,rfl,_,rfl,?_⟩
  have e1:(1:Int) * 2 ^ ((ones r.i:Nat):Int).toNat=((2 ^ ones r.i:Nat):Int):=by rw [Int.one_mul,Int.toNat_natCast];norm_cast
  rw [decide_eq_false (show ¬ ((D.sz r.c:Nat):Int)<(1:Int) * 2 ^ ((ones r.i:Nat):Int).toNat by rw [e1];omega)]
  refine iteF ?_
  refine zaN ?_
  dsimp only
  have k:=k H2 (s1.trans s2)
  cases hl:r.l with
  | none =>
   rw [hl] at hlt
   obtain rfl:lt = .non:=hlt
   exact ⟨_,rfl,_,rfl,iteT k⟩
  | some o =>
   obtain ⟨c,a,b⟩:=o
   rw [hl] at hlt
   obtain ⟨u,rfl,eu⟩:=hlt
   obtain ⟨g1,g2⟩:=f3 c a b hl
   have eu2:=s2 _ _ (s1 _ _ eu)
   have eL2:=s2 _ _ (s1 _ _ eL)
   obtain ⟨dy,ey⟩:=(S2.o _ g1).ex
   rw [g2] at ey
   refine ⟨_,rfl,_,rfl,iteF ⟨_,rfl,u,_,_,_,rfl,rfl,SqT.of eu2,rfl,_,rfl,L,_,rfl,.inl (SqL.of eL2),_,_,rfl,rfl,_,rfl,?_⟩⟩
   rw [ziA,decide_eq_true (show (c:Int)<(D.m:Int) by omega)]
   refine iteT ⟨_,rfl,_,rfl,u,_,_,_,rfl,rfl,SqT.of eu2,rfl,L,_,_,_,rfl,rfl,SqL.of eL2,zaL (zkm g1),_,_,_,true,rfl,TL ey,kk,k⟩
structure RwsFor (D:Dt) (m:Nat) (Y:Hp) (R:Addr) (ws:List (Addr×Rw)):Prop where
 e:Y R=some (.tup (refs ws))
 r:RwsAt2 m Y ws
 f:∀ z∈ws,Fit D z.2
 ln:ws.length≤60
theorem RwsFor.same {D:Dt} {m:Nat} {Y Z:Hp} {R:Addr} {ws:List (Addr×Rw)} (h:RwsFor D m Y R ws) (s:Same Y Z):RwsFor D m Z R ws:=⟨s _ _ h.e,h.r.same s,h.f,h.ln⟩
structure ClsBd (K:PySem.W.Frag) (C:Addr):Prop where
 cls:Cls K C
 bits:NoAttr K C "bits"
 rows:NoAttr K C "rows"
 chips:NoAttr K C "chips"
 floating:NoAttr K C "floating"
 latches:NoAttr K C "latches"
 watches:NoAttr K C "watches"
 next_watch:NoAttr K C "next_watch"
abbrev zcn:Stmt:=top 53
theorem sccheck_map:FnScope ["bits","rows","chips","number","row"] ["bits","rows","chips"] (zai zcn):=⟨rfl,rfl,rfl,by decide +kernel,rfl,by decide +kernel,by decide +kernel⟩
theorem zlh {p:Addr} {l:List V} {H:Hp} {v:V} (hF:H p=some (.lst l)):∀ {o:Option (Nat×Nat×Nat)},LatV H v o→Dv p H v (zjx o)
 | none,h=>by rw [show v = .non from h];exact .non
 | some (c,a,b),⟨u,e,eu⟩=>by
  rw [e]
  have nu:u≠p:=fun z=>by rw [z,hF] at eu;cases eu
  refine .tup eu nu rfl fun i x d hx hd=>?_
  rcases (show i=0∨i=1∨i=2 by have:=(List.getElem?_eq_some_iff.mp hx).1;simp at this;omega) with rfl | rfl | rfl <;> cases hx <;> cases hd <;> exact .int _
theorem zkO {p t:Addr} {l:List V} {H:Hp} {r:Rw} (hF:H p=some (.lst l)) (h:RwAt H t r):Dv p H (.ref t) (zhz r):=by
 obtain ⟨lt,et,hlt⟩:=h
 have nt:t≠p:=fun z=>by rw [z,hF] at et;cases et
 refine .tup et nt rfl fun i x d hx hd=>?_
 rcases (show i=0∨i=1∨i=2∨i=3∨i=4 by have:=(List.getElem?_eq_some_iff.mp hx).1;simp at this;omega) with rfl | rfl | rfl | rfl | rfl <;> cases hx <;> cases hd <;> first | exact .int _ | exact zlh hF hlt
theorem zlb {p t:Addr} {m:Nat} {l:List V} {H:Hp} {ws:List (Addr×Rw)} (hF:H p=some (.lst l)) (et:H t=some (.tup (refs ws))) (h:RwsAt2 m H ws):Dv p H (.ref t) (.tup (ws.map fun z=>zhz z.2)):=by
 have nt:t≠p:=fun z=>by rw [z,hF] at et;cases et
 refine .tup et nt (by rw [zau,List.length_map]) fun i x d hx hd=>?_
 obtain ⟨z,hz,rfl⟩:=zbE hx
 rw [List.getElem?_map,hz] at hd
 cases hd
 exact zkO hF (h z (List.mem_of_getElem? hz)).1
def zdZ (cs:Nat→Addr):Sp:=fun vs H Q _=>∃ (m:Nat) (R L:Addr) (D:Dt) (us:Nat→List Nat) (ws:List (Addr×Rw)),vs=[.int (m:Int),.ref R,.ref L]∧1≤m∧m≤16∧RwsFor D m H R ws∧H L=some (.lst (chL D))∧Chs cs D H us∧∀ H',Same H H'→Q .non H'
theorem zfB {f:Addr} {cs:Nat→Addr} {fd:FuncData} (F:Fun K "check_map" "check_map" zcn f fd) (T:Blt mg) (N:Nums mg) (Gis_number:Cal P w K mg base 1 "is_number" ["thing","last"] zbl) (Gis_map:Cal P w K mg base 5 "is_map" ["bits","thing"] zhk) (Grow_fits:Cal P w K mg base 3 "row_fits" ["row","chips"] (zhp cs)):FnOk P w K mg base CX0 6 f fd ["bits","rows","chips"] (zdZ cs):=by
 refine F.ok sccheck_map (fun vs H Q E h=>?_) (fun cdv A outer s H vs Q E hr h=>?_)
 ·obtain ⟨m,R,L,D,us,ws,rfl,_⟩:=h;rfl
 ·obtain ⟨m,R,L,D,us,ws,rfl,h1,h2,hR,eL,S,k⟩:=h
  refine ⟨_,(zac (zaD (PW.pt (zb6 (zaP (zaF (zal Gis_number (hr.mono (by walk_at "m")) rfl (zaa (pv 0) (zaa (zbG rfl N.MOST_BITS) zae))))) (zbA (zaA zgF (pv 0) zaf (zay _))))) (zag zbF) zaq)
   (zac (zaD (zaP (zaF (zal Gis_map (hr.mono (by walk_at "m")) rfl (zaa (pv 0) (zaa (pv 1) zae))))) (zag zbF) zaq)
   (zag (zaS PassesOwn.never rfl (zcP rfl T.enumerate (zaa (pv 1) zae)) (zbi rfl (zam (zak (i:=3) sccheck_map.nd rfl (Or.inl rfl)) (zam (zak (i:=4) sccheck_map.nd rfl (Or.inl rfl)) zaM)))
   (zag (zaD (zaP (zaF (zal Grow_fits (hr.mono (by walk_at "m")) rfl (zaa (pv 4) (zaa (pv 2) zae))))) (zag zbF) zaq)))))),?rd⟩
  refine ⟨_,rfl,0,_,.int (m:Int),16,rfl,.int _,_,rfl,?_⟩
  rw [show numD 16 (.int (m:Int))=true from decide_eq_true ⟨by omega,by omega⟩]
  refine iteF ⟨_,rfl,_,_,rfl,rfl,_,rfl,?_⟩
  rw [decide_eq_false (show ¬ (m:Int)<1 by omega)]
  refine iteF (zaN ?_)
  dsimp only
  refine ⟨_,rfl,_,rfl,L,_,.tup (ws.map fun z=>zhz z.2),m,rfl,zlb eL hR.e hR.r,(by show (ws.map _).length≤300;rw [List.length_map];have:=hR.ln;omega),h1,h2,fun H1 s1=>⟨_,rfl,?_⟩⟩
  rw [map_ok fun z hz=>(hR.r z hz).2]
  refine iteF (zaN ?_)
  dsimp only
  refine ⟨_,rfl,R,rfl,⟨_,SqT.of (s1 _ _ hR.e)⟩,?_⟩
  refine zce (K:=K) (a:=R) (xs:=refs ws) (fun i σ X=>∃ (v3 v4:Option V),σ=[some (.int (m:Int)),some (.ref R),some (.ref L),v3,v4]∧Same H X) ⟨_,_,rfl,s1⟩ ?_ ?_ ?_
  ·rintro i σ X _ ⟨_,_,_,sX⟩
   exact SqT.of (sX _ _ hR.e)
  ·rintro i y U σ X hy hU ⟨v3,v4,rfl,sX⟩
   obtain ⟨z,hz,rfl⟩:=zbE hy
   have hm:=List.mem_of_getElem? hz
   have sU:=sX.trans (zad (o:=.tup [.int (i:Int),.ref z.1]) hU)
   refine zeV ?_
   refine ⟨_,rfl,_,rfl,z.1,L,z.2,D,us,rfl,(hR.r z hm).1.same sU,Nat.lt_of_lt_of_le (hR.r z hm).2.i0 (Nat.pow_le_pow_right (by decide) h2),sU _ _ eL,S.same sU,hR.f z hm,fun H2 s2=>⟨_,rfl,iteF ⟨_,_,rfl,sU.trans s2⟩⟩⟩
  ·rintro σ X ⟨_,_,_,sX⟩
   exact k X sX
abbrev zbz:Stmt:=top 54
theorem sccheck_clash:FnScope ["rows","clash","address","first","second","words"] ["rows"] (zai zbz):=⟨rfl,rfl,rfl,by decide +kernel,rfl,by decide +kernel,by decide +kernel⟩
theorem zjs:∀ {o p:Option (Nat×Nat×Nat)},zfg o→zfg p→∀ q∈lwL o p,q.1.natAbs<10 ^ 12∧q.2.natAbs<10 ^ 12
 | none,none,_,_,q,hq=>by cases hq
 | some (c,a,b),none,⟨h1,h2,h3⟩,_,q,hq=>by
  have:=zfW h3 h2
  rw [show lwL (some (c,a,b)) none=[((c:Int),(b:Int))] from rfl,List.mem_singleton] at hq
  subst hq
  exact ⟨by show (c:Int).natAbs<_;omega,by show (b:Int).natAbs<_;omega⟩
 | none,some (c,a,b),_,⟨h1,h2,h3⟩,q,hq=>by
  have:=zfW h3 h2
  rw [show lwL none (some (c,a,b))=[((c:Int),(b:Int))] from rfl,List.mem_singleton] at hq
  subst hq
  exact ⟨by show (c:Int).natAbs<_;omega,by show (b:Int).natAbs<_;omega⟩
 | some (c,a,b),some (d,x,y),⟨h1,h2,h3⟩,⟨g1,g2,g3⟩,q,hq=>by
  have hb:=zfW h3 h2
  have hy:=zfW g3 g2
  have ho:=or_256 hb hy
  have hq:q∈(if c=d then [((c:Int),((b ||| y:Nat):Int))] else srt2 [((c:Int),(b:Int)),((d:Int),(y:Int))]):=hq
  split at hq
  ·rw [List.mem_singleton] at hq
   subst hq
   exact ⟨by show (c:Int).natAbs<_;omega,by show (((b ||| y:Nat):Int)).natAbs<_;omega⟩
  ·have hq':q=((c:Int),(b:Int))∨q=((d:Int),(y:Int)):=by
    have hq:q∈(if (d:Int)<(c:Int) then [((d:Int),(y:Int)),((c:Int),(b:Int))] else [((c:Int),(b:Int)),((d:Int),(y:Int))]):=hq
    split at hq
    ·rcases List.mem_cons.mp hq with h | h
     ·exact .inr h
     ·exact .inl (List.mem_singleton.mp h)
    ·rcases List.mem_cons.mp hq with h | h
     ·exact .inl h
     ·exact .inr (List.mem_singleton.mp h)
   rcases hq' with rfl | rfl
   ·exact ⟨by show (c:Int).natAbs<_;omega,by show (b:Int).natAbs<_;omega⟩
   ·exact ⟨by show (d:Int).natAbs<_;omega,by show (y:Int).natAbs<_;omega⟩
theorem g_tup4 {K:PySem.W.Frag} {i j k l:Nat} {T:Addr} {x y z u:V} {σ:St} {H:Hp} {Q:St→Hp→Prop} (e:H T=some (.tup [x,y,z,u])) (h:Q ((((σ.set i (some x)).set j (some y)).set k (some z)).set l (some u)) H) :
  gTup K 4 (zdA (za1 i) (zdA (za1 j) (zdA (za1 k) (zdA (za1 l) gNil)))) (.ref T) σ H Q:=
 ⟨T,[x,y,z,u],rfl,SqT.of e,rfl,x,[y,z,u],rfl,y,[z,u],rfl,z,[u],rfl,u,[],rfl,rfl,h⟩
def rsOf (ws:List (Addr×Rw)):List Rw:=ws.map (·.2)
def zf2 (CT:Addr):Sp:=fun vs H Q E=>∃ (m:Nat) (R:Addr) (D:Dt) (ws:List (Addr×Rw)),vs=[.ref R]∧RwsFor D m H R ws∧m≤16∧((∀ i j x,¬ cand (rsOf ws) i j x)→∀ H',Same H H'→Q .non H') ∧
 ∀ x i j r q,IsDue (rsOf ws) x i j→(rsOf ws)[i]? = some r→(rsOf ws)[j]? = some q→∀ (dx p:Addr) (H':Hp),H' dx=some (.ext (xDc dx (clF x i j p)))→PrsAt H' p (lwL r.l q.l)→Same H H'→E (.ref CT) (some dx) H'
theorem zeg {f CT:Addr} {fd:FuncData} (F:Fun K "check_clash" "check_clash" zbz f fd) (T:Blt mg) (Gclash_of:Cal P w K mg base 4 "clash_of" ["rows"] zb3) (GI_Clash:XIni P w K mg base 1 "Clash" CT (zkH CT)):FnOk P w K mg base (CX1 P w) 5 f fd ["rows"] (zf2 CT):=by
 refine F.okX sccheck_clash (fun vs H Q E h=>?_) (fun cdv A outer s H vs Q E hr h=>?_)
 ·obtain ⟨m,R,D,ws,rfl,_⟩:=h;rfl
 ·obtain ⟨m,R,D,ws,rfl,hR,hm,kn,kc⟩:=h
  refine ⟨_,(zac (PS.nox (zat (i:=1) sccheck_clash.nd rfl (Or.inl rfl) (zal Gclash_of (hr.mono (by walk_at "m")) rfl (zaa (pv 0) zae))))
   (zag (zaD (PT.nox (za6 (zct (pv 1)))) (zac (PS.nox (zb8 (pv 1) (zbi rfl (zam (zak (i:=2) sccheck_clash.nd rfl (Or.inl rfl)) (zam (zak (i:=3) sccheck_clash.nd rfl (Or.inl rfl)) (zam (zak (i:=4) sccheck_clash.nd rfl (Or.inl rfl)) (zam (zak (i:=5) sccheck_clash.nd rfl (Or.inl rfl)) zaM)))))))
   (zag (zhH (E:=E) GI_Clash (hr.mono (by walk_at "m")) rfl rfl rfl (PA.nox (zaa (pv 2) (zaa (pv 3) (zaa (pv 4) (zaa (pv 5) zae))))) (fun pins σ H2 s2 ea od I e n hE=>zhc I e n hE)))) zaq))),?rd⟩
  refine ⟨_,rfl,R,ws.map (·.1),ws.map (·.2),rfl,?_,by rw [List.length_map,List.length_map],by rw [List.length_map];have:=hR.ln;omega,fun j a r ha hr'=>?_,fun hn H1 s1=>?_,fun x i j r q hx h1 h2 tp wp H1 ht et hp s1=>?_⟩
  ·rw [List.map_map];exact hR.e
  ·rw [List.getElem?_map] at ha hr'
   obtain ⟨z,hz,rfl⟩:=Option.map_eq_some_iff.mp ha
   rw [hz] at hr'
   cases hr'
   exact (hR.r z (List.mem_of_getElem? hz)).1
  ·exact ⟨_,rfl,_,rfl,iteF (kn (zgh hn) H1 s1)⟩
  ·have due:=zeo hx
   have ok:∀ {k:Nat} {r:Rw},(ws.map (·.2))[k]? = some r→RwOk m r∧k<60:=fun {k r} hk=>by
    rw [List.getElem?_map] at hk
    obtain ⟨z,hz,rfl⟩:=Option.map_eq_some_iff.mp hk
    exact ⟨(hR.r z (List.mem_of_getElem? hz)).2,by have:=(List.getElem?_eq_some_iff.mp hz).1;have:=hR.ln;omega⟩
   obtain ⟨ok1,li⟩:=ok h1
   obtain ⟨ok2,lj⟩:=ok h2
   have hx16:x<2 ^ 100:=by
    obtain ⟨_,r',q',e1,e2,_,e3⟩:=due.1
    rw [h1] at e1
    rw [h2] at e2
    cases e1
    cases e2
    rw [e3]
    exact Nat.lt_of_lt_of_le (Nat.or_lt_two_pow ok1.w0 ok2.w0) (Nat.pow_le_pow_right (by decide) (by omega))
   refine ⟨_,rfl,_,rfl,iteT ⟨_,rfl,g_tup4 et ?_⟩⟩
   refine ⟨_,rfl,_,rfl,_,rfl,_,rfl,(by decide:(4:Nat)≤1000),fun e he=>?_⟩
   have sE:=zad (o:=.ext (xFr e CT none)) he
   refine ⟨e,wp,x,i,j,lwL r.l q.l,rfl,hx16,by omega,by omega,zab,hp.same sE,by have:=zka r.l q.l;omega,zjs ok1.l0 ok2.l0,fun dx H2 hdx ne e1 e2 fr=>⟨rfl,some dx,e1,?_⟩⟩
   have s2:Same H1 (unt H2 e):=fun b o eb=>by
    have hb:b≠e:=zaj eb he
    rw [zfV hb]
    exact fr b o hb (by rw [zah hb];exact eb)
   exact kc x i j r q due h1 h2 dx wp _ (by rw [zfV ne];exact e2) (hp.same s2) (s1.trans s2)
abbrev zaY:Stmt:=zcw (top 56) 0
theorem zcG:FnScope ["self","bits","rows","chips","floating"] ["self","bits","rows","chips","floating"] (zai zaY):=⟨rfl,rfl,rfl,by decide +kernel,rfl,by decide +kernel,by decide +kernel⟩
def lcs (ws:List (Addr×Rw)):List Nat:=ws.filterMap fun z=>z.2.l.map (·.1)
theorem zjM (ys:List Int):(dd ys).Nodup:=by
 have g:∀ (l S:List Int),S.Nodup→(l.foldl (fun S n=>if n∈S then S else S ++ [n]) S).Nodup:=by
  intro l
  induction l with
  | nil=>intro S h;exact h
  | cons a l ih =>
   intro S h
   rw [List.foldl_cons]
   refine ih _ ?_
   split
   ·exact h
   ·rename_i ha
    rw [List.nodup_append]
    exact ⟨h,by simp,fun x hx y hy=>by rw [List.mem_singleton] at hy;subst hy;exact fun z=>ha (z ▸ hx)⟩
 exact g ys [] List.nodup_nil
theorem zjv {ws:List (Addr×Rw)} {j:Nat} {z:Addr×Rw} (h:ws[j]? = some z):lcs (ws.take (j+1))=lcs (ws.take j) ++ (z.2.l.map (·.1)).toList:=by
 unfold lcs
 rw [List.take_succ,h,List.filterMap_append]
 congr 1
def zdY (C CT:Addr) (cs:Nat→Addr):Sp:=fun vs H Q E=>∃ (b db R L:Addr) (m fl:Nat) (D:Dt) (us:Nat→List Nat) (ws:List (Addr×Rw)),vs=[.ref b,.int (m:Int),.ref R,.ref L,.int (fl:Int)]∧H b=some (.ins C db [])∧1≤m∧m≤16∧fl≤255∧RwsFor D m H R ws∧H L=some (.lst (chL D))∧Chs cs D H us ∧
 ((∀ i j x,¬ cand (rsOf ws) i j x)→∀ H':Hp,(∀ a o,a≠b→H a=some o→H' a=some o)→Q .non H') ∧
 ∀ x i j r q,IsDue (rsOf ws) x i j→(rsOf ws)[i]? = some r→(rsOf ws)[j]? = some q→∀ (dx p:Addr) (H':Hp),H' dx=some (.ext (xDc dx (clF x i j p)))→PrsAt H' p (lwL r.l q.l)→Same H H'→E (.ref CT) (some dx) H'
theorem zcL {f:Addr} {C CT:Addr} {cs:Nat→Addr} {fd:FuncData} {dV:Value} (F:FunD K "__init__" "Board.__init__" zaY dV f fd) (T:Blt mg) (GBsorted:mg "sorted" = none) (cl:ClsBd K C) (Gcheck_map:Cal P w K mg base 6 "check_map" ["bits","rows","chips"] (zdZ cs)) (GXcheck_clash:CalX P w K mg base 5 "check_clash" ["rows"] (zf2 CT)) (Gcheck_word:Cal P w K mg base 3 "check_word" ["word"] zc2):FnOk P w K mg base (CX1 P w) 7 f fd ["self","bits","rows","chips","floating"] (zdY C CT cs):=by
 refine F.okX zcG (fun vs H Q E h=>?_) (fun cdv A outer s H vs Q E hr h=>?_)
 ·obtain ⟨b,db,R,L,m,fl,D,us,ws,rfl,_⟩:=h;rfl
 ·obtain ⟨b,db,R,L,m,fl,D,us,ws,rfl,eb,h1,h2,hf,hR,eL,S,kn,kc⟩:=h
  refine' ⟨_,(zac (PS.nox (zaZ (zal Gcheck_map (hr.mono (by walk_at "m")) rfl (zaa (pv 1) (zaa (pv 2) (zaa (pv 3) zae))))))
   (zac (zaZ (zk0 GXcheck_clash (hr.mono (by walk_at "m")) rfl (Passes.s ziT) (zaa (pv 2) zae)))
   (zac (PS.nox (zaZ (zal Gcheck_word (hr.mono (by walk_at "m")) rfl (zaa (pv 4) zae))))
   (zac (PS.nox (zb7 (pv 0) (pv 1) rfl))
   (zac (PS.nox (zb7 (pv 0) (pv 2) rfl))
   (zac (PS.nox (zb7 (pv 0) (za0 ze6 (by rfl) T.list zfM (zaa (pv 3) zae)) rfl))
   (zac (PS.nox (zb7 (pv 0) (pv 4) rfl))
   (zac (PS.nox (zb7 (pv 0) (zan (ze3 rfl) (by rfl) GBsorted zdu (zaa ?c1 zae)) rfl))
   (zac (PS.nox (zb7 (pv 0) zcb rfl))
   (zag (PS.nox (zb7 (pv 0) zaf rfl)))))))))))),?rd⟩
  (case c1=>exact (zgD (Nc:=["row"]) [none] rfl (za3 (by rfl)) (zf8 (pv 2)) (fun _ _ _ _ _=>(zak (i:=0) (show (["row"]:List Str).Nodup by decide +kernel) rfl (Or.inl rfl))) (fun _ _ _ _ _=>(zhQ (za6 (zct (zas (zbW (K:=K) rfl) (pv 0) zaf (fun _ _=>rfl)))))) (fun _ _ _ _ _=>(zas (zbW (K:=K) rfl) (zas (zbW (K:=K) rfl) (pv 0) zaf (fun _ _=>rfl)) zaf (fun _ _=>rfl)))))
  refine ⟨_,rfl,_,rfl,_,rfl,m,R,L,D,us,ws,rfl,h1,h2,hR,eL,S,fun H1 s1=>?_⟩
  refine ⟨_,rfl,m,R,D,ws,rfl,hR.same s1,h2,fun hnc H2 s2=>?_,fun x i j r q hd g1 g2 dx p H2 e1 e2 s2=>kc x i j r q hd g1 g2 dx p H2 e1 e2 (s1.trans s2)⟩
  have k:=kn hnc
  have s12:=s1.trans s2
  refine ⟨_,rfl,(fl:Int),rfl,by omega,by omega,?_⟩
  refine ⟨_,rfl,_,rfl,b,C,db,_,rfl,s12 _ _ eb,cl.cls,cl.bits,by show 0<1000;decide,?_⟩
  refine ⟨_,rfl,_,rfl,b,C,db,_,rfl,zab,cl.cls,cl.rows,by show 1<1000;decide,?_⟩
  have nLb:L≠b:=fun z=>by rw [z,eb] at eL;cases eL
  refine ⟨_,rfl,L,chL D,rfl,.inl (SqL.of (by rw [zah nLb,zah nLb];exact s12 _ _ eL)),fun l hl=>?_⟩
  have nlb:l≠b:=fun z=>by rw [z,zab] at hl;cases hl
  refine ⟨_,rfl,b,C,db,_,rfl,by rw [zah (Ne.symm nlb)];exact zab,cl.cls,cl.chips,by show 2<1000;decide,?_⟩
  refine ⟨_,rfl,_,rfl,b,C,db,_,rfl,zab,cl.cls,cl.floating,by show 3<1000;decide,?_⟩
  have hl2:H2 l=none:=by rw [zah nlb,zah nlb] at hl;exact hl
  refine ziJ (fun Y=>Y b=some (.ins C db [("bits",.int (m:Int)),("rows",.ref R),("chips",.ref l),("floating",.int (fl:Int))])∧Y l=some (.lst (chL D))∧∀ a o,a≠b→H2 a=some o→Y a=some o) ⟨zab,by rw [zah nlb,zah nlb];exact zab,fun a o ha ea=>by rw [zah ha,zah ha,zah (zaj ea hl2),zah ha,zah ha];exact ea⟩ ?_
  rintro Y ⟨yb,yl,fr⟩
  have nRb:R≠b:=fun z=>by have:=hR.e;rw [z,eb] at this;cases this
  have yR:=fr _ _ nRb (s12 _ _ hR.e)
  refine ⟨_,rfl,R,rfl,⟨_,SqT.of yR⟩,?_⟩
  refine ziw (K:=K) (xs:=refs ws) (fun j ys σ H1=>∃ v0,σ=[v0]∧ys=(lcs (ws.take j)).map (fun (n:Nat)=>(n:Int))∧ys.length≤j∧H1=Y) (by rw [zau];have:=hR.ln;omega) ⟨none,rfl,rfl,Nat.le_refl _,rfl⟩ ?_ ?_ ?_
  ·rintro j ys σ H1 hj ⟨v0,rfl,_,hl',rfl⟩
   exact ⟨SqT.of yR,hl'⟩
  ·rintro j y ys σ H1 hy ⟨v0,rfl,hys,hl',rfl⟩
   obtain ⟨z,hz,rfl⟩:=zbE hy
   have hm:=List.mem_of_getElem? hz
   obtain ⟨lt,et,hlt⟩:=(hR.r z hm).1
   have yt:=fr _ _ (fun e=>by rw [e,eb] at et;cases et) (s12 _ _ et)
   rw [zjv hz]
   cases hl:z.2.l with
   | none =>
    rw [hl] at hlt
    obtain rfl:lt = .non:=hlt
    exact ⟨_,rfl,z.1,_,_,_,rfl,rfl,SqT.of yt,rfl,_,rfl,iteF ⟨_,rfl,by rw [hys];simp,by omega,rfl⟩⟩
   | some o =>
    obtain ⟨c,a,b'⟩:=o
    rw [hl] at hlt
    obtain ⟨u,rfl,eu⟩:=hlt
    have yu:=fr _ _ (fun e=>by rw [e,eb] at eu;cases eu) (s12 _ _ eu)
    refine ⟨_,rfl,z.1,_,_,_,rfl,rfl,SqT.of yt,rfl,_,rfl,iteT ⟨_,rfl,z.1,_,_,_,rfl,rfl,SqT.of yt,rfl,u,_,_,_,rfl,rfl,SqT.of yu,rfl,(c:Int),rfl,_,rfl,by rw [hys];simp,by rw [List.length_append];simp;omega,rfl⟩⟩
  ·rintro ys σ H1 ⟨v0,rfl,hys,hl',rfl⟩ d hd
   rw [zau,List.take_of_length_le (Nat.le_refl _)] at hys
   have hln:=hR.ln
   have hdl:=zki ys
   rw [zau] at hl'
   have ndb:d≠b:=fun e=>by rw [e,yb] at hd;cases hd
   refine ⟨d,dd ys,rfl,zab,by omega,fun la ns hla pm _=>?_⟩
   have hns:∀ n∈ns,∃ c:Nat,n=(c:Int)∧c∈lcs ws:=fun n hn=>by
    have:=mem_dd.mp (pm.mem_iff.mp hn)
    rw [hys,List.mem_map] at this
    obtain ⟨c,hc,e⟩:=this
    exact ⟨c,e.symm,hc⟩
   obtain ⟨keys,hk⟩:∃ keys:List Nat,ns=keys.map fun (n:Nat)=>(n:Int):=⟨ns.map Int.toNat,by
    rw [List.map_map]
    conv=>lhs;rw [← List.map_id ns]
    refine List.map_congr_left fun n hn=>?_
    obtain ⟨c,e,_⟩:=hns n hn
    show n=((n.toNat:Nat):Int)
    omega⟩
   have knd:keys.Nodup:=by
    have h1:ns.Nodup:=pm.nodup_iff.mpr (zjM ys)
    rw [hk] at h1
    exact (List.pairwise_map.mp h1).imp fun h e=>h (by rw [e])
   have kmem:∀ c,c∈keys↔c∈lcs ws:=fun c=>by
    constructor
    ·intro hc
     obtain ⟨c',e,hc'⟩:=hns (c:Int) (by rw [hk];exact List.mem_map_of_mem hc)
     rw [show c=c' by omega];exact hc'
    ·intro hc
     have:(c:Int)∈ns:=pm.mem_iff.mpr (mem_dd.mpr (by rw [hys];exact List.mem_map_of_mem hc))
     rw [hk,List.mem_map] at this
     obtain ⟨c',hc',e⟩:=this
     rw [show c=c' by omega];exact hc'
   have nlab:la≠b:=fun e=>by rw [e,zah (Ne.symm ndb),yb] at hla;cases hla
   have nlad:la≠d:=fun e=>by rw [e,zab] at hla;cases hla
   have yla:H1 la=none:=by rw [zah nlad] at hla;exact hla
   have eV:ns.map V.int=vN keys:=by rw [hk,List.map_map];rfl
   rw [eV]
   refine ⟨_,rfl,b,C,db,_,rfl,by rw [zah (Ne.symm nlab),zah (Ne.symm ndb)];exact yb,cl.cls,cl.latches,by show 4<1000;decide,?_⟩
   refine ziJ (fun Z=>Z b=some (.ins C db [("bits",.int (m:Int)),("rows",.ref R),("chips",.ref l),("floating",.int (fl:Int)),("latches",.ref la)])∧Z la=some (.lst (vN keys))∧∀ a o,a≠b→H1 a=some o→Z a=some o) ⟨zab,by rw [zah nlab];exact zab,fun a o ha ea=>by rw [zah ha,zah (zaj ea yla),zah (zaj ea hd)];exact ea⟩ ?_
   rintro Z ⟨zb,zla,frZ⟩ wd hwd
   have nwb:wd≠b:=fun e=>by rw [e,zb] at hwd;cases hwd
   refine ⟨_,rfl,b,C,db,_,rfl,by rw [zah (Ne.symm nwb)];exact zb,cl.cls,cl.watches,by show 5<1000;decide,?_⟩
   refine ⟨_,rfl,b,C,db,_,rfl,zab,cl.cls,cl.next_watch,by show 6<1000;decide,?_⟩
   refine k _ fun a o ha ea=>?_
   have ez:=frZ a o ha (fr a o ha (s12 _ _ ea))
   rw [zah ha,zah ha,zah (zaj ez hwd)]
   exact ez
abbrev zdb:Stmt:=top 58
theorem zgz:FnScope ["cell","k"] ["cell","k"] (zai zdb):=⟨rfl,rfl,rfl,by decide +kernel,rfl,by decide +kernel,by decide +kernel⟩
def Bg (H:Hp) (p:Addr) (n:Nat):Prop:=∃ a c:Int,H p=some (.lst [.int a,.int c])∧0≤a∧0≤c∧c≤n
theorem Bg.mono {H:Hp} {p:Addr} {n m:Nat} (h:Bg H p n) (hm:n≤m):Bg H p m:=by
 obtain ⟨a,c,e,h1,h2,h3⟩:=h
 exact ⟨a,c,e,h1,h2,by omega⟩
theorem Bg.same {H H':Hp} {p:Addr} {n:Nat} (h:Bg H p n) (s:Same H H'):Bg H' p n:=by
 obtain ⟨a,c,e,r⟩:=h
 exact ⟨a,c,s _ _ e,r⟩
theorem Bg.ne {H:Hp} {p q:Addr} {n:Nat} (h:Bg H p n) (hq:H q=none):q≠p:=fun z=>by
 obtain ⟨a,c,e,_⟩:=h
 rw [← z,hq] at e;cases e
def spBg:Sp:=fun vs H Q _=>∃ (z:Int) (n:Nat),vs=[.int z,.int (n:Int)]∧n≤100∧∀ (p:Addr) (H':Hp),H p=none→Bg H' p 4000→Same H H'→Q (.ref p) H'
def spDw:Sp:=fun vs H Q _=>∃ (p:Addr) (m:Int) (n:Nat),vs=[.ref p,.int m]∧Bg H p n∧n<2 ^ 40∧0<m∧m≤2 ^ 40∧∀ (r:Nat) (H':Hp),(r:Int)<m→Bg H' p (n+1)→(∀ b,b≠p→H' b=H b)→Q (.int (r:Int)) H'
theorem zgL {f:Addr} {fd:FuncData} (F:Fun K "_law_bag" "_law_bag" zdb f fd) (T:Blt mg):FnOk P w K mg base CX0 1 f fd ["cell","k"] spBg:=by
 refine F.ok zgz (fun vs H Q E h=>?_) (fun cdv A outer s H vs Q E hr h=>?_)
 ·obtain ⟨z,n,rfl,_⟩:=h;rfl
 ·obtain ⟨z,n,rfl,hn,k⟩:=h
  refine ⟨_,(zac (zaD (zaA zgF (pv 0) zaf (zay _)) (zag (zao (zaQ (zaa (zkV zjU (pv 0)) (zaa (zar zcA (zar zcu zaf (pv 1)) zaf) zae))))) zaq)
   (zag (zao (zaQ (zaa (pv 0) (zaa (zar zcu zaf (pv 1)) zae)))))),?rd⟩
  refine ⟨_,rfl,_,_,rfl,rfl,_,rfl,ite2 (fun hz=>?_) (fun hz=>zaN ?_)⟩
  ·have hz:=of_decide_eq_true hz
   refine ⟨_,rfl,_,rfl,_,rfl,_,_,rfl,rfl,zdJ (by decide) (by omega),_,_,rfl,rfl,by show 2≤sizeLine;decide,fun p hp=>?_⟩
   exact k p _ hp ⟨_,_,zab,by omega,by omega,by omega⟩ (zad hp)
  ·have hz:¬ z<0:=fun q=>hz (decide_eq_true q)
   dsimp only
   refine ⟨_,rfl,_,rfl,_,_,rfl,rfl,zdJ (by decide) (by omega),by show 2≤sizeLine;decide,fun p hp=>?_⟩
   exact k p _ hp ⟨_,_,zab,by omega,by omega,by omega⟩ (zad hp)
abbrev zcq:Stmt:=top 59
theorem sc_law_draw:FnScope ["bag","many","digit","one"] ["bag","many"] (zai zcq):=⟨rfl,rfl,rfl,by decide +kernel,rfl,by decide +kernel,by decide +kernel⟩
theorem zfD {f:Addr} {fd:FuncData} (F:Fun K "_law_draw" "_law_draw" zcq f fd) (T:Blt mg):FnOk P w K mg base CX0 1 f fd ["bag","many"] spDw:=by
 refine F.ok sc_law_draw (fun vs H Q E h=>?_) (fun cdv A outer s H vs Q E hr h=>?_)
 ·obtain ⟨p,m,n,rfl,_⟩:=h;rfl
 ·obtain ⟨p,m,n,rfl,⟨a,c,hp,ha,hc0,hc⟩,hn,hm,hm2,k⟩:=h
  refine ⟨_,(zac (zkQ (pv 0) zaf zhP zaf ip_add zf4)
   (zac (zaD (zaA op_ge (zas zaO (pv 0) zaf (fun _ _=>rfl)) (zar op_pow zaf zaf) (zay _)) (zac (zat (i:=2) sc_law_draw.nd rfl (Or.inl rfl) (zar zdf (zas zaO (pv 0) zaf (fun _ _=>rfl)) (pv 1)))
   (zac (zb8 (zar zeb (zas zaO (pv 0) zaf (fun _ _=>rfl)) (pv 1)) (pg_sub (pv 0) zaf zf4))
   (zag (zao (pv 2))))) zaq)
   (zac (zat (i:=3) sc_law_draw.nd rfl (Or.inl rfl) (zar zdf (zar zcA (zar zcA (zar zdf (zas zaO (pv 0) zaf (fun _ _=>rfl)) zaf) (zar zcu zaf (zas zaO (pv 0) zaf (fun _ _=>rfl)))) zaf) zaf))
   (zac (zat (i:=3) sc_law_draw.nd rfl (Or.inl rfl) (zar zdf (zar zcu (pv 3) (pv 3)) zaf))
   (zac (zat (i:=3) sc_law_draw.nd rfl (Or.inl rfl) (zar zdf (zar zcA (pv 3) (zar zcu zaf (zas zaO (pv 0) zaf (fun _ _=>rfl)))) zaf))
   (zac (zat (i:=3) sc_law_draw.nd rfl (Or.inl rfl) (zar zdf (zar zcu (pv 3) (pv 3)) zaf))
   (zag (zao (zar zdf (zar zeb (pv 3) zaf) (pv 1)))))))))),?rd⟩
  have lm:=log_ok hm (by omega)
  refine ⟨_,rfl,p,_,_,_,rfl,rfl,by decide,SqL.of hp,rfl,_,_,rfl,rfl,p,_,_,1,rfl,rfl,hp,rfl,?_⟩
  have h1:upd H p (.lst ([V.int a,V.int c].set 1 (V.int (c+1)))) p=some (.lst [.int a,.int (c+1)]):=zab
  have k1:∀ b,b≠p→upd H p (.lst ([V.int a,V.int c].set 1 (V.int (c+1)))) b=H b:=fun b hb=>zah hb
  generalize upd H p (.lst ([V.int a,V.int c].set 1 (V.int (c+1))))=H1 at *
  refine ⟨_,rfl,p,_,_,_,rfl,rfl,SqL.of h1,rfl,_,_,rfl,rfl,⟨by decide,by decide,by decide⟩,_,_,rfl,rfl,_,rfl,ite2 (fun _=>?_) (fun _=>zaN ?_)⟩
  ·refine ⟨_,rfl,p,_,_,_,rfl,rfl,SqL.of h1,rfl,_,rfl,_,_,rfl,rfl,hm,?_⟩
   refine ⟨_,rfl,p,_,_,_,rfl,rfl,SqL.of h1,rfl,_,rfl,_,_,rfl,rfl,⟨hm,lm⟩,_,rfl,p,_,_,0,rfl,rfl,h1,rfl,?_⟩
   have h0:=Int.emod_nonneg a (Int.ne_of_gt hm)
   have e:((a % m).toNat:Int)=a % m:=Int.toNat_of_nonneg h0
   have:=k (a % m).toNat (upd H1 p (.lst [.int (a / m),.int (c+1)])) (by rw [e];exact Int.emod_lt_of_pos _ hm) ⟨_,_,zab,Int.ediv_nonneg ha (Int.le_of_lt hm),by omega,by omega⟩ (fun b hb=>by rw [zah hb];exact k1 b hb)
   rw [e] at this
   exact ⟨_,rfl,this⟩
  ·dsimp only
   refine ⟨_,rfl,p,_,_,_,rfl,rfl,SqL.of h1,rfl,_,_,rfl,rfl,(show (0:Int)<2147483629 by decide),_,rfl,p,_,_,_,rfl,rfl,SqL.of h1,rfl,_,_,rfl,rfl,zdJ (by decide) (by omega),_,_,rfl,rfl,_,_,rfl,rfl,_,_,rfl,rfl,(show (0:Int)<2147483587 by decide),?_⟩
   have mo:∀ (z d:Int),0<d→0≤z % d∧z % d<d:=fun z d h=>⟨Int.emod_nonneg _ (Int.ne_of_gt h),Int.emod_lt_of_pos _ h⟩
   dsimp only [za1,List.set]
   obtain ⟨o1,e1⟩:∃ o1,(a % 2147483629+104729 * (c+1)+1) % 2147483587=o1:=⟨_,rfl⟩
   have b1:=mo (a % 2147483629+104729 * (c+1)+1) 2147483587 (by decide)
   rw [e1] at b1
   rw [e1]
   refine ⟨_,rfl,_,rfl,_,_,rfl,rfl,zdJ (by omega) (by omega),_,_,rfl,rfl,(show (0:Int)<2147483587 by decide),?_⟩
   dsimp only [za1,List.set]
   obtain ⟨o2,e2⟩:∃ o2,o1 * o1 % 2147483587=o2:=⟨_,rfl⟩
   have b2:=mo (o1 * o1) 2147483587 (by decide)
   rw [e2] at b2
   rw [e2]
   refine ⟨_,rfl,_,rfl,p,_,_,_,rfl,rfl,SqL.of h1,rfl,_,_,rfl,rfl,zdJ (by decide) (by omega),_,_,rfl,rfl,_,_,rfl,rfl,(show (0:Int)<2147483563 by decide),?_⟩
   dsimp only [za1,List.set]
   obtain ⟨o3,e3⟩:∃ o3,(o2+40692 * (c+1)) % 2147483563=o3:=⟨_,rfl⟩
   have b3:=mo (o2+40692 * (c+1)) 2147483563 (by decide)
   rw [e3] at b3
   rw [e3]
   refine ⟨_,rfl,_,rfl,_,_,rfl,rfl,zdJ (by omega) (by omega),_,_,rfl,rfl,(show (0:Int)<2147483563 by decide),?_⟩
   dsimp only [za1,List.set]
   obtain ⟨o4,e4⟩:∃ o4,o3 * o3 % 2147483563=o4:=⟨_,rfl⟩
   have b4:=mo (o3 * o3) 2147483563 (by decide)
   rw [e4] at b4
   rw [e4]
   refine ⟨_,rfl,_,_,rfl,rfl,⟨by decide,by decide +kernel⟩,_,rfl,_,_,rfl,rfl,hm,?_⟩
   have h0:=Int.emod_nonneg (o4 / 8) (Int.ne_of_gt hm)
   have e:((o4 / 8 % m).toNat:Int)=o4 / 8 % m:=Int.toNat_of_nonneg h0
   have:=k (o4 / 8 % m).toNat H1 (by rw [e];exact Int.emod_lt_of_pos _ hm) ⟨_,_,h1,ha,by omega,by omega⟩ k1
   rw [e] at this
   exact this
abbrev zcp:Stmt:=top 60
theorem zfu:FnScope ["found","due"] ["found","due"] (zai zcp):=⟨rfl,rfl,rfl,by decide +kernel,rfl,by decide +kernel,by decide +kernel⟩
def zbw (n:Nat):Sp:=fun vs H Q _=>∃ v w,vs=[v,w]∧((v = .non∧w = .non)∨Lk H n v w)∧∀ H',Same H H'→Q (.bl true) H'
theorem zbo {f:Addr} {fd:FuncData} {m n:Nat} {sp:Sp} (F:Fun K "_law_same" "_law_same" zcp f fd) (T:Blt mg) (G_law_same:Cal P w K mg base n "_law_same" ["found","due"] sp) (hsp:∀ k,m=k+1→sp=zbw k):FnOk P w K mg base CX0 (n+1) f fd ["found","due"] (zbw m):=by
 refine F.ok zfu (fun vs H Q E h=>?_) (fun cdv A outer s H vs Q E hr h=>?_)
 ·obtain ⟨v,w,rfl,_⟩:=h;rfl
 ·obtain ⟨v,w,rfl,hL,k⟩:=h
  refine' ⟨_,(zac (zaD (za6 (zbJ (pv 1))) (zag (zao (zhS (zbJ (pv 0))))) zaq)
   (zac (zaD (zaF (zan (zaE "int" (K:=K) rfl) (by rfl) T.isinstance za4 (zaa (pv 1) (zaa (zaI rfl T.int zfa zhB) zae)))) (zag (zao (za7 (zan (zaE "int" (K:=K) rfl) (by rfl) T.isinstance za4 (zaa (pv 0) (zaa (zaI rfl T.int zfa zhB) zae))) (za7 (zj3 (zan (zaE "bool" (K:=K) rfl) (by rfl) T.isinstance za4 (zaa (pv 0) (zaa (zaI rfl T.bool ziE zhC) zae)))) (zbj (zaR zcH (pv 0) (pv 1) (zay _))))))) zaq)
   (zac (zaD (zaF (zan (zaE "str" (K:=K) rfl) (by rfl) T.isinstance za4 (zaa (pv 1) (zaa (zaI rfl T.str zkn zjZ) zae)))) (zag (zao (za7 (zan (zaE "str" (K:=K) rfl) (by rfl) T.isinstance za4 (zaa (pv 0) (zaa (zaI rfl T.str zkn zjZ) zae))) (zbj (zaR zcH (pv 0) (pv 1) (zay _)))))) zaq)
   (zac (zaD (PW.pt (zb6 (zaA zfx (zan (zaE "tuple" (K:=K) rfl) (by rfl) T.isinstance za4 (zaa (pv 1) (zaa (zaI rfl T.tuple za8 zb4) zae))) (zan (zaE "tuple" (K:=K) rfl) (by rfl) T.isinstance za4 (zaa (pv 0) (zaa (zaI rfl T.tuple za8 zb4) zae))) (zay _)) (zbA (zaA zfx (zan (zaE "list" (K:=K) rfl) (by rfl) T.isinstance za4 (zaa (pv 1) (zaa (zaI rfl T.list zfM zhA) zae))) (zan (zaE "list" (K:=K) rfl) (by rfl) T.isinstance za4 (zaa (pv 0) (zaa (zaI rfl T.list zfM zhA) zae))) (zay _))))) (zag (zao zcs)) zaq)
   (zag (zao (za7 (zaR zcH (zan zav (by rfl) T.len PySem.boot_len (zaa (pv 0) zae)) (zan zav (by rfl) T.len PySem.boot_len (zaa (pv 1) zae)) (zay _)) (zbj (zan (ze9 rfl) (by rfl) T.all zko (zaa ?c1 zae)))))))))),?rd⟩
  (case c1=>exact (zde (Nc:=["one","other"]) [none,none] rfl (za3 (by rfl)) (zkR rfl T.zip (zaa (pv 0) (zaa (pv 1) zae))) (fun _ _ _ _ _=>(zkS 2 (K:=K) rfl rfl (zam (zak (i:=0) (show (["one","other"]:List Str).Nodup by decide +kernel) rfl (Or.inl rfl)) (zam (zak (i:=1) (show (["one","other"]:List Str).Nodup by decide +kernel) rfl (Or.inl rfl)) zaM)))) (fun _ _ _ _ _=>zf9) (fun _ _ _ _ _=>(zal G_law_same (hr.mono (by walk_at "m")) rfl (zaa (pv 0) (zaa (pv 1) zae))))))
  rcases hL with ⟨rfl,rfl⟩ | hL
  ·exact ⟨_,rfl,_,rfl,iteT ⟨_,rfl,k H (Same.refl _)⟩⟩
  cases hL with
  | int i =>
   refine ⟨_,rfl,_,rfl,iteF (zaN ?_)⟩
   dsimp only
   refine ⟨_,rfl,_,_,_,rfl,.int i,rfl,true,rfl,iteT ⟨_,rfl,_,_,_,rfl,.int i,rfl,true,rfl,iteT ⟨_,rfl,_,_,_,rfl,.int i,rfl,false,rfl,true,rfl,iteT ⟨_,rfl,_,rfl,rfl,?_⟩⟩⟩⟩
   rw [decide_eq_true rfl]
   exact k H (Same.refl _)
  | @seq m' t a b xs ys ha hb hl hz h =>
   have ty:∀ {q:Addr} {us:List V},SqX t H q us→TyOf K H (.ref q) (.type (sqC t)):=fun {q us} e=>ty_seq e
   have ki:PySem.W.kitOne K (.type (sqC t)) (.type "int")=some false:=by cases t <;> rfl
   have ks:PySem.W.kitOne K (.type (sqC t)) (.type "str")=some false:=by cases t <;> rfl
   have kt:PySem.W.kitOne K (.type (sqC t)) (.type "tuple")=some t:=by cases t <;> rfl
   have kl:PySem.W.kitOne K (.type (sqC t)) (.type "list")=some (!t):=by cases t <;> rfl
   refine ⟨_,rfl,_,rfl,iteF (zaN ?_)⟩
   dsimp only
   refine ⟨_,rfl,_,_,_,rfl,ty hb,ki,false,rfl,iteF (zaN ?_)⟩
   dsimp only
   refine ⟨_,rfl,_,_,_,rfl,ty hb,ks,false,rfl,iteF (zaN ?_)⟩
   dsimp only
   have sq:∀ {q:Addr} {us:List V},SqX t H q us→SqL K H q us∨SqT K H q us:=fun {q us} e=>by
    cases t with
    | true=>exact .inr (SqT.of e)
    | false=>exact .inl (SqL.of e)
   refine ⟨_,rfl,_,_,_,rfl,ty hb,kt,_,rfl,_,_,_,rfl,ty ha,kt,rfl,_,rfl,zic rfl ?_⟩
   refine ⟨_,rfl,_,_,_,rfl,ty hb,kl,_,rfl,_,_,_,rfl,ty ha,kl,rfl,_,rfl,zic rfl (zaN ?_)⟩
   dsimp only
   refine ⟨_,rfl,a,xs,rfl,sq ha,_,rfl,b,ys,rfl,sq hb,rfl,_,rfl,?_⟩
   rw [decide_eq_true (show V.int (xs.length:Int)=V.int (ys.length:Int) by rw [hl])]
   refine iteT ?_
   obtain rfl:=hsp m' rfl
   refine ⟨_,rfl,_,rfl,_,a,b,xs,ys,rfl,ha,hb,?_⟩
   refine ziv (xs:=xs) (ys:=ys) (fun j rs σ H1=>∃ v1 v2,σ=[v1,v2]∧rs=List.replicate j (V.bl true)∧Same H H1) hl hz ⟨none,none,rfl,rfl,fun _ _ z=>z⟩ ?_ ?_ ?_
   ·rintro j rs σ H1 hj ⟨v1,v2,rfl,rfl,s1⟩
    have e1:SqX t H1 a xs:=by cases t <;> exact s1 _ _ ha
    have e2:SqX t H1 b ys:=by cases t <;> exact s1 _ _ hb
    exact ⟨e1,e2,by rw [List.length_replicate];exact Nat.le_refl _⟩
   ·rintro j x y U rs σ H1 ex ey hU ⟨v1,v2,rfl,rfl,s1⟩
    refine zeV ?_
    have s2:=s1.trans (zad (o:=.tup [x,y]) hU)
    refine ⟨_,rfl,_,rfl,x,y,rfl,.inr ((h j x y ex ey).same s2),fun H3 s3=>?_⟩
    exact ⟨_,_,rfl,List.replicate_succ'.symm,s2.trans s3⟩
   ·rintro rs σ H1 ⟨v1,v2,rfl,rfl,s1⟩ D hD
    refine ⟨D,List.replicate xs.length true,rfl,SqL.of (by rw [List.map_replicate];exact zab),?_⟩
    rw [show (List.replicate xs.length true).all id=true by simp]
    exact k _ (s1.trans (zad hD))
theorem zks (a b:Nat):a - (a &&& b)=a ^^^ (a &&& b):=by
 have h:=or_is a (a &&& b)
 have h1:a ||| (a &&& b)=a:=by apply Nat.eq_of_testBit_eq;intro i;simp;cases a.testBit i <;> simp
 have h2:a &&& (a &&& b)=a &&& b:=by apply Nat.eq_of_testBit_eq;intro i;simp
 rw [h1,h2] at h
 omega
theorem zg6 (a b:Nat):(a - (a &&& b)) &&& a=a - (a &&& b):=by
 rw [zks]
 apply Nat.eq_of_testBit_eq;intro i;simp;cases a.testBit i <;> simp
theorem zle (a:Nat):∃ t:Nat,Builtin.bitAnd (a:Int) (-(a:Int))=(t:Int)∧t &&& a=t:=by
 by_cases h:a=0
 ·subst h
  exact ⟨0,by rw [show -((0:Nat):Int)=((0:Nat):Int) from rfl,band];rfl,rfl⟩
 ·have e:-(a:Int)=Builtin.bitNot ((a - 1:Nat):Int):=by unfold Builtin.bitNot;omega
  exact ⟨a - (a &&& (a - 1)),by rw [e,zgo],zg6 _ _⟩
theorem zkv {a b c:Nat} (hb:b &&& a=b) (hc:c &&& a=c):(b ^^^ c) &&& a=b ^^^ c:=by
 rw [Nat.and_xor_distrib_right,hb,hc]
theorem zlx (x k:Nat):x &&& 2 ^ k=0∨x &&& 2 ^ k=2 ^ k:=by
 cases h:x.testBit k with
 | false =>
  left
  apply Nat.eq_of_testBit_eq;intro i
  rw [Nat.testBit_and,Nat.testBit_two_pow,Nat.zero_testBit]
  by_cases hk:k=i
  ·subst hk;rw [h];rfl
  ·rw [decide_eq_false hk,Bool.and_false]
 | true =>
  right
  apply Nat.eq_of_testBit_eq;intro i
  rw [Nat.testBit_and,Nat.testBit_two_pow]
  by_cases hk:k=i
  ·subst hk;rw [h];simp
  ·rw [decide_eq_false hk,Bool.and_false]
theorem zjA {m mask k:Nat} (hm:mask<2 ^ m):∃ i:Nat,Builtin.bitAnd (Builtin.bitAnd (((2 ^ m - 1:Nat):Int)) (Builtin.bitNot (mask:Int))) ((2 ^ k:Nat):Int)=(i:Int)∧i<2 ^ m∧i &&& mask=0∧(i=0∨i=2 ^ k):=by
 refine ⟨((2 ^ m - 1) - ((2 ^ m - 1) &&& mask)) &&& 2 ^ k,by rw [zgo,band],?_,?_,?_⟩
 ·have h0:0<2 ^ m:=Nat.two_pow_pos m
  have h1:(((2 ^ m - 1) - ((2 ^ m - 1) &&& mask)) &&& 2 ^ k)≤(2 ^ m - 1) - ((2 ^ m - 1) &&& mask):=Nat.and_le_left
  omega
 ·rw [zks]
  apply Nat.eq_of_testBit_eq;intro i
  simp only [Nat.testBit_and,Nat.testBit_xor,Nat.zero_testBit]
  cases mask.testBit i <;> cases (2 ^ m - 1).testBit i <;> simp
 ·exact zlx _ k
theorem zjl (i:Nat):ones (2 ^ i)=1:=by
 induction i with
 | zero=>rw [show 2 ^ 0=2 * 0+1 from rfl,zjm,zeF]
 | succ i ih=>rw [Nat.pow_succ,Nat.mul_comm,zhW,ih]
abbrev zbb:Stmt:=top 61
theorem sc_law_free_row:FnScope ["bag","bits","latches","rows","every","mask","want","latch","bound","old","inner"] ["bag","bits","latches","rows"] (zai zbb):=⟨rfl,rfl,rfl,by decide +kernel,rfl,by decide +kernel,by decide +kernel⟩
theorem LatV.keepP {p:Addr} {H H':Hp} {v:V} {n:Nat}:∀ {o:Option (Nat×Nat×Nat)},LatV H v o→Bg H p n→KeepP p H H'→LatV H' v o
 | none,h,_,_=>h
 | some (c,a,b),⟨u,e,eu⟩,bg,k=>⟨u,e,k _ _ (fun z=>by obtain ⟨x,y,ep,_⟩:=bg;rw [z,ep] at eu;cases eu) eu⟩
theorem RwAt.keepP {p:Addr} {H H':Hp} {t:Addr} {r:Rw} {n:Nat} (h:RwAt H t r) (b:Bg H p n) (k:KeepP p H H'):RwAt H' t r:=by
 obtain ⟨lt,et,hlt⟩:=h
 exact ⟨lt,k _ _ (fun z=>by obtain ⟨x,y,ep,_⟩:=b;rw [z,ep] at et;cases et) et,hlt.keepP b k⟩
theorem zbf {p:Addr} {H H':Hp} (k:∀ b,b≠p→H' b=H b):KeepP p H H':=fun b o hb e=>by rw [k b hb];exact e
structure F57 (H:Hp) (p:Addr) (m nl n j mask want:Nat) (lt:V) (X:Hp):Prop where
 m0:mask<2 ^ m
 wm:want &&& mask=want
 l:∃ o,LatV X lt o∧zfg o∧∀ c a b,o=some (c,a,b)→c<nl
 bg:Bg X p (n+j)
 kp:KeepP p H X
theorem F57.draw {H:Hp} {p:Addr} {m nl n j mask want:Nat} {lt:V} {X X':Hp} (f:F57 H p m nl n j mask want lt X) (b:Bg X' p (n+j+1)) (k:∀ b,b≠p→X' b=X b):F57 H p m nl n (j+1) mask want lt X':=by
 obtain ⟨o,h1,h2⟩:=f.l
 exact ⟨f.m0,f.wm,⟨o,h1.keepP f.bg (zbf k),h2⟩,b,f.kp.trans (zbf k)⟩
theorem F57.new {H:Hp} {p:Addr} {m nl n j mask want:Nat} {lt:V} {X X':Hp} (f:F57 H p m nl n j mask want lt X) (s:Same X X'):F57 H p m nl n j mask want lt X':=by
 obtain ⟨o,h1,h2⟩:=f.l
 exact ⟨f.m0,f.wm,⟨o,h1.same s,h2⟩,f.bg.same s,f.kp.trans (.of s)⟩
theorem F57.up {H:Hp} {p:Addr} {m nl n j j' mask want:Nat} {lt:V} {X:Hp} (f:F57 H p m nl n j mask want lt X) (h:j≤j'):F57 H p m nl n j' mask want lt X:=⟨f.m0,f.wm,f.l,f.bg.mono (by omega),f.kp⟩
def Ft57 (nl:Nat) (r:Rw):Prop:=(nl≤r.c∧r.c≤nl+1)∧ones r.i≤1∧∀ c a b,r.l=some (c,a,b)→c<nl
def zho:Sp:=fun vs H Q _=>∃ (p L:Addr) (m nl n:Nat) (ws:List (Addr×Rw)),vs=[.ref p,.int (m:Int),.int (nl:Int),.ref L]∧Bg H p n∧n+100<2 ^ 40∧1≤m∧m≤16∧1≤nl∧nl≤2∧H L=some (.lst (refs ws))∧L≠p∧RwsAt2 m H ws∧(∀ z∈ws,Ft57 nl z.2)∧ws.length≤20 ∧
 ∀ (t:Addr) (r:Rw) (H':Hp),H t=none→RwAt H' t r→RwOk m r→Ft57 nl r→Bg H' p (n+20)→KeepP p H H'→Q (.ref t) H'
theorem zdi {f:Addr} {fd:FuncData} (F:Fun K "_law_free_row" "_law_free_row" zbb f fd) (T:Blt mg) (G_law_draw:Cal P w K mg base 1 "_law_draw" ["bag","many"] spDw):FnOk P w K mg base CX0 2 f fd ["bag","bits","latches","rows"] zho:=by
 refine F.ok sc_law_free_row (fun vs H Q E h=>?_) (fun cdv A outer s H vs Q E hr h=>?_)
 ·obtain ⟨p,L,m,nl,n,ws,rfl,_⟩:=h;rfl
 ·obtain ⟨p,L,m,nl,n,ws,rfl,bg,hn,m1,m2,l1,l2,eL,nLp,hR,hF,hw,k⟩:=h
  refine ⟨_,(zac (zat (i:=4) sc_law_free_row.nd rfl (Or.inl rfl) (zar zdH (zar zbK zaf (pv 1)) zaf))
   (zac (zat (i:=5) sc_law_free_row.nd rfl (Or.inl rfl) (zar zhT (zal G_law_draw (hr.mono (by walk_at "m")) rfl (zaa (pv 0) (zaa (zar zbK zaf (pv 1)) zae))) (zal G_law_draw (hr.mono (by walk_at "m")) rfl (zaa (pv 0) (zaa (zar zbK zaf (pv 1)) zae)))))
   (zac (zat (i:=6) sc_law_free_row.nd rfl (Or.inl rfl) (zar zaJ (zal G_law_draw (hr.mono (by walk_at "m")) rfl (zaa (pv 0) (zaa (zar zbK zaf (pv 1)) zae))) (pv 5)))
   (zac (zat (i:=7) sc_law_free_row.nd rfl (Or.inl rfl) zca)
   (zac (zaD (zaA zcH (zal G_law_draw (hr.mono (by walk_at "m")) rfl (zaa (pv 0) (zaa zaf zae))) zaf (zay _)) (zac (zat (i:=8) sc_law_free_row.nd rfl (Or.inl rfl) (zas zaO (zaQ (zaa zaf (zaa zaf (zaa zaf (zaa zaf zae))))) (zal G_law_draw (hr.mono (by walk_at "m")) rfl (zaa (pv 0) (zaa zaf zae))) (fun _ _=>rfl)))
   (zag (zat (i:=7) sc_law_free_row.nd rfl (Or.inl rfl) (zb9 (zaa (zal G_law_draw (hr.mono (by walk_at "m")) rfl (zaa (pv 0) (zaa (pv 2) zae))) (zaa (pv 8) (zaa (zar zaJ (zal G_law_draw (hr.mono (by walk_at "m")) rfl (zaa (pv 0) (zaa zaf zae))) (pv 8)) zae))))))) zaq)
   (zac (zaD (PW.pt (zeC (zaA (zk2 (Nat.lt_of_succ_lt (zbu hr)) (K:=K) rfl) (pv 3) (zaQ zae) (zay _)) (zdc (zaA zcH (zal G_law_draw (hr.mono (by walk_at "m")) rfl (zaa (pv 0) (zaa zaf zae))) zaf (zay _))))) (zac (zat (i:=9) sc_law_free_row.nd rfl (Or.inl rfl) (zas zaO (pv 3) (zal G_law_draw (hr.mono (by walk_at "m")) rfl (zaa (pv 0) (zaa (zan zav (by rfl) T.len PySem.boot_len (zaa (pv 3) zae)) zae))) (fun _ _=>rfl)))
   (zac (zat (i:=5) sc_law_free_row.nd rfl (Or.inl rfl) (zas zap (pv 9) zaf (fun _ _=>rfl)))
   (zac (zat (i:=6) sc_law_free_row.nd rfl (Or.inl rfl) (zar zaJ (zar zeE (zas zap (pv 9) zaf (fun _ _=>rfl)) (zar zbK zaf (zal G_law_draw (hr.mono (by walk_at "m")) rfl (zaa (pv 0) (zaa (pv 1) zae))))) (pv 5)))
   (zag (zaD (PW.pt (zeC (zaA zcH (zal G_law_draw (hr.mono (by walk_at "m")) rfl (zaa (pv 0) (zaa zaf zae))) zaf (zay _)) (zdc (za6 (zct (zas zap (pv 9) zaf (fun _ _=>rfl))))))) (zag (zat (i:=7) sc_law_free_row.nd rfl (Or.inl rfl) (zb9 (zaa (zas zap (zas zap (pv 9) zaf (fun _ _=>rfl)) zaf (fun _ _=>rfl)) (zaa (zas zap (zas zap (pv 9) zaf (fun _ _=>rfl)) zaf (fun _ _=>rfl)) (zaa (zar zeE (zas zap (zas zap (pv 9) zaf (fun _ _=>rfl)) zaf (fun _ _=>rfl)) (zar zaJ (zas zap (zas zap (pv 9) zaf (fun _ _=>rfl)) zaf (fun _ _=>rfl)) (zkV zjU (zas zap (zas zap (pv 9) zaf (fun _ _=>rfl)) zaf (fun _ _=>rfl))))) zae)))))) zaq))))) zaq)
   (zac (zat (i:=10) sc_law_free_row.nd rfl (Or.inl rfl) (zar zaJ (zar zaJ (pv 4) (zkV un_inv (pv 5))) (zar zbK zaf (zal G_law_draw (hr.mono (by walk_at "m")) rfl (zaa (pv 0) (zaa (pv 1) zae))))))
   (zag (zao (zb9 (zaa (pv 5) (zaa (pv 6) (zaa (pv 10) (zaa (zar zcA (pv 2) (zal G_law_draw (hr.mono (by walk_at "m")) rfl (zaa (pv 0) (zaa zaf zae)))) (zaa (pv 7) zae))))))))))))))),?rd⟩
  have e1:(1:Int) * 2 ^ ((m:Nat):Int).toNat=((2 ^ m:Nat):Int):=by rw [Int.one_mul,Int.toNat_natCast];norm_cast
  have h0m:0<2 ^ m:=Nat.two_pow_pos m
  have h2m:2 ^ m≤2 ^ 16:=Nat.pow_le_pow_right (by decide) m2
  have p0:0<(1:Int) * 2 ^ ((m:Nat):Int).toNat:=by rw [e1];exact Int.ofNat_lt.mpr h0m
  have p1:(1:Int) * 2 ^ ((m:Nat):Int).toNat≤2 ^ 40:=by rw [e1];exact Int.le_trans (Int.ofNat_le.mpr h2m) (by decide)
  have lt_of:∀ {d:Nat},(d:Int)<(1:Int) * 2 ^ ((m:Nat):Int).toNat→d<2 ^ m:=fun {d} h=>by rw [e1] at h;exact Int.ofNat_lt.mp h
  refine zaw (fun σ G=>σ=L2.start ["bag","bits","latches","rows","every","mask","want","latch","bound","old","inner"] [V.ref p,V.int (m:Int),V.int (nl:Int),V.ref L]∧G=H) (fun σ G=>σ=[some (.ref p),some (.int (m:Int)),some (.int (nl:Int)),some (.ref L),some (.int ((2 ^ m - 1:Nat):Int)),none,none,none,none,none,none]∧G=H) ?_ ?_ _ _ ⟨rfl,rfl⟩
  ·rintro σ G ⟨rfl,rfl⟩ N hN
   refine ⟨_,rfl,_,_,rfl,rfl,⟨by omega,by omega,by decide⟩,_,_,rfl,rfl,hN _ _ ⟨?_,rfl⟩⟩
   dsimp only
   rw [e1,show ((2 ^ m:Nat):Int) - 1=((2 ^ m - 1:Nat):Int) by omega]
   rfl
  rintro σ G ⟨rfl,rfl⟩
  
  refine zaw (fun σ X=>σ=[some (.ref p),some (.int (m:Int)),some (.int (nl:Int)),some (.ref L),some (.int ((2 ^ m - 1:Nat):Int)),none,none,none,none,none,none]∧X=G) (fun σ X=>∃ mask:Nat,σ=[some (.ref p),some (.int (m:Int)),some (.int (nl:Int)),some (.ref L),some (.int ((2 ^ m - 1:Nat):Int)),some (.int (mask:Int)),none,none,none,none,none]∧mask<2 ^ m∧Bg X p (n+2)∧KeepP p G X) ?_ ?_ _ _ ⟨rfl,rfl⟩
  ·rintro σ X ⟨rfl,rfl⟩ N hN
   refine ⟨_,rfl,_,rfl,_,_,rfl,rfl,⟨by omega,by omega,by decide⟩,p,_,n,rfl,bg,by omega,p0,p1,fun d1 X1 h1 bg1 k1=>?_⟩
   refine ⟨_,rfl,_,rfl,_,_,rfl,rfl,⟨by omega,by omega,by decide⟩,p,_,n+1,rfl,bg1,by omega,p0,p1,fun d2 X2 h2 bg2 k2=>?_⟩
   refine ⟨_,_,rfl,rfl,hN _ _ ⟨d1 ||| d2,?_,Nat.or_lt_two_pow (lt_of h1) (lt_of h2),bg2,(zbf k1).trans (zbf k2)⟩⟩
   dsimp only
   rw [bor]
   rfl
  rintro σ X ⟨mask,rfl,hmask,bgX,kX⟩
  
  refine zaw (fun σ Y=>σ=[some (.ref p),some (.int (m:Int)),some (.int (nl:Int)),some (.ref L),some (.int ((2 ^ m - 1:Nat):Int)),some (.int (mask:Int)),none,none,none,none,none]∧Y=X) (fun σ Y=>∃ want:Nat,σ=[some (.ref p),some (.int (m:Int)),some (.int (nl:Int)),some (.ref L),some (.int ((2 ^ m - 1:Nat):Int)),some (.int (mask:Int)),some (.int (want:Int)),none,none,none,none]∧F57 G p m nl n 3 mask want .non Y) ?_ ?_ _ _ ⟨rfl,rfl⟩
  ·rintro σ Y ⟨rfl,rfl⟩ N hN
   refine ⟨_,rfl,_,rfl,_,_,rfl,rfl,⟨by omega,by omega,by decide⟩,p,_,n+2,rfl,bgX,by omega,p0,p1,fun d1 X1 h1 bg1 k1=>?_⟩
   refine ⟨_,rfl,_,_,rfl,rfl,hN _ _ ⟨d1 &&& mask,?_,hmask,by rw [Nat.and_assoc,Nat.and_self],⟨none,rfl,trivial,(fun _ _ _ h=>by cases h)⟩,bg1,kX.trans (zbf k1)⟩⟩
   dsimp only
   rw [band]
   rfl
  rintro σ Y ⟨want,rfl,fY⟩
  clear bgX kX
  refine zaw (fun σ Z=>σ=[some (.ref p),some (.int (m:Int)),some (.int (nl:Int)),some (.ref L),some (.int ((2 ^ m - 1:Nat):Int)),some (.int (mask:Int)),some (.int (want:Int)),none,none,none,none]∧Z=Y) (fun σ Z=>σ=[some (.ref p),some (.int (m:Int)),some (.int (nl:Int)),some (.ref L),some (.int ((2 ^ m - 1:Nat):Int)),some (.int (mask:Int)),some (.int (want:Int)),some .non,none,none,none]∧Z=Y) (fun σ Z ⟨e1,e2⟩ N hN=>hN _ _ ⟨by rw [e1];rfl,e2⟩) ?_ _ _ ⟨rfl,rfl⟩
  rintro σ Z ⟨rfl,rfl⟩
  
  refine zaw (fun σ Y=>σ=[some (.ref p),some (.int (m:Int)),some (.int (nl:Int)),some (.ref L),some (.int ((2 ^ m - 1:Nat):Int)),some (.int (mask:Int)),some (.int (want:Int)),some .non,none,none,none]∧Y=Z) (fun σ Y=>∃ (lt:V) (v8:Option V),σ=[some (.ref p),some (.int (m:Int)),some (.int (nl:Int)),some (.ref L),some (.int ((2 ^ m - 1:Nat):Int)),some (.int (mask:Int)),some (.int (want:Int)),some lt,v8,none,none]∧F57 G p m nl n 7 mask want lt Y) ?_ ?_ _ _ ⟨rfl,rfl⟩
  ·rintro σ Y ⟨rfl,rfl⟩ N hN
   refine ⟨_,rfl,p,2,n+3,rfl,fY.bg,by omega,by decide,by decide,fun d1 X1 h1 bg1 k1=>?_⟩
   have f1:=fY.draw bg1 k1
   refine ⟨rfl,_,rfl,ite2 (fun _=>?_) (fun _=>hN _ _ ⟨_,_,rfl,f1.up (by omega)⟩)⟩
   refine ⟨by show 4≤sizeLine;decide,fun q hq=>?_⟩
   have sq:=zad (o:=.lst [.int 1,.int 3,.int 255,.int 129]) hq
   have f2:=f1.new sq
   refine ⟨_,rfl,p,4,n+4,rfl,f2.bg,by omega,by decide,by decide,fun d2 X2 h2 bg2 k2=>?_⟩
   have f3:=f2.draw bg2 k2
   have nqp:q≠p:=f1.bg.ne hq
   have eq2:X2 q=some (.lst [.int 1,.int 3,.int 255,.int 129]):=by rw [k2 q nqp];exact zab
   obtain ⟨bd,hbd,hbl⟩:∃ bd:Nat,[V.int 1,V.int 3,V.int 255,V.int 129][d2]? = some (.int (bd:Int))∧bd<256:=by
    rcases (show d2=0∨d2=1∨d2=2∨d2=3 by omega) with rfl | rfl | rfl | rfl
    ·exact ⟨1,rfl,by decide⟩
    ·exact ⟨3,rfl,by decide⟩
    ·exact ⟨255,rfl,by decide⟩
    ·exact ⟨129,rfl,by decide⟩
   refine ⟨q,_,_,_,rfl,rfl,SqL.of eq2,zaL hbd,?_⟩
   refine ⟨_,rfl,_,rfl,p,(nl:Int),n+5,rfl,f3.bg,by omega,by omega,by omega,fun d3 X3 h3 bg3 k3=>?_⟩
   have f4:=f3.draw bg3 k3
   refine ⟨_,rfl,_,rfl,p,256,n+6,rfl,f4.bg,by omega,by decide,by decide,fun d4 X4 h4 bg4 k4=>?_⟩
   have f5:=f4.draw bg4 k4
   refine ⟨_,rfl,_,_,rfl,rfl,by show 3≤sizeLine;decide,fun u hu=>hN _ _ ⟨.ref u,_,rfl,?_⟩⟩
   dsimp only
   rw [band]
   have su:=zad (o:=.tup [.int (d3:Int),.int (bd:Int),.int ((d4 &&& bd:Nat):Int)]) hu
   exact ⟨f5.m0,f5.wm,⟨some (d3,bd,d4 &&& bd),⟨u,rfl,zab⟩,⟨by omega,hbl,by rw [Nat.and_assoc,Nat.and_self]⟩,(fun c a b h=>by cases h;omega)⟩,f5.bg.same su,f5.kp.trans (.of su)⟩
  rintro σ Y ⟨lt,v8,rfl,fL⟩
  clear fY
  
  refine zaw (fun σ Z=>σ=[some (.ref p),some (.int (m:Int)),some (.int (nl:Int)),some (.ref L),some (.int ((2 ^ m - 1:Nat):Int)),some (.int (mask:Int)),some (.int (want:Int)),some lt,v8,none,none]∧Z=Y) (fun σ Z=>∃ (mask want:Nat) (lt:V) (v8 v9:Option V),σ=[some (.ref p),some (.int (m:Int)),some (.int (nl:Int)),some (.ref L),some (.int ((2 ^ m - 1:Nat):Int)),some (.int (mask:Int)),some (.int (want:Int)),some lt,v8,v9,none]∧F57 G p m nl n 12 mask want lt Z) ?_ ?_ _ _ ⟨rfl,rfl⟩
  ·rintro σ Z ⟨rfl,rfl⟩ N hN
   refine ⟨_,rfl,by show 0≤sizeLine;decide,fun e he=>⟨L,e,refs ws,rfl,rfl,SqL.of (zad he _ _ (fL.kp _ _ nLp eL)),SqL.of zab,_,rfl,?_⟩⟩
   have f0:=fL.new (zad (o:=.lst []) he)
   refine ite2 (fun hne=>?_) (fun _=>iteF (hN _ _ ⟨_,_,_,_,_,rfl,f0.up (by omega)⟩))
   refine ⟨_,rfl,p,2,n+7,rfl,f0.bg,by omega,by decide,by decide,fun d1 X1 h1 bg1 k1=>?_⟩
   have f1:=f0.draw bg1 k1
   refine ⟨rfl,_,rfl,ite2 (fun _=>?_) (fun _=>hN _ _ ⟨_,_,_,_,_,rfl,f1.up (by omega)⟩)⟩
   have hwl:0<ws.length:=by
    cases ws with
    | nil=>exact absurd hne (by decide)
    | cons z l=>simp
   refine ⟨_,rfl,_,rfl,_,rfl,L,_,rfl,.inl (SqL.of (f1.kp _ _ nLp eL)),?_⟩
   rw [zau]
   refine ⟨p,(ws.length:Int),n+8,rfl,f1.bg,by omega,by omega,by omega,fun d2 X2 h2 bg2 k2=>?_⟩
   have f2:=f1.draw bg2 k2
   obtain ⟨z,hz⟩:∃ z,ws[d2]? = some z:=⟨_,List.getElem?_eq_getElem (show d2<ws.length by omega)⟩
   obtain ⟨rz,okz⟩:=hR z (List.mem_of_getElem? hz)
   obtain ⟨_,_,fz⟩:=hF z (List.mem_of_getElem? hz)
   obtain ⟨ltz,ez,hlz⟩:=rz.keepP bg f2.kp
   refine ⟨L,_,_,_,rfl,rfl,SqL.of (f2.kp _ _ nLp eL),zaL (zbT hz),?_⟩
   refine ⟨_,rfl,z.1,_,_,_,rfl,rfl,SqT.of ez,rfl,?_⟩
   refine ⟨_,rfl,z.1,_,_,_,rfl,rfl,SqT.of ez,rfl,_,rfl,_,rfl,p,(m:Int),n+9,rfl,f2.bg,by omega,by omega,by omega,fun d3 X3 h3 bg3 k3=>?_⟩
   have f3:=f2.draw bg3 k3
   refine ⟨_,_,rfl,rfl,⟨by omega,by omega,by decide⟩,_,_,rfl,rfl,_,rfl,_,_,rfl,rfl,?_⟩
   have eW:Builtin.bitAnd (Builtin.bitXor (z.2.w:Int) ((1:Int) * 2 ^ ((d3:Nat):Int).toNat)) (z.2.m:Int)=(((z.2.w ^^^ 2 ^ d3) &&& z.2.m:Nat):Int):=by
    rw [show (1:Int) * 2 ^ ((d3:Nat):Int).toNat=((2 ^ d3:Nat):Int) by rw [Int.one_mul,Int.toNat_natCast];norm_cast,bxor,band]
   refine ⟨_,rfl,p,3,n+10,rfl,f3.bg,by omega,by decide,by decide,fun d4 X4 h4 bg4 k4=>?_⟩
   have f4:=f3.draw bg4 k4
   have fW:F57 G p m nl n 11 z.2.m ((z.2.w ^^^ 2 ^ d3) &&& z.2.m) lt X4:=⟨okz.m0,by rw [Nat.and_assoc,Nat.and_self],f4.l,f4.bg,f4.kp⟩
   have eS:∀ (lt:V) (v8:Option V),[some (V.ref p),some (.int (m:Int)),some (.int (nl:Int)),some (.ref L),some (.int ((2 ^ m - 1:Nat):Int)),some (.int (z.2.m:Int)),some (.int (Builtin.bitAnd (Builtin.bitXor (z.2.w:Int) ((1:Int) * 2 ^ ((d3:Nat):Int).toNat)) (z.2.m:Int))),some lt,v8,some (.ref z.1),none]=[some (.ref p),some (.int (m:Int)),some (.int (nl:Int)),some (.ref L),some (.int ((2 ^ m - 1:Nat):Int)),some (.int (z.2.m:Int)),some (.int (((z.2.w ^^^ 2 ^ d3) &&& z.2.m:Nat):Int)),some lt,v8,some (.ref z.1),none]:=fun lt v8=>by rw [eW]
   refine ⟨rfl,_,rfl,ite2 (fun _=>?_) (fun _=>iteF (hN _ _ ⟨_,_,_,_,_,eS _ _,fW.up (by omega)⟩))⟩
   obtain ⟨ltz',ez4,hlz4⟩:=rz.keepP bg f4.kp
   refine ⟨_,rfl,z.1,_,_,_,rfl,rfl,SqT.of ez4,rfl,_,rfl,?_⟩
   cases hl:z.2.l with
   | none =>
    rw [hl] at hlz4
    obtain rfl:ltz' = .non:=hlz4
    exact iteF (hN _ _ ⟨_,_,_,_,_,eS _ _,fW.up (by omega)⟩)
   | some o =>
    obtain ⟨c,a,b⟩:=o
    rw [hl] at hlz4
    obtain ⟨u,rfl,eu⟩:=hlz4
    have okl:=okz.l0
    rw [hl] at okl
    obtain ⟨c1,c2,c3⟩:=okl
    obtain ⟨t0,ht0,hta⟩:=zle a
    refine iteT ⟨_,rfl,z.1,_,_,_,rfl,rfl,SqT.of ez4,rfl,u,_,_,_,rfl,rfl,SqT.of eu,rfl,_,rfl,z.1,_,_,_,rfl,rfl,SqT.of ez4,rfl,u,_,_,_,rfl,rfl,SqT.of eu,rfl,_,rfl,z.1,_,_,_,rfl,rfl,SqT.of ez4,rfl,u,_,_,_,rfl,rfl,SqT.of eu,rfl,_,rfl,z.1,_,_,_,rfl,rfl,SqT.of ez4,rfl,u,_,_,_,rfl,rfl,SqT.of eu,rfl,_,rfl,z.1,_,_,_,rfl,rfl,SqT.of ez4,rfl,u,_,_,_,rfl,rfl,SqT.of eu,rfl,_,rfl,_,_,rfl,rfl,_,_,rfl,rfl,by show 3≤sizeLine;decide,fun u2 hu2=>?_⟩
    refine hN _ _ ⟨_,_,.ref u2,_,_,eS _ _,?_⟩
    dsimp only
    rw [ht0,bxor]
    have su:=zad (o:=.tup [.int (c:Int),.int (a:Int),.int ((b ^^^ t0:Nat):Int)]) hu2
    exact ⟨fW.m0,fW.wm,⟨some (c,a,b ^^^ t0),⟨u2,rfl,zab⟩,⟨c1,c2,zkv c3 hta⟩,(fun c' a' b' h=>by cases h;exact fz c a b hl)⟩,(fW.bg.same su).mono (by omega),fW.kp.trans (.of su)⟩
  rintro σ Z ⟨mask,want,lt,v8,v9,rfl,fZ⟩
  refine ⟨_,rfl,_,rfl,_,rfl,_,_,rfl,rfl,_,rfl,_,rfl,p,(m:Int),n+12,rfl,fZ.bg,by omega,by omega,by omega,fun d1 X1 h1 bg1 k1=>?_⟩
  have f1:=fZ.draw bg1 k1
  refine ⟨_,_,rfl,rfl,⟨by omega,by omega,by decide⟩,_,_,rfl,rfl,?_⟩
  obtain ⟨i,hi,i1,i2,i3⟩:=zjA (m:=m) (mask:=mask) (k:=d1) fZ.m0
  refine ⟨_,rfl,_,rfl,_,rfl,_,rfl,_,rfl,p,2,n+13,rfl,f1.bg,by omega,by decide,by decide,fun d2 X2 h2 bg2 k2=>?_⟩
  have f2:=f1.draw bg2 k2
  refine ⟨_,_,rfl,rfl,_,rfl,by show 5≤sizeLine;decide,fun t ht=>?_⟩
  dsimp only
  rw [show (1:Int) * 2 ^ ((d1:Nat):Int).toNat=((2 ^ d1:Nat):Int) by rw [Int.one_mul,Int.toNat_natCast];norm_cast,hi,show (nl:Int)+(d2:Int)=((nl+d2:Nat):Int) by omega]
  obtain ⟨o,o1,o2,o3⟩:=f2.l
  have st:=zad (o:=.tup [.int (mask:Int),.int (want:Int),.int (i:Int),.int ((nl+d2:Nat):Int),lt]) ht
  have nt:G t=none:=by
   cases e:G t with
   | none=>rfl
   | some u =>
    have:=f2.kp t u (f2.bg.ne ht) e
    rw [ht] at this;cases this
  refine k t ⟨mask,want,i,nl+d2,o⟩ _ nt ⟨lt,zab,o1.same st⟩ ⟨f2.m0,?_,f2.wm,i1,i2,by show nl+d2<100;omega,o2⟩ ⟨⟨by show nl≤nl+d2;omega,by show nl+d2≤nl+1;omega⟩,?_,o3⟩ ((f2.bg.same st).mono (by omega)) (f2.kp.trans (.of st))
  ·show want<2 ^ m
   have:=f2.wm
   have h3:want≤mask:=by rw [← this];exact Nat.and_le_right
   have:=f2.m0
   omega
  ·show ones i≤1
   rcases i3 with rfl | rfl
   ·rw [zeF];omega
   ·rw [zjl];omega
abbrev zbP:Stmt:=top 62
theorem sc_law_words:FnScope ["one","other","words","bound","row","chip","mask","want"] ["one","other"] (zai zbP):=⟨rfl,rfl,rfl,by decide +kernel,rfl,by decide +kernel,by decide +kernel⟩
def mOne:Option (Nat×Nat×Nat)→List (Nat×Nat)
 | none=>[]
 | some (c,a,_)=>[(c,a)]
theorem zhh {L:List (Int×Int)} {ns:List Int} (hl:L.length≤2) (hp:ns.Perm (L.map (·.1))) (hs:ns.Pairwise (·≤·)):ns=(srt2 L).map (·.1):=by
 match L,hl with
 | [],_=>exact hp.eq_nil
 | [x],_=>exact List.perm_singleton.mp hp
 | [x,y],_ =>
  have hl2:=hp.length_eq
  match ns,hl2,hp,hs with
  | [a,b],_,hp,hs =>
   have hab:a≤b:=by simpa using hs
   have hc:(a=x.1∧b=y.1)∨(a=y.1∧b=x.1):=by
    have h1:a∈[x.1,y.1]:=hp.mem_iff.mp (by simp)
    rcases (by simpa using h1:a=x.1∨a=y.1) with rfl | rfl
    ·exact .inl ⟨rfl,by simpa using hp⟩
    ·have h2:[y.1,b].Perm [y.1,x.1]:=hp.trans (List.Perm.swap _ _ _)
     exact .inr ⟨rfl,by simpa using h2⟩
   show [a,b]=((if y.1<x.1 then [y,x] else [x,y]:List (Int×Int))).map (·.1)
   by_cases h:y.1<x.1
   ·rw [if_pos h]
    rcases hc with ⟨rfl,rfl⟩ | ⟨rfl,rfl⟩
    ·omega
    ·rfl
   ·rw [if_neg h]
    rcases hc with ⟨rfl,rfl⟩ | ⟨rfl,rfl⟩
    ·rfl
    ·have:x.1=y.1:=by omega
     show [y.1,x.1]=[x.1,y.1]
     rw [this]
theorem ziW {L:List (Int×Int)} {q:Int×Int} (h:q∈srt2 L):q∈L:=by
 unfold srt2 at h
 split at h
 ·split at h
  ·simp at h ⊢;exact h.symm
  ·exact h
 ·exact h
theorem ziX (L:List (Int×Int)):(srt2 L).length=L.length:=by
 unfold srt2
 split
 ·split <;> rfl
 ·rfl
theorem zh6:∀ {L:List (Int×Int)},(L.map (·.1)).Nodup→∀ q∈L,valV (knV L) (Sum.inl q.1)=some (.int q.2)
 | [],_,q,h=>nomatch h
 | x :: L,nd,q,h=>by
  rw [List.map_cons,List.nodup_cons] at nd
  rcases List.mem_cons.mp h with rfl | h
  ·simp [valV,knV]
  ·have hne:¬ x.1=q.1:=fun z=>nd.1 (by rw [z];exact List.mem_map_of_mem h)
   have:=zh6 nd.2 q h
   unfold valV knV at this ⊢
   rw [List.map_cons,List.find?_cons_of_neg (by simpa using hne)]
   exact this
def zkE:Sp:=fun vs H Q _=>∃ (t u:Addr) (r q:Rw),vs=[.ref t,.ref u]∧RwAt H t r∧RwAt H u q∧zfg r.l∧zfg q.l∧(latA r.l q.l=false→∀ H',Same H H'→Q .non H')∧(latA r.l q.l=true→∀ (p:Addr) (H':Hp),H p=none→PrsAt H' p (lwL r.l q.l)→Same H H'→Q (.ref p) H')
theorem zeJ {f:Addr} {fd:FuncData} (F:Fun K "_law_words" "_law_words" zbP f fd) (T:Blt mg) (GBsorted:mg "sorted" = none):FnOk P w K mg base CX0 1 f fd ["one","other"] zkE:=by
 refine F.ok sc_law_words (fun vs H Q E h=>?_) (fun cdv A outer s H vs Q E hr h=>?_)
 ·obtain ⟨t,u,r,q,rfl,_⟩:=h;rfl
 ·obtain ⟨t,u,r,q,rfl,hr1,hq1,l1,l2,kn,kp⟩:=h
  refine' ⟨_,(zac (zat (i:=2) sc_law_words.nd rfl (Or.inr rfl) zcb)
   (zac (zat (i:=3) sc_law_words.nd rfl (Or.inl rfl) zcb)
   (zac (zaS PassesOwn.never rfl (zdd (zaQ (zaa (pv 0) (zaa (pv 1) zae)))) (zak (i:=4) sc_law_words.nd rfl (Or.inl rfl))
   (zag (zaD (za6 (zct (zas zap (pv 4) zaf (fun _ _=>rfl)))) (zac (zb8 (zas zap (pv 4) zaf (fun _ _=>rfl)) (zbi rfl (zam (zak (i:=5) sc_law_words.nd rfl (Or.inl rfl)) (zam (zak (i:=6) sc_law_words.nd rfl (Or.inl rfl)) (zam (zak (i:=7) sc_law_words.nd rfl (Or.inl rfl)) zaM)))))
   (zac (zaD (PW.pt (zeC (za6 (pc_din (zbu hr) (pv 5) (pv 2))) (zdc (zaA zfx (zar zaJ (zar zaJ (zar zeE (zfv (zbu hr) (pv 2) (pv 5) (fun _ _=>rfl)) (pv 7)) (pv 6)) (zfv (zbu hr) (pv 3) (pv 5) (fun _ _=>rfl))) zaf (zay _))))) (zag (zao zca)) zaq)
   (zac (zd7 (zbu hr) (pv 2) (pv 5) (zar zhT (zcc (zbu hr) (pv 2) (pv 5) zaf ⟨rfl,rfl,rfl,rfl⟩) (pv 7)) rfl)
   (zag (zd7 (zbu hr) (pv 3) (pv 5) (zar zhT (zcc (zbu hr) (pv 3) (pv 5) zaf ⟨rfl,rfl,rfl,rfl⟩) (pv 6)) rfl))))) zaq)))
   (zag (zao (za0 zbr (by rfl) T.tuple za8 (zaa ?c1 zae))))))),?rd⟩
  (case c1=>exact (zde (Nc:=["chip","words"]) [none,some 2] rfl (za3 (by rfl)) (zdd (zan (ze5 rfl) (by rfl) GBsorted zdu (zaa (pv 2) zae))) (fun _ _ _ _ _=>(zak (i:=0) (show (["chip","words"]:List Str).Nodup by decide +kernel) rfl (Or.inl rfl))) (fun _ _ _ _ _=>zf9) (fun _ _ _ _ _=>(zb9 (zaa (pv 0) (zaa (zfv (zbu hr) (pv 1) (pv 0) (fun _ _=>rfl)) zae))))))
  obtain ⟨lt,et,hlt⟩:=hr1
  obtain ⟨lu,eu,hlu⟩:=hq1
  refine fun d hd=>fun e he=>?_
  have s1:=zad (o:=.dK []) hd
  have s2:=s1.trans (zad (o:=.dK []) he)
  refine ⟨_,rfl,_,rfl,by show 2≤sizeLine;decide,fun L hL=>⟨L,rfl,⟨_,SqL.of zab⟩,?_⟩⟩
  have s3:=s2.trans (zad (o:=.lst [.ref t,.ref u]) hL)
  have nde:d≠e:=fun z=>by rw [← z,zab] at he;cases he
  have ndL:d≠L:=fun z=>by rw [← z,zah nde,zab] at hL;cases hL
  have neL:e≠L:=fun z=>by rw [← z,zab] at hL;cases hL
  refine zcS (K:=K) (a:=L) (xs:=[.ref t,.ref u]) (fun i σ X=>∃ (v4 v5 v6 v7:Option V) (kb:List (Key×V)),σ=[some (.ref t),some (.ref u),some (.ref d),some (.ref e),v4,v5,v6,v7]∧X d=some (.dK (knV (knN (if i=0 then [] else if i=1 then dOne r.l else dPut (dOne r.l) q.l))))∧X e=some (.dK kb)∧(i=0→kb=[])∧(i=1→kb=knV (knN (mOne r.l)))∧(i=2→latA r.l q.l=true)∧X L=some (.lst [.ref t,.ref u])∧Same H X)
   ⟨none,none,none,none,[],rfl,by rw [zah ndL,zah nde];exact zab,by rw [zah neL];exact zab,fun _=>rfl,(fun z=>by omega),(fun z=>by omega),zab,s3⟩ (fun i σ X hi ⟨_,_,_,_,_,_,_,_,_,_,_,e,_⟩=>SqL.of e) ?_ ?_
  ·rintro i x σ X hx ⟨v4,v5,v6,v7,kb,rfl,ed,ee,k0,k1,k2,eL,sX⟩
   obtain ⟨a,lv,o,rr,l,rfl,ea,hlv,hlen,hnow,hnext,hin,hout⟩:∃ (a:Addr) (lv:V) (o:Option (Nat×Nat×Nat)) (rr:Rw) (l:List (Nat×Nat)),x = .ref a∧H a=some (.tup [.int (rr.m:Int),.int (rr.w:Int),.int (rr.i:Int),.int (rr.c:Int),lv])∧LatV H lv o∧l.length≤1 ∧
     (if i=0 then [] else if i=1 then dOne r.l else dPut (dOne r.l) q.l)=l∧(if i+1=0 then [] else if i+1=1 then dOne r.l else dPut (dOne r.l) q.l)=dPut l o ∧
     (∀ c a1 b1,o=some (c,a1,b1)→(valV (knV (knN l)) (Sum.inl (c:Int))=none∧valV kb (Sum.inl (c:Int))=none∧(i+1=2→latA r.l q.l=true)∧(i+1=1→kb=[]∧r.l=some (c,a1,b1))) ∨
      ∃ b' a':Nat,valV (knV (knN l)) (Sum.inl (c:Int))=some (.int (b':Int))∧valV kb (Sum.inl (c:Int))=some (.int (a':Int))∧i=1∧latA r.l q.l=decide (((b' ^^^ b1) &&& a1) &&& a'=0))∧(o=none→(i+1=2→latA r.l q.l=true)∧(i+1=1→r.l=none∧kb=[])):=by
    rcases (show i=0∨i=1 by have:=(List.getElem?_eq_some_iff.mp hx).1;simp at this;omega) with rfl | rfl
    ·cases hx
     refine ⟨t,lt,r.l,r,[],rfl,et,hlt,by simp,rfl,?_,fun c a1 b1 ho=>.inl ⟨rfl,by rw [k0 rfl];rfl,(fun z=>by omega),fun _=>⟨k0 rfl,ho⟩⟩,fun ho=>⟨(fun z=>by omega),fun _=>⟨ho,k0 rfl⟩⟩⟩
     show dOne r.l=dPut [] r.l
     cases r.l with
     | none=>rfl
     | some z=>rfl
    ·cases hx
     have hk1:=k1 rfl
     refine ⟨u,lu,q.l,q,dOne r.l,rfl,eu,hlu,?_,rfl,rfl,fun c a1 b1 ho=>?_,fun ho=>⟨fun _=>?_,(fun z=>by omega)⟩⟩
     ·cases r.l with
      | none=>simp [dOne]
      | some z=>simp [dOne]
     ·cases hrl:r.l with
      | none =>
       refine .inl ⟨rfl,by rw [hk1,hrl];rfl,fun _=>?_,(fun z=>by omega)⟩
       rw [ho];rfl
      | some z =>
       obtain ⟨c',a',b'⟩:=z
       by_cases hc:c'=c
       ·subst hc
        refine .inr ⟨b',a',by simp [valV,knV,knN,dOne],by rw [hk1,hrl];simp [valV,knV,knN,mOne],rfl,?_⟩
        rw [ho]
        show (if c'=c' then agr a' b' a1 b1 else true)=_
        rw [if_pos rfl]
        unfold agr
        rw [Nat.and_assoc,Nat.and_assoc,Nat.and_comm a' a1]
       ·have hc':¬ (c':Int)=(c:Int):=by omega
        refine .inl ⟨by simp [valV,knV,knN,dOne,hc',List.find?],by rw [hk1,hrl];simp [valV,knV,knN,mOne,hc',List.find?],fun _=>?_,(fun z=>by omega)⟩
        rw [ho]
        show (if c'=c then agr a' b' a1 b1 else true)=true
        rw [if_neg hc]
     ·rw [ho]
      cases r.l with
      | none=>rfl
      | some z=>rfl
   rw [hnow] at ed
   rw [hnext]
   have eaX:=sX _ _ ea
   refine ⟨_,rfl,a,_,_,_,rfl,rfl,SqT.of eaX,rfl,_,rfl,?_⟩
   have hkl:kb.length≤1:=by
    rcases (show i=0∨i=1 by have:=(List.getElem?_eq_some_iff.mp hx).1;simp at this;omega) with rfl | rfl
    ·rw [k0 rfl];decide
    ·rw [k1 rfl]
     cases r.l with
     | none=>decide
     | some z=>simp [mOne,knN,knV]
   match o,hlv,hin,hout with
   | none,hlv,hin,hout =>
    obtain rfl:lv = .non:=hlv
    exact iteF ⟨_,_,_,_,kb,rfl,ed,ee,(fun z=>by omega),(fun z=>by obtain ⟨z1,z2⟩:=(hout rfl).2 z;rw [z1,z2];rfl),(hout rfl).1,eL,sX⟩
   | some (c,a1,b1),hlv,hin,hout =>
    obtain ⟨lp,rfl,elp⟩:=hlv
    refine iteT ⟨_,rfl,a,_,_,_,rfl,rfl,SqT.of eaX,rfl,g_tup3 (sX _ _ elp) ?_⟩
    dsimp only [za1,List.set]
    refine zaw (fun σ G=>σ=[some (.ref t),some (.ref u),some (.ref d),some (.ref e),some (.ref a),some (.int (c:Int)),some (.int (a1:Int)),some (.int (b1:Int))]∧G=X) (fun σ G=>(σ=[some (.ref t),some (.ref u),some (.ref d),some (.ref e),some (.ref a),some (.int (c:Int)),some (.int (a1:Int)),some (.int (b1:Int))]∧G=X)∧(i+1=2→latA r.l q.l=true)) ?_ ?_ _ _ ⟨rfl,rfl⟩
    ·rintro σ G ⟨rfl,rfl⟩ N hN
     refine ⟨_,rfl,_,rfl,d,_,rfl,DGet.k (k:=Sum.inl (c:Int)) ed,_,rfl,?_⟩
     rcases hin c a1 b1 rfl with ⟨hv,hb,h2,h1⟩ | ⟨b',a',hv,hb,hi1,hA⟩
     ·rw [hv]
      exact iteF (iteF (hN _ _ ⟨⟨rfl,rfl⟩,h2⟩))
     ·rw [hv]
      have gd:DGet G d (.int (c:Int)) (some (.int (b':Int))):=by
       have:=DGet.k (k:=Sum.inl (c:Int)) ed
       rw [hv] at this;exact this
      have ge:DGet G e (.int (c:Int)) (some (.int (a':Int))):=by
       have:=DGet.k (k:=Sum.inl (c:Int)) ee
       rw [hb] at this;exact this
      refine iteT ⟨_,rfl,_,rfl,d,_,rfl,gd,_,rfl,_,_,rfl,rfl,_,rfl,_,_,rfl,rfl,_,rfl,_,rfl,e,_,rfl,ge,_,_,rfl,rfl,rfl,_,rfl,?_⟩
      have eV:Builtin.bitAnd (Builtin.bitAnd (Builtin.bitXor (b':Int) (b1:Int)) (a1:Int)) (a':Int)=((((b' ^^^ b1) &&& a1) &&& a':Nat):Int):=by rw [bxor,band,band]
      have eB:(!decide (V.int (Builtin.bitAnd (Builtin.bitAnd (Builtin.bitXor (b':Int) (b1:Int)) (a1:Int)) (a':Int))=V.int 0)) = !(latA r.l q.l):=by
       rw [eV,hA]
       congr 1
       by_cases hz:((b' ^^^ b1) &&& a1) &&& a'=0
       ·rw [hz,decide_eq_true rfl];exact decide_eq_true rfl
       ·rw [decide_eq_false hz]
        exact decide_eq_false fun z=>hz (by injection z with z;exact Int.ofNat.inj z)
      refine ite2 (fun h=>?_) (fun h=>?_)
      ·have h:(!latA r.l q.l)=true:=eB ▸ h
       exact kn (by simpa using h) G sX
      ·have h:¬ (!latA r.l q.l)=true:=eB ▸ h
       exact hN _ _ ⟨⟨rfl,rfl⟩,fun _=>by simpa using h⟩
    ·rintro σ G ⟨⟨rfl,rfl⟩,h2⟩
     obtain ⟨n,hv,hput⟩:=zj0 hlen c a1 b1
     refine ⟨_,rfl,d,rfl,.inl ⟨_,.inl ed⟩,_,rfl,_,DGet.k (k:=Sum.inl (c:Int)) ed,?_⟩
     rw [hv]
     refine ⟨_,rfl,_,_,rfl,rfl,_,rfl,_,rfl,d,_,rfl,DPut.k (k:=Sum.inl (c:Int)) ed ?_,?_⟩
     ·unfold knV knN
      rw [List.length_map,List.length_map]
      exact Nat.lt_of_le_of_lt hlen (by decide)
     have hput':putK (knV (knN l)) (Sum.inl (c:Int)) ((fun (i j:Int)=>V.int (Builtin.bitOr i j)) (n:Int) (b1:Int))=knV (knN (dPut l (some (c,a1,b1)))):=by
      rw [show ((fun (i j:Int)=>V.int (Builtin.bitOr i j)) (n:Int) (b1:Int))=V.int ((n ||| b1:Nat):Int) from congrArg V.int (bor n b1),hput]
     rw [hput']
     have ee1:upd G d (.dK (knV (knN (dPut l (some (c,a1,b1)))))) e=some (.dK kb):=by rw [zah (Ne.symm nde)];exact ee
     obtain ⟨m',hm'⟩:∃ m':Nat,(valV kb (Sum.inl (c:Int))).getD (.int 0) = .int (m':Int):=by
      rcases hin c a1 b1 rfl with ⟨_,hb,_⟩ | ⟨b',a',_,hb,_⟩
      ·exact ⟨0,by rw [hb];rfl⟩
      ·exact ⟨a',by rw [hb];rfl⟩
     refine ⟨_,rfl,e,rfl,.inl ⟨_,.inl ee1⟩,_,rfl,_,DGet.k (k:=Sum.inl (c:Int)) ee1,?_⟩
     rw [hm']
     refine ⟨_,rfl,_,_,rfl,rfl,_,rfl,_,rfl,e,_,rfl,DPut.k (k:=Sum.inl (c:Int)) ee1 (Nat.lt_of_le_of_lt hkl (by decide)),?_⟩
     refine ⟨_,_,_,_,_,rfl,by rw [zah nde];exact zab,zab,(fun z=>by omega),(fun z=>?_),h2,?_,fun z o ez=>?_⟩
     ·rcases hin c a1 b1 rfl with ⟨_,hb,_,hk⟩ | ⟨b',a',_,hb,hi1,_⟩
      ·obtain ⟨z1,z2⟩:=hk z
       rw [hb] at hm'
       have h0:m'=0:=by injection hm' with hm';omega
       rw [z1,z2,h0]
       show [((Sum.inl (c:Int):Key),V.int (Builtin.bitOr ((0:Nat):Int) (a1:Int)))]=[((Sum.inl (c:Int):Key),V.int (a1:Int))]
       rw [bor,Nat.zero_or]
      ·omega
     ·rw [zah (Ne.symm neL),zah (Ne.symm ndL)];exact eL
     ·rw [zah (zaj ez (s1.free he)),zah (zaj ez hd)];exact sX _ _ ez
  ·rintro σ X ⟨v4,v5,v6,v7,kb,rfl,ed,ee,k0,k1,k2,eL,sX⟩
   have ed:X d=some (.dK (knV (knN (dPut (dOne r.l) q.l)))):=ed
   have hA:=k2 rfl
   have hL2:=zgj r.l q.l
   have hnd:=zdO r.l q.l
   have hlw:=zlc r.l q.l
   generalize knN (dPut (dOne r.l) q.l)=LL at *
   refine ⟨_,rfl,d,_,LL.map (·.1),rfl,ed,by unfold knV;rw [List.map_map,List.map_map];rfl,by rw [List.length_map];omega,fun l ns hl hp hs=>⟨l,rfl,⟨_,SqL.of zab⟩,?_⟩⟩
   have hns:=zhh hL2 hp hs
   have hnl:ns.length≤2:=by rw [hns,List.length_map,ziX];exact hL2
   have sl:=zad (o:=.lst (ns.map V.int)) hl
   refine zix (K:=K) (a:=l) (xs:=ns.map V.int) (fun i ys σ X'=>∃ (v0:Option V) (ts:List Addr),σ=[v0,some (.ref d)]∧ys=ts.map V.ref∧ts.length=i∧(∀ (j:Nat) (tt:Addr) (q':Int×Int),ts[j]? = some tt→(srt2 LL)[j]? = some q'→X' tt=some (.tup [.int q'.1,.int q'.2]))∧Same (upd X l (.lst (ns.map V.int))) X') (by rw [List.length_map];exact Nat.le_trans hnl (by decide)) ⟨none,[],rfl,rfl,rfl,(fun j tt q' e=>by simp at e),Same.refl _⟩ ?_ ?_ ?_
   ·rintro i ys σ X' hi ⟨v0,ts,rfl,rfl,hts,hall,sX'⟩
    exact ⟨SqL.of (sX' _ _ zab),by rw [List.length_map,hts];exact Nat.le_refl _⟩
   ·rintro i x ys σ X' hx ⟨v0,ts,rfl,rfl,hts,hall,sX'⟩
    rw [hns,List.map_map,List.getElem?_map] at hx
    obtain ⟨q',hq',rfl⟩:=Option.map_eq_some_iff.mp hx
    have hv:=zh6 hnd q' (ziW (List.mem_of_getElem? hq'))
    have gd:DGet X' d (.int q'.1) (some (.int q'.2)):=by
     have:=DGet.k (k:=Sum.inl q'.1) (sX' _ _ (sl _ _ ed))
     rw [hv] at this;exact this
    refine ⟨_,rfl,_,rfl,_,rfl,d,_,rfl,gd,by show 2≤sizeLine;decide,fun tt ht=>?_⟩
    refine ⟨_,ts ++ [tt],rfl,by simp,by simp [hts],fun j t' q2 e1 e2=>?_,sX'.trans (zad ht)⟩
    by_cases hj:j<ts.length
    ·rw [List.getElem?_append_left hj] at e1
     exact zad ht _ _ (hall j t' q2 e1 e2)
    ·rw [List.getElem?_append_right (by omega)] at e1
     have hj0:j - ts.length=0:=by
      cases hjj:j - ts.length with
      | zero=>rfl
      | succ n=>rw [hjj] at e1;simp at e1
     rw [hj0] at e1
     have e1:tt=t':=by simpa using e1
     have:j=i:=by omega
     rw [this,hq'] at e2
     cases e2
     rw [← e1];exact zab
   ·rintro ys σ X' ⟨v0,ts,rfl,rfl,hts,hall,sX'⟩ M hM
    refine ⟨M,_,rfl,.inl ⟨SqL.of zab,fun p hp'=>?_⟩⟩
    have sM:=zad (o:=.lst (ts.map V.ref)) hM
    have sp:=zad (o:=.tup (ts.map V.ref)) hp'
    have sAll:=((sX.trans sl).trans sX').trans sM
    refine kp hA p _ (zbh sAll hp') ⟨ts,zab,?_,fun j t' q2 e1 e2=>sp _ _ (sM _ _ (hall j t' q2 e1 (by rw [hlw];exact e2)))⟩ (sAll.trans sp)
    rw [hts,List.length_map,hns,List.length_map,hlw]
abbrev zbR:Stmt:=top 63
theorem sc_law_clash:FnScope ["bits","rows","address","meeting","i","j","words"] ["bits","rows"] (zai zbR):=⟨rfl,rfl,rfl,by decide +kernel,rfl,by decide +kernel,by decide +kernel⟩
def zbt (rs:List Rw) (x n:Nat):List Nat:=(List.range n).filter fun k=>match rs[k]? with | some r=>met r x | none=>false
theorem zgM (rs:List Rw) (x n:Nat):zbt rs x (n+1)=zbt rs x n ++ (match rs[n]? with | some r=>if met r x=true then [n] else [] | none=>[]):=by
 unfold zbt
 rw [List.range_succ,List.filter_append]
 congr 1
 cases h:rs[n]? with
 | none=>simp [List.filter,h]
 | some r =>
  cases hm:met r x <;> simp [List.filter,h,hm]
theorem metsL_mem {rs:List Rw} {x k n:Nat}:k∈zbt rs x n↔k<n∧∃ r,rs[k]? = some r∧met r x=true:=by
 unfold zbt
 rw [List.mem_filter,List.mem_range]
 constructor
 ·rintro ⟨h1,h2⟩
  refine ⟨h1,?_⟩
  cases h:rs[k]? with
  | none=>rw [h] at h2;cases h2
  | some r=>rw [h] at h2;exact ⟨r,rfl,h2⟩
 ·rintro ⟨h1,r,h2,h3⟩
  exact ⟨h1,by rw [h2];exact h3⟩
theorem zeO (rs:List Rw) (x n:Nat):(zbt rs x n).length≤n:=Nat.le_trans (List.length_filter_le _ _) (by rw [List.length_range];exact Nat.le_refl _)
theorem zeN (rs:List Rw) (x n:Nat):(zbt rs x n).Pairwise (· < ·):=List.Pairwise.filter _ List.pairwise_lt_range
theorem zew {M:List Nat} (h:M.Pairwise (· < ·)) {a b i k:Nat} (h1:M[a]? = some i) (h2:M[b]? = some k) (hk:k<i):b<a:=by
 obtain ⟨la,rfl⟩:=List.getElem?_eq_some_iff.mp h1
 obtain ⟨lb,rfl⟩:=List.getElem?_eq_some_iff.mp h2
 rcases Nat.lt_trichotomy b a with h' | h' | h'
 ·exact h'
 ·subst h';omega
 ·have:=List.pairwise_iff_getElem.mp h a b la lb h';omega
theorem zhJ {rs:List Rw} {x k l:Nat} (h:pr13 rs x k l):k∈zbt rs x rs.length∧l∈zbt rs x rs.length:=by
 obtain ⟨_,r,q,e1,e2,_,m1,m2⟩:=h
 exact ⟨metsL_mem.mpr ⟨(List.getElem?_eq_some_iff.mp e1).1,r,e1,m1⟩,metsL_mem.mpr ⟨(List.getElem?_eq_some_iff.mp e2).1,q,e2,m2⟩⟩
def zhq:Sp:=fun vs H Q _=>∃ (R:Addr) (m:Nat) (ws:List (Addr×Rw)),vs=[.int (m:Int),.ref R]∧m≤16∧H R=some (.tup (refs ws))∧ws.length≤60∧RwsAt2 m H ws ∧
 ((∀ i j x,¬ cand (rsOf ws) i j x)→∀ H':Hp,Same H H'→Q .non H') ∧
 ∀ x i j r q,IsDue (rsOf ws) x i j→(rsOf ws)[i]? = some r→(rsOf ws)[j]? = some q→∀ (t p:Addr) (H':Hp),H' t=some (.tup [.int (x:Int),.int (i:Int),.int (j:Int),.ref p])→PrsAt H' p (lwL r.l q.l)→Same H H'→Q (.ref t) H'
theorem zeL {f:Addr} {fd:FuncData} (F:Fun K "_law_clash" "_law_clash" zbR f fd) (T:Blt mg) (G_law_words:Cal P w K mg base 1 "_law_words" ["one","other"] zkE):FnOk P w K mg base CX0 2 f fd ["bits","rows"] zhq:=by
 refine F.ok sc_law_clash (fun vs H Q E h=>?_) (fun cdv A outer s H vs Q E hr h=>?_)
 ·obtain ⟨R,m,ws,rfl,_⟩:=h;rfl
 ·obtain ⟨R,m,ws,rfl,hm,eR,hl,hR,kn,kc⟩:=h
  refine ⟨_,(zac (zaS PassesOwn.never rfl (zaH rfl T.range (zaa (zar zbK zaf (pv 0)) zae)) (zak (i:=2) sc_law_clash.nd rfl (Or.inr rfl))
   (zac (zgB (i:=3) (Nc:=["k","address","rows"]) [none,some 2,some 1] sc_law_clash.nd rfl rfl rfl (za3 (by rfl)) (zaH rfl T.range (zaa (zan zav (by rfl) T.len PySem.boot_len (zaa (pv 1) zae)) zae)) (fun _ _ _ _ _=>(zak (i:=0) (show (["k","address","rows"]:List Str).Nodup by decide +kernel) rfl (Or.inl rfl))) (fun _ _ _ _ _=>(zhQ (zaA zcH (zar zaJ (pv 1) (zas (zbW (K:=K) rfl) (zas (zbW (K:=K) rfl) (pv 2) (pv 0) (fun _ _=>rfl)) zaf (fun _ _=>rfl))) (zas (zbW (K:=K) rfl) (zas (zbW (K:=K) rfl) (pv 2) (pv 0) (fun _ _=>rfl)) zaf (fun _ _=>rfl)) (zay _)))) (fun _ _ _ _ _=>(pv 0)))
   (zag (zaS PassesOwn.never rfl (zdd (pv 3)) (zak (i:=4) sc_law_clash.nd rfl (Or.inl rfl))
   (zag (zaS PassesOwn.never rfl (zdd (pv 3)) (zak (i:=5) sc_law_clash.nd rfl (Or.inl rfl))
   (zac (zat (i:=6) sc_law_clash.nd rfl (Or.inl rfl) zca)
   (zac (zaD (zaA zgF (pv 4) (pv 5) (zay _)) (zag (zat (i:=6) sc_law_clash.nd rfl (Or.inl rfl) (zal G_law_words (hr.mono (by walk_at "m")) rfl (zaa (zas zap (pv 1) (pv 4) (fun _ _=>rfl)) (zaa (zas zap (pv 1) (pv 5) (fun _ _=>rfl)) zae))))) zaq)
   (zag (zaD (za6 (zct (pv 6))) (zag (zao (zb9 (zaa (pv 2) (zaa (pv 4) (zaa (pv 5) (zaa (pv 6) zae))))))) zaq))))))))))
   (zag (zao zca))),?rd⟩
  have e1:(1:Int) * 2 ^ ((m:Nat):Int).toNat=((2 ^ m:Nat):Int):=by rw [Int.one_mul,Int.toNat_natCast];norm_cast
  have h2m:2 ^ m≤2 ^ 16:=Nat.pow_le_pow_right (by decide) hm
  have hrs:(rsOf ws).length=ws.length:=List.length_map ..
  have hok:∀ r∈rsOf ws,RwOk m r:=fun r hr'=>by
   obtain ⟨z,hz,rfl⟩:=List.mem_map.mp hr'
   exact (hR z hz).2
  refine ⟨_,rfl,_,_,rfl,rfl,⟨by omega,by omega,by decide⟩,_,rfl,?_,?_,?_⟩
  ·rw [e1];exact Int.le_trans (by decide) (Int.natCast_nonneg _)
  ·rw [e1];exact Int.lt_of_le_of_lt (Int.ofNat_le.mpr h2m) (by decide)
  rw [e1,Int.toNat_natCast]
  refine za2 (n:=2 ^ m) (fun x σ X=>∃ (v2 v3 v4 v5 v6:Option V),σ=[some (.int (m:Int)),some (.ref R),v2,v3,v4,v5,v6]∧Same H X∧∀ y,y<x→∀ k l,¬ pr13 (rsOf ws) y k l) ⟨_,_,_,_,_,rfl,Same.refl _,(fun y hy=>by omega)⟩ ?_ ?_
  ·rintro x σ X hx ⟨v2,v3,v4,v5,v6,rfl,sX,hno⟩
   rw [Int.zero_add]
   have eX:=sX _ _ eR
   refine ⟨_,rfl,R,_,rfl,.inr (SqT.of eX),_,rfl,by omega,by rw [zau];omega,?_⟩
   rw [Int.toNat_natCast,zau]
   refine zdQ (n:=ws.length) (fun i ys σ X'=>∃ v0:Option V,σ=[v0,some (.int (x:Int)),some (.ref R)]∧ys=vN (zbt (rsOf ws) x i)∧X'=X) (Nat.le_trans hl (by decide)) ⟨none,rfl,rfl,rfl⟩ ?_ ?_ ?_
   ·rintro i ys σ X' ⟨v0,rfl,rfl,rfl⟩
    rw [zaG];exact zeO _ _ _
   ·rintro i ys σ X' hi ⟨v0,rfl,rfl,rfl⟩
    rw [Int.zero_add]
    obtain ⟨z,hz⟩:∃ z,ws[i]? = some z:=⟨_,List.getElem?_eq_getElem hi⟩
    have hzi:(rsOf ws)[i]? = some z.2:=by unfold rsOf;rw [List.getElem?_map,hz];rfl
    obtain ⟨lt,ez,hlt⟩:=(hR z (List.mem_of_getElem? hz)).1.same sX
    have succ:=zgM (rsOf ws) x i
    rw [hzi] at succ
    have succ:zbt (rsOf ws) x (i+1)=zbt (rsOf ws) x i ++ (if met z.2 x=true then [i] else []):=succ
    refine ⟨_,rfl,_,rfl,_,rfl,R,_,_,_,rfl,rfl,SqT.of eX,zaL (zbT hz),z.1,_,_,_,rfl,rfl,SqT.of ez,rfl,_,_,rfl,rfl,_,rfl,_,rfl,R,_,_,_,rfl,rfl,SqT.of eX,zaL (zbT hz),z.1,_,_,_,rfl,rfl,SqT.of ez,rfl,rfl,_,rfl,?_⟩
    rw [met_eq]
    cases hm':met z.2 x with
    | true=>exact ⟨_,rfl,_,rfl,by rw [succ,hm',if_pos rfl,zfi],rfl⟩
    | false=>exact ⟨_,rfl,by rw [succ,hm'];simp,rfl⟩
   ·rintro ys σ X' ⟨v0,rfl,rfl,rfl⟩ M hM
    have sM:=zad (o:=.lst (vN (zbt (rsOf ws) x ws.length))) hM
    have sXM:=sX.trans sM
    rw [← hrs]
    have eM:upd X' M (.lst (vN (zbt (rsOf ws) x (rsOf ws).length))) M=some (.lst (vN (zbt (rsOf ws) x (rsOf ws).length))):=zab
    rw [← hrs] at sM sXM
    generalize upd X' M (.lst (vN (zbt (rsOf ws) x (rsOf ws).length)))=Y at *
    have srt:=zeN (rsOf ws) x (rsOf ws).length
    have hml:=zeO (rsOf ws) x (rsOf ws).length
    have hmem:∀ k,k∈zbt (rsOf ws) x (rsOf ws).length↔_:=fun k=>metsL_mem
    generalize hMM:zbt (rsOf ws) x (rsOf ws).length=MM at *
    dsimp (proj:=false) only [za1,List.set]
    refine ⟨_,rfl,M,rfl,⟨_,SqL.of eM⟩,?_⟩
    refine zcS (K:=K) (a:=M) (xs:=vN MM) (fun a σ Z=>∃ (v4 v5 v6:Option V),σ=[some (.int (m:Int)),some (.ref R),some (.int (x:Int)),some (.ref M),v4,v5,v6]∧Same Y Z∧∀ a' i',a'<a→MM[a']? = some i'→∀ l,¬ pr13 (rsOf ws) x i' l) ⟨_,_,_,rfl,Same.refl _,(fun a' i' h=>by omega)⟩ (fun a σ Z ha ⟨_,_,_,_,sZ,_⟩=>SqL.of (sZ _ _ eM)) ?_ ?_
    ·rintro a v σ Z hv ⟨v4,v5,v6,rfl,sZ,hA⟩
     unfold vN at hv
     rw [List.getElem?_map] at hv
     obtain ⟨i,hi,rfl⟩:=Option.map_eq_some_iff.mp hv
     obtain ⟨hil,r,hri,hmi⟩:=(hmem i).mp (List.mem_of_getElem? hi)
     refine ⟨_,rfl,M,rfl,⟨_,SqL.of (sZ _ _ eM)⟩,?_⟩
     refine zcS (K:=K) (a:=M) (xs:=vN MM) (fun b σ W=>∃ (v5 v6:Option V),σ=[some (.int (m:Int)),some (.ref R),some (.int (x:Int)),some (.ref M),some (.int (i:Int)),v5,v6]∧Same Y W∧∀ b' j',b'<b→MM[b']? = some j'→¬ pr13 (rsOf ws) x i j') ⟨_,_,rfl,sZ,(fun a' i' h=>by omega)⟩ (fun a σ Z ha ⟨_,_,_,sZ,_⟩=>SqL.of (sZ _ _ eM)) ?_ ?_
     ·rintro b v σ W hv ⟨v5,v6,rfl,sW,hB⟩
      unfold vN at hv
      rw [List.getElem?_map] at hv
      obtain ⟨j,hj,rfl⟩:=Option.map_eq_some_iff.mp hv
      obtain ⟨hjl,q,hqj,hmj⟩:=(hmem j).mp (List.mem_of_getElem? hj)
      obtain ⟨zi,hzi,rfl⟩:=Option.map_eq_some_iff.mp (show (ws[i]?).map (·.2)=some r by rw [← List.getElem?_map];exact hri)
      obtain ⟨zj,hzj,rfl⟩:=Option.map_eq_some_iff.mp (show (ws[j]?).map (·.2)=some q by rw [← List.getElem?_map];exact hqj)
      have eW:=sW _ _ (sXM _ _ eR)
      obtain ⟨ri,oki⟩:=hR zi (List.mem_of_getElem? hzi)
      obtain ⟨rj,okj⟩:=hR zj (List.mem_of_getElem? hzj)
      have sHW:=sXM.trans sW
      have npr:latA zi.2.l zj.2.l=false→¬ pr13 (rsOf ws) x i j:=fun h ⟨_,r',q',g1,g2,g3,_⟩=>by
       rw [hri] at g1;cases g1
       rw [hqj] at g2;cases g2
       have:=(clash_parts.mp g3).2
       rw [h] at this;cases this
      dsimp (proj:=false) only [za1,List.set]
      refine zaw (fun σ G=>σ=[some (.int (m:Int)),some (.ref R),some (.int (x:Int)),some (.ref M),some (.int (i:Int)),some (.int (j:Int)),v6]∧G=W) (fun σ G=>σ=[some (.int (m:Int)),some (.ref R),some (.int (x:Int)),some (.ref M),some (.int (i:Int)),some (.int (j:Int)),some .non]∧G=W) (fun σ G ⟨e1,e2⟩ N hN=>hN _ _ ⟨by rw [e1];rfl,e2⟩) ?_ _ _ ⟨rfl,rfl⟩
      rintro σ W' ⟨rfl,rfl⟩
      refine zaw (fun σ G=>σ=[some (.int (m:Int)),some (.ref R),some (.int (x:Int)),some (.ref M),some (.int (i:Int)),some (.int (j:Int)),some .non]∧G=W')
       (fun σ G=>∃ w:V,σ=[some (.int (m:Int)),some (.ref R),some (.int (x:Int)),some (.ref M),some (.int (i:Int)),some (.int (j:Int)),some w]∧Same W' G∧((w = .non∧¬ pr13 (rsOf ws) x i j)∨∃ p,w = .ref p∧PrsAt G p (lwL zi.2.l zj.2.l)∧pr13 (rsOf ws) x i j)) ?_ ?_ _ _ ⟨rfl,rfl⟩
      ·rintro σ G ⟨rfl,rfl⟩ N hN
       refine ⟨_,rfl,_,rfl,_,_,rfl,rfl,_,rfl,ite2 (fun h=>?_) (fun h=>?_)⟩
       ·have hij:i<j:=by have:=of_decide_eq_true h;omega
        refine ⟨_,rfl,_,rfl,R,_,_,_,rfl,rfl,SqT.of eW,zaL (zbT hzi),_,rfl,_,rfl,R,_,_,_,rfl,rfl,SqT.of eW,zaL (zbT hzj),zi.1,zj.1,zi.2,zj.2,rfl,ri.same sHW,rj.same sHW,oki.l0,okj.l0,fun hA' G' sG=>hN _ _ ⟨.non,rfl,sG,.inl ⟨rfl,npr hA'⟩⟩,fun hA' p G' hp hpr sG=>hN _ _ ⟨.ref p,rfl,sG,.inr ⟨p,rfl,hpr,hij,zi.2,zj.2,hri,hqj,clash_parts.mpr ⟨?_,hA'⟩,hmi,hmj⟩⟩⟩
        exact zcf (w:=x) (of_decide_eq_true hmi) (of_decide_eq_true hmj)
       ·exact hN _ _ ⟨.non,rfl,Same.refl _,.inl ⟨rfl,fun hp=>h (decide_eq_true (by have:=hp.1;omega))⟩⟩
      ·rintro σ G ⟨w',rfl,sG,⟨rfl,hnp⟩ | ⟨p,rfl,hpr,hp13⟩⟩
       ·refine ⟨_,rfl,_,rfl,iteF ⟨_,_,rfl,sW.trans sG,fun b' j' hb hj'=>?_⟩⟩
        by_cases hbb:b'<b
        ·exact hB b' j' hbb hj'
        ·obtain rfl:b'=b:=by omega
         rw [hj] at hj'
         cases hj'
         exact hnp
       ·refine ⟨_,rfl,_,rfl,iteT ⟨_,rfl,_,rfl,_,rfl,_,rfl,by show 4≤sizeLine;decide,fun t ht=>?_⟩⟩
        have sT:=zad (o:=.tup [.int (x:Int),.int (i:Int),.int (j:Int),.ref p]) ht
        refine kc x i j zi.2 zj.2 (zik hok hp13 hno fun k l hkl=>?_) hri hqj t p _ zab (hpr.same sT) ((sHW.trans sG).trans sT)
        obtain ⟨hk,hl'⟩:=zhJ hkl
        rw [hMM] at hk hl'
        obtain ⟨a',ha'⟩:=List.getElem?_of_mem hk
        obtain ⟨b',hb'⟩:=List.getElem?_of_mem hl'
        rcases Nat.lt_trichotomy i k with h1 | h1 | h1
        ·exact .inl h1
        ·refine .inr ⟨h1,?_⟩
         subst h1
         rcases Nat.lt_or_ge l j with h2 | h2
         ·exact absurd hkl (hB b' l (zew srt hj hb' h2) hb')
         ·exact h2
        ·exact absurd hkl (hA a' k (zew srt hi ha' h1) ha' l)
     ·rintro σ W ⟨v5,v6,rfl,sW,hB⟩
      refine ⟨_,_,_,rfl,sW,fun a' i' ha hi' l hp=>?_⟩
      by_cases haa:a'<a
      ·exact hA a' i' haa hi' l hp
      ·obtain rfl:a'=a:=by omega
       rw [hi] at hi'
       cases hi'
       obtain ⟨_,hl'⟩:=zhJ hp
       rw [hMM] at hl'
       obtain ⟨b',hb'⟩:=List.getElem?_of_mem hl'
       exact hB b' l (by have:=(List.getElem?_eq_some_iff.mp hb').1;rw [zaG];exact this) hb' hp
    ·rintro σ Z ⟨v4,v5,v6,rfl,sZ,hA⟩
     refine ⟨_,_,_,_,_,rfl,sXM.trans sZ,fun y hy k l hp=>?_⟩
     by_cases hyx:y<x
     ·exact hno y hyx k l hp
     ·obtain rfl:y=x:=by omega
      obtain ⟨hk,_⟩:=zhJ hp
      rw [hMM] at hk
      obtain ⟨a',ha'⟩:=List.getElem?_of_mem hk
      exact hA a' k (by have:=(List.getElem?_eq_some_iff.mp ha').1;rw [zaG];exact this) ha' l hp
  ·rintro σ X ⟨v2,v3,v4,v5,v6,rfl,sX,hno⟩
   exact kn (no_due hok hno) X sX
abbrev zbS:Stmt:=top 64
theorem sc_law_board:FnScope ["bits","rows","chips","caught","e"] ["bits","rows","chips"] (zai zbS):=⟨rfl,rfl,rfl,by decide +kernel,rfl,by decide +kernel,by decide +kernel⟩
def zkG (C CT:Addr) (cs:Nat→Addr):Sp:=fun vs H Q _=>∃ (R L:Addr) (m:Nat) (D:Dt) (us:Nat→List Nat) (ws:List (Addr×Rw)),vs=[.int (m:Int),.ref R,.ref L]∧1≤m∧m≤16∧RwsFor D m H R ws∧H L=some (.lst (chL D))∧Chs cs D H us ∧
 ((∀ i j x,¬ cand (rsOf ws) i j x)→∀ H':Hp,Same H H'→Q .non H') ∧
 ∀ x i j r q,IsDue (rsOf ws) x i j→(rsOf ws)[i]? = some r→(rsOf ws)[j]? = some q→∀ (t p:Addr) (H':Hp),H' t=some (.tup [.int (x:Int),.int (i:Int),.int (j:Int),.ref p])→PrsAt H' p (lwL r.l q.l)→Same H H'→Q (.ref t) H'
theorem zeM {f C CT:Addr} {cs:Nat→Addr} {fd:FuncData} (F:Fun K "_law_board" "_law_board" zbS f fd) (T:Blt mg) (GMXBoard_3:MakX P w K mg base 7 "Board" C [] (dP [.int 0]) (zdY C CT cs)) (GEClash:mg "Clash" = some (.ref CT)) (xm:PySem.W.exmOne K (.ref CT) (.ref CT)=some true) (xc:XCls K CT) (hh:PySem.W.hasDictIn K CT=true)
  (f1:PySem.W.findIn K (.ref CT) "address" = some none) (f2:PySem.W.findIn K (.ref CT) "first" = some none) (f3:PySem.W.findIn K (.ref CT) "second" = some none) (f4:PySem.W.findIn K (.ref CT) "words" = some none):FnOk P w K mg base CX0 9 f fd ["bits","rows","chips"] (zkG C CT cs):=by
 refine F.ok sc_law_board (fun vs H Q E h=>?_) (fun cdv A outer s H vs Q E hr h=>?_)
 ·obtain ⟨R,L,m,D,us,ws,rfl,_⟩:=h;rfl
 ·obtain ⟨R,L,m,D,us,ws,rfl,h1,h2,hR,eL,S,kn,kc⟩:=h
  refine ⟨_,(zac (zat (i:=3) sc_law_board.nd rfl (Or.inl rfl) zca)
   (zac (zkP (j:=4) (fun pins E=>(zag (zaZ (zkW GMXBoard_3 (hr.mono (by walk_at "m")) rfl (zgE rfl) (zaa (pv 0) (zaa (pv 1) (zaa (pv 2) zae))))))) (fun ea=>(zag (zat (i:=3) sc_law_board.nd rfl (Or.inl rfl) (pv 4)))) rfl sc_law_board.nd rfl rfl GEClash ⟨rfl,rfl⟩ rfl (fun ea=>rfl))
   (zac (zaD (za6 (zbJ (pv 3))) (zag (zao zca)) zaq)
   (zag (zao (zb9 (zaa (zea (pv 3) rfl) (zaa (zea (pv 3) rfl) (zaa (zea (pv 3) rfl) (zaa (zea (pv 3) rfl) zae)))))))))),?rd⟩
  refine ⟨_,rfl,_,rfl,_,rfl,fun b db hb hdb ne=>?_⟩
  have s0:Same H (upd (upd H db (.own b)) b (.ins C db [])):=(zad hdb).trans (zad (by rw [zah (Ne.symm ne)];exact hb))
  refine ⟨b,db,R,L,m,0,D,us,ws,rfl,zab,h1,h2,by decide,hR.same s0,s0 _ _ eL,S.same s0,fun hn H1 fr=>⟨rfl,?_⟩,fun x i j r q hd g1 g2 dx p H1 e1 e2 s1=>⟨xm,fun ea hea=>?_⟩⟩
  ·exact ⟨_,rfl,_,rfl,iteT (kn hn H1 fun a o ea=>fr a o (zaj ea hb) (s0 _ _ ea))⟩
  ·have sA:=zad (o:=.ext (xIs ea (.ref CT) (some dx))) hea
   refine ⟨_,rfl,_,rfl,_,rfl,iteF (zaN ?_)⟩
   dsimp only
   refine ⟨_,rfl,ea,CT,dx,_,_,rfl,zab,sA _ _ e1,xc,hh,f1,rfl,_,rfl,ea,CT,dx,_,_,rfl,zab,sA _ _ e1,xc,hh,f2,rfl,_,rfl,ea,CT,dx,_,_,rfl,zab,sA _ _ e1,xc,hh,f3,rfl,_,rfl,ea,CT,dx,_,_,rfl,zab,sA _ _ e1,xc,hh,f4,rfl,by show 4≤sizeLine;decide,fun t ht=>?_⟩
   have sT:=sA.trans (zad (o:=.tup [.int (x:Int),.int (i:Int),.int (j:Int),.ref p]) ht)
   exact kc x i j r q hd g1 g2 t p _ zab (e2.same sT) ((s0.trans s1).trans sT)
abbrev zbm:Stmt:=top 65
theorem sc_law_answers:FnScope ["rows","address","words","found","k","latch"] ["rows","address","words"] (zai zbm):=⟨rfl,rfl,rfl,by decide +kernel,rfl,by decide +kernel,by decide +kernel⟩
def zd1:Sp:=fun vs H Q _=>∃ (p d:Addr) (x:Nat) (ws:List (Addr×Rw)) (keys:List Nat) (g:Nat→Nat),vs=[.ref p,.int (x:Int),.ref d]∧H p=some (.tup (refs ws))∧ws.length≤100∧(∀ z∈ws,RwAt H z.1 z.2)∧H d=some (.dK (dV keys g)) ∧
 ∀ (L:Addr) (H':Hp),H L=none→H' L=some (.lst (vN (ansL (ws.map (·.2)) x (wrd keys g) ws.length)))→Same H H'→Q (.ref L) H'
theorem zdx {f:Addr} {fd:FuncData} (F:Fun K "_law_answers" "_law_answers" zbm f fd) (T:Blt mg) (Gmeets:Cal P w K mg base 1 "meets" ["row","address"] zf0):FnOk P w K mg base CX0 2 f fd ["rows","address","words"] zd1:=by
 refine F.ok sc_law_answers (fun vs H Q E h=>?_) (fun cdv A outer s H vs Q E hr h=>?_)
 ·obtain ⟨p,d,x,ws,keys,g,rfl,_⟩:=h;rfl
 ·obtain ⟨p,d,x,ws,keys,g,rfl,ep,hl,hR,ed,k⟩:=h
  refine ⟨_,(zac (zat (i:=3) sc_law_answers.nd rfl (Or.inl rfl) (zaQ zae))
   (zac (zaS PassesOwn.never rfl (zaH rfl T.range (zaa (zan zav (by rfl) T.len PySem.boot_len (zaa (pv 0) zae)) zae)) (zak (i:=4) sc_law_answers.nd rfl (Or.inl rfl))
   (zac (zat (i:=5) sc_law_answers.nd rfl (Or.inl rfl) (zas zap (zas zap (pv 0) (pv 4) (fun _ _=>rfl)) zaf (fun _ _=>rfl)))
   (zag (zaD (PW.pt (zeC (zaF (zal Gmeets (hr.mono (by walk_at "m")) rfl (zaa (zas zap (pv 0) (pv 4) (fun _ _=>rfl)) (zaa (pv 1) zae)))) (zdc (PW.pt (zb6 (za6 (zbJ (pv 5))) (zbA (zaA zcH (zar zaJ (zcc (zbu hr) (pv 2) (zas zap (pv 5) zaf (fun _ _=>rfl)) zaf ⟨rfl,rfl,rfl,rfl⟩) (zas zap (pv 5) zaf (fun _ _=>rfl))) (zas zap (pv 5) zaf (fun _ _=>rfl)) (zay _)))))))) (zag (zaZ (zji PySem.F.plainAttrs_list PySem.F.slot_list_append PySem.F.type_list_append zcd (pv 3) (zaa (pv 4) zae)))) zaq))))
   (zag (zao (pv 3))))),?rd⟩
  refine ⟨by show 0≤sizeLine;decide,fun fa hfa=>?_⟩
  have s1:=zad (o:=.lst []) hfa
  refine ⟨_,rfl,p,_,rfl,.inr (SqT.of (s1 _ _ ep)),_,rfl,by omega,by rw [zau];omega,?_⟩
  rw [Int.toNat_natCast,zau]
  refine za2 (n:=ws.length) (fun i σ X=>∃ (v4 v5:Option V),σ=[some (.ref p),some (.int (x:Int)),some (.ref d),some (.ref fa),v4,v5]∧X fa=some (.lst (vN (ansL (ws.map (·.2)) x (wrd keys g) i)))∧Same H X) ⟨_,_,rfl,zab,s1⟩ ?_ ?_
  ·rintro i σ X hi ⟨v4,v5,rfl,efa,sX⟩
   rw [Int.zero_add]
   obtain ⟨z,hz⟩:∃ z,ws[i]? = some z:=⟨_,List.getElem?_eq_getElem hi⟩
   have hzi:(ws.map (·.2))[i]? = some z.2:=by rw [List.getElem?_map,hz];rfl
   obtain ⟨lt,ez,hlt⟩:=(hR z (List.mem_of_getElem? hz)).same sX
   have eX:=sX _ _ ep
   have edX:=sX _ _ ed
   have succ:=ziL (ws.map (·.2)) x (wrd keys g) i
   rw [hzi] at succ
   have succ:ansL (ws.map (·.2)) x (wrd keys g) (i+1)=ansL (ws.map (·.2)) x (wrd keys g) i ++ (if ans z.2 x (wrd keys g)=true then [i] else []):=succ
   have no:ans z.2 x (wrd keys g)=false→ansL (ws.map (·.2)) x (wrd keys g) (i+1)=ansL (ws.map (·.2)) x (wrd keys g) i:=fun h=>by rw [succ,h];simp
   have yes:ans z.2 x (wrd keys g)=true→∀ D:Ends,(∀ σ X,(∃ (v4 v5:Option V),σ=[some (.ref p),some (.int (x:Int)),some (.ref d),some (.ref fa),v4,v5]∧X fa=some (.lst (vN (ansL (ws.map (·.2)) x (wrd keys g) (i+1))))∧Same H X)→D.nx σ X)→tDrop (tBM K "list" zhG (tVar 3) (tCons (tVar 4) tNil)) D [some (.ref p),some (.int (x:Int)),some (.ref d),some (.ref fa),some (.int (i:Int)),some lt] X:=fun h D hD=>by
    refine ⟨_,rfl,.inl ⟨rfl,_,SqL.of efa⟩,_,rfl,fa,_,_,rfl,rfl,efa,?_,?_⟩
    ·rw [zaG];exact Nat.lt_of_le_of_lt (Nat.le_trans (zjT _ _ _ _) (show i≤100 by omega)) (by decide)
    ·refine hD _ _ ⟨_,_,rfl,?_,fun y o e=>by rw [zah (zaj e hfa)];exact sX _ _ e⟩
     rw [zab,succ,if_pos h,zfi]
   refine ⟨_,rfl,_,rfl,p,_,_,_,rfl,rfl,SqT.of eX,zaL (zbT hz),z.1,_,_,_,rfl,rfl,SqT.of ez,rfl,?_⟩
   dsimp only [za1,List.set]
   refine ⟨_,rfl,_,rfl,p,_,_,_,rfl,rfl,SqT.of eX,zaL (zbT hz),_,rfl,z.1,z.2,x,rfl,⟨lt,ez,hlt⟩,_,rfl,ite2 (fun h1=>?_) (fun h1=>?_)⟩
   ·cases hl':z.2.l with
    | none =>
     rw [hl'] at hlt
     obtain rfl:lt = .non:=hlt
     refine ⟨_,rfl,_,rfl,iteT (iteT (yes ?_ _ fun _ _ z=>z))⟩
     unfold ans awk
     rw [h1,hl'];rfl
    | some o =>
     obtain ⟨c,u,v⟩:=o
     rw [hl'] at hlt
     obtain ⟨lp,rfl,elp⟩:=hlt
     refine ⟨_,rfl,_,rfl,iteF ?_⟩
     refine ⟨_,rfl,d,rfl,.inl ⟨_,.inl edX⟩,_,rfl,lp,_,_,_,rfl,rfl,SqT.of elp,rfl,_,DGet.k (k:=Sum.inl (c:Int)) edX,?_⟩
     rw [zkj]
     refine ⟨_,rfl,lp,_,_,_,rfl,rfl,SqT.of elp,rfl,_,_,rfl,rfl,_,rfl,lp,_,_,_,rfl,rfl,SqT.of elp,rfl,rfl,_,rfl,?_⟩
     rw [zkr hl']
     refine ite2 (fun h2=>yes (by unfold ans;rw [h1,h2];rfl) _ fun _ _ z=>z) (fun h2=>⟨_,_,rfl,by rw [no (by unfold ans;rw [Bool.eq_false_iff.mpr h2,Bool.and_false])];exact efa,sX⟩)
   ·exact iteF ⟨_,_,rfl,by rw [no (by unfold ans;rw [Bool.eq_false_iff.mpr h1,Bool.false_and])];exact efa,sX⟩
  ·rintro σ X ⟨v4,v5,rfl,efa,sX⟩
   exact ⟨_,rfl,k fa X hfa efa sX⟩
theorem zgp (m w n v:Nat):agr m w n v=agr n v m w:=by
 unfold agr;rw [Nat.xor_comm w v,Nat.and_assoc,Nat.and_comm m n,← Nat.and_assoc]
theorem zh3:∀ (o p:Option (Nat×Nat×Nat)),latA o p=latA p o
 | none,none=>rfl
 | none,some (_,_,_)=>rfl
 | some (_,_,_),none=>rfl
 | some (c,u,v),some (d,u',v')=>by
  show (if c=d then agr u v u' v' else true)=(if d=c then agr u' v' u v else true)
  by_cases e:c=d
  ·rw [if_pos e,if_pos e.symm,zgp]
  ·rw [if_neg e,if_neg (Ne.symm e)]
theorem zg1 (r q:Rw):zbD r q=zbD q r:=by unfold zbD;rw [zgp,zh3]
theorem zk8 {ws:List (Addr×Rw)} (h:ws.Pairwise fun a b=>zbD a.2 b.2=false):ws.Pairwise fun a b=>NC a.2 b.2:=h.imp fun h=>⟨h,by rw [zg1];exact h⟩
def hd0 (l:List Nat):V:=match l with
 | []=>.non
 | i :: _=>.int (i:Int)
theorem zjE (l:List Nat):hd0 l = .non∨∃ i:Int,hd0 l = .int i:=by
 cases l with
 | nil=>exact .inl rfl
 | cons i _=>exact .inr ⟨_,rfl⟩
theorem hd0_at (l:List Nat):(vN l ++ [V.non])[0]? = some (hd0 l):=by cases l <;> rfl
theorem fst_hd (rs:List Rw) (x:Nat) (W:Nat→Nat):fstA rs x W=hd0 (ansL rs x W rs.length):=by
 unfold fstA
 cases e:rs.findIdx? (fun r=>ans r x W) with
 | none =>
  have:ansL rs x W rs.length=[]:=by
   rw [List.eq_nil_iff_forall_not_mem]
   intro k hk
   obtain ⟨_,r,e1,e2⟩:=ansL_mem.mp hk
   have:=List.findIdx?_eq_none_iff.mp e r (List.mem_of_getElem? e1)
   rw [e2] at this;cases this
  rw [this];rfl
 | some i =>
  obtain ⟨hi,h1,h2⟩:=List.findIdx?_eq_some_iff_getElem.mp e
  have hm:i∈ansL rs x W rs.length:=ansL_mem.mpr ⟨hi,rs[i],List.getElem?_eq_getElem hi,h1⟩
  cases hl:ansL rs x W rs.length with
  | nil=>rw [hl] at hm;cases hm
  | cons h tl =>
   have hs:=zdv rs x W rs.length
   have hh:h∈ansL rs x W rs.length:=by rw [hl];exact List.mem_cons_self
   rw [hl] at hm hs
   obtain ⟨hb,r,e1,e2⟩:=ansL_mem.mp hh
   have:h=i:=by
    rcases List.mem_cons.mp hm with z | z
    ·exact z.symm
    ·have lt:=(List.pairwise_cons.mp hs).1 i z
     obtain ⟨a1,rfl⟩:=List.getElem?_eq_some_iff.mp e1
     exact absurd e2 (h2 h lt)
   rw [this];rfl
theorem zjB (ws:List (Addr×Rw)) (x:Nat) (W:Nat→Nat):zeT (awks ws W) x=decide (ansL (ws.map (·.2)) x W ws.length=[]):=by
 rw [Bool.eq_iff_iff,decide_eq_true_iff]
 unfold zeT awks
 rw [List.all_eq_true]
 constructor
 ·intro h
  rw [List.eq_nil_iff_forall_not_mem]
  intro k hk
  obtain ⟨_,r,e1,e2⟩:=ansL_mem.mp hk
  unfold ans at e2
  rw [Bool.and_eq_true] at e2
  rw [List.getElem?_map] at e1
  obtain ⟨z,hz,rfl⟩:=Option.map_eq_some_iff.mp e1
  have:=h z.2 (List.mem_map.mpr ⟨z,List.mem_filter.mpr ⟨List.mem_of_getElem? hz,e2.2⟩,rfl⟩)
  rw [e2.1] at this;cases this
 ·intro h r hr
  obtain ⟨z,hz,rfl⟩:=List.mem_map.mp hr
  obtain ⟨h1,h2⟩:=List.mem_filter.mp hz
  cases hm:met z.2 x with
  | false=>rfl
  | true =>
   obtain ⟨k,hk⟩:=List.mem_iff_getElem?.mp h1
   have:k∈ansL (ws.map (·.2)) x W ws.length:=ansL_mem.mpr ⟨(List.getElem?_eq_some_iff.mp hk).1,z.2,by rw [List.getElem?_map,hk];rfl,by unfold ans;rw [hm,h2];rfl⟩
   rw [h] at this;cases this
theorem ziK {r q:Rw} {x:Nat} {W:Nat→Nat} (h1:ans r x W=true) (h2:ans q x W=true):zbD r q=true:=by
 unfold ans at h1 h2
 rw [Bool.and_eq_true] at h1 h2
 refine clash_parts.mpr ⟨zcf (w:=x) (of_decide_eq_true h1.1) (of_decide_eq_true h2.1),?_⟩
 have a1:=h1.2
 have a2:=h2.2
 unfold awk at a1 a2
 match hr:r.l,hq:q.l with
 | none,none=>rfl
 | none,some (_,_,_)=>rfl
 | some (_,_,_),none=>rfl
 | some (c,u,v),some (d,u',v') =>
  rw [hr] at a1
  rw [hq] at a2
  show (if c=d then agr u v u' v' else true)=true
  by_cases z:c=d
  ·subst z
   rw [if_pos rfl]
   exact zcf (w:=W c) (of_decide_eq_true a1) (of_decide_eq_true a2)
  ·rw [if_neg z]
theorem zlw {ws:List (Addr×Rw)} (h:ws.Pairwise fun a b=>NC a.2 b.2) (x:Nat) (W:Nat→Nat):(ansL (ws.map (·.2)) x W ws.length).length≤1:=by
 rcases Nat.lt_or_ge 1 (ansL (ws.map (·.2)) x W ws.length).length with hl | hl
 ·exfalso
  have hs:=zdv (ws.map (·.2)) x W ws.length
  have hij:=List.pairwise_iff_getElem.mp hs 0 1 (by omega) hl (by omega)
  have m0:(ansL (ws.map (·.2)) x W ws.length)[0]∈ansL (ws.map (·.2)) x W ws.length:=List.getElem_mem _
  have m1:(ansL (ws.map (·.2)) x W ws.length)[1]∈ansL (ws.map (·.2)) x W ws.length:=List.getElem_mem _
  generalize (ansL (ws.map (·.2)) x W ws.length)[0]=i at *
  generalize (ansL (ws.map (·.2)) x W ws.length)[1]=j at *
  obtain ⟨hi,r,e1,a1⟩:=ansL_mem.mp m0
  obtain ⟨hj,q,e2,a2⟩:=ansL_mem.mp m1
  rw [List.getElem?_map,List.getElem?_eq_getElem hi] at e1
  rw [List.getElem?_map,List.getElem?_eq_getElem hj] at e2
  cases e1
  cases e2
  have:=(List.pairwise_iff_getElem.mp h i j hi hj hij).1
  rw [ziK a1 a2] at this
  cases this
 ·exact hl
theorem zjC (rs:List Rw) (n:Nat):hol rs 0 (n+1)=hol rs 0 n+(zeT rs n).toNat:=by rw [zll,zlk,Nat.zero_add]
abbrev zda:Stmt:=top 66
theorem sc_law_one:FnScope ["bits","rows","latches","bag","turn","words","chip","none","address","found"] ["bits","rows","latches","bag"] (zai zda):=⟨rfl,rfl,rfl,by decide +kernel,rfl,by decide +kernel,by decide +kernel⟩
def zkF:Sp:=fun vs H Q _=>∃ (p R:Addr) (m nl n:Nat) (ws:List (Addr×Rw)),vs=[.int (m:Int),.ref R,.int (nl:Int),.ref p]∧m≤16∧1≤nl∧nl≤2∧H R=some (.tup (refs ws))∧RwsAt2 m H ws∧ws.length≤60∧(ws.Pairwise fun a b=>NC a.2 b.2)∧Bg H p n∧n+1000<2 ^ 40∧∀ H':Hp,KeepP p H H'→Q (.bl true) H'
theorem zgK {f:Addr} {fd:FuncData} (F:Fun K "_law_one" "_law_one" zda f fd) (T:Blt mg) (G_law_draw:Cal P w K mg base 1 "_law_draw" ["bag","many"] spDw) (G_law_answers:Cal P w K mg base 2 "_law_answers" ["rows","address","words"] zd1) (G_law_same:Cal P w K mg base 4 "_law_same" ["found","due"] (zbw 3)) (Ganswering:Cal P w K mg base 2 "answering" ["rows","address","words"] zhr) (Gunanswered:Cal P w K mg base 4 "unanswered" ["bits","rows","words"] zdW):FnOk P w K mg base CX0 5 f fd ["bits","rows","latches","bag"] zkF:=by
 refine F.ok sc_law_one (fun vs H Q E h=>?_) (fun cdv A outer s H vs Q E hr h=>?_)
 ·obtain ⟨p,R,m,nl,n,ws,rfl,_⟩:=h;rfl
 ·obtain ⟨p,R,m,nl,n,ws,rfl,m2,l1,l2,eR,hR,hl,hnc,bg,hn,k⟩:=h
  refine ⟨_,(zac (zaS PassesOwn.never rfl (zaH rfl T.range (zaa zaf zae)) (zak (i:=4) sc_law_one.nd rfl (Or.inl rfl))
   (zac (zat (i:=5) sc_law_one.nd rfl (Or.inl rfl) zcb)
   (zac (zaS PassesOwn.never rfl (zaH rfl T.range (zaa (pv 2) zae)) (zak (i:=6) sc_law_one.nd rfl (Or.inl rfl))
   (zag (zaD (zaA zjk (zal G_law_draw (hr.mono (by walk_at "m")) rfl (zaa (pv 3) (zaa zaf zae))) zaf (zay _)) (zag (zd7 (zbu hr) (pv 5) (pv 6) (zal G_law_draw (hr.mono (by walk_at "m")) rfl (zaa (pv 3) (zaa zaf zae))) rfl)) zaq)))
   (zac (zat (i:=7) sc_law_one.nd rfl (Or.inl rfl) zaf)
   (zac (zaS PassesOwn.never rfl (zaH rfl T.range (zaa (zar zbK zaf (pv 0)) zae)) (zak (i:=8) sc_law_one.nd rfl (Or.inl rfl))
   (zac (zat (i:=9) sc_law_one.nd rfl (Or.inl rfl) (zal G_law_answers (hr.mono (by walk_at "m")) rfl (zaa (pv 1) (zaa (pv 8) (zaa (pv 5) zae)))))
   (zac (zj2 (i:=7) sc_law_one.nd rfl (Or.inl rfl) (za0 ze7 (by rfl) T.int zfa (zaa (zaR (zhV (Nat.lt_of_succ_lt (zbu hr)) (K:=K) rfl) (pv 9) (zaQ zae) (zay _)) zae)) zid)
   (zag (zaD (PW.pt (zb6 (zaA zjk (zan zav (by rfl) T.len PySem.boot_len (zaa (pv 9) zae)) zaf (zay _)) (zbA (zaP (zaF (zal G_law_same (hr.mono (by walk_at "m")) rfl (zaa (zal Ganswering (hr.mono (by walk_at "m")) rfl (zaa (pv 1) (zaa (pv 8) (zaa (pv 5) zae)))) (zaa (zas zaO (zar zfy (pv 9) (zaQ (zaa zca zae))) zaf (fun _ _=>rfl)) zae)))))))) (zag (zao zcs)) zaq)))))
   (zag (zaD (zaP (zaF (zal G_law_same (hr.mono (by walk_at "m")) rfl (zaa (zal Gunanswered (hr.mono (by walk_at "m")) rfl (zaa (pv 0) (zaa (pv 1) (zaa (pv 5) zae)))) (zaa (pv 7) zae))))) (zag (zao zcs)) zaq)))))))
   (zag (zao zcs))),?rd⟩
  have e1:(1:Int) * 2 ^ ((m:Nat):Int).toNat=((2 ^ m:Nat):Int):=by rw [Int.one_mul,Int.toNat_natCast];norm_cast
  have h2m:2 ^ m≤2 ^ 16:=Nat.pow_le_pow_right (by decide) m2
  refine ⟨3,rfl,by decide,by decide,?_⟩
  refine za2 (n:=3) (fun t σ X=>∃ (v4 v5 v6 v7 v8 v9:Option V),σ=[some (.int (m:Int)),some (.ref R),some (.int (nl:Int)),some (.ref p),v4,v5,v6,v7,v8,v9]∧Bg X p (n+10 * t)∧KeepP p H X) ⟨_,_,_,_,_,_,rfl,bg,KeepP.refl _ _⟩ ?_ (fun σ X ⟨_,_,_,_,_,_,_,_,kX⟩=>k X kX)
  rintro t σ X ht ⟨v4,v5,v6,v7,v8,v9,rfl,bgX,kX⟩
  rw [Int.zero_add]
  refine fun d hd=>?_
  have sd:=zad (o:=.dK []) hd
  have ndp:d≠p:=bgX.ne hd
  have nd0:∀ {a:Addr} {u:HO},a≠p→H a=some u→a≠d:=fun {a u} ha e=>zaj (kX _ _ ha e) hd
  dsimp only [za1,List.set]
  refine zaw (fun σ Y=>σ=[some (.int (m:Int)),some (.ref R),some (.int (nl:Int)),some (.ref p),some (.int (t:Int)),some (.ref d),v6,v7,v8,v9]∧Y=upd X d (.dK [])) (fun σ Y=>∃ (v6:Option V) (keys:List Nat) (g:Nat→Nat),σ=[some (.int (m:Int)),some (.ref R),some (.int (nl:Int)),some (.ref p),some (.int (t:Int)),some (.ref d),v6,v7,v8,v9]∧Y d=some (.dK (dV keys g))∧Bg Y p (n+10 * t+4)∧(∀ a o,a≠p→a≠d→X a=some o→Y a=some o)) ?_ ?_ _ _ ⟨rfl,rfl⟩
  ·rintro σ Y ⟨rfl,rfl⟩ N hN
   refine ⟨_,rfl,_,rfl,by omega,by omega,?_⟩
   rw [Int.toNat_natCast]
   refine za2 (n:=nl) (fun c σ Y=>∃ (v6:Option V) (keys:List Nat) (g:Nat→Nat),σ=[some (.int (m:Int)),some (.ref R),some (.int (nl:Int)),some (.ref p),some (.int (t:Int)),some (.ref d),v6,v7,v8,v9]∧Y d=some (.dK (dV keys g))∧keys.length≤c∧(∀ a∈keys,a<c)∧Bg Y p (n+10 * t+2 * c)∧(∀ a o,a≠p→a≠d→X a=some o→Y a=some o)) ⟨_,[],fun _=>0,rfl,zab,Nat.le_refl _,(fun _ h=>nomatch h),bgX.same sd,fun a o _ _ e=>sd _ _ e⟩ ?_ ?_
   ·rintro c σ Y hc ⟨v6,keys,g,rfl,eY,hk1,hk2,bgY,kY⟩
    rw [Int.zero_add]
    refine ⟨_,rfl,p,3,n+10 * t+2 * c,rfl,bgY,by omega,by decide,by decide,fun d1 Y1 h1 bg1 k1=>?_⟩
    have eY1:Y1 d=some (.dK (dV keys g)):=by rw [k1 d ndp];exact eY
    have kY1:∀ a o,a≠p→a≠d→X a=some o→Y1 a=some o:=fun a o h1 h2 e=>by rw [k1 a h1];exact kY a o h1 h2 e
    refine ⟨_,_,rfl,rfl,_,rfl,ite2 (fun _=>?_) (fun _=>⟨_,keys,g,rfl,eY1,by omega,(fun a h=>by have:=hk2 a h;omega),bg1.mono (by omega),kY1⟩)⟩
    refine ⟨_,rfl,p,256,n+10 * t+2 * c+1,rfl,bg1,by omega,by decide,by decide,fun d2 Y2 h2 bg2 k2=>?_⟩
    have eY2:Y2 d=some (.dK (dV keys g)):=by rw [k2 d ndp];exact eY1
    have hnin:c ∉ keys:=fun h=>by have:=hk2 c h;omega
    refine ⟨_,rfl,_,rfl,d,_,rfl,DPut.k (k:=Sum.inl (c:Int)) eY2 (by rw [dV_len];exact Nat.lt_of_le_of_lt (Nat.le_trans hk1 (show c≤2 by omega)) (by decide)),?_⟩
    rw [dV_new hnin]
    refine ⟨_,keys ++ [c],_,rfl,zab,by rw [List.length_append];simp;omega,fun a h=>?_,?_,fun a o h1 h2 e=>?_⟩
    ·rcases List.mem_append.mp h with h | h
     ·have:=hk2 a h;omega
     ·have:=List.mem_singleton.mp h;omega
    ·obtain ⟨a',c',e',q1,q2,q3⟩:=bg2
     exact ⟨a',c',by rw [zah (Ne.symm ndp)];exact e',q1,q2,by omega⟩
    ·rw [zah h2,k2 a h1];exact kY1 a o h1 h2 e
   ·rintro σ Y ⟨v6,keys,g,rfl,eY,hk1,hk2,bgY,kY⟩
    exact hN _ _ ⟨_,keys,g,rfl,eY,bgY.mono (by omega),kY⟩
  rintro σ Y ⟨v6,keys,g,rfl,eY,bgY,kY⟩
  have kHY:∀ a o,a≠p→H a=some o→Y a=some o:=fun a o h e=>kY a o h (nd0 h e) (kX _ _ h e)
  have nRp:∀ {a:Addr} {u:List V},H a=some (.tup u)→a≠p:=fun {a u} e z=>by obtain ⟨x,y,ep,_⟩:=bg;rw [z,ep] at e;cases e
  have eRY:=kHY _ _ (nRp eR) eR
  have hRY:RwsAt2 m Y ws:=fun z hz=>⟨(hR z hz).1.keepP bg fun a o h e=>kHY a o h e,(hR z hz).2⟩
  clear bgX kX sd kY
  refine zaw (fun σ Z=>σ=[some (.int (m:Int)),some (.ref R),some (.int (nl:Int)),some (.ref p),some (.int (t:Int)),some (.ref d),v6,v7,v8,v9]∧Z=Y) (fun σ Z=>σ=[some (.int (m:Int)),some (.ref R),some (.int (nl:Int)),some (.ref p),some (.int (t:Int)),some (.ref d),v6,some (.int 0),v8,v9]∧Z=Y) (fun σ Z ⟨e1,e2⟩ N hN=>hN _ _ ⟨by rw [e1];rfl,e2⟩) ?_ _ _ ⟨rfl,rfl⟩
  rintro σ Z ⟨rfl,rfl⟩
  generalize hW:wrd keys g=W at *
  refine zaw (fun σ Y=>σ=[some (.int (m:Int)),some (.ref R),some (.int (nl:Int)),some (.ref p),some (.int (t:Int)),some (.ref d),v6,some (.int 0),v8,v9]∧Y=Z) (fun σ Y=>∃ (v8 v9:Option V),σ=[some (.int (m:Int)),some (.ref R),some (.int (nl:Int)),some (.ref p),some (.int (t:Int)),some (.ref d),v6,some (.int (hol (awks ws W) 0 (2 ^ m):Int)),v8,v9]∧Same Z Y) ?_ ?_ _ _ ⟨rfl,rfl⟩
  ·rintro σ Y ⟨rfl,rfl⟩ N hN
   refine ⟨_,rfl,_,_,rfl,rfl,⟨by omega,by omega,by decide⟩,_,rfl,by rw [e1];exact Int.le_trans (by decide) (Int.natCast_nonneg _),by rw [e1];exact Int.lt_of_le_of_lt (Int.ofNat_le.mpr h2m) (by decide),?_⟩
   rw [e1,Int.toNat_natCast]
   refine za2 (n:=2 ^ m) (fun x σ Z=>∃ (v8 v9:Option V),σ=[some (.int (m:Int)),some (.ref R),some (.int (nl:Int)),some (.ref p),some (.int (t:Int)),some (.ref d),v6,some (.int (hol (awks ws W) 0 x:Int)),v8,v9]∧Same Y Z) ⟨_,_,rfl,Same.refl _⟩ ?_ (fun σ Z ⟨v8,v9,e,s⟩=>hN _ _ ⟨v8,v9,e,s⟩)
   rintro x σ Z hx ⟨v8,v9,rfl,sZ⟩
   rw [Int.zero_add]
   refine ⟨_,rfl,_,rfl,_,rfl,R,d,x,ws,keys,g,rfl,sZ _ _ eRY,by omega,fun z hz=>(hRY z hz).1.same sZ,sZ _ _ eY,fun q Z1 hq eq s1=>?_⟩
   rw [hW] at eq
   have ho:=zlw hnc x W
   have sZ1:=sZ.trans s1
   dsimp only [za1,List.set]
   refine zaw (fun σ G=>σ=[some (.int (m:Int)),some (.ref R),some (.int (nl:Int)),some (.ref p),some (.int (t:Int)),some (.ref d),v6,some (.int (hol (awks ws W) 0 x:Int)),some (.int (x:Int)),some (.ref q)]∧G=Z1) (fun σ G=>σ=[some (.int (m:Int)),some (.ref R),some (.int (nl:Int)),some (.ref p),some (.int (t:Int)),some (.ref d),v6,some (.int (hol (awks ws W) 0 (x+1):Int)),some (.int (x:Int)),some (.ref q)]∧Same Z1 G) ?_ ?_ _ _ ⟨rfl,rfl⟩
   ·rintro σ G ⟨rfl,rfl⟩ N2 hN2
    refine ⟨_,rfl,_,rfl,by show 0≤sizeLine;decide,fun e he=>⟨q,e,_,rfl,rfl,SqL.of (zad he _ _ eq),SqL.of zab,.inr ⟨_,rfl,_,_,rfl,rfl,hN2 _ _ ⟨?_,zad he⟩⟩⟩⟩
    have:(hol (awks ws W) 0 x:Int)+(if (vN (ansL (ws.map (·.2)) x W ws.length)).isEmpty=true then 1 else 0)=(hol (awks ws W) 0 (x+1):Int):=by
     rw [zjC,zjB]
     cases ansL (ws.map (·.2)) x W ws.length with
     | nil=>simp [vN]
     | cons a l=>simp [vN]
    dsimp only
    rw [this]
    rfl
   rintro σ G ⟨rfl,sG⟩
   have sYG:=sZ1.trans sG
   have eqG:=sG _ _ eq
   refine ⟨_,rfl,q,_,rfl,.inl (SqL.of eqG),_,_,rfl,rfl,_,rfl,?_⟩
   rw [zaG,decide_eq_false (show ¬ (1:Int)<((ansL (ws.map (·.2)) x W ws.length).length:Int) by omega)]
   refine iteF ⟨_,rfl,_,rfl,_,rfl,R,d,x,ws,keys,g,rfl,sYG _ _ eRY,fun z hz=>(hRY z hz).1.same sYG,sYG _ _ eY,fun G1 sg1=>?_⟩
   refine ⟨_,rfl,by show 1≤sizeLine;decide,fun l hl'=>⟨q,l,_,_,rfl,rfl,SqL.of (zad hl' _ _ (sg1 _ _ eqG)),SqL.of zab,?_,fun c hc=>⟨c,_,_,_,rfl,rfl,SqL.of zab,zaL (j:=0) (hd0_at _),?_⟩⟩⟩
   ·rw [zaG];exact Nat.le_trans (Nat.add_le_add_right ho 1) (by decide)
   refine ⟨_,_,rfl,?_,fun G2 sg2=>⟨_,rfl,iteF ⟨_,_,rfl,((sYG.trans sg1).trans ((zad hl').trans (zad hc))).trans sg2⟩⟩⟩
   rw [hW,fst_hd,List.length_map]
   rcases zjE (ansL (ws.map (·.2)) x W ws.length) with hh | ⟨i,hh⟩
   ·rw [hh];exact .inl ⟨rfl,rfl⟩
   ·rw [hh];exact .inr (.int i)
  rintro σ Y ⟨v8,v9,rfl,sY⟩
  refine ⟨_,rfl,_,rfl,_,rfl,R,d,m,ws,keys,g,rfl,m2,sY _ _ eRY,by omega,hRY.same sY,hnc,sY _ _ eY,fun Y1 s1=>?_⟩
  rw [hW]
  refine ⟨_,rfl,_,_,rfl,.inr (.int _),fun Y2 s2=>⟨_,rfl,iteF ⟨_,_,_,_,_,_,rfl,?_,fun a o h e=>s2 _ _ (s1 _ _ (sY _ _ (kHY a o h e)))⟩⟩⟩
  exact (((bgY.same sY).same s1).same s2).mono (by omega)
structure Ch4 where
 x:Addr
 p:Addr
 kd:Nat
 us:List Nat
structure CLs (cs:Nat→Addr) (X:Hp) (cl:List Ch4):Prop where
 o:∀ c∈cl,Chp cs X c.x c.p c.kd 0 c.us∧Kd c.kd 0 c.us∧(c.kd=2∨c.kd=3→c.us.length=1)
 nd:(cl.map (·.p)).Nodup
theorem CLs.same {cs:Nat→Addr} {X Y:Hp} {cl:List Ch4} (h:CLs cs X cl) (s:Same X Y):CLs cs Y cl:=⟨fun c hc=>⟨(h.o c hc).1.same s,(h.o c hc).2⟩,h.nd⟩
theorem CLs.add {cs:Nat→Addr} {X Y:Hp} {cl:List Ch4} {c:Ch4} (h:CLs cs X cl) (s:Same X Y) (hp:X c.p=none) (ho:Chp cs Y c.x c.p c.kd 0 c.us) (hk:Kd c.kd 0 c.us) (h1:c.kd=2∨c.kd=3→c.us.length=1):CLs cs Y (cl ++ [c]):=by
 refine ⟨fun d hd=>?_,?_⟩
 ·rcases List.mem_append.mp hd with hd | hd
  ·exact (h.same s).o d hd
  ·rw [List.mem_singleton.mp hd];exact ⟨ho,hk,h1⟩
 ·rw [List.map_append,List.nodup_append]
  refine ⟨h.nd,by simp,fun a ha b hb=>?_⟩
  obtain ⟨d,hd,rfl⟩:=List.mem_map.mp ha
  have hb:b=c.p:=by simpa using hb
  rw [hb]
  intro z
  have:=(h.o d hd).1.ls
  rw [z,hp] at this;cases this
def zbX:Ch4:=⟨0,0,0,[]⟩
def dtOf (cl:List Ch4):Dt:=⟨cl.length,fun i=>(cl.getD i zbX).x,fun i=>(cl.getD i zbX).p,fun i=>(cl.getD i zbX).kd,fun _=>0,fun i=>zfJ (cl.getD i zbX).kd (cl.getD i zbX).us⟩
theorem zdM {cl:List Ch4} {i:Nat} (h:i<cl.length):cl.getD i zbX∈cl∧cl[i]? = some (cl.getD i zbX):=by
 rw [List.getD_eq_getElem?_getD,List.getElem?_eq_getElem h]
 exact ⟨List.getElem_mem _,rfl⟩
theorem CLs.chs {cs:Nat→Addr} {X:Hp} {cl:List Ch4} (h:CLs cs X cl) (hl:cl.length≤200):Chs cs (dtOf cl) X (fun i=>(cl.getD i zbX).us):=by
 refine ⟨fun i hi=>(h.o _ (zdM hi).1).1,fun i hi=>(h.o _ (zdM hi).1).2.1,fun i hi=>(h.o _ (zdM hi).1).2.2,fun i hi=>rfl,fun i j hi hj e=>?_,hl⟩
 have h1:(cl.map (·.p))[i]? = some (cl.getD i zbX).p:=by rw [List.getElem?_map,(zdM hi).2];rfl
 have h2:(cl.map (·.p))[j]? = some (cl.getD j zbX).p:=by rw [List.getElem?_map,(zdM hj).2];rfl
 have e:(cl.getD i zbX).p=(cl.getD j zbX).p:=e
 rw [← e] at h2
 obtain ⟨l1,e1⟩:=List.getElem?_eq_some_iff.mp h1
 obtain ⟨l2,e2⟩:=List.getElem?_eq_some_iff.mp h2
 exact (List.getElem_inj h.nd).mp (e1.trans e2.symm)
theorem chL_dt (cl:List Ch4):chL (dtOf cl)=cl.map fun c=>V.ref c.x:=by
 unfold chL
 apply List.ext_getElem?
 intro i
 rw [List.getElem?_map,List.getElem?_map]
 by_cases h:i<cl.length
 ·rw [(zdM h).2,List.getElem?_range (show i<(dtOf cl).m from h)]
  rfl
 ·rw [List.getElem?_eq_none (Nat.le_of_not_lt h),List.getElem?_eq_none (show (List.range (dtOf cl).m).length≤i by rw [List.length_range];exact Nat.le_of_not_lt h)]
  rfl
theorem zdk {H2 H':Hp} {x dx:Addr} {C:Addr} (hx:H2 x=none) (hdx:H2 dx=none) (ne:dx≠x) (k:KeepP x (upd (upd H2 dx (.own x)) x (.ins C dx [])) H'):Same H2 H':=fun a o e=>by
 have na:a≠x:=zaj e hx
 exact k a o na (by rw [zah na,zah (zaj e hdx)];exact e)
theorem zld:∀ {o p:Option (Nat×Nat×Nat)},zfg o→zfg p→latA o p=true→∃ (keys:List Nat) (g:Nat→Nat),knV (lwL o p)=dV keys g∧((lwL o p).map (·.1)).Nodup∧(∀ c a b,o=some (c,a,b)→wrd keys g c &&& a=b)∧(∀ c a b,p=some (c,a,b)→wrd keys g c &&& a=b)
 | none,none,_,_,_=>⟨[],fun _=>0,rfl,List.nodup_nil,(fun _ _ _ h=>by cases h),(fun _ _ _ h=>by cases h)⟩
 | some (c,a,b),none,⟨_,_,h⟩,_,_=>⟨[c],fun _=>b,rfl,by show [(c:Int)].Nodup;simp,(fun c' a' b' h'=>by cases h';unfold wrd;rw [if_pos (by simp)];exact h),(fun _ _ _ h=>by cases h)⟩
 | none,some (c,a,b),_,⟨_,_,h⟩,_=>⟨[c],fun _=>b,rfl,by show [(c:Int)].Nodup;simp,(fun _ _ _ h=>by cases h),(fun c' a' b' h'=>by cases h';unfold wrd;rw [if_pos (by simp)];exact h)⟩
 | some (c,a,b),some (d,x,y),⟨_,_,h⟩,⟨_,_,g⟩,hA=>by
  have hA:(if c=d then agr a b x y else true)=true:=hA
  by_cases hc:c=d
  ·subst hc
   rw [if_pos rfl] at hA
   obtain ⟨f1,f2⟩:=zcU h g hA
   refine ⟨[c],fun _=>b ||| y,?_,?_,(fun c' a' b' h'=>by cases h';unfold wrd;rw [if_pos (by simp)];exact f1),(fun c' a' b' h'=>by cases h';unfold wrd;rw [if_pos (by simp)];exact f2)⟩
   ·show knV (if c=c then [((c:Int),((b ||| y:Nat):Int))] else _)=_
    rw [if_pos rfl];rfl
   ·show ((if c=c then [((c:Int),((b ||| y:Nat):Int))] else srt2 [((c:Int),(b:Int)),((c:Int),(y:Int))]).map (·.1)).Nodup
    rw [if_pos rfl];simp
  ·have hc':¬ (c:Int)=(d:Int):=by omega
   have e:lwL (some (c,a,b)) (some (d,x,y))=(if (d:Int)<(c:Int) then [((d:Int),(y:Int)),((c:Int),(b:Int))] else [((c:Int),(b:Int)),((d:Int),(y:Int))]):=by
    show (if c=d then _ else srt2 [((c:Int),(b:Int)),((d:Int),(y:Int))])=_
    rw [if_neg hc];rfl
   rw [e]
   by_cases hd:(d:Int)<(c:Int)
   ·rw [if_pos hd]
    refine ⟨[d,c],fun k=>if k=c then b else y,?_,by simp;omega,(fun c' a' b' h'=>by cases h';unfold wrd;rw [if_pos (by simp)];show (if c=c then b else y) &&& a=b;rw [if_pos rfl];exact h),(fun c' a' b' h'=>by cases h';unfold wrd;rw [if_pos (by simp)];show (if d=c then b else y) &&& x=y;rw [if_neg (Ne.symm hc)];exact g)⟩
    show [((Sum.inl (d:Int):Key),V.int (y:Int)),((Sum.inl (c:Int):Key),V.int (b:Int))]=[((Sum.inl (d:Int):Key),V.int (((if d=c then b else y:Nat)):Int)),((Sum.inl (c:Int):Key),V.int (((if c=c then b else y:Nat)):Int))]
    rw [if_neg (Ne.symm hc),if_pos rfl]
   ·rw [if_neg hd]
    refine ⟨[c,d],fun k=>if k=c then b else y,?_,by simp;omega,(fun c' a' b' h'=>by cases h';unfold wrd;rw [if_pos (by simp)];show (if c=c then b else y) &&& a=b;rw [if_pos rfl];exact h),(fun c' a' b' h'=>by cases h';unfold wrd;rw [if_pos (by simp)];show (if d=c then b else y) &&& x=y;rw [if_neg (Ne.symm hc)];exact g)⟩
    show [((Sum.inl (c:Int):Key),V.int (b:Int)),((Sum.inl (d:Int):Key),V.int (y:Int))]=[((Sum.inl (c:Int):Key),V.int (((if c=c then b else y:Nat)):Int)),((Sum.inl (d:Int):Key),V.int (((if d=c then b else y:Nat)):Int))]
    rw [if_neg (Ne.symm hc),if_pos rfl]
theorem due_ex {rs:List Rw} (h:fndL rs rs.length≠[]):∃ x i j r q,IsDue rs x i j∧rs[i]? = some r∧rs[j]? = some q:=by
 have hb:=zfN (fun i j=>HT.lexLt ((fndL rs rs.length).getD i []) ((fndL rs rs.length).getD j [])) ((fndL rs rs.length).length - 1)
 have hp:0<(fndL rs rs.length).length:=List.length_pos_iff.mpr h
 obtain ⟨ns,hns⟩:∃ ns,(fndL rs rs.length)[PySem.argBest (fun i j=>HT.lexLt ((fndL rs rs.length).getD i []) ((fndL rs rs.length).getD j [])) ((fndL rs rs.length).length - 1)]? = some ns:=⟨_,List.getElem?_eq_getElem (by omega)⟩
 obtain ⟨i,j,x,rfl,hc⟩:=mem_fndL.mp (List.mem_of_getElem? hns)
 obtain ⟨_,r,q,e1,e2,_⟩:=id hc
 exact ⟨x,i,j,r,q,zeo hns,e1,e2⟩
theorem prs_lk {H:Hp} {a b:Addr} {l:List (Int×Int)} {n:Nat} (hl:l.length≤8) (h:PrsAt H a l) (g:PrsAt H b l):Lk H (n+2) (.ref a) (.ref b):=by
 obtain ⟨ts,e,hl1,ht⟩:=h
 obtain ⟨us,e',hl2,ht'⟩:=g
 refine .seq (t:=true) e e' (by rw [List.length_map,List.length_map];omega) (by rw [List.length_map];exact Nat.le_trans (show ts.length≤8 by omega) (by decide)) fun i x y ex ey=>?_
 rw [List.getElem?_map] at ex ey
 obtain ⟨t,h1,rfl⟩:=Option.map_eq_some_iff.mp ex
 obtain ⟨u,h2,rfl⟩:=Option.map_eq_some_iff.mp ey
 obtain ⟨q,hq⟩:∃ q,l[i]? = some q:=⟨_,List.getElem?_eq_getElem (by have:=(List.getElem?_eq_some_iff.mp h1).1;omega)⟩
 refine .seq (t:=true) (ht i t q h1 hq) (ht' i u q h2 hq) rfl (by show 2≤sizeLine;decide) fun j x y ex ey=>?_
 rw [ex] at ey
 cases ey
 rcases (show j=0∨j=1 by have:=(List.getElem?_eq_some_iff.mp ex).1;simp at this;omega) with rfl | rfl
 ·cases ex;exact .int _
 ·cases ex;exact .int _
theorem zkf {H:Hp} {a b wa wb:Addr} {x i j:Int} {l:List (Int×Int)} (hl:l.length≤8) (ea:H a=some (.tup [.int x,.int i,.int j,.ref wa])) (eb:H b=some (.tup [.int x,.int i,.int j,.ref wb])) (h:PrsAt H wa l) (g:PrsAt H wb l):Lk H 3 (.ref a) (.ref b):=by
 refine .seq (t:=true) ea eb rfl (by show 4≤sizeLine;decide) fun k v w' ev ew=>?_
 rcases (show k=0∨k=1∨k=2∨k=3 by have:=(List.getElem?_eq_some_iff.mp ev).1;simp at this;omega) with rfl | rfl | rfl | rfl
 ·cases ev;cases ew;exact .int _
 ·cases ev;cases ew;exact .int _
 ·cases ev;cases ew;exact .int _
 ·cases ev;cases ew;exact prs_lk (n:=0) hl h g
abbrev zbQ:Stmt:=top 67
theorem sc_law_right:FnScope ["bag","bits","latches","rows","k","chips","due","found"] ["bag"] (zai zbQ):=⟨rfl,rfl,rfl,by decide +kernel,rfl,by decide +kernel,by decide +kernel⟩
def zc1:Sp:=fun vs H Q _=>∃ (p:Addr) (n:Nat),vs=[.ref p]∧Bg H p n∧n+10000<2 ^ 40∧∀ H':Hp,(∀ a o,a≠p→H a=some o→H' a=some o)→Q (.bl true) H'
theorem zeK {f C CT:Addr} {cs:Nat→Addr} {fd:FuncData} (F:Fun K "_law_right" "_law_right" zbQ f fd) (T:Blt mg) (GBdict:mg "dict" = none) (G_law_draw:Cal P w K mg base 1 "_law_draw" ["bag","many"] spDw) (G_law_free_row:Cal P w K mg base 2 "_law_free_row" ["bag","bits","latches","rows"] zho) (GMLatch_0:Mak P w K mg base 3 "Latch" (cs 2) [] (dP [.int 0]) (zfZ (cs 2) "latch")) (GMStore_1:Mak P w K mg base 3 "Store" (cs 0) [] (dP [.int 0]) (zdC (cs 0))) (GMStore_2:Mak P w K mg base 3 "Store" (cs 0) [] (dP []) (zdC (cs 0)))
  (G_law_clash:Cal P w K mg base 2 "_law_clash" ["bits","rows"] zhq) (G_law_same:Cal P w K mg base 4 "_law_same" ["found","due"] (zbw 3)) (Gclash_of:Cal P w K mg base 4 "clash_of" ["rows"] zb3) (G_law_board:Cal P w K mg base 9 "_law_board" ["bits","rows","chips"] (zkG C CT cs)) (G_law_one:Cal P w K mg base 5 "_law_one" ["bits","rows","latches","bag"] zkF) (G_law_answers:Cal P w K mg base 2 "_law_answers" ["rows","address","words"] zd1):FnOk P w K mg base CX0 10 f fd ["bag"] zc1:=by
 refine F.ok sc_law_right (fun vs H Q E h=>?_) (fun cdv A outer s H vs Q E hr h=>?_)
 ·obtain ⟨p,n,rfl,_⟩:=h;rfl
 ·obtain ⟨p,n,rfl,bg,hn,k⟩:=h
  refine' ⟨_,(zac (zat (i:=1) sc_law_right.nd rfl (Or.inl rfl) (zar zcA zaf (zal G_law_draw (hr.mono (by walk_at "m")) rfl (zaa (pv 0) (zaa zaf zae)))))
   (zac (zat (i:=2) sc_law_right.nd rfl (Or.inl rfl) (zar zcA zaf (zal G_law_draw (hr.mono (by walk_at "m")) rfl (zaa (pv 0) (zaa zaf zae)))))
   (zac (zat (i:=3) sc_law_right.nd rfl (Or.inl rfl) (zaQ zae))
   (zac (zaS PassesOwn.never rfl (zaH rfl T.range (zaa (zas zaO (zaQ (zaa (zal G_law_draw (hr.mono (by walk_at "m")) rfl (zaa (pv 0) (zaa zaf zae))) (zaa (zar zcA zaf (zal G_law_draw (hr.mono (by walk_at "m")) rfl (zaa (pv 0) (zaa zaf zae)))) zae))) (zar zeb (zal G_law_draw (hr.mono (by walk_at "m")) rfl (zaa (pv 0) (zaa zaf zae))) zaf) (fun _ _=>rfl)) zae)) (zak (i:=4) sc_law_right.nd rfl (Or.inl rfl))
   (zag (zaZ (zji PySem.F.plainAttrs_list PySem.F.slot_list_append PySem.F.type_list_append zcd (pv 3) (zaa (zal G_law_free_row (hr.mono (by walk_at "m")) rfl (zaa (pv 0) (zaa (pv 1) (zaa (pv 2) (zaa (pv 3) zae))))) zae)))))
   (zac (zat (i:=3) sc_law_right.nd rfl (Or.inl rfl) (za0 zbr (by rfl) T.tuple za8 (zaa (pv 3) zae)))
   (zac (zat (i:=5) sc_law_right.nd rfl (Or.inl rfl) (zar zfy ?c1 (zaQ (zaa (zj4 GMStore_1 (hr.mono (by walk_at "m")) rfl (zaa zaf zae)) (zaa (zj4 GMStore_2 (hr.mono (by walk_at "m")) rfl (zaa zaf (zaa zaf zae))) zae)))))
   (zac (zat (i:=6) sc_law_right.nd rfl (Or.inl rfl) (zal G_law_clash (hr.mono (by walk_at "m")) rfl (zaa (pv 1) (zaa (pv 3) zae))))
   (zac (zaD (PW.pt (zb6 (zaP (zaF (zal G_law_same (hr.mono (by walk_at "m")) rfl (zaa (zal Gclash_of (hr.mono (by walk_at "m")) rfl (zaa (pv 3) zae)) (zaa (pv 6) zae))))) (zbA (zaP (zaF (zal G_law_same (hr.mono (by walk_at "m")) rfl (zaa (zal G_law_board (hr.mono (by walk_at "m")) rfl (zaa (pv 1) (zaa (pv 3) (zaa (pv 5) zae)))) (zaa (pv 6) zae)))))))) (zag (zao zcs)) zaq)
   (zac (zaD (za6 (zbJ (pv 6))) (zag (zao (zal G_law_one (hr.mono (by walk_at "m")) rfl (zaa (pv 1) (zaa (pv 3) (zaa (pv 2) (zaa (pv 0) zae))))))) zaq)
   (zac (zat (i:=7) sc_law_right.nd rfl (Or.inl rfl) (zal G_law_answers (hr.mono (by walk_at "m")) rfl (zaa (pv 3) (zaa (zas zap (pv 6) zaf (fun _ _=>rfl)) (zaa (za0 (ze8 (zbu hr) rfl) (by rfl) GBdict zlu (zaa (zas zap (pv 6) zaf (fun _ _=>rfl)) zae)) zae)))))
   (zag (zao (za7 (zaR (zdI (K:=K) rfl) (zas zap (pv 6) zaf (fun _ _=>rfl)) (pv 7) (by with_unfolding_all rfl)) (zbj (zaR (zdI (K:=K) rfl) (zas zap (pv 6) zaf (fun _ _=>rfl)) (pv 7) (by with_unfolding_all rfl)))))))))))))))),?rd⟩
  (case c1=>exact (zde (Nc:=["k"]) [none] rfl (za3 (by rfl)) (zaH rfl T.range (zaa (pv 2) zae)) (fun _ _ _ _ _=>(zak (i:=0) (show (["k"]:List Str).Nodup by decide +kernel) rfl (Or.inl rfl))) (fun _ _ _ _ _=>zf9) (fun _ _ _ _ _=>(zkX GMLatch_0 (hr.mono (by walk_at "m")) rfl))))
  have nul:∀ {a:Addr} {o:HO} {X:Hp},KeepP p H X→a≠p→X a=none→H a=none:=fun {a o X} kx ha h=>by
   cases e:H a with
   | none=>rfl
   | some u=>rw [kx a u ha e] at h;cases h
  
  refine zaw (fun σ X=>σ=L2.start ["bag","bits","latches","rows","k","chips","due","found"] [V.ref p]∧X=H) (fun σ X=>∃ m:Nat,2≤m∧m≤6∧σ=[some (.ref p),some (.int (m:Int)),none,none,none,none,none,none]∧Bg X p (n+1)∧KeepP p H X) ?_ ?_ _ _ ⟨rfl,rfl⟩
  ·rintro σ X ⟨rfl,rfl⟩ N hN
   refine ⟨_,rfl,p,5,n,rfl,bg,by omega,by decide,by decide,fun d X1 h1 bg1 k1=>⟨_,_,rfl,rfl,hN _ _ ⟨2+d,by omega,by omega,?_,bg1,zbf k1⟩⟩⟩
   dsimp only
   rw [show (2:Int)+(d:Int)=((2+d:Nat):Int) by omega]
   rfl
  rintro σ X ⟨m,m1,m2,rfl,bgX,kX⟩
  refine zaw (fun σ Y=>σ=[some (.ref p),some (.int (m:Int)),none,none,none,none,none,none]∧Y=X) (fun σ Y=>∃ nl:Nat,1≤nl∧nl≤2∧σ=[some (.ref p),some (.int (m:Int)),some (.int (nl:Int)),none,none,none,none,none]∧Bg Y p (n+2)∧KeepP p H Y) ?_ ?_ _ _ ⟨rfl,rfl⟩
  ·rintro σ Y ⟨rfl,rfl⟩ N hN
   refine ⟨_,rfl,p,2,n+1,rfl,bgX,by omega,by decide,by decide,fun d X1 h1 bg1 k1=>⟨_,_,rfl,rfl,hN _ _ ⟨1+d,by omega,by omega,?_,bg1,kX.trans (zbf k1)⟩⟩⟩
   dsimp only
   rw [show (1:Int)+(d:Int)=((1+d:Nat):Int) by omega]
   rfl
  rintro σ Y ⟨nl,l1,l2,rfl,bgY,kY⟩
  clear bgX kX
  
  refine zaw (fun σ X=>σ=[some (.ref p),some (.int (m:Int)),some (.int (nl:Int)),none,none,none,none,none]∧X=Y) (fun σ X=>∃ L:Addr,σ=[some (.ref p),some (.int (m:Int)),some (.int (nl:Int)),some (.ref L),none,none,none,none]∧H L=none∧L≠p∧X L=some (.lst [])∧Bg X p (n+2)∧KeepP p H X) ?_ ?_ _ _ ⟨rfl,rfl⟩
  ·rintro σ X ⟨rfl,rfl⟩ N hN
   refine ⟨by show 0≤sizeLine;decide,fun L hL=>hN _ _ ⟨L,rfl,nul (o:=.lst []) kY (bgY.ne hL) hL,bgY.ne hL,zab,bgY.same (zad hL),kY.trans (.of (zad hL))⟩⟩
  rintro σ X ⟨L,rfl,hL0,nLp,eL,bgX,kX⟩
  clear bgY kY
  refine zaw (fun σ Y=>σ=[some (.ref p),some (.int (m:Int)),some (.int (nl:Int)),some (.ref L),none,none,none,none]∧Y=X) (fun σ Y=>∃ (v4:Option V) (ws:List (Addr×Rw)),σ=[some (.ref p),some (.int (m:Int)),some (.int (nl:Int)),some (.ref L),v4,none,none,none]∧Y L=some (.lst (refs ws))∧ws.length≤13∧RwsAt2 m Y ws∧(∀ z∈ws,Ft57 nl z.2)∧Bg Y p (n+1000)∧KeepP p H Y) ?_ ?_ _ _ ⟨rfl,rfl⟩
  ·rintro σ Y ⟨rfl,rfl⟩ N hN
   refine ⟨_,rfl,p,7,n+2,rfl,bgX,by omega,by decide,by decide,fun d1 X1 h1 bg1 k1=>?_⟩
   refine ⟨_,rfl,p,5,n+3,rfl,bg1,by omega,by decide,by decide,fun d2 X2 h2 bg2 k2=>⟨_,_,rfl,rfl,by show 2≤sizeLine;decide,fun q hq=>?_⟩⟩
   refine ⟨_,rfl,p,6,n+4,rfl,bg2.same (zad hq),by omega,by decide,by decide,fun d3 X3 h3 bg3 k3=>⟨_,_,rfl,rfl,⟨by decide,by decide +kernel⟩,?_⟩⟩
   have kX3:KeepP p H X3:=((kX.trans (zbf k1)).trans (zbf k2)).trans ((KeepP.of (zad hq)).trans (zbf k3))
   have eq3:X3 q=some (.lst [.int (d1:Int),.int ((9:Int)+(d2:Int))]):=by rw [k3 q (bg2.ne hq)];exact zab
   have nLq:L≠q:=fun z=>by
    have:=zad (o:=.lst []) hq
    have e2:X2 L=some (.lst []):=by rw [k2 L nLp,k1 L nLp];exact eL
    rw [z,hq] at e2;cases e2
   have eL3:X3 L=some (.lst []):=by rw [k3 L nLp,zah nLq,k2 L nLp,k1 L nLp];exact eL
   obtain ⟨cnt,hcnt,ecnt⟩:∃ cnt:Nat,cnt≤13∧atI [V.int (d1:Int),V.int ((9:Int)+(d2:Int))] ((d3:Int) / 5)=some (.int (cnt:Int)):=by
    by_cases h5:d3<5
    ·exact ⟨d1,by omega,by rw [show (d3:Int) / 5=((0:Nat):Int) by omega];rfl⟩
    ·exact ⟨9+d2,by omega,by rw [show (d3:Int) / 5=((1:Nat):Int) by omega,show (9:Int)+(d2:Int)=((9+d2:Nat):Int) by omega];rfl⟩
   refine ⟨q,_,_,_,rfl,rfl,SqL.of eq3,ecnt,_,rfl,by omega,by omega,?_⟩
   rw [Int.toNat_natCast]
   refine za2 (n:=cnt) (fun i σ Z=>∃ (v4:Option V) (ws:List (Addr×Rw)),σ=[some (.ref p),some (.int (m:Int)),some (.int (nl:Int)),some (.ref L),v4,none,none,none]∧Z L=some (.lst (refs ws))∧ws.length=i∧RwsAt2 m Z ws∧(∀ z∈ws,Ft57 nl z.2)∧Bg Z p (n+5+20 * i)∧KeepP p H Z) ⟨_,[],rfl,eL3,rfl,(fun z hz=>nomatch hz),(fun z hz=>nomatch hz),bg3,kX3⟩ ?_ ?_
   ·rintro i σ Z hi ⟨v4,ws,rfl,eZ,hlen,hR,hF,bgZ,kZ⟩
    rw [Int.zero_add]
    refine ⟨_,rfl,.inl ⟨rfl,_,SqL.of eZ⟩,_,rfl,_,rfl,_,rfl,_,rfl,p,L,m,nl,n+5+20 * i,ws,rfl,bgZ,by omega,by omega,by omega,l1,l2,eZ,nLp,hR,hF,by omega,fun t r Z' ht hr' ok ft bg' kp'=>?_⟩
    have eZ':=kp' _ _ nLp eZ
    refine ⟨L,_,_,rfl,rfl,eZ',?_,?_⟩
    ·rw [zau];exact Nat.lt_of_le_of_lt (show ws.length≤13 by omega) (by decide)
    have up:∀ {a:Addr} {o:HO},a≠L→Z' a=some o→upd Z' L (.lst (refs ws ++ [.ref t])) a=some o:=fun {a o} ha e=>by rw [zah ha];exact e
    refine ⟨_,ws ++ [(t,r)],rfl,?_,by rw [List.length_append,hlen];rfl,fun z hz=>?_,fun z hz=>?_,?_,fun a o ha e=>?_⟩
    ·rw [zab,zeB]
    ·have tupK:∀ {a:Addr} {r':Rw},RwAt Z' a r'→RwAt (upd Z' L (.lst (refs ws ++ [.ref t]))) a r':=fun {a r'} h=>h.updL eZ'
     rcases List.mem_append.mp hz with hz | hz
     ·exact ⟨tupK ((hR z hz).1.keepP bgZ kp'),(hR z hz).2⟩
     ·rw [List.mem_singleton.mp hz];exact ⟨tupK hr',ok⟩
    ·rcases List.mem_append.mp hz with hz | hz
     ·exact hF z hz
     ·rw [List.mem_singleton.mp hz];exact ft
    ·obtain ⟨a',c',e',q1,q2,q3⟩:=bg'
     exact ⟨a',c',up (Ne.symm nLp) e',q1,q2,by omega⟩
    ·exact up (fun z=>by rw [z,hL0] at e;cases e) (kp' _ _ ha (kZ _ _ ha e))
   ·rintro σ Z ⟨v4,ws,rfl,eZ,hlen,hR,hF,bgZ,kZ⟩
    exact hN _ _ ⟨v4,ws,rfl,eZ,by omega,hR,hF,bgZ.mono (by omega),kZ⟩
  rintro σ Y ⟨v4,ws,rfl,eY,hln,hR,hF,bgY,kY⟩
  clear bgX kX eL
  refine zaw (fun σ X=>σ=[some (.ref p),some (.int (m:Int)),some (.int (nl:Int)),some (.ref L),v4,none,none,none]∧X=Y) (fun σ X=>∃ R:Addr,σ=[some (.ref p),some (.int (m:Int)),some (.int (nl:Int)),some (.ref R),v4,none,none,none]∧X R=some (.tup (refs ws))∧RwsAt2 m X ws∧Bg X p (n+1000)∧KeepP p H X) ?_ ?_ _ _ ⟨rfl,rfl⟩
  ·rintro σ X ⟨rfl,rfl⟩ N hN
   refine ⟨_,rfl,L,_,rfl,.inl ⟨SqL.of eY,fun R hR'=>hN _ _ ⟨R,rfl,zab,hR.same (zad hR'),bgY.same (zad hR'),kY.trans (.of (zad hR'))⟩⟩⟩
  rintro σ X ⟨R,rfl,eR,hRX,bgX,kX⟩
  clear bgY kY eY hR
  
  have K2:Kd 2 0 [0]:=⟨by decide,fun w hw=>by rw [List.mem_singleton] at hw;omega,by show 1≤4096;decide,fun _=>Nat.le_refl _,fun _=>rfl,fun h=>absurd h (by decide),by decide⟩
  have K0:∀ {l:List Nat},1≤l.length→l.length≤4→(∀ v∈l,v≤255)→Kd 0 0 l:=fun {l} h1 h2 h3=>⟨by decide,h3,by omega,fun _=>h1,fun h=>absurd h (by decide),fun h=>absurd h (by decide),by decide⟩
  refine zaw (fun σ Y=>σ=[some (.ref p),some (.int (m:Int)),some (.int (nl:Int)),some (.ref R),v4,none,none,none]∧Y=X) (fun σ Y=>∃ (CH:Addr) (cl:List Ch4),σ=[some (.ref p),some (.int (m:Int)),some (.int (nl:Int)),some (.ref R),v4,some (.ref CH),none,none]∧Y CH=some (.lst (cl.map fun c=>.ref c.x))∧CLs cs Y cl∧cl.length=nl+2∧(∀ i,i<nl→(cl.getD i zbX).kd=2)∧(∀ i,nl≤i→i<nl+2→2≤zfJ (cl.getD i zbX).kd (cl.getD i zbX).us)∧Same X Y) ?_ ?_ _ _ ⟨rfl,rfl⟩
  ·rintro σ Y ⟨rfl,rfl⟩ N hN
   refine ⟨_,rfl,_,rfl,by omega,by omega,?_⟩
   rw [Int.toNat_natCast]
   refine zdQ (n:=nl) (fun i ys σ Z=>∃ (v0:Option V) (cl:List Ch4),σ=[v0]∧ys=(cl.map fun c=>.ref c.x)∧cl.length=i∧CLs cs Z cl∧(∀ c∈cl,c.kd=2)∧Same Y Z) (Nat.le_trans l2 (by decide)) ⟨none,[],rfl,rfl,rfl,⟨(fun c hc=>nomatch hc),List.nodup_nil⟩,(fun c hc=>nomatch hc),Same.refl _⟩ ?_ ?_ ?_
   ·rintro i ys σ Z ⟨v0,cl,rfl,rfl,hl,_⟩
    rw [List.length_map,hl];exact Nat.le_refl _
   ·rintro i ys σ Z hi ⟨v0,cl,rfl,rfl,hl,hC,hk,sZ⟩
    refine fun x dx hx hdx ne=>⟨x,dx,0,rfl,by decide,by decide,zab,fun pp Z' hp ex el kp=>⟨rfl,?_⟩⟩
    have sm:=zdk hx hdx ne kp
    have hpZ:Z pp=none:=zbh ((zad hdx).trans (zad (by rw [zah (Ne.symm ne)];exact hx))) hp
    exact ⟨_,cl ++ [⟨x,pp,2,[0]⟩],rfl,by simp,by simp [hl],hC.add (c:=⟨x,pp,2,[0]⟩) sm hpZ ⟨ex,el⟩ K2 (fun _=>rfl),(fun c hc=>by rcases List.mem_append.mp hc with hc | hc;exact hk c hc;rw [List.mem_singleton.mp hc]),sZ.trans sm⟩
   ·rintro ys σ Z ⟨v0,cl,rfl,rfl,hl,hC,hk,sZ⟩ M hM
    have sM:=zad (o:=.lst (cl.map fun c=>V.ref c.x)) hM
    have hCM:=hC.same sM
    refine fun x dx hx hdx ne=>⟨x,dx,2,0,rfl,by decide,by decide,by decide,by decide,zab,fun pp Z' hp ex el kp=>⟨rfl,?_⟩⟩
    have sm:=zdk hx hdx ne kp
    have hpZ:=zbh ((zad (o:=.own x) hdx).trans (zad (o:=.ins (cs 0) dx []) (by rw [zah (Ne.symm ne)];exact hx))) hp
    have hC1:=hCM.add (c:=⟨x,pp,0,[0,0]⟩) sm hpZ ⟨ex,el⟩ (K0 (l:=[0,0]) (by decide) (by decide) (by decide)) (fun h=>by rcases h with h | h <;> cases h)
    refine fun x2 dx2 hx2 hdx2 ne2=>⟨x2,dx2,4,7,rfl,by decide,by decide,by decide,by decide,zab,fun pp2 Z2 hp2 ex2 el2 kp2=>⟨rfl,?_⟩⟩
    have sm2:=zdk hx2 hdx2 ne2 kp2
    have hpZ2:=zbh ((zad (o:=.own x2) hdx2).trans (zad (o:=.ins (cs 0) dx2 []) (by rw [zah (Ne.symm ne2)];exact hx2))) hp2
    have hC2:=hC1.add (c:=⟨x2,pp2,0,[7,7,7,7]⟩) sm2 hpZ2 ⟨ex2,el2⟩ (K0 (l:=[7,7,7,7]) (by decide) (by decide) (by decide)) (fun h=>by rcases h with h | h <;> cases h)
    refine ⟨by show 2≤sizeLine;decide,fun e he=>⟨M,e,_,_,rfl,rfl,SqL.of (zad he _ _ (sm2 _ _ (sm _ _ zab))),SqL.of zab,?_,fun CH hCH=>hN _ _ ⟨CH,(cl ++ [⟨x,pp,0,[0,0]⟩]) ++ [⟨x2,pp2,0,[7,7,7,7]⟩],rfl,?_,(hC2.same (zad he)).same (zad hCH),?_,fun i hi=>?_,fun i h1 h2=>?_,(((sZ.trans sM).trans sm).trans sm2).trans ((zad he).trans (zad hCH))⟩⟩⟩
    ·rw [List.length_map,hl];exact Nat.le_trans (show nl+2≤4 by omega) (by decide)
    ·rw [zab];simp
    ·simp [hl]
    ·rw [List.append_assoc,List.getD_eq_getElem?_getD,List.getElem?_append_left (by omega),List.getElem?_eq_getElem (by omega)]
     exact hk _ (List.getElem_mem _)
    ·rw [List.append_assoc,List.getD_eq_getElem?_getD,List.getElem?_append_right (by omega),hl]
     rcases (show i - nl=0∨i - nl=1 by omega) with h | h
     ·rw [h];show 2≤zfJ 0 [0,0];decide
     ·rw [h];show 2≤zfJ 0 [7,7,7,7];decide
  rintro σ Y ⟨CH,cl,rfl,eCH,hC,hcl,hkd,hsz,sXY⟩
  have eRY:=sXY _ _ eR
  have hRY:=hRX.same sXY
  have bgY:=bgX.same sXY
  have kY:=kX.trans (.of sXY)
  clear bgX kX eR hRX
  have hRF:RwsFor (dtOf cl) m Y R ws:=⟨eRY,hRY,fun z hz=>by
   obtain ⟨⟨f1,f2⟩,f3,f4⟩:=hF z hz
   refine ⟨by show z.2.c<cl.length;omega,?_,fun c a b e=>⟨by show c<cl.length;have:=f4 c a b e;omega,hkd c (f4 c a b e)⟩⟩
   have h1:2 ^ ones z.2.i≤2 ^ 1:=Nat.pow_le_pow_right (by decide) f3
   exact Nat.le_trans h1 (hsz z.2.c f1 (by omega)),by omega⟩
  have hS:=hC.chs (by omega)
  have eL:Y CH=some (.lst (chL (dtOf cl))):=by rw [chL_dt];exact eCH
  have nRp:∀ {a:Addr} {u:List V},Y a=some (.tup u)→a≠p:=fun {a u} e z=>by obtain ⟨x,y,ep,_⟩:=bgY;rw [z,ep] at e;cases e
  
  have ofA:∀ (X:Hp),Same Y X→∃ (as:List Addr),X R=some (.tup (as.map V.ref))∧as.length=(rsOf ws).length∧(rsOf ws).length≤100∧∀ (j:Nat) (a:Addr) (r:Rw),as[j]? = some a→(rsOf ws)[j]? = some r→RwAt X a r:=fun X s=>by
   refine ⟨ws.map (·.1),by rw [List.map_map];exact s _ _ eRY,by unfold rsOf;rw [List.length_map,List.length_map],by unfold rsOf;rw [List.length_map];omega,fun j a r ha hr'=>?_⟩
   unfold rsOf at hr'
   rw [List.getElem?_map] at ha hr'
   obtain ⟨z,hz,rfl⟩:=Option.map_eq_some_iff.mp ha
   rw [hz] at hr'
   cases hr'
   exact (hRY z (List.mem_of_getElem? hz)).1.same s
  by_cases hf:fndL (rsOf ws) (rsOf ws).length=[]
  ·have hno:=zgh hf
   have hnc:ws.Pairwise fun a b=>NC a.2 b.2:=zk8 (nc_of hno)
   refine zaw (fun σ X=>σ=[some (.ref p),some (.int (m:Int)),some (.int (nl:Int)),some (.ref R),v4,some (.ref CH),none,none]∧X=Y) (fun σ X=>σ=[some (.ref p),some (.int (m:Int)),some (.int (nl:Int)),some (.ref R),v4,some (.ref CH),some .non,none]∧Same Y X) ?_ ?_ _ _ ⟨rfl,rfl⟩
   ·rintro σ X ⟨rfl,rfl⟩ N hN
    exact ⟨_,rfl,_,rfl,R,m,ws,rfl,by omega,eRY,by omega,hRY,fun _ X1 s1=>hN _ _ ⟨rfl,s1⟩,fun x i j r q hd=>absurd hd.1 (hno i j x)⟩
   rintro σ X ⟨rfl,s1⟩
   refine zaw (fun σ Z=>σ=[some (.ref p),some (.int (m:Int)),some (.int (nl:Int)),some (.ref R),v4,some (.ref CH),some .non,none]∧Z=X) (fun σ Z=>σ=[some (.ref p),some (.int (m:Int)),some (.int (nl:Int)),some (.ref R),v4,some (.ref CH),some .non,none]∧Same Y Z) ?_ ?_ _ _ ⟨rfl,rfl⟩
   ·rintro σ Z ⟨rfl,rfl⟩ N hN
    obtain ⟨as,a1,a2,a3,a4⟩:=ofA Z s1
    refine ⟨_,rfl,R,as,rsOf ws,rfl,a1,a2,a3,a4,fun _ Z1 sZ1=>?_,fun x i j r q hx=>by rw [hf] at hx;cases hx⟩
    refine ⟨_,rfl,_,_,rfl,.inl ⟨rfl,rfl⟩,fun Z2 sZ2=>⟨_,rfl,iteF ?_⟩⟩
    have s2:=(s1.trans sZ1).trans sZ2
    refine ⟨_,rfl,_,rfl,_,rfl,R,CH,m,dtOf cl,_,ws,rfl,by omega,by omega,hRF.same s2,s2 _ _ eL,hS.same s2,fun _ Z3 sZ3=>?_,fun x i j r q hd=>absurd hd.1 (hno i j x)⟩
    exact ⟨_,rfl,_,_,rfl,.inl ⟨rfl,rfl⟩,fun Z4 sZ4=>⟨_,rfl,iteF (hN _ _ ⟨rfl,(s2.trans sZ3).trans sZ4⟩)⟩⟩
   rintro σ Z ⟨rfl,sZ⟩
   refine ⟨_,rfl,_,rfl,iteT ⟨_,rfl,_,rfl,_,rfl,_,rfl,p,R,m,nl,n+1000,ws,rfl,by omega,l1,l2,sZ _ _ eRY,hRY.same sZ,by omega,hnc,bgY.same sZ,by omega,fun Z' kp=>?_⟩⟩
   exact k Z' fun a o ha e=>kp a o ha (sZ _ _ (kY a o ha e))
  ·obtain ⟨x,i,j,r,q,due,hri,hqj⟩:=due_ex hf
   have hnn:¬ ∀ i j x,¬ cand (rsOf ws) i j x:=fun h=>h i j x due.1
   have hll:(lwL r.l q.l).length≤8:=by have:=zka r.l q.l;omega
   obtain ⟨zi,hzi,rfl⟩:=Option.map_eq_some_iff.mp (show (ws[i]?).map (·.2)=some r by rw [← List.getElem?_map];exact hri)
   obtain ⟨zj,hzj,rfl⟩:=Option.map_eq_some_iff.mp (show (ws[j]?).map (·.2)=some q by rw [← List.getElem?_map];exact hqj)
   have oki:=(hRY zi (List.mem_of_getElem? hzi)).2
   have okj:=(hRY zj (List.mem_of_getElem? hzj)).2
   obtain ⟨_,r',q',e1,e2,hcl',hx'⟩:=due.1
   rw [hri] at e1;cases e1
   rw [hqj] at e2;cases e2
   obtain ⟨c1,c2⟩:=clash_parts.mp hcl'
   obtain ⟨f1,f2⟩:=zcU oki.wm okj.wm c1
   obtain ⟨keys,g,hkg,hnd,w1,w2'⟩:=zld oki.l0 okj.l0 c2
   refine zaw (fun σ X=>σ=[some (.ref p),some (.int (m:Int)),some (.int (nl:Int)),some (.ref R),v4,some (.ref CH),none,none]∧X=Y) (fun σ X=>∃ t wp:Addr,σ=[some (.ref p),some (.int (m:Int)),some (.int (nl:Int)),some (.ref R),v4,some (.ref CH),some (.ref t),none]∧X t=some (.tup [.int (x:Int),.int (i:Int),.int (j:Int),.ref wp])∧PrsAt X wp (lwL zi.2.l zj.2.l)∧Same Y X) ?_ ?_ _ _ ⟨rfl,rfl⟩
   ·rintro σ X ⟨rfl,rfl⟩ N hN
    refine ⟨_,rfl,_,rfl,R,m,ws,rfl,by omega,eRY,by omega,hRY,fun h=>absurd h hnn,fun x2 i2 j2 r2 q2 hd g1 g2 t wp X1 et hp s1=>?_⟩
    obtain ⟨rfl,rfl,rfl⟩:=due.uniq hd
    rw [hri] at g1;cases g1
    rw [hqj] at g2;cases g2
    exact hN _ _ ⟨t,wp,rfl,et,hp,s1⟩
   rintro σ X ⟨t,wp,rfl,et,hp,s1⟩
   refine zaw (fun σ Z=>σ=[some (.ref p),some (.int (m:Int)),some (.int (nl:Int)),some (.ref R),v4,some (.ref CH),some (.ref t),none]∧Z=X) (fun σ Z=>σ=[some (.ref p),some (.int (m:Int)),some (.int (nl:Int)),some (.ref R),v4,some (.ref CH),some (.ref t),none]∧Same X Z) ?_ ?_ _ _ ⟨rfl,rfl⟩
   ·rintro σ Z ⟨rfl,rfl⟩ N hN
    obtain ⟨as,a1,a2,a3,a4⟩:=ofA Z s1
    refine ⟨_,rfl,R,as,rsOf ws,rfl,a1,a2,a3,a4,fun h=>absurd h hf,fun x2 i2 j2 r2 q2 hx g1 g2 tp wp2 Z1 _ etp hp2 sZ1=>?_⟩
    obtain ⟨rfl,rfl,rfl⟩:=due.uniq (zeo hx)
    rw [hri] at g1;cases g1
    rw [hqj] at g2;cases g2
    refine ⟨_,rfl,_,_,rfl,.inr (zkf hll etp (sZ1 _ _ et) hp2 (hp.same sZ1)),fun Z2 sZ2=>⟨_,rfl,iteF ?_⟩⟩
    have s2:=(s1.trans sZ1).trans sZ2
    refine ⟨_,rfl,_,rfl,_,rfl,R,CH,m,dtOf cl,_,ws,rfl,by omega,by omega,hRF.same s2,s2 _ _ eL,hS.same s2,fun h=>absurd h hnn,fun x2 i2 j2 r2 q2 hd g1 g2 t2 wp3 Z3 et2 hp3 sZ3=>?_⟩
    obtain ⟨rfl,rfl,rfl⟩:=due.uniq hd
    rw [hri] at g1;cases g1
    rw [hqj] at g2;cases g2
    have sX3:=(sZ1.trans sZ2).trans sZ3
    exact ⟨_,rfl,_,_,rfl,.inr (zkf hll et2 (sX3 _ _ et) hp3 (hp.same sX3)),fun Z4 sZ4=>⟨_,rfl,iteF (hN _ _ ⟨rfl,sX3.trans sZ4⟩)⟩⟩
   rintro σ Z ⟨rfl,sZ⟩
   have etZ:=sZ _ _ et
   have hpZ:=hp.same sZ
   have sYZ:=s1.trans sZ
   refine ⟨_,rfl,_,rfl,iteF (zaN ?_)⟩
   dsimp only
   refine ⟨_,rfl,_,rfl,t,_,_,_,rfl,rfl,SqT.of etZ,rfl,_,rfl,t,_,_,_,rfl,rfl,SqT.of etZ,rfl,wp,lwL zi.2.l zj.2.l,rfl,hpZ,hll,hnd,fun d hd=>?_⟩
   have sd:=zad (o:=.dK (knV (lwL zi.2.l zj.2.l))) hd
   have sYd:=sYZ.trans sd
   refine ⟨R,d,x,ws,keys,g,rfl,sYd _ _ eRY,by omega,fun z hz=>(hRY z hz).1.same sYd,by rw [zab,hkg],fun q Z1 hq eq sq=>?_⟩
   have eqv:∀ {k:Nat} {z:Addr×Rw},ws[k]? = some z→x &&& z.2.m=z.2.w→(∀ c a b,z.2.l=some (c,a,b)→wrd keys g c &&& a=b)→k∈ansL (ws.map (·.2)) x (wrd keys g) ws.length:=fun {k z} hz hm hw=>by
    refine ansL_mem.mpr ⟨(List.getElem?_eq_some_iff.mp hz).1,z.2,by rw [List.getElem?_map,hz];rfl,?_⟩
    unfold ans
    rw [Bool.and_eq_true]
    refine ⟨decide_eq_true hm,?_⟩
    unfold awk
    cases hl:z.2.l with
    | none=>rfl
    | some o =>
     obtain ⟨c,a,b⟩:=o
     exact decide_eq_true (hw c a b hl)
   have mi:=eqv hzi (by rw [hx'];exact f1) w1
   have mj:=eqv hzj (by rw [hx'];exact f2) w2'
   have et1:=sq _ _ (sd _ _ etZ)
   have fl:(vN (ansL (ws.map (·.2)) x (wrd keys g) ws.length)).all zem=true:=by
    rw [List.all_eq_true]
    intro v hv
    obtain ⟨a,_,rfl⟩:=List.mem_map.mp hv
    rfl
   refine ⟨_,rfl,t,_,_,_,rfl,rfl,SqT.of et1,rfl,_,rfl,q,_,rfl,.inl (SqL.of eq),rfl,fl,_,rfl,?_⟩
   rw [if_neg Bool.false_ne_true,in_vN,decide_eq_true mi]
   refine iteT ⟨_,rfl,t,_,_,_,rfl,rfl,SqT.of et1,rfl,_,rfl,q,_,rfl,.inl (SqL.of eq),rfl,fl,?_⟩
   rw [if_neg Bool.false_ne_true,in_vN,decide_eq_true mj]
   exact k Z1 fun a o ha e=>sq _ _ (sd _ _ (sYZ _ _ (kY a o ha e)))
abbrev slaw:Stmt:=top 68
theorem sclaw:FnScope ["script","cells","k"] ["script"] (zai slaw):=⟨rfl,rfl,rfl,by decide +kernel,rfl,by decide +kernel,by decide +kernel⟩
theorem oklaw {f:Addr} {fd:FuncData} (F:Fun K "law" "law" slaw f fd) (T:Blt mg) (G_law_bag:Cal P w K mg base 1 "_law_bag" ["cell","k"] spBg) (G_law_right:Cal P w K mg base 10 "_law_right" ["bag"] zc1):FnOk P w K mg base CX0 11 f fd ["script"] (ziY K):=by
 refine F.ok sclaw (fun vs H Q E h=>?_) (fun cdv A outer s H vs Q E hr h=>?_)
 ·obtain ⟨a,ns,rfl,_⟩:=h;rfl
 ·obtain ⟨a,ns,rfl,hs,hln,_,k⟩:=h
  refine ⟨_,(zac (zat (i:=1) sclaw.nd rfl (Or.inl rfl) (zar zfy (zcQ zkI (pv 0) zd9 (zd8 zaf)) (zar zj6 (zaQ (zaa zaf zae)) (za0 ze7 (by rfl) T.int zfa (zaa (zaR (zhV (Nat.lt_of_succ_lt (zbu hr)) (K:=K) rfl) (pv 0) (zaQ zae) (zay _)) zae)))))
   (zac (zaS PassesOwn.never rfl (zaH rfl T.range (zaa (zan zav (by rfl) T.len PySem.boot_len (zaa (pv 1) zae)) zae)) (zak (i:=2) sclaw.nd rfl (Or.inl rfl))
   (zag (zaD (zaP (zaF (zal G_law_right (hr.mono (by walk_at "m")) rfl (zaa (zal G_law_bag (hr.mono (by walk_at "m")) rfl (zaa (zas zaO (pv 1) (pv 2) (fun _ _=>rfl)) (zaa (pv 2) zae))) zae)))) (zag (zao zcs)) zaq)))
   (zag (zao zcs)))),?rd⟩
  refine ⟨_,rfl,12,rfl,a,_,rfl,hs,fun q1 hq1=>?_⟩
  have s1:=zad (o:=.lst (cutV (ns.map V.int) none (some 12))) hq1
  refine ⟨by show 1≤sizeLine;decide,fun g hg=>?_⟩
  have s2:=s1.trans (zad (o:=.lst [V.int 0]) hg)
  refine ⟨_,rfl,by show 0≤sizeLine;decide,fun e he=>⟨a,e,_,rfl,rfl,(s2.trans (zad he)).seq hs,SqL.of zab,?_⟩⟩
  obtain ⟨cells,hc1,hc2,ecl⟩:∃ cells:List Int,1≤cells.length∧cells.length≤13∧cutV (ns.map V.int) none (some 12) ++ (List.replicate ((if (ns.map V.int).isEmpty=true then 1 else 0:Int)).toNat [V.int 0]).flatten=cells.map V.int:=by
   cases ns with
   | nil=>exact ⟨[0],by decide,by decide,by simp [cutV]⟩
   | cons y l =>
    refine ⟨(y :: l).take (min 12 (l.length+1)),?_,?_,?_⟩
    ·rw [List.length_take,List.length_cons];omega
    ·rw [List.length_take];omega
    ·rw [if_neg (by simp)]
     unfold cutV
     rw [show (some (12:Int))=some ((12:Nat):Int) from rfl,HT.sIx_nat,HT.sIx_none,List.length_map]
     simp
  have hk:0≤(if (ns.map V.int).isEmpty=true then 1 else 0:Int)∧(if (ns.map V.int).isEmpty=true then 1 else 0:Int)≤1:=by split <;> decide
  have s3:=s2.trans (zad (o:=.lst []) he)
  refine .inr ⟨_,rfl,g,_,_,rfl,rfl,zad he _ _ zab,by omega,by omega,?_,fun r hr'=>⟨q1,r,_,_,rfl,rfl,SqL.of ((((zad hg).trans (zad he)).trans (zad hr')) _ _ zab),SqL.of zab,?_,fun c hc=>?_⟩⟩
  ·refine Nat.le_trans (show 1 * _≤10 from ?_) (by decide);omega
  ·have:=congrArg List.length ecl
   rw [List.length_append,List.length_map] at this
   rw [this];exact Nat.le_trans hc2 (by decide)
  rw [ecl]
  generalize upd (upd (upd (upd H q1 (.lst (cutV (ns.map V.int) none (some 12)))) g (.lst [V.int 0])) e (.lst [])) r (.lst (List.replicate ((if (ns.map V.int).isEmpty=true then 1 else 0:Int)).toNat [V.int 0]).flatten)=H4 at *
  have ec:upd H4 c (.lst (cells.map V.int)) c=some (.lst (cells.map V.int)):=zab
  generalize upd H4 c (.lst (cells.map V.int))=H5 at *
  have cat:∀ i:Nat,i<cells.length→∃ z:Int,(cells.map V.int)[i]? = some (.int z):=fun i hi=>⟨cells[i],by rw [List.getElem?_map,List.getElem?_eq_getElem hi];rfl⟩
  try dsimp (proj:=false) only [za1,List.set]
  refine ⟨_,rfl,c,_,rfl,.inl (SqL.of ec),_,rfl,by omega,by rw [List.length_map];omega,?_⟩
  rw [Int.toNat_natCast,List.length_map]
  refine za2 (n:=cells.length) (fun i σ X=>∃ (v2:Option V),σ=[some (.ref a),some (.ref c),v2]∧X c=some (.lst (cells.map V.int))) ⟨_,rfl,ec⟩ ?_ (fun σ X _=>k X)
  rintro i σ X hi ⟨v2,rfl,ecX⟩
  rw [Int.zero_add]
  obtain ⟨zi,hzi⟩:=cat i hi
  refine ⟨_,rfl,_,rfl,c,_,_,_,rfl,rfl,SqL.of ecX,zaL hzi,_,rfl,zi,i,rfl,by omega,fun p1 X1 hp1 bg1 s1'=>?_⟩
  have nc:c≠p1:=zaj ecX hp1
  exact ⟨p1,4000,rfl,bg1,by decide,fun X2 kp=>⟨_,rfl,iteF (zaN ⟨_,rfl,kp _ _ nc (s1' _ _ ecX)⟩)⟩⟩
end
theorem all_mk {l:PySem.W.OpenLaw} {w:World} {K:PySem.W.Frag} {h:Heap} {mg:Str→Option Value} {fa:Addr} (X:K.In h) (G:h.Ns mainGlobals mg) (hfa:mg "law" = some (.ref fa))
  {f_0:Addr} {fd_0:FuncData}
  {f_1:Addr} {fd_1:FuncData}
  {f_2:Addr} {fd_2:FuncData}
  {f_3:Addr} {fd_3:FuncData}
  {f_4:Addr} {fd_4:FuncData}
  {f_5:Addr} {fd_5:FuncData}
  {f_6:Addr} {fd_6:FuncData}
  {f_7:Addr} {fd_7:FuncData}
  {f_8:Addr} {fd_8:FuncData}
  {f_9:Addr} {fd_9:FuncData}
  {f_10:Addr} {fd_10:FuncData}
  {f_11:Addr} {fd_11:FuncData}
  {f_12:Addr} {fd_12:FuncData}
  {f_13:Addr} {fd_13:FuncData}
  {f_14:Addr} {fd_14:FuncData}
  {f_15:Addr} {fd_15:FuncData}
  {f_16:Addr} {fd_16:FuncData}
  {f_17:Addr} {fd_17:FuncData}
  {f_18:Addr} {fd_18:FuncData}
  {f_19:Addr} {fd_19:FuncData}
  {C_Chip:Addr}
  {f_20:Addr} {fd_20:FuncData}
  {C_Store:Addr}
  {f_21:Addr} {fd_21:FuncData}
  {C_Latch:Addr}
  {f_22:Addr} {fd_22:FuncData}
  {T_22:Addr} {tc_22:Value} {td_22:Option Addr} {tn_22:Nat} {ts_22:Array (Option Value)} {tt_22:Tok}
  {f_23:Addr} {fd_23:FuncData}
  {T_23:Addr} {tc_23:Value} {td_23:Option Addr} {tn_23:Nat} {ts_23:Array (Option Value)} {tt_23:Tok}
  {f_24:Addr} {fd_24:FuncData}
  {f_25:Addr} {fd_25:FuncData}
  {nmT qT:Str} {NT:Addr} {bsT:List Value} {snT:List Str} {subT:List Value} {abT:Bool} {colT:Option Bool} {ddT:Option Addr} {k0T k1T k2T k3T k5T:Option Value} {cN1:Value} {dN1:Option Addr} {es1:Array DictEntry} {ep1:Nat} {sl1:Array (Option Value)} {cB:Value} {ddB:Option Addr} {cdB:ClassData} {slB:Array (Option Value)} {cN2:Value} {dN2:Option Addr} {es2:Array DictEntry} {ep2:Nat} {sl2:Array (Option Value)}
  {C_Clash:Addr}
  {C_BusError:Addr}
  {f_26:Addr} {fd_26:FuncData}
  {f_27:Addr} {fd_27:FuncData}
  {C_Board:Addr}
  {f_28:Addr} {fd_28:FuncData}
  {T_28:Addr} {tc_28:Value} {td_28:Option Addr} {tn_28:Nat} {ts_28:Array (Option Value)} {tt_28:Tok}
  {f_29:Addr} {fd_29:FuncData}
  {f_30:Addr} {fd_30:FuncData}
  {f_31:Addr} {fd_31:FuncData}
  {f_32:Addr} {fd_32:FuncData}
  {f_33:Addr} {fd_33:FuncData}
  {f_34:Addr} {fd_34:FuncData}
  {f_35:Addr} {fd_35:FuncData}
  {f_36:Addr} {fd_36:FuncData}
  {f_37:Addr} {fd_37:FuncData}
  {f_38:Addr} {fd_38:FuncData}
  {f_39:Addr} {oc_39 kV_39 dc_39 pm_39 cd_39 ct_39:Value} {od_39 an_39:Option Addr} {sl_39:Array (Option Value)}
  {tk_MOST_BITS:Tok}
  {tk_LAST_CHIP:Tok}
  {tk_LAST_WORD:Tok}
  {tk_MOST_CELLS:Tok}
  {tk_SIXTEEN:Tok}
  {tk_READ:Tok}
  {tk_WRITE:Tok}
  {tk_BOTH:Tok}
  (zDi:PySem.W.nsIn K mainGlobals "dict" = some none)
  (zS:PySem.W.nsIn K mainGlobals "sorted" = some none)
  (a0_0:PySem.W.nsIn K mainGlobals "single_ones" = some (some (.ref f_0)))
  (F_0:Fun K "single_ones" "single_ones" zbv f_0 fd_0)
  (a0_1:PySem.W.nsIn K mainGlobals "ones_of" = some (some (.ref f_1)))
  (F_1:Fun K "ones_of" "ones_of" zd2 f_1 fd_1)
  (a0_2:PySem.W.nsIn K mainGlobals "is_number" = some (some (.ref f_2)))
  (F_2:Fun K "is_number" "is_number" zck f_2 fd_2)
  (a0_3:PySem.W.nsIn K mainGlobals "size_of" = some (some (.ref f_3)))
  (F_3:Fun K "size_of" "size_of" zdV f_3 fd_3)
  (a0_4:PySem.W.nsIn K mainGlobals "is_choice" = some (some (.ref f_4)))
  (F_4:Fun K "is_choice" "is_choice" zcl f_4 fd_4)
  (a0_5:PySem.W.nsIn K mainGlobals "is_latch" = some (some (.ref f_5)))
  (F_5:Fun K "is_latch" "is_latch" zc4 f_5 fd_5)
  (a0_6:PySem.W.nsIn K mainGlobals "is_row" = some (some (.ref f_6)))
  (F_6:Fun K "is_row" "is_row" zfp f_6 fd_6)
  (a0_7:PySem.W.nsIn K mainGlobals "is_map" = some (some (.ref f_7)))
  (F_7:Fun K "is_map" "is_map" zfq f_7 fd_7)
  (a0_8:PySem.W.nsIn K mainGlobals "meets" = some (some (.ref f_8)))
  (F_8:Fun K "meets" "meets" zhs f_8 fd_8)
  (a0_9:PySem.W.nsIn K mainGlobals "choices_agree" = some (some (.ref f_9)))
  (F_9:Fun K "choices_agree" "choices_agree" zba f_9 fd_9)
  (a0_10:PySem.W.nsIn K mainGlobals "latches_agree" = some (some (.ref f_10)))
  (F_10:Fun K "latches_agree" "latches_agree" za9 f_10 fd_10)
  (a0_11:PySem.W.nsIn K mainGlobals "rows_clash" = some (some (.ref f_11)))
  (F_11:Fun K "rows_clash" "rows_clash" zbN f_11 fd_11)
  (a0_12:PySem.W.nsIn K mainGlobals "least_words" = some (some (.ref f_12)))
  (F_12:Fun K "least_words" "least_words" zbx f_12 fd_12)
  (a0_13:PySem.W.nsIn K mainGlobals "clash_of" = some (some (.ref f_13)))
  (F_13:Fun K "clash_of" "clash_of" zc7 f_13 fd_13)
  (a0_14:PySem.W.nsIn K mainGlobals "is_awake" = some (some (.ref f_14)))
  (F_14:Fun K "is_awake" "is_awake" zc5 f_14 fd_14)
  (a0_15:PySem.W.nsIn K mainGlobals "answering" = some (some (.ref f_15)))
  (F_15:Fun K "answering" "answering" zco f_15 fd_15)
  (a0_16:PySem.W.nsIn K mainGlobals "holes_among" = some (some (.ref f_16)))
  (F_16:Fun K "holes_among" "holes_among" zby f_16 fd_16)
  (a0_17:PySem.W.nsIn K mainGlobals "unanswered" = some (some (.ref f_17)))
  (F_17:Fun K "unanswered" "unanswered" zbM f_17 fd_17)
  (a0_18:PySem.W.nsIn K mainGlobals "is_word" = some (some (.ref f_18)))
  (F_18:Fun K "is_word" "is_word" zd5 f_18 fd_18)
  (a0_19:PySem.W.nsIn K mainGlobals "check_word" = some (some (.ref f_19)))
  (F_19:Fun K "check_word" "check_word" zbO f_19 fd_19)
  (a_Chip:PySem.W.nsIn K mainGlobals "Chip" = some (some (.ref C_Chip)))
  (sg_cm_Chip___init__:PySem.W.specialIn K (.ref C_Chip) "__getattribute__" = some (some (.builtin "type.__getattribute__")))
  (rd_cm_Chip___init__:PySem.W.readsIn K C_Chip (.type "type")=true)
  (fc_cm_Chip___init__:PySem.W.findCls K (.ref C_Chip) (.type "type") "__init__" = some (.val (.ref f_20)))
  (F_20:Fun K "__init__" "Chip.__init__" zbc f_20 fd_20)
  (a_Store:PySem.W.nsIn K mainGlobals "Store" = some (some (.ref C_Store)))
  (cl_Store:ClsOk K C_Store)
  (at_Store___len__:PySem.W.findIn K (.ref C_Store) "__len__" = some (some (.ref f_21)))
  (F_21:Fun K "__len__" "Chip.__len__" zbn f_21 fd_21)
  (fn_21:PySem.W.isFn K (.ref f_21)=true)
  (a_Latch:PySem.W.nsIn K mainGlobals "Latch" = some (some (.ref C_Latch)))
  (cl_Latch:ClsOk K C_Latch)
  (at_Latch___len__:PySem.W.findIn K (.ref C_Latch) "__len__" = some (some (.ref f_21)))
  (mk_Store:PySem.W.makesIn K C_Store=true)
  (kc_Store:PySem.W.keepIn K (.ref C_Store)=true)
  (at_i_Store:PySem.W.findIn K (.ref C_Store) "__init__" = some (some (.ref f_22)))
  (F_22:FunD K "__init__" "Store.__init__" zaV (.ref T_22) f_22 fd_22)
  (d_22:K.lookup T_22=some ⟨tc_22,td_22,.seq #[.int 0 tt_22] tn_22,ts_22⟩)
  (fn_22:PySem.W.isFn K (.ref f_22)=true)
  (mk_Latch:PySem.W.makesIn K C_Latch=true)
  (kc_Latch:PySem.W.keepIn K (.ref C_Latch)=true)
  (at_i_Latch:PySem.W.findIn K (.ref C_Latch) "__init__" = some (some (.ref f_23)))
  (F_23:FunD K "__init__" "Latch.__init__" zaW (.ref T_23) f_23 fd_23)
  (d_23:K.lookup T_23=some ⟨tc_23,td_23,.seq #[.int 0 tt_23] tn_23,ts_23⟩)
  (fn_23:PySem.W.isFn K (.ref f_23)=true)
  (t1_L:PySem.W.findIn K (.ref C_Latch) "__class__" = some (some (.builtin "object.__class__")))
  (t2_L:PySem.W.specialIn K (.builtin "object.__class__") "__get__" = some (some (.builtin "getset_descriptor.__get__")))
  (t3_L:PySem.W.takesIn K (.builtin "object.__class__")=some true)
  (t4_L:PySem.W.mroIn K C_Latch (.type "object")=some true)
  (t5_L:PySem.W.isIn K (.ref C_Latch) C_Latch=true)
  (a0_24:PySem.W.nsIn K mainGlobals "row_fits" = some (some (.ref f_24)))
  (F_24:Fun K "row_fits" "row_fits" zcX f_24 fd_24)
  (a0_25:PySem.W.nsIn K mainGlobals "check_map" = some (some (.ref f_25)))
  (F_25:Fun K "check_map" "check_map" zcn f_25 fd_25)
  (a_Clash:PySem.W.nsIn K mainGlobals "Clash" = some (some (.ref C_Clash)))
  (a_BusError:PySem.W.nsIn K mainGlobals "BusError" = some (some (.ref C_BusError)))
  (xl:K.lookup C_Clash=some (excClassObj nmT qT C_Clash NT bsT [.ref C_BusError,.type "ValueError",.type "Exception",.type "BaseException",.type "object"] true snT subT abT colT ddT k0T k1T k2T k3T k5T "ValueError.__new__"))
  (xn:K.lookup NT=some ⟨cN1,dN1,.dict es1 ep1,sl1⟩)
  (xs:es1.toList.all (fun e=>match e.key with | .str _ _=>true | _=>false)=true)
  (yl:K.lookup C_BusError=some ⟨cB,ddB,.cls cdB,slB⟩)
  (yn:K.lookup cdB.ns=some ⟨cN2,dN2,.dict es2 ep2,sl2⟩)
  (ys:es2.toList.all (fun e=>match e.key with | .str _ _=>true | _=>false)=true)
  (yi:nsFind es2 "__init__" = none)
  (xa:PySem.W.findIn K (.ref C_Clash) "__setattr__" = some (some (.builtin "object.__setattr__")))
  (tk1_:PySem.W.takerIn K C_Clash "address" = some none)
  (tk2_:PySem.W.takerIn K C_Clash "first" = some none)
  (tk3_:PySem.W.takerIn K C_Clash "second" = some none)
  (tk4_:PySem.W.takerIn K C_Clash "words" = some none)
  (c1_:PySem.W.findIn K (.ref C_Clash) "__getattribute__" = some (some (.builtin "BaseException.__getattribute__")))
  (c2_:PySem.W.findIn K (.ref C_Clash) "__getattr__" = some none)
  (c4_:PySem.W.subIn K (.ref C_Clash) (.type "BaseException")=some true)
  (c5_:PySem.W.mroIn K C_Clash (.type "object")=some true)
  (c3_:∀ oD:Option Obj,PySem.W.findObj K C_Clash oD "__class__" = some (.bind (.builtin "getset_descriptor.__get__") (.builtin "object.__class__")))
  (m1_:PySem.W.exmOne K (.ref C_Clash) (.ref C_Clash)=some true)
  (xh:PySem.W.hasDictIn K C_Clash=true)
  (fk1_:PySem.W.findIn K (.ref C_Clash) "address" = some none)
  (fk2_:PySem.W.findIn K (.ref C_Clash) "first" = some none)
  (fk3_:PySem.W.findIn K (.ref C_Clash) "second" = some none)
  (fk4_:PySem.W.findIn K (.ref C_Clash) "words" = some none)
  (s1_:PySem.W.specialIn K (.ref C_BusError) "__getattribute__" = some (some (.builtin "type.__getattribute__")))
  (s2_:PySem.W.readsIn K C_BusError (.type "type")=true)
  (s3_:PySem.W.findCls K (.ref C_BusError) (.type "type") "__init__" = some (.val (.builtin "ValueError.__init__")))
  (at_x_Clash:PySem.W.findIn K (.ref C_Clash) "__init__" = some (some (.ref f_26)))
  (xi_Clash:nsFind es1 "__init__" = some (.ref f_26))
  (F_26:Fun K "__init__" "Clash.__init__" zaX f_26 fd_26)
  (fn_26:PySem.W.isFn K (.ref f_26)=true)
  (a0_27:PySem.W.nsIn K mainGlobals "check_clash" = some (some (.ref f_27)))
  (F_27:Fun K "check_clash" "check_clash" zbz f_27 fd_27)
  (a_Board:PySem.W.nsIn K mainGlobals "Board" = some (some (.ref C_Board)))
  (cl_Board:ClsBd K C_Board)
  (mk_Board:PySem.W.makesIn K C_Board=true)
  (kc_Board:PySem.W.keepIn K (.ref C_Board)=true)
  (at_i_Board:PySem.W.findIn K (.ref C_Board) "__init__" = some (some (.ref f_28)))
  (F_28:FunD K "__init__" "Board.__init__" zaY (.ref T_28) f_28 fd_28)
  (d_28:K.lookup T_28=some ⟨tc_28,td_28,.seq #[.int 0 tt_28] tn_28,ts_28⟩)
  (fn_28:PySem.W.isFn K (.ref f_28)=true)
  (a0_29:PySem.W.nsIn K mainGlobals "_law_bag" = some (some (.ref f_29)))
  (F_29:Fun K "_law_bag" "_law_bag" zdb f_29 fd_29)
  (a0_30:PySem.W.nsIn K mainGlobals "_law_draw" = some (some (.ref f_30)))
  (F_30:Fun K "_law_draw" "_law_draw" zcq f_30 fd_30)
  (a0_31:PySem.W.nsIn K mainGlobals "_law_same" = some (some (.ref f_31)))
  (F_31:Fun K "_law_same" "_law_same" zcp f_31 fd_31)
  (a0_32:PySem.W.nsIn K mainGlobals "_law_free_row" = some (some (.ref f_32)))
  (F_32:Fun K "_law_free_row" "_law_free_row" zbb f_32 fd_32)
  (a0_33:PySem.W.nsIn K mainGlobals "_law_words" = some (some (.ref f_33)))
  (F_33:Fun K "_law_words" "_law_words" zbP f_33 fd_33)
  (a0_34:PySem.W.nsIn K mainGlobals "_law_clash" = some (some (.ref f_34)))
  (F_34:Fun K "_law_clash" "_law_clash" zbR f_34 fd_34)
  (a0_35:PySem.W.nsIn K mainGlobals "_law_board" = some (some (.ref f_35)))
  (F_35:Fun K "_law_board" "_law_board" zbS f_35 fd_35)
  (a0_36:PySem.W.nsIn K mainGlobals "_law_answers" = some (some (.ref f_36)))
  (F_36:Fun K "_law_answers" "_law_answers" zbm f_36 fd_36)
  (a0_37:PySem.W.nsIn K mainGlobals "_law_one" = some (some (.ref f_37)))
  (F_37:Fun K "_law_one" "_law_one" zda f_37 fd_37)
  (a0_38:PySem.W.nsIn K mainGlobals "_law_right" = some (some (.ref f_38)))
  (F_38:Fun K "_law_right" "_law_right" zbQ f_38 fd_38)
  (a0_39:PySem.W.nsIn K mainGlobals "law" = some (some (.ref f_39)))
  (l_39:K.lookup f_39=some ⟨oc_39,od_39,.func (PySem.W.fnOf "law" "law" (zbg slaw) (zaK slaw) (zai slaw) .none kV_39 dc_39 pm_39 an_39 cd_39 ct_39),sl_39⟩)
  (c_39:PySem.W.codeIn K cd_39 "law" = true)
  (k_39:PySem.W.keepIn K (.ref f_39)=true)
  (z_MOST_BITS:PySem.W.nsIn K mainGlobals "MOST_BITS" = some (some (.int 16 tk_MOST_BITS)))
  (z_LAST_CHIP:PySem.W.nsIn K mainGlobals "LAST_CHIP" = some (some (.int 99 tk_LAST_CHIP)))
  (z_LAST_WORD:PySem.W.nsIn K mainGlobals "LAST_WORD" = some (some (.int 255 tk_LAST_WORD)))
  (z_MOST_CELLS:PySem.W.nsIn K mainGlobals "MOST_CELLS" = some (some (.int 4096 tk_MOST_CELLS)))
  (z_SIXTEEN:PySem.W.nsIn K mainGlobals "SIXTEEN" = some (some (.str "0123456789abcdef" tk_SIXTEEN)))
  (z_READ:PySem.W.nsIn K mainGlobals "READ" = some (some (.str "read" tk_READ)))
  (z_WRITE:PySem.W.nsIn K mainGlobals "WRITE" = some (some (.str "write" tk_WRITE)))
  (z_BOTH:PySem.W.nsIn K mainGlobals "BOTH" = some (some (.str "both" tk_BOTH)))
  (z_len:PySem.W.nsIn K mainGlobals "len" = some none)
  (z_sum:PySem.W.nsIn K mainGlobals "sum" = some none)
  (z_all:PySem.W.nsIn K mainGlobals "all" = some none)
  (z_max:PySem.W.nsIn K mainGlobals "max" = some none)
  (z_min:PySem.W.nsIn K mainGlobals "min" = some none)
  (z_int:PySem.W.nsIn K mainGlobals "int" = some none)
  (z_bool:PySem.W.nsIn K mainGlobals "bool" = some none)
  (z_isinstance:PySem.W.nsIn K mainGlobals "isinstance" = some none)
  (z_range:PySem.W.nsIn K mainGlobals "range" = some none)
  (z_enumerate:PySem.W.nsIn K mainGlobals "enumerate" = some none)
  (z_zip:PySem.W.nsIn K mainGlobals "zip" = some none)
  (z_str:PySem.W.nsIn K mainGlobals "str" = some none)
  (z_tuple:PySem.W.nsIn K mainGlobals "tuple" = some none)
  (z_list:PySem.W.nsIn K mainGlobals "list" = some none) :
  ∃ fd:FuncData,(∀ (s:Shared) (v:Value),BindsTo s fd ⟨[v],[]⟩ [("script",v)])∧∀ base:Heap,K.In base→base.Ns mainGlobals mg→FnOk l.prog w K mg base CX0 11 fa fd ["script"] (ziY K):=by
 have mo:∀ {x:Str} {v:Value},PySem.W.nsIn K mainGlobals x=some (some v)→mg x=some v:=fun a=>PySem.W.mg_of X G a
 have mn:∀ {x:Str},PySem.W.nsIn K mainGlobals x=some none→mg x=none:=fun a=>PySem.W.mg_none_of X G a
 have T:Blt mg:=⟨mn z_len,mn z_sum,mn z_all,mn z_max,mn z_min,mn z_int,mn z_bool,mn z_isinstance,mn z_range,mn z_enumerate,mn z_zip,mn z_str,mn z_tuple,mn z_list⟩
 have N:Nums mg:=⟨⟨_,mo z_MOST_BITS⟩,⟨_,mo z_LAST_CHIP⟩,⟨_,mo z_LAST_WORD⟩,⟨_,mo z_MOST_CELLS⟩,⟨_,mo z_SIXTEEN⟩,⟨_,mo z_READ⟩,⟨_,mo z_WRITE⟩,⟨_,mo z_BOTH⟩⟩
 have b_0:=F_0.binds (ps:=["mask"]) fun _ _ _ _ _ _=>lnB1 fun _=>rfl
 have b_1:=F_1.binds (ps:=["mask"]) fun _ _ _ _ _ _=>lnB1 fun _=>rfl
 have b_2:=F_2.binds (ps:=["thing","last"]) fun _ _ _ _ _ _=>lnB2 fun _ _=>rfl
 have b_3:=F_3.binds (ps:=["bits"]) fun _ _ _ _ _ _=>lnB1 fun _=>rfl
 have b_4:=F_4.binds (ps:=["mask","want","last"]) fun _ _ _ _ _ _=>lnB3 fun _ _ _=>rfl
 have b_5:=F_5.binds (ps:=["thing"]) fun _ _ _ _ _ _=>lnB1 fun _=>rfl
 have b_6:=F_6.binds (ps:=["bits","thing"]) fun _ _ _ _ _ _=>lnB2 fun _ _=>rfl
 have b_7:=F_7.binds (ps:=["bits","thing"]) fun _ _ _ _ _ _=>lnB2 fun _ _=>rfl
 have b_8:=F_8.binds (ps:=["row","address"]) fun _ _ _ _ _ _=>lnB2 fun _ _=>rfl
 have b_9:=F_9.binds (ps:=["mask","want","other_mask","other_want"]) fun _ _ _ _ _ _=>lnB4 fun _ _ _ _=>rfl
 have b_10:=F_10.binds (ps:=["latch","other"]) fun _ _ _ _ _ _=>lnB2 fun _ _=>rfl
 have b_11:=F_11.binds (ps:=["row","other"]) fun _ _ _ _ _ _=>lnB2 fun _ _=>rfl
 have b_12:=F_12.binds (ps:=["row","other"]) fun _ _ _ _ _ _=>lnB2 fun _ _=>rfl
 have b_13:=F_13.binds (ps:=["rows"]) fun _ _ _ _ _ _=>lnB1 fun _=>rfl
 have b_14:=F_14.binds (ps:=["row","words"]) fun _ _ _ _ _ _=>lnB2 fun _ _=>rfl
 have b_15:=F_15.binds (ps:=["rows","address","words"]) fun _ _ _ _ _ _=>lnB3 fun _ _ _=>rfl
 have b_16:=F_16.binds (ps:=["rows","start","size"]) fun _ _ _ _ _ _=>lnB3 fun _ _ _=>rfl
 have b_17:=F_17.binds (ps:=["bits","rows","words"]) fun _ _ _ _ _ _=>lnB3 fun _ _ _=>rfl
 have b_18:=F_18.binds (ps:=["thing"]) fun _ _ _ _ _ _=>lnB1 fun _=>rfl
 have b_19:=F_19.binds (ps:=["word"]) fun _ _ _ _ _ _=>lnB1 fun _=>rfl
 have b_20:=F_20.binds (ps:=["self","head","held"]) fun _ _ _ _ _ _=>lnB3 fun _ _ _=>rfl
 have b_21:=F_21.binds (ps:=["self"]) fun _ _ _ _ _ _=>lnB1 fun _=>rfl
 have b_24:=F_24.binds (ps:=["row","chips"]) fun _ _ _ _ _ _=>lnB2 fun _ _=>rfl
 have b_25:=F_25.binds (ps:=["bits","rows","chips"]) fun _ _ _ _ _ _=>lnB3 fun _ _ _=>rfl
 have b_26:=F_26.binds (ps:=["self","address","first","second","words"]) fun _ _ _ _ _ _=>lnB5 fun _ _ _ _ _=>rfl
 have b_27:=F_27.binds (ps:=["rows"]) fun _ _ _ _ _ _=>lnB1 fun _=>rfl
 have b_29:=F_29.binds (ps:=["cell","k"]) fun _ _ _ _ _ _=>lnB2 fun _ _=>rfl
 have b_30:=F_30.binds (ps:=["bag","many"]) fun _ _ _ _ _ _=>lnB2 fun _ _=>rfl
 have b_31:=F_31.binds (ps:=["found","due"]) fun _ _ _ _ _ _=>lnB2 fun _ _=>rfl
 have b_32:=F_32.binds (ps:=["bag","bits","latches","rows"]) fun _ _ _ _ _ _=>lnB4 fun _ _ _ _=>rfl
 have b_33:=F_33.binds (ps:=["one","other"]) fun _ _ _ _ _ _=>lnB2 fun _ _=>rfl
 have b_34:=F_34.binds (ps:=["bits","rows"]) fun _ _ _ _ _ _=>lnB2 fun _ _=>rfl
 have b_35:=F_35.binds (ps:=["bits","rows","chips"]) fun _ _ _ _ _ _=>lnB3 fun _ _ _=>rfl
 have b_36:=F_36.binds (ps:=["rows","address","words"]) fun _ _ _ _ _ _=>lnB3 fun _ _ _=>rfl
 have b_37:=F_37.binds (ps:=["bits","rows","latches","bag"]) fun _ _ _ _ _ _=>lnB4 fun _ _ _ _=>rfl
 have b_38:=F_38.binds (ps:=["bag"]) fun _ _ _ _ _ _=>lnB1 fun _=>rfl
 have F_39:=zkd (st:=slaw) l_39 c_39 k_39
 have e:=hfa.symm.trans (mo a0_39)
 cases e
 refine ⟨PySem.W.fnOf "law" "law" (zbg slaw) (zaK slaw) (zai slaw) .none kV_39 dc_39 pm_39 an_39 cd_39 ct_39,fun s v=>.of_eq rfl,fun base _ _=>?_⟩
 have G_single_ones:FnOk l.prog w K mg base CX0 1 f_0 _ ["mask"] zc0:=zed F_0 T
 have C_single_ones:=zax G_single_ones (mo a0_0) F_0.kp b_0
 have G_ones_of:FnOk l.prog w K mg base CX0 2 f_1 _ ["mask"] zfY:=zhY F_1 T C_single_ones
 have C_ones_of:=zax G_ones_of (mo a0_1) F_1.kp b_1
 have G_is_number:FnOk l.prog w K mg base CX0 1 f_2 _ ["thing","last"] zbl:=zfz F_2 T
 have C_is_number:=zax G_is_number (mo a0_2) F_2.kp b_2
 have G_size_of:FnOk l.prog w K mg base CX0 1 f_3 _ ["bits"] zfX:=zhX F_3 T
 have C_size_of:=zax G_size_of (mo a0_3) F_3.kp b_3
 have G_is_choice:FnOk l.prog w K mg base CX0 2 f_4 _ ["mask","want","last"] zcN:=zfA F_4 T C_is_number
 have C_is_choice:=zax G_is_choice (mo a0_4) F_4.kp b_4
 have G_is_latch:FnOk l.prog w K mg base CX0 3 f_5 _ ["thing"] zhm:=zgH F_5 T N C_is_number C_is_choice
 have C_is_latch:=zax G_is_latch (mo a0_5) F_5.kp b_5
 have G_is_row:FnOk l.prog w K mg base CX0 4 f_6 _ ["bits","thing"] zhj:=zjn F_6 T N C_is_number C_size_of C_is_choice C_is_latch
 have C_is_row:=zax G_is_row (mo a0_6) F_6.kp b_6
 have G_is_map:FnOk l.prog w K mg base CX0 5 f_7 _ ["bits","thing"] zhk:=zjo F_7 T C_is_row
 have C_is_map:=zax G_is_map (mo a0_7) F_7.kp b_7
 have G_meets:FnOk l.prog w K mg base CX0 1 f_8 _ ["row","address"] zf0:=zk3 F_8 T
 have C_meets:=zax G_meets (mo a0_8) F_8.kp b_8
 have G_choices_agree:FnOk l.prog w K mg base CX0 1 f_9 _ ["mask","want","other_mask","other_want"] ziZ:=zdh F_9 T
 have C_choices_agree:=zax G_choices_agree (mo a0_9) F_9.kp b_9
 have G_latches_agree:FnOk l.prog w K mg base CX0 2 f_10 _ ["latch","other"] zhn:=zdg F_10 T C_choices_agree
 have C_latches_agree:=zax G_latches_agree (mo a0_10) F_10.kp b_10
 have G_rows_clash:FnOk l.prog w K mg base CX0 3 f_11 _ ["row","other"] zfn:=zeH F_11 T C_choices_agree C_latches_agree
 have C_rows_clash:=zax G_rows_clash (mo a0_11) F_11.kp b_11
 have G_least_words:FnOk l.prog w K mg base CX0 1 f_12 _ ["row","other"] zfl:=zee F_12 T (mn zS)
 have C_least_words:=zax G_least_words (mo a0_12) F_12.kp b_12
 have G_clash_of:FnOk l.prog w K mg base CX0 4 f_13 _ ["rows"] zb3:=zgJ F_13 T C_rows_clash C_least_words
 have C_clash_of:=zax G_clash_of (mo a0_13) F_13.kp b_13
 have G_is_awake:FnOk l.prog w K mg base CX0 1 f_14 _ ["row","words"] zd0:=zgI F_14 T
 have C_is_awake:=zax G_is_awake (mo a0_14) F_14.kp b_14
 have G_answering:FnOk l.prog w K mg base CX0 2 f_15 _ ["rows","address","words"] zhr:=zfC F_15 T C_meets C_is_awake
 have C_answering:=zax G_answering (mo a0_15) F_15.kp b_15
 have G_holes_among:FnOk l.prog w K mg base CX0 3 f_16 _ ["rows","start","size"] zfm:=zef F_16 T C_ones_of
 have C_holes_among:=zax G_holes_among (mo a0_16) F_16.kp b_16
 have G_unanswered:FnOk l.prog w K mg base CX0 4 f_17 _ ["bits","rows","words"] zdW:=zeG F_17 T C_is_awake C_size_of C_holes_among
 have C_unanswered:=zax G_unanswered (mo a0_17) F_17.kp b_17
 have C_is_numberW:Cal l.prog w K mg base 1 "is_number" ["thing","last"] zdX:=zax (G_is_number.imp zk6) (mo a0_2) F_2.kp b_2
 have G_is_word:FnOk l.prog w K mg base CX0 2 f_18 _ ["thing"] zb2:=zhZ F_18 T N C_is_numberW
 have C_is_word:=zax G_is_word (mo a0_18) F_18.kp b_18
 have G_check_word:FnOk l.prog w K mg base CX0 3 f_19 _ ["word"] zc2:=zeI F_19 T C_is_word
 have C_check_word:=zax G_check_word (mo a0_19) F_19.kp b_19
 have CL_Chip___init__:Clm l.prog w K mg base 1 "Chip" "__init__" (zf1 K):=⟨⟨C_Chip,f_20,_,_,_,mo a_Chip,sg_cm_Chip___init__,rd_cm_Chip___init__,fc_cm_Chip___init__,F_20.kp,zdj F_20 T,b_20⟩⟩
 have G_Store___len__:FnOk l.prog w K mg base CX0 1 f_21 _ ["self"] (zhl C_Store List.length):=zbL (C:=C_Store) F_21 T cl_Store
 have M_Store___len__:=zj9 cl_Store.cl at_Store___len__ fn_21 F_21.kp G_Store___len__ b_21
 have G_Latch___len__:FnOk l.prog w K mg base CX0 1 f_21 _ ["self"] (zhl C_Latch List.length):=zbL (C:=C_Latch) F_21 T cl_Latch
 have M_Latch___len__:=zj9 cl_Latch.cl at_Latch___len__ fn_21 F_21.kp G_Latch___len__ b_21
 have G_i_Store:FnOk l.prog w K mg base CX0 3 f_22 _ ["self","cells","word"] (zdC C_Store):=zcI (C:=C_Store) F_22 T N cl_Store C_is_numberW C_is_word CL_Chip___init__
 have GMStore_1:Mak l.prog w K mg base 3 "Store" C_Store [] (dP [.int 0]) (zdC C_Store):=zh2 (mo a_Store) mk_Store at_i_Store fn_22 kc_Store G_i_Store (F_22.kbinds (ps:=["self","cells","word"]) (ks:=[]) (g:=dP [.int 0 tt_22]) d_22 rfl (fun _ _ _ _ _ _ us ws hl=>(by have hl':us.length=2:=(by have h:=hl;unfold dP at h;rw [List.length_append] at h;have h2:(["self","cells","word"]:List Str).length=3:=rfl;simp only [List.length_cons,List.length_nil] at h;omega);exact (by apply ln2 us hl';intro _ _;exact ⟨_,rfl,rfl⟩))) (Vals.dP (show Vals [V.int 0] [Value.int 0 tt_22] from .cons ⟨_,rfl⟩ .nil)))
 have GMStore_2:Mak l.prog w K mg base 3 "Store" C_Store [] (dP []) (zdC C_Store):=zh2 (mo a_Store) mk_Store at_i_Store fn_22 kc_Store G_i_Store (F_22.kbinds (ps:=["self","cells","word"]) (ks:=[]) (g:=dP []) d_22 rfl (fun _ _ _ _ _ _ us ws hl=>(by have hl':us.length=3:=(by have h:=hl;unfold dP at h;rw [List.length_append] at h;have h2:(["self","cells","word"]:List Str).length=3:=rfl;simp only [List.length_cons,List.length_nil] at h;omega);exact (by apply ln3 us hl';intro _ _ _;exact ⟨_,rfl,rfl⟩))) (Vals.dP (show Vals ([]:List V) ([]:List Value) from .nil)))
 have G_i_Latch:FnOk l.prog w K mg base CX0 3 f_23 _ ["self","word"] (zfZ C_Latch "latch"):=zcJ (C:=C_Latch) F_23 T cl_Latch C_is_word CL_Chip___init__
 have GMLatch_0:Mak l.prog w K mg base 3 "Latch" C_Latch [] (dP [.int 0]) (zfZ C_Latch "latch"):=zh2 (mo a_Latch) mk_Latch at_i_Latch fn_23 kc_Latch G_i_Latch (F_23.kbinds (ps:=["self","word"]) (ks:=[]) (g:=dP [.int 0 tt_23]) d_23 rfl (fun _ _ _ _ _ _ us ws hl=>(by have hl':us.length=1:=(by have h:=hl;unfold dP at h;rw [List.length_append] at h;have h2:(["self","word"]:List Str).length=2:=rfl;simp only [List.length_cons,List.length_nil] at h;omega);exact (by apply ln1 us hl';intro _;exact ⟨_,rfl,rfl⟩))) (Vals.dP (show Vals [V.int 0] [Value.int 0 tt_23] from .cons ⟨_,rfl⟩ .nil)))
 have ML:∀ kd,(kd=0∨kd=2)→Mth l.prog w K mg base 1 ((csOf C_Store C_Store C_Latch C_Store C_Store) kd) "__len__" [] (fun vs _=>vs) (zhl ((csOf C_Store C_Store C_Latch C_Store C_Store) kd) (lenK kd)):=fun kd h=>by
  rcases h with rfl | rfl
  ·exact M_Store___len__
  ·exact M_Latch___len__
 have G_row_fits:FnOk l.prog w K mg base CX0 3 f_24 _ ["row","chips"] (zhp (csOf C_Store C_Store C_Latch C_Store C_Store)):=zgG (cs:=(csOf C_Store C_Store C_Latch C_Store C_Store)) F_24 T C_ones_of (mo a_Latch) (zjz t5_L) (fun e=>.ins e cl_Latch.cl t1_L t2_L t3_L t4_L) ML
 have C_row_fits:=zax G_row_fits (mo a0_24) F_24.kp b_24
 have G_check_map:FnOk l.prog w K mg base CX0 6 f_25 _ ["bits","rows","chips"] (zdZ (csOf C_Store C_Store C_Latch C_Store C_Store)):=zfB (cs:=(csOf C_Store C_Store C_Latch C_Store C_Store)) F_25 T N C_is_number C_is_map C_row_fits
 have C_check_map:=zax G_check_map (mo a0_25) F_25.kp b_25
 have sk:∀ es:Array DictEntry,es.toList.all (fun e=>match e.key with | .str _ _=>true | _=>false)=true→StrKeys es:=fun es h e he=>strKey (List.all_eq_true.mp h e (Array.mem_toList_iff.mpr he))
 have xc:XCls K C_Clash:=⟨⟨_,_,_,_,xl⟩,c1_,c2_,c3_,c4_,c5_⟩
 have GS:SupI K mg "BusError" := ⟨⟨C_BusError,mo a_BusError,s1_,s2_,s3_⟩⟩
 have XI_Clash:ExcI K C_Clash f_26:=⟨⟨_,_,_,_,_,_,_,_,_,_,_,_,_,_,_,xl,⟨_,_,_,_,_,xn,sk _ xs,xi_Clash⟩,.own yl ⟨_,_,_,_,_,yn,sk _ ys,yi⟩ .base⟩,xa⟩
 have GI_Clash:XIni l.prog w K mg base 1 "Clash" C_Clash (zkH C_Clash):=by
  obtain ⟨oI,h1,h2⟩:=zij fn_26
  exact ⟨mo a_Clash,f_26,_,_,oI,XI_Clash,⟨h1,h2⟩,zcK F_26 T GS XI_Clash tk1_ tk2_ tk3_ tk4_,b_26⟩
 have GX_check_clash:FnOk l.prog w K mg base (CX1 l.prog w) 5 f_27 _ ["rows"] (zf2 C_Clash):=zeg F_27 T C_clash_of GI_Clash
 have CX_check_clash:CalX l.prog w K mg base 5 "check_clash" ["rows"] (zf2 C_Clash):=⟨f_27,_,GX_check_clash,mo a0_27,F_27.kp,b_27⟩
 have G_check_clash:=GX_check_clash.calm
 have C_check_clash:=zax G_check_clash (mo a0_27) F_27.kp b_27
 have G_i_Board:FnOk l.prog w K mg base (CX1 l.prog w) 7 f_28 _ ["self","bits","rows","chips","floating"] (zdY C_Board C_Clash (csOf C_Store C_Store C_Latch C_Store C_Store)):=zcL (C:=C_Board) F_28 T (mn zS) cl_Board C_check_map CX_check_clash C_check_word
 have GMXBoard_3:MakX l.prog w K mg base 7 "Board" C_Board [] (dP [.int 0]) (zdY C_Board C_Clash (csOf C_Store C_Store C_Latch C_Store C_Store)):=⟨mo a_Board,f_28,_,_,_,⟨mk_Board,at_i_Board,fn_28,kc_Board⟩,G_i_Board,(F_28.kbinds (ps:=["self","bits","rows","chips","floating"]) (ks:=[]) (g:=dP [.int 0 tt_28]) d_28 rfl (fun _ _ _ _ _ _ us ws hl=>(by have hl':us.length=4:=(by have h:=hl;unfold dP at h;rw [List.length_append] at h;have h2:(["self","bits","rows","chips","floating"]:List Str).length=5:=rfl;simp only [List.length_cons,List.length_nil] at h;omega);exact (by apply ln4 us hl';intro _ _ _ _;exact ⟨_,rfl,rfl⟩))) (Vals.dP (show Vals [V.int 0] [Value.int 0 tt_28] from .cons ⟨_,rfl⟩ .nil)))⟩
 have G__law_bag:FnOk l.prog w K mg base CX0 1 f_29 _ ["cell","k"] spBg:=zgL F_29 T
 have C__law_bag:=zax G__law_bag (mo a0_29) F_29.kp b_29
 have G__law_draw:FnOk l.prog w K mg base CX0 1 f_30 _ ["bag","many"] spDw:=zfD F_30 T
 have C__law_draw:=zax G__law_draw (mo a0_30) F_30.kp b_30
 have G_no:Cal l.prog w K mg base 0 "_law_same" ["found","due"] (fun _ _ _ _=>False):=⟨f_31,_,⟨fun _ _ _ _ h=>h.elim,fun _ _ _ _ _ _ _ _ _ _ _ _ _ h=>h.elim⟩,mo a0_31,F_31.kp,b_31⟩
 have C__law_same0:Cal l.prog w K mg base 1 "_law_same" ["found","due"] (zbw 0):=zax (zbo F_31 T G_no (fun k e=>by cases e <;> rfl)) (mo a0_31) F_31.kp b_31
 have C__law_same1:Cal l.prog w K mg base 2 "_law_same" ["found","due"] (zbw 1):=zax (zbo F_31 T C__law_same0 (fun k e=>by cases e <;> rfl)) (mo a0_31) F_31.kp b_31
 have C__law_same2:Cal l.prog w K mg base 3 "_law_same" ["found","due"] (zbw 2):=zax (zbo F_31 T C__law_same1 (fun k e=>by cases e <;> rfl)) (mo a0_31) F_31.kp b_31
 have C__law_same3:Cal l.prog w K mg base 4 "_law_same" ["found","due"] (zbw 3):=zax (zbo F_31 T C__law_same2 (fun k e=>by cases e <;> rfl)) (mo a0_31) F_31.kp b_31
 have G__law_free_row:FnOk l.prog w K mg base CX0 2 f_32 _ ["bag","bits","latches","rows"] zho:=zdi F_32 T C__law_draw
 have C__law_free_row:=zax G__law_free_row (mo a0_32) F_32.kp b_32
 have G__law_words:FnOk l.prog w K mg base CX0 1 f_33 _ ["one","other"] zkE:=zeJ F_33 T (mn zS)
 have C__law_words:=zax G__law_words (mo a0_33) F_33.kp b_33
 have G__law_clash:FnOk l.prog w K mg base CX0 2 f_34 _ ["bits","rows"] zhq:=zeL F_34 T C__law_words
 have C__law_clash:=zax G__law_clash (mo a0_34) F_34.kp b_34
 have G__law_board:FnOk l.prog w K mg base CX0 9 f_35 _ ["bits","rows","chips"] (zkG C_Board C_Clash (csOf C_Store C_Store C_Latch C_Store C_Store)):=zeM (cs:=(csOf C_Store C_Store C_Latch C_Store C_Store)) F_35 T GMXBoard_3 (mo a_Clash) m1_ xc xh fk1_ fk2_ fk3_ fk4_
 have C__law_board:=zax G__law_board (mo a0_35) F_35.kp b_35
 have G__law_answers:FnOk l.prog w K mg base CX0 2 f_36 _ ["rows","address","words"] zd1:=zdx F_36 T C_meets
 have C__law_answers:=zax G__law_answers (mo a0_36) F_36.kp b_36
 have G__law_one:FnOk l.prog w K mg base CX0 5 f_37 _ ["bits","rows","latches","bag"] zkF:=zgK F_37 T C__law_draw C__law_answers C__law_same3 C_answering C_unanswered
 have C__law_one:=zax G__law_one (mo a0_37) F_37.kp b_37
 have G__law_right:FnOk l.prog w K mg base CX0 10 f_38 _ ["bag"] zc1:=zeK (C:=C_Board) (CT:=C_Clash) (cs:=(csOf C_Store C_Store C_Latch C_Store C_Store)) F_38 T (mn zDi) C__law_draw C__law_free_row GMLatch_0 GMStore_1 GMStore_2 C__law_clash C__law_same3 C_clash_of C__law_board C__law_one C__law_answers
 have C__law_right:=zax G__law_right (mo a0_38) F_38.kp b_38
 exact oklaw F_39 T C__law_bag C__law_right
theorem walk {l:PySem.W.OpenLaw} {q:Program} {loose:List Str} {XP:(Str→Option Value)→Heap→Prop} {YP:World→Heap→Prop} {d:DefRec} {K:Params→PySem.W.Frag} (hn:l.most=some 63) (hdf:d.params.defaults=[])
  (hY:∀ (w:World) (h:Heap),YP w h→(K w.params).In h)
  (F:∀ (w:World) (mg:Str→Option Value) (fa:Addr) (h:Heap),(K w.params).In h→h.Ns mainGlobals mg→mg d.name=some (.ref fa) →
   ∃ fd:FuncData,(∀ (s:Shared) (u:Value),BindsTo s fd ⟨[u],[]⟩ [("script",u)])∧∀ base:Heap,(K w.params).In base→base.Ns mainGlobals mg→FnOk l.prog w (K w.params) mg base CX0 11 fa fd ["script"] (ziY (K w.params))) :
  PySem.W.WalkO q loose XP YP l.row.toRowW d [] (fun f vs=>PySem.call f vs):=
 L2.walk_ofB (n:=63) (k:=11) (x := "script") (CX:=fun _=>CX0) (sp:=fun w=>ziY (K w.params)) hn (by decide) hdf ⟨rfl,by decide,by decide,rfl⟩ hY F (fun _ _ a ns hl hb _ hS=>⟨a,ns,rfl,hS,hl,hb,fun _=>rfl⟩) fun _ _ _ _ _ z=>z
end Cb
open PySem PySem.W PyProof.Rows Cb L2
local macro_rules | `(tactic| walk_at "fm")=>`(tactic| (refine' zkd ?l ?c ?k;(case l=>k_is);(case c=>k_is);(case k=>k_is)))
local macro_rules | `(tactic| walk_at "fd")=>`(tactic| (refine' zlq ?l ?c ?k;(case l=>k_is);(case c=>k_is);(case k=>k_is)))
local macro_rules | `(tactic| walk_at "na")=>`(tactic| (show PySem.W.findIn _ _ _=_;k_is))
local macro_rules | `(tactic| walk_at "cs")=>`(tactic| exact ⟨by k_is,by k_is,by k_is,by k_is⟩)
local macro_rules | `(tactic| walk_at "cl")=>`(tactic| exact ⟨by walk_at "cs",by walk_at "na",by walk_at "na",by walk_at "na"⟩)
local macro_rules | `(tactic| walk_at "cb")=>`(tactic| exact ⟨by walk_at "cs",by walk_at "na",by walk_at "na",by walk_at "na",by walk_at "na",by walk_at "na",by walk_at "na",by walk_at "na"⟩)
local macro_rules | `(tactic| walk_at "cw")=>`(tactic| exact ⟨by walk_at "cs",by walk_at "na",by walk_at "na",by walk_at "na",by walk_at "na"⟩)
set_option maxRecDepth 1000000 in
set_option maxHeartbeats 0 in
theorem PySem.Challenge.cw_chipbus_k57_whole_clash_or_one_holds : PySem.Challenge.rw_chipbus_k57_whole_clash_or_one.Holds := by
 refine Hd.top ?_
 k_fill
 refine Cb.walk (l:=PySem.Challenge.rw_chipbus_k57_whole_clash_or_one) rfl rfl (fun w h Y=>PySem.W.kIn_of Y) ?F
 case F =>
  intro w mg fa h KX G hmg
  refine' Cb.all_mk KX G hmg ?zDi ?zS ?a0_0 ?F_0 ?a0_1 ?F_1 ?a0_2 ?F_2 ?a0_3 ?F_3 ?a0_4 ?F_4 ?a0_5 ?F_5 ?a0_6 ?F_6 ?a0_7 ?F_7 ?a0_8 ?F_8 ?a0_9 ?F_9 ?a0_10 ?F_10 ?a0_11 ?F_11 ?a0_12 ?F_12 ?a0_13 ?F_13 ?a0_14 ?F_14 ?a0_15 ?F_15 ?a0_16 ?F_16 ?a0_17 ?F_17 ?a0_18 ?F_18 ?a0_19 ?F_19 ?a_Chip ?sg_cm_Chip___init__ ?rd_cm_Chip___init__ ?fc_cm_Chip___init__ ?F_20 ?a_Store ?cl_Store ?at_Store___len__ ?F_21 ?fn_21 ?a_Latch ?cl_Latch ?at_Latch___len__ ?mk_Store ?kc_Store ?at_i_Store ?F_22 ?d_22 ?fn_22 ?mk_Latch ?kc_Latch ?at_i_Latch ?F_23 ?d_23 ?fn_23 ?t1_L ?t2_L ?t3_L ?t4_L ?t5_L ?a0_24 ?F_24 ?a0_25 ?F_25 ?a_Clash ?a_BusError ?xl ?xn ?xs ?yl ?yn ?ys ?yi ?xa ?tk1_ ?tk2_ ?tk3_ ?tk4_ ?c1_ ?c2_ ?c4_ ?c5_ ?c3_ ?m1_ ?xh ?fk1_ ?fk2_ ?fk3_ ?fk4_ ?s1_ ?s2_ ?s3_ ?at_x_Clash ?xi_Clash ?F_26 ?fn_26 ?a0_27 ?F_27 ?a_Board ?cl_Board ?mk_Board ?kc_Board ?at_i_Board ?F_28 ?d_28 ?fn_28 ?a0_29 ?F_29 ?a0_30 ?F_30 ?a0_31 ?F_31 ?a0_32 ?F_32 ?a0_33 ?F_33 ?a0_34 ?F_34 ?a0_35 ?F_35 ?a0_36 ?F_36 ?a0_37 ?F_37 ?a0_38 ?F_38 ?a0_39 ?l_39 ?c_39 ?k_39 ?z_MOST_BITS ?z_LAST_CHIP ?z_LAST_WORD ?z_MOST_CELLS ?z_SIXTEEN ?z_READ ?z_WRITE ?z_BOTH ?z_len ?z_sum ?z_all ?z_max ?z_min ?z_int ?z_bool ?z_isinstance ?z_range ?z_enumerate ?z_zip ?z_str ?z_tuple ?z_list
  (case zDi=>k_is)
  (case zS=>k_is)
  (case a0_0=>k_is)
  (case F_0=>walk_at "fm")
  (case a0_1=>k_is)
  (case F_1=>walk_at "fm")
  (case a0_2=>k_is)
  (case F_2=>walk_at "fm")
  (case a0_3=>k_is)
  (case F_3=>walk_at "fm")
  (case a0_4=>k_is)
  (case F_4=>walk_at "fm")
  (case a0_5=>k_is)
  (case F_5=>walk_at "fm")
  (case a0_6=>k_is)
  (case F_6=>walk_at "fm")
  (case a0_7=>k_is)
  (case F_7=>walk_at "fm")
  (case a0_8=>k_is)
  (case F_8=>walk_at "fm")
  (case a0_9=>k_is)
  (case F_9=>walk_at "fm")
  (case a0_10=>k_is)
  (case F_10=>walk_at "fm")
  (case a0_11=>k_is)
  (case F_11=>walk_at "fm")
  (case a0_12=>k_is)
  (case F_12=>walk_at "fm")
  (case a0_13=>k_is)
  (case F_13=>walk_at "fm")
  (case a0_14=>k_is)
  (case F_14=>walk_at "fm")
  (case a0_15=>k_is)
  (case F_15=>walk_at "fm")
  (case a0_16=>k_is)
  (case F_16=>walk_at "fm")
  (case a0_17=>k_is)
  (case F_17=>walk_at "fm")
  (case a0_18=>k_is)
  (case F_18=>walk_at "fm")
  (case a0_19=>k_is)
  (case F_19=>walk_at "fm")
  (case a_Chip=>k_is)
  (case sg_cm_Chip___init__=>k_is)
  (case rd_cm_Chip___init__=>k_is)
  (case fc_cm_Chip___init__=>k_is)
  (case F_20=>walk_at "fm")
  (case a_Store=>k_is)
  (case cl_Store=>walk_at "cl")
  (case at_Store___len__=>k_is)
  (case F_21=>walk_at "fm")
  (case fn_21=>k_is)
  (case a_Latch=>k_is)
  (case cl_Latch=>walk_at "cl")
  (case at_Latch___len__=>k_is)
  (case mk_Store=>k_is)
  (case kc_Store=>k_is)
  (case at_i_Store=>k_is)
  (case F_22=>walk_at "fd")
  (case d_22=>k_is)
  (case fn_22=>k_is)
  (case mk_Latch=>k_is)
  (case kc_Latch=>k_is)
  (case at_i_Latch=>k_is)
  (case F_23=>walk_at "fd")
  (case d_23=>k_is)
  (case fn_23=>k_is)
  (case t1_L=>k_is)
  (case t2_L=>k_is)
  (case t3_L=>k_is)
  (case t4_L=>k_is)
  (case t5_L=>k_is)
  (case a0_24=>k_is)
  (case F_24=>walk_at "fm")
  (case a0_25=>k_is)
  (case F_25=>walk_at "fm")
  (case a_Clash=>k_is)
  (case a_BusError=>k_is)
  (case xl=>k_is)
  (case xn=>k_is)
  (case xs=>rfl)
  (case yl=>k_is)
  (case yn=>k_is)
  (case ys=>rfl)
  (case yi=>rfl)
  (case xa=>k_is)
  (case tk1_=>k_is)
  (case tk2_=>k_is)
  (case tk3_=>k_is)
  (case tk4_=>k_is)
  (case c1_=>k_is)
  (case c2_=>k_is)
  (case c4_=>k_is)
  (case c5_=>k_is)
  (case c3_=>(intro _;rfl))
  (case m1_=>rfl)
  (case xh=>k_is)
  (case fk1_=>k_is)
  (case fk2_=>k_is)
  (case fk3_=>k_is)
  (case fk4_=>k_is)
  (case s1_=>k_is)
  (case s2_=>k_is)
  (case s3_=>k_is)
  (case at_x_Clash=>k_is)
  (case xi_Clash=>rfl)
  (case F_26=>walk_at "fm")
  (case fn_26=>k_is)
  (case a0_27=>k_is)
  (case F_27=>walk_at "fm")
  (case a_Board=>k_is)
  (case cl_Board=>walk_at "cb")
  (case mk_Board=>k_is)
  (case kc_Board=>k_is)
  (case at_i_Board=>k_is)
  (case F_28=>walk_at "fd")
  (case d_28=>k_is)
  (case fn_28=>k_is)
  (case a0_29=>k_is)
  (case F_29=>walk_at "fm")
  (case a0_30=>k_is)
  (case F_30=>walk_at "fm")
  (case a0_31=>k_is)
  (case F_31=>walk_at "fm")
  (case a0_32=>k_is)
  (case F_32=>walk_at "fm")
  (case a0_33=>k_is)
  (case F_33=>walk_at "fm")
  (case a0_34=>k_is)
  (case F_34=>walk_at "fm")
  (case a0_35=>k_is)
  (case F_35=>walk_at "fm")
  (case a0_36=>k_is)
  (case F_36=>walk_at "fm")
  (case a0_37=>k_is)
  (case F_37=>walk_at "fm")
  (case a0_38=>k_is)
  (case F_38=>walk_at "fm")
  (case a0_39=>k_is)
  (case l_39=>k_is)
  (case c_39=>k_is)
  (case k_39=>k_is)
  (case z_MOST_BITS=>k_is)
  (case z_LAST_CHIP=>k_is)
  (case z_LAST_WORD=>k_is)
  (case z_MOST_CELLS=>k_is)
  (case z_SIXTEEN=>k_is)
  (case z_READ=>k_is)
  (case z_WRITE=>k_is)
  (case z_BOTH=>k_is)
  (case z_len=>k_is)
  (case z_sum=>k_is)
  (case z_all=>k_is)
  (case z_max=>k_is)
  (case z_min=>k_is)
  (case z_int=>k_is)
  (case z_bool=>k_is)
  (case z_isinstance=>k_is)
  (case z_range=>k_is)
  (case z_enumerate=>k_is)
  (case z_zip=>k_is)
  (case z_str=>k_is)
  (case z_tuple=>k_is)
  (case z_list=>k_is)
#print axioms PySem.Challenge.cw_chipbus_k57_whole_clash_or_one_holds
