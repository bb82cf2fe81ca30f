import PyProof.Rows.All
import Wide.All
import OpenK.AllK
import Wide.FinOn
import Lean
import PyProof.EqAt
import PyProof.EqKinds
import PyProof.TupleCall
import PySem.Challenge.RW_gatebook_k06_whole_answer_and_reason
set_option Elab.async false
set_option linter.all false
set_option maxRecDepth 100000
namespace PySem.W.Fast
def tw5844127469626538892:=0
def tw845514269468934833:=0
def tw2604031167033523643:=0
def tw933500773721966677:=0
def tw10343496845886321051:=0
def tw802416953333162012:=0
def tw16049844486891546992:=0
def tw14618378057532178450:=0
def tw16272854338148439927:=0
def tw11587557947491876443:=0
def tw11561801851756429176:=0
def tw4439423250381734319:=0
def tw14913168298440102023:=0
def tw10466823399410542657:=0
def tw8318524679679097436:=0
def tw4356513078852349506:=0
def tw4739556933693913091:=0
def tw18229016304477532125:=0
def tw6000018883038125873:=0
def tw10647024975093103689:=0
def tw9328162392681724188:=0
def tw1745959757511172454:=0
def tw7113224882388028526:=0
def tw3909728689674146382:=0
def tw13828312528222569078:=0
def tw17679389054458374311:=0
def tw15013176102022909979:=0
def tw11207690961175949063:=0
def tw17726264038123049788:=0
def tw17815039489561785882:=0
def tw886809596525987912:=0
def tw7091747407503492313:=0
def tw12054886230387867465:=0
def tw11014547557600863415:=0
def tw6857763369373352193:=0
def tw5546472907749198360:=0
def tw11502338170380996365:=0
def tw17289030886571792914:=0
def tw8569113469163317431:=0
def tw18277512369917650075:=0
def tw16528787571314769603:=0
def tw3220814955801482191:=0
def tw3827913971425044118:=0
def tw637117122365271056:=0
def tw10428720037228658695:=0
def tw12420214285659340096:=0
def tw16500454789580229950:=0
def tw8510438923445062849:=0
def tw1787552782610761126:=0
def tw5353719777204875707:=0
def tw16590126232768349496:=0
def tw17206996970825092788:=0
def tw16719347005010871870:=0
def tw17604263803437609422:=0
def tw14605576095920926308:=0
def tw5333165390083343052:=0
def tw7934242158022558959:=0
def tw15255198693540047515:=0
def tw13112064860525270094:=0
def tw9082820400467118983:=0
def tw7029817050306215476:=0
def tw16172851211195890025:=0
def tw13861463688713297550:=0
def tw6240976566715504234:=0
def tw14800745278533765586:=0
def tw13801406942304848101:=0
def tw14426441361523685328:=0
def tw1994387746968819254:=0
def tw15773034421255713247:=0
def te17712840646533402482:=0
def tw8557867880369900375:=0
def tw13899691700678059035:=0
def tw9208752547193967770:=0
def tw7514298730705090453:=0
def tw12588933258578255584:=0
def tw8941981251661448249:=0
def tw18393618577288607388:=0
def tw6896793331376179166:=0
def tw14023873186145368723:=0
def tw2824813849460476585:=0
def tw13295420749656702413:=0
def tw16428296453150595231:=0
def tw8761781909342252703:=0
def tw7401493265614556634:=0
def tw7619451452321153136:=0
def tw15409298221104143556:=0
def tw13013714714130402285:=0
def tw18361235932734577886:=0
def tw14095558818040693379:=0
def tw666883951649767449:=0
def tw4606153408931899044:=0
def tw2672263039742380353:=0
def tw9732645378947589817:=0
def tw16752406322401600064:=0
def tw7599333805446967666:=0
def tw10479726428111546518:=0
def tw8112718814704751995:=0
def tw9963029115102092417:=0
def tw5553601711796942893:=0
def tw12560565219074763666:=0
def tw8470905310345427397:=0
def tw6730718956792423607:=0
def tw18048666405626164671:=0
def tw17047215523524757650:=0
def tw3871046033744073129:=0
def tw11295601709290491743:=0
def tw10486294668688466887:=0
def tw12980484464675698780:=0
def tw6692956498415385089:=0
def tw17891292517948950550:=0
def tw5204248434485517287:=0
def tw1304919034126998570:=0
def tw11347258570681053287:=0
def tw2170493015410845632:=0
def tw5907514740514884047:=0
def tw14562150571460911102:=0
def tw6121672474215972950:=0
def tw2145691135032099842:=0
def tw4776548393262073981:=0
def tw13344883221396128167:=0
def tw3319768624004740893:=0
def tw4753357349604621951:=0
def tw16199183172079909817:=0
def tw13931638895565160347:=0
def tw18444078610438552987:=0
def tw859278361727130782:=0
def tw17717116600308455367:=0
def tw16595637283123723344:=0
def tw3667747157622021350:=0
def tw2237047764597961639:=0
def tw7062730821955441034:=0
def tw892850353511989042:=0
def tw8454684730383743091:=0
def tw17803062846349262895:=0
def tw10685524647079154068:=0
def tw12670478255040022041:=0
def tw9500802103609849271:=0
end PySem.W.Fast
section
open PySem PySem.Spec PyProof PyProof.Rows
def Qa:=@wpAny_bind
def Qb:=@List.getElem?_eq_some_iff
def Qc:=@List.length_map
def Qd:=@wpAny_pure
def Qe:=@List.getElem?_eq_getElem
def Qf:=@if_neg
def Qg:=@List.mem_map
def Qh:=@decide_eq_true
def Qi:=@List.mem_cons
def Qj:=@Bool.false_ne_true
def Qk:=@Nat.le_refl
def Ql:=@List.length_append
def Qm:=@Heap.get?_push_of_some
def Qn:=@if_pos
def Qo:=@List.mem_singleton
def Qp:=@decide_eq_false
def Qq:=@List.getElem?_map
def Qr:=@List.mem_append
def Qs:=@absurd
def Qt:=@Option.some.inj
def Qu:=@List.size_toArray
def Qv:=@wpS_bind
def Qw:=@PySem.F.plainAttrs_list
def Qx:=@List.map_append
def Qy:=@List.mem_append_right
def Qz:=@List.length_singleton
def QA:=@List.mem_cons_of_mem
def QB:=@wpS_pure
def QC:=@List.mem_of_getElem?
def QD:=@Heap.lt_size
def QE:=@Heap.get?_push_size
def QF:=@PySem.F.type_list_append
def QG:=@PySem.F.slot_list_append
def QH:=@List.mem_map_of_mem
def QI:=@of_decide_eq_true
def QJ:=@List.mem_cons_self
def QK:=@Nat.lt_of_lt_of_le
def QL:=@List.length_cons
def QM:=@PassesOwn.never
def QN:=@List.nodup_cons
def QO:=@Bool.and_eq_true
def QP:=@Nat.ne_of_lt
def QQ:=@Nat.le_trans
def QR:=@PyProof.Rows.boot_isinstance
def QS:=@List.filter_cons
def QT:=@PySem.boot_len
def QU:=@List.mem_append_left
def QV:=@List.append_assoc
def QW:=@congrArg
def QX:=@List.mem_filter
def QY:=@eq_of_beq
def QZ:=@Array.toList_append
def Q0:=@Array.length_toList
def Q1:=@List.getElem?_of_mem
def Q2:=@List.length_filter_le
def Q3:=@List.take_succ
def Q4:=@decide_eq_true_iff
def Q5:=@List.take_length
def Q6:=@getElem?_pos
def Q7:=@List.getD_eq_getElem?_getD
def Q8:=@List.getElem?_append_left
def Q9:=@List.length_take
def Ua:=@Bool.eq_iff_iff
def Ub:=@List.pairwise_append
def Uc:=@Nat.le_succ
def Ud:=@wpS_forRange
def Ue:=@KeyOrd.kle_trans
def Uf:=@wpAny_holding
def Ug:=@List.filter_append
def Uh:=@Nat.zero_le
def Ui:=@Bool.false_eq_true
def Uj:=@List.pairwise_iff_getElem
def Uk:=@wpAny_mono
def Ul:=@KeyOrd.kle_of_klt
def Um:=@Nat.lt_irrefl
def Uo:=@List.map_cons
def Uq:=@PySem.F.plain_min_loop
def Ur:=@PyProof.Rows.boot_list
def Us:=@Nat.le_of_eq
def Ut:=@wpAny_load'
def Uu:=@wpAny_ite_false
def Uv:=@List.append_nil
def Uw:=@List.drop_eq_getElem_cons
def Ux:=@List.perm_append_comm
def Uy:=@List.mem_of_mem_erase
def Uz:=@Array.getElem?_toList
def UA:=@beq_self_eq_true
def UB:=@List.mem_of_mem_take
def UC:=@List.getElem?_set_ne
def UD:=@wpAny_truthy_bool
def UE:=@wpAny_newObj_type
def UF:=@KeyOrd.kle_refl
def UG:=@wpS_mono
def UH:=@beq_eq_false_iff_ne
def UI:=@List.map_congr_left
def UJ:=@List.take_of_length_le
def UK:=@List.map_map
def UL:=@wpAny_call_entry
def UM:=@List.not_mem_nil
def UN:=@List.lookup_cons
def UO:=@List.pairwise_cons
def UP:=@List.nodup_nil
def UQ:=@PySem.F.slot_dict_get
def UR:=@List.find?_cons
def US:=@PySem.F.plainAttrs_dict
def UT:=@wpAny_typeNameOfWhole_keyiter
def UU:=@wpAny_Call_Name_kw
def UV:=@Nat.le_of_lt
def UW:=@wpAny_passesOwn
def UX:=@List.length_set
def UY:=@PyProof.Rows.boot_str
def UZ:=@List.take_append_drop
def U0:=@wpAny_dictEntries
def U1:=@Array.getD_eq_getD_getElem?
def U2:=@wpAny_rule
def U3:=@beq_iff_eq
def U4:=@List.mem_range
def U5:=@Heap.get?_none_of_le
def U6:=@Array.toList_reverse
def U7:=@List.any_eq_true
def U8:=@List.all_eq_true
def U9:=@Heap.size_update
def Va:=@List.length_pos_iff
def Vb:=@List.filterMap_cons
def Vc:=@wpAny_typeNameOf_keyiter
def Vd:=@PyProof.Rows.boot_sorted
def Ve:=@List.any_cons
def Vf:=@wpAny_tryCatch
def Vg:=@decide_eq_true_eq
def Vh:=@PySem.F.entry_dict_get
def Vi:=@Nat.lt_succ_of_lt
def Vj:=@List.take_zero
def Vk:=@List.getElem?_set_self
def Vl:=@Heap.get?_update_self
def Vm:=@List.getElem_inj
def Vn:=@wpAny_newList
def Vo:=@List.map_take
def Vp:=@List.mem_iff_getElem
def Vq:=@List.erase_cons_tail
def Vr:=@wpAny_execs_nil
def Vs:=@List.length_nil
def Vt:=@Bool.or_eq_true
def Vu:=@List.filter_sublist
def Vv:=@Nat.zero_add
def Vw:=@List.zip_cons_cons
def Vx:=@Array.size_extract
def Vy:=@Array.perm_iff_toList_perm
def Vz:=@List.getElem?_eq_none_iff
def VA:=@wpS_get
def VB:=@wpAny_Call_method
def VC:=@List.take_sublist
def VD:=@Heap.get?_push_ne
def VE:=@Bool.not_eq_true'
def VF:=@Array.toList_push
def VG:=@PySem.F.type_list_remove
def VH:=@PySem.F.type_list_extend
def VI:=@PySem.F.slot_list_remove
def VJ:=@PySem.F.slot_list_extend
def VL:=@List.getElem?_take_of_lt
def VM:=@wpS_lift
def VN:=@Nat.max_eq_right
def VO:=@Nat.lt_succ_self
def VP:=@List.pairwise_singleton
def VQ:=@List.length_drop
def VR:=@List.cons_append
end
namespace L2
open PySem PySem.Spec PyProof.Rows
abbrev Key:=Sum Int Str
def j4:Key->Value->Bool
 | .inl k,v=>Value.isInt k v
 | .inr x,v=>Value.isStrOf x v
def za(w:World):Key->Int
 | .inl k=>hashInt k
 | .inr x=>hashStr w x
theorem bF:∀{k:Key} {v:Value},j4 k v=true->(∃ i t,k=Sum.inl i/\v=Value.int i t)\/(∃ x t,k=Sum.inr x/\v=Value.str x t)
 | .inl i,v,h=>by
  obtain⟨t,e⟩:=Value.isInt_shape (k:=i) (v:=v) h;exact .inl ⟨i,t,rfl,e⟩
 | .inr x,v,h=>by
  obtain⟨t,e⟩:=Value.isStrOf_shape (x:=x) (v:=v) h;exact .inr ⟨x,t,rfl,e⟩
theorem pY(i:Int)(t:Tok):j4 (.inl i) (.int i t)=true:=by simp [j4,Value.isInt]
theorem pZ(x:Str)(t:Tok):j4 (.inr x) (.str x t)=true:=by simp [j4,Value.isStrOf]
theorem wj(a b:Int):decide ((Sum.inl a:Key)=Sum.inl b)=(a == b):=by
 by_cases e:a=b
 ·subst e;simp
 ·have h:¬ (Sum.inl a:Key)=Sum.inl b:=λq=>e (Sum.inl.inj q);rw [Qp h];exact(UH.mpr e).symm
theorem wm(a b:Str):decide ((Sum.inr a:Key)=Sum.inr b)=decide (a=b):=by
 by_cases e:a=b
 ·subst e;simp
 ·have h:¬ (Sum.inr a:Key)=Sum.inr b:=λq=>e (Sum.inr.inj q);rw [Qp h,Qp e]
theorem wn(a:Int)(b:Str):decide ((Sum.inl a:Key)=Sum.inr b)=false:=Qp (λq=>nomatch q)
theorem wo(a:Str)(b:Int):decide ((Sum.inr a:Key)=Sum.inl b)=false:=Qp (λq=>nomatch q)
def aX(prog:Program)(w:World):PySem.KeyKind prog w Key where
 is:=j4
 hash:=za w
 inj:=λv a b ha hb=>by
  rcases bF ha with⟨i,t,rfl,rfl⟩ | ⟨x,t,rfl,rfl⟩
  ·rcases bF hb with⟨j,u,rfl,e⟩ | ⟨y,u,rfl,e⟩
   ·injection e with e1 _;rw [e1]
   ·exact nomatch e
  ·rcases bF hb with⟨j,u,rfl,e⟩ | ⟨y,u,rfl,e⟩
   ·exact nomatch e
   ·injection e with e1 _;rw [e1]
 byValue:=λk v h=>by
  rcases bF h with⟨i,t,rfl,rfl⟩ | ⟨x,t,rfl,rfl⟩ <;> rfl
 pyHash:=λhv h=>by
  rcases bF hv with⟨i,t,rfl,rfl⟩ | ⟨x,t,rfl,rfl⟩
  ·exact wpAny_pyHash_int h
  ·exact wpAny_pyHash_str h
 eqBool:=λhu hv h=>by
  rcases bF hu with⟨i,t,rfl,rfl⟩ | ⟨x,t,rfl,rfl⟩
  ·rcases bF hv with⟨j,u,rfl,rfl⟩ | ⟨y,u,rfl,rfl⟩
   ·rw [wj] at h;exact wpAny_eqBool_int h
   ·rw [wn] at h;exact SeqAt.EqAt.int_str i t y u _ _ _ _ h
  ·rcases bF hv with⟨j,u,rfl,rfl⟩ | ⟨y,u,rfl,rfl⟩
   ·rw [wo] at h;exact SeqAt.EqAt.str_int x t j u _ _ _ _ h
   ·rw [wm] at h;exact wpAny_eqBool_str h
 «strs»:=λk x t v h=>by
  rcases bF h with⟨i,u,rfl,e⟩ | ⟨y,u,rfl,e⟩
  ·exact nomatch e
  ·injection e with e1 _
   subst e1;cases v <;> rfl
theorem lY(prog:Program)(w:World)(i:Int)(t:Tok):(aX prog w).is (.inl i) (.int i t)=true:=pY i t
theorem lZ(prog:Program)(w:World)(x:Str)(t:Tok):(aX prog w).is (.inr x) (.str x t)=true:=pZ x t
end L2
namespace L2
open PySem PySem.Spec PyProof.Rows
inductive V where
 | non | bl (b:Bool) | int (i:Int) | str (x:Str) | byt (b:Array UInt8) | flt (b:UInt64) | ref (a:Addr) | ty (n:String)
 deriving DecidableEq
def aW:V->Value->Prop
 | .non,u=>u=Value.none
 | .bl b,u=>u=Value.bool b
 | .int i,u=>∃ t,u=Value.int i t
 | .str x,u=>∃ t,u=Value.str x t
 | .byt b,u=>∃ t,u=Value.bytes b t
 | .flt b,u=>∃ t,u=Value.float b t
 | .ref a,u=>u=Value.ref a
 | .ty n,u=>u=Value.type n
abbrev aS:List V->List Value->Prop:=Paired aW
theorem aS.length{xs:List V}{us:List Value}(r:aS xs us):xs.length=us.length:=Paired.length r
theorem aS.get:∀{xs:List V} {us:List Value} {i:Nat} {x:V},aS xs us->xs[i]?=some x->∃ u,us[i]?=some u/\aW x u
 | _,_,_,_,.nil,e=>by simp at e
 | _,_,0,_,.cons r _,e=>by simp at e;subst e;exact⟨_,rfl,r⟩
 | _,_,i+1,x,.cons _ t,e=>by
  obtain⟨u,h1,h2⟩:=aS.get (i:=i) (x:=x) t (by simpa using e);exact⟨u,by simpa using h1,h2⟩
theorem aS.set{x:V}{u:Value}(r:aW x u):∀{xs:List V} {us:List Value} (i:Nat),aS xs us->aS (xs.set i x) (us.set i u)
 | _,_,_,.nil=>.nil
 | _,_,0,.cons _ t=>.cons r t
 | _,_,i+1,.cons q t=>.cons q (aS.set r i t)
theorem aS.append:∀{xs ys:List V} {us ws:List Value},aS xs us->aS ys ws->aS (xs++ys) (us++ws)
 | _,_,_,_,.nil,s=>s
 | _,_,_,_,.cons r t,s=>.cons r (aS.append t s)
theorem aS.take:∀{xs:List V} {us:List Value} (n:Nat),aS xs us->aS (xs.take n) (us.take n)
 | _,_,0,_=>.nil
 | _,_,_+1,.nil=>.nil
 | _,_,n+1,.cons r t=>.cons r (aS.take n t)
theorem aS.drop:∀{xs:List V} {us:List Value} (n:Nat),aS xs us->aS (xs.drop n) (us.drop n)
 | _,_,0,r=>r
 | _,_,_+1,.nil=>.nil
 | _,_,n+1,.cons _ t=>aS.drop n t
def eQ:Option V->Option Value->Prop
 | some v,some u=>aW v u
 | none,none=>True
 | _,_=>False
def KV{κ:Type}:List (κ × V)->List (κ × Value)->Prop:=Paired λ(p:κ × V) (q:κ × Value)=>p.1=q.1/\aW p.2 q.2
def kV:Key->V
 | .inl i=>.int i
 | .inr x=>.str x
inductive HO where
 | lst (xs:List V)
 | tup (xs:List V)
 | dK (kvs:List (Key × V)) | dT (kvs:List (List Key × V))
 | set (S:Int->Bool) (n:Nat)
 | ins (C dx:Addr) (fs:List (Str × V))
 | own (x:Addr)
 | xd (fs:List (Str × V))
 | met (f x:Addr)
 | rng (lo hi:Int)
 | frz (o:Obj) (u:HO)
 | tbl (ps:Array Value)
 | ext (φ:Heap->Prop)
abbrev Hp:=Addr->Option HO
def upd(H:Hp)(a:Addr)(o:HO):Hp:=λb=>if b=a then some o else H b
theorem ae{H:Hp}{a:Addr}{o:HO}:upd H a o a=some o:=by unfold upd;rw [Qn rfl]
theorem af{H:Hp}{a b:Addr}{o:HO}(h:b≠a):upd H a o b=H b:=by unfold upd;rw [Qf h]
theorem gj{H:Hp}{a:Addr}{o u:HO}:upd (upd H a o) a u=upd H a u:=by
 funext b;unfold upd;split <;> rfl
theorem be{H:Hp}{a b:Addr}{o u:HO}(h:H a=some o)(h':H b=some u)(d:o≠u):a≠b:=by
 intro e;subst e;rw [h] at h';exact d (Qt h')
theorem ao{H:Hp}{a b:Addr}{o:HO}(h:H a=some o)(h':H b=none):a≠b:=by
 intro e;subst e;rw [h] at h';cases h'
section
variable(P:Program) (w:World)
def bB(H:Hp)(h:Heap)(a:Addr):HO->Prop
 | .lst xs=>xs.length<=sizeLine/\∃(its:List Value) (n:Nat),aS xs its/\h.get? a=some { cls:=.type "list",data:=.seq its.toArray n }
 | .tup xs=>xs.length<=sizeLine/\∃ its:List Value,aS xs its/\IsTup h a its.toArray
 | .dK kvs=>kvs.length<=sizeLine/\(a == sysModules)=false/\∃ vs,KV kvs vs/\h.DictOf (aX P w) a vs
 | .dT kvs=>kvs.length<=sizeLine/\(a == sysModules)=false/\∃ xs:List (List Key × Addr × Value),
   Paired (λ(p:List Key × V) (q:List Key × Addr × Value)=>p.1=q.1/\H q.2.1=some (.tup (p.1.map kV))/\aW p.2 q.2.2) kvs xs /\
   ∃ o es ep,h.get? a=some o/\o.ExactDict/\o.data=.dict es ep/\es.toList=xs.map (entryOfKey (tupleKind (aX P w)))/\(xs.map (·.1)).Nodup
 | .set S n=>h.SetOf (intKind P w) a S n
 | .ins C dx fs=>H dx=some (.own a)/\fs.length<=1000/\dx≠a/\h.get? a=some (W.instObj C dx) /\
   ∃ mA,h.Ns1 dx mA/\(∀ f,eQ (fs.lookup f) (mA f))/\PySem.Within mA (fs.map (·.1))
 | .own _=>∃ o,h.get? a=some o
 | .xd fs=>∃ mA,h.Ns1 a mA/\∀ f,eQ (fs.lookup f) (mA f)
 | .rng lo hi=>∃ t u v,h.get? a=some { cls:=.type "range",data:=.fields #[.int lo t,.int hi u,.int 1 v] }
 | .frz o u=>h.get? a=some o/\bB H h a u
 | .tbl ps=>h.get? a=some { cls:=.none,data:=.fields ps }
 | .met f x=>h.get? a=some (W.methodObj (.ref f) (.ref x))
 | .ext φ=>φ h/\(∃ o,h.get? a=some o)/\∀ h1 h2:Heap,φ h1->(∀ o,h1.get? a=some o->h2.get? a=some o)->φ h2
def HOk(H:Hp)(h:Heap):Prop:=∀ a o,H a=some o->bB P w H h a o
end
section
variable{P:Program} {w:World} {H H':Hp} {h h':Heap} {a:Addr} {o:HO}
theorem bB.lt(x:bB P w H h a o):a < h.objs.size:=by
 cases o with
 | lst xs=>obtain⟨_,_,_,_,e⟩:=x;exact QD e
 | tup xs=>obtain⟨_,_,_,p⟩:=x;exact p.lt
 | dK kvs=>obtain⟨_,_,_,_,o,_,_,e,_⟩:=x;exact QD e
 | dT kvs=>obtain⟨_,_,_,_,o,_,_,e,_⟩:=x;exact QD e
 | set S n=>obtain⟨o,_,_,_,e,_⟩:=x;exact QD e
 | ins C dx fs=>obtain⟨_,_,_,e,_⟩:=x;exact QD e
 | own y=>obtain⟨_,e⟩:=x;exact QD e
 | xd fs=>obtain⟨_,⟨_,_,_,e,_⟩,_⟩:=x;exact QD e
 | rng lo hi=>obtain⟨_,_,_,e⟩:=x;exact QD e
 | frz ob u=>obtain⟨e,_⟩:=x;exact QD e
 | tbl ps=>exact QD (show h.get? a=some _ from x)
 | met f y=>exact QD (show h.get? a=some _ from x)
 | ext φ=>obtain⟨_,⟨_,e⟩,_⟩:=x;exact QD e
theorem Paired.mapP{α β:Type}{F G:α->β->Prop}:∀{l₁:List α} {l₂:List β},Paired F l₁ l₂->(∀ a b,F a b->G a b)->Paired G l₁ l₂
 | _,_,.nil,_=>.nil
 | _,_,.cons r t,f=>.cons (f _ _ r) (Paired.mapP t f)
theorem bB.stay(x:bB P w H h a o)(k:∀ b u,(b=a\/H b=some (.own a))->h.get? b=some u->h'.get? b=some u)
  (ho:∀ b,H b=some (.own a)->H' b=some (.own a)) (ht:∀ b xs,H b=some (.tup xs)->H' b=some (.tup xs)):bB P w H' h' a o:=by
 induction o with
 | lst xs=>obtain⟨z,its,n,r,e⟩:=x;exact⟨z,its,n,r,k _ _ (.inl rfl) e⟩
 | tup xs=>obtain⟨z,its,r,ob,e,c⟩:=x;exact⟨z,its,r,ob,k _ _ (.inl rfl) e,c⟩
 | dK kvs=>obtain⟨z,y,vs,r,ob,es,ep,e,c⟩:=x;exact⟨z,y,vs,r,ob,es,ep,k _ _ (.inl rfl) e,c⟩
 | dT kvs =>
  obtain⟨z,y,xs,r,ob,es,ep,e,c⟩:=x;exact⟨z,y,xs,Paired.mapP r λp q z=>⟨z.1,ht _ _ z.2.1,z.2.2⟩,ob,es,ep,k _ _ (.inl rfl) e,c⟩
 | set S n=>obtain⟨ob,es,ep,t,e,c⟩:=x;exact⟨ob,es,ep,t,k _ _ (.inl rfl) e,c⟩
 | ins C dx fs =>
  obtain⟨d,z,ne,e,mA,⟨od,es,ep,e2,c⟩,r⟩:=x;exact⟨ho _ d,z,ne,k _ _ (.inl rfl) e,mA,⟨od,es,ep,k _ _ (.inr d) e2,c⟩,r⟩
 | own y=>obtain⟨ob,e⟩:=x;exact⟨ob,k _ _ (.inl rfl) e⟩
 | xd fs=>obtain⟨mA,⟨od,es,ep,e,c⟩,r⟩:=x;exact⟨mA,⟨od,es,ep,k _ _ (.inl rfl) e,c⟩,r⟩
 | rng lo hi=>obtain⟨t,u,v,e⟩:=x;exact⟨t,u,v,k _ _ (.inl rfl) e⟩
 | frz ob u ih=>obtain⟨e,q⟩:=x;exact⟨k _ _ (.inl rfl) e,ih q⟩
 | tbl ps =>
  have e:h.get? a=some { cls:=.none,data:=.fields ps }:=x;show h'.get? a=some { cls:=.none,data:=.fields ps };exact k a _ (.inl rfl) e
 | met f y =>
  have e:h.get? a=some (W.methodObj (.ref f) (.ref y)):=x;show h'.get? a=some (W.methodObj (.ref f) (.ref y));exact k a _ (.inl rfl) e
 | ext φ=>obtain⟨p,⟨o,e⟩,st⟩:=x;exact⟨st _ _ p λo q=>k _ _ (.inl rfl) q,⟨o,k _ _ (.inl rfl) e⟩,st⟩
theorem HOk.lt(x:HOk P w H h)(e:H a=some o):a < h.objs.size:=(x a o e).lt
theorem HOk.fresh(x:HOk P w H h)(e:h.objs.size<=a):H a=none:=by
 cases q:H a with
 | none=>rfl
 | some u=>exact Qs (QK (x.lt q) e) (Um _)
theorem HOk.kept(x:HOk P w H h)(k:∀ b u,h.get? b=some u->h'.get? b=some u):HOk P w H h':=λa o e =>
 (x a o e).stay (λb u _ q=>k b u q) (λ_ q=>q) λ_ _ q=>q
theorem HOk.laid(x:HOk P w H h)(k:∀ b u,h.get? b=some u->h'.get? b=some u)(hp:h.objs.size<=a)(new:bB P w (upd H a o) h' a o):HOk P w (upd H a o) h':=λb u e=>by
 have hn:=x.fresh hp;by_cases hb:b=a
 ·subst hb;rw [ae] at e;cases e;exact new
 ·rw [af hb] at e;exact(x b u e).stay (λc v _ q=>k c v q) (λc q=>by rw [af (ao q hn)];exact q) λc xs q=>by rw [af (ao q hn)];exact q
end
def Rd(H:Hp)(a:Addr)(u:HO):Prop:=H a=some u\/∃ o,H a=some (.frz o u)
theorem Rd.ok{P:Program}{w:World}{H:Hp}{h:Heap}{a:Addr}{u:HO}(r:Rd H a u)(x:HOk P w H h):bB P w H h a u:=by
 rcases r with r | ⟨o,r⟩
 ·exact x a u r
 ·obtain⟨_,q⟩:=x a _ r;exact q
def Mut:Option HO->Prop
 | some (.lst _)=>True
 | some (.dK _)=>True
 | some (.dT _)=>True
 | some (.set _ _)=>True
 | some (.ins _ _ _)=>True
 | some (.ext _)=>True
 | _=>False
section
variable{P:Program} {w:World} {H:Hp} {h h':Heap} {x e:Addr} {o':HO}
theorem HOk.write(ok:HOk P w H h)(mu:Mut (H x))(he:e=x\/H e=some (.own x))(k:∀ b u,b≠e->h.get? b=some u->h'.get? b=some u)(heo:∃ u,h'.get? e=some u)
  (new:bB P w (upd H x o') h' x o'):HOk P w (upd H x o') h':=λb u q=>by
 have nown:∀ c y,H c=some (.own y)->c≠x:=λc y r z=>by subst z;rw [r] at mu;exact mu
 have ntup:∀ c xs,H c=some (.tup xs)->c≠x:=λc xs r z=>by subst z;rw [r] at mu;exact mu
 by_cases hb:b=x
 ·subst hb;rw [ae] at q;cases q;exact new
 ·rw [af hb] at q;by_cases hbe:b=e
  ·have q':H b=some (.own x):=by
    rcases he with z | z
    ·exact Qs (hbe.trans z) hb
    ·rw [hbe];exact z
   rw [q] at q';cases q';obtain⟨v,hv⟩:=heo;exact⟨v,by rw [hbe];exact hv⟩
  ·refine(ok b u q).stay (λc v hc r=>k c v ?_ r) (λc r=>by rw [af (nown c b r)];exact r) λc xs r=>by rw [af (ntup c xs r)];exact r
   rcases hc with rfl | hc
   ·exact hbe
   ·rintro rfl;rcases he with z | z
    ·exact nown c b hc z
    ·rw [hc] at z;cases z;exact hb rfl
end
structure Un(fs ex:List Addr)(H H':Hp)(h h':Heap):Prop where
 keep:∀ b o,h.get? b=some o->H b=none->b ∉ fs->b ∉ ex->h'.get? b=some o
 slot:∀ b o,h.get? b=some o->H b=none->b∈fs->b ∉ ex->∃ sl,h'.get? b=some { o with slots:=sl }
 free:∀ b o,h.get? b=some o->H b=none->b ∉ ex->H' b=none
 there:∀ b o,h.get? b=some o->b ∉ ex->∃ o',h'.get? b=some o'
 tups:∀ b xs,H b=some (.tup xs)->H' b=some (.tup xs)
 frzs:∀ b o u,H b=some (.frz o u)->H' b=some (.frz o u)
 tbls:∀ b ps,H b=some (.tbl ps)->∃ more,H' b=some (.tbl (ps++more))
section
variable{fs fs' ex ex':List Addr} {H H1 H2:Hp} {h h1 h2 h':Heap} {a x e:Addr} {o:HO}
theorem Un.any(u:Un fs ex H H1 h h1){b:Addr}{ob:Obj}(q:h.get? b=some ob)(n:H b=none)(hx:b ∉ ex):∃ sl,h1.get? b=some { ob with slots:=sl }:=by
 by_cases hb:b∈fs
 ·exact u.slot b ob q n hb hx
 ·exact⟨ob.slots,u.keep b ob q n hb hx⟩
theorem Un.kept(k:∀ b u,h.get? b=some u->h'.get? b=some u):Un fs ex H H h h' :=
 ⟨λb ob q _ _ _=>k b ob q,λb ob q _ _ _=>⟨ob.slots,k b ob q⟩,λ_ _ _ n _=>n,λb ob q _=>⟨ob,k b ob q⟩,λ_ _ q=>q,λ_ _ _ q=>q,λ_ ps q=>⟨#[],by rw [q];simp⟩⟩
theorem Un.refl:Un fs ex H H h h:=Un.kept λ_ _ q=>q
theorem Un.laid(k:∀ b u,h.get? b=some u->h'.get? b=some u)(hp:h.objs.size<=a)(hn:H a=none):Un fs ex H (upd H a o) h h' where
 keep:=λb u q _ _ _=>k b u q
 slot:=λb u q _ _ _=>⟨u.slots,k b u q⟩
 free:=λb u q n _=>by rw [af (QP (QK (QD q) hp))];exact n
 there:=λb u q _=>⟨u,k b u q⟩
 tups:=λb xs q=>by rw [af (ao q hn)];exact q
 frzs:=λb u xs q=>by rw [af (ao q hn)];exact q
 tbls:=λb ps q=>⟨#[],by rw [af (ao q hn),q];simp⟩
theorem Un.write(mu:Mut (H x))(he:e=x\/H e=some (.own x))(k:∀ b u,b≠e->h.get? b=some u->h'.get? b=some u)(heo:∃ u,h'.get? e=some u):Un fs ex H (upd H x o) h h':=by
 have hx:∀ b,H b=none->b≠x:=λb n z=>by subst z;rw [n] at mu;exact mu
 have hb:∀ b,H b=none->b≠e:=λb n z=>by
  subst z;rcases he with r | r
  ·exact hx b n r
  ·rw [n] at r;cases r
 have hm:∀ b u,H b=some u->¬ Mut (some u)->b≠x:=λb u q nm z=>by subst z;rw [q] at mu;exact nm mu
 refine⟨λb u q n _ _=>k b u (hb b n) q,λb u q n _ _=>⟨u.slots,k b u (hb b n) q⟩,λb u q n _=>by rw [af (hx b n)];exact n,λb u q _=>?_,
  λb xs q=>by rw [af (hm b _ q λz=>z)];exact q,λb u xs q=>by rw [af (hm b _ q λz=>z)];exact q,λb ps q=>⟨#[],by rw [af (hm b _ q λz=>z),q];simp⟩⟩
 by_cases hbe:b=e
 ·subst hbe;exact heo
 ·exact⟨u,k b u hbe q⟩
end
def trk(h:Heap)(H:Hp):List Addr:=(List.range h.objs.size).filter λa=>(H a).isSome
def jS(h:Heap)(H:Hp):Heap:=W.hideAll h (trk h H)
theorem p5(h:Heap)(H:Hp):(jS h H).objs.size=h.objs.size:=W.hideAll_size _ _
theorem qH{h:Heap}{H:Hp}{b:Addr}{o:Obj}(e:h.get? b=some o)(n:H b=none):(jS h H).get? b=some o :=
 W.hideAll_get _ e λhm=>by
  have q:(H b).isSome=true:=(QX.mp hm).2;rw [n] at q;simp at q
theorem ue{h:Heap}{H:Hp}{b:Addr}{o:Obj}(e:(jS h H).get? b=some o):h.get? b=some o/\H b=none:=by
 have e':h.get? b=some o:=W.of_hideAll (trk h H) e;refine⟨e',?_⟩;cases q:H b with
 | none=>rfl
 | some x =>
  have hm:b∈trk h H:=QX.mpr ⟨U4.mpr (QD e'),by simp [q]⟩;have z:(jS h H).get? b=none:=W.hideAll_none (trk h H) hm;rw [z] at e;cases e
end L2
namespace L2
open PySem PySem.Spec PyProof.Rows
structure Mod(K:W.Frag)(mg:Str->Option Value)(base:Heap):Prop where
 kin:K.In base
 glob:base.Ns mainGlobals mg
 blt:∃ mb,base.Ns builtinsNs mb/\∀ x:Str,x≠"__name__"->mb x=bootBuiltins x
 nolimit:base.NoLimit
structure Cx where
 prog:Program
 w:World
 K:W.Frag
 mg:Str->Option Value
 base:Heap
 A:Around
 N:List Str
 s₀:Shared
 H₀:Hp
 env:Env
 outer:List Env
 stack:List Env
 ex:List Addr
 fn:Str->Bool
 calm:Bool
 pn:List (Addr × Obj)
 xe:Value->Shared->Prop
def frs(l:List Env):List Addr:=l.filterMap (·.frame)
abbrev Cx.fs(X:Cx):List Addr:=frs X.outer
def Vis(sc:Scope)(x:Str):Prop:=sc.names.lookup x=some .local\/sc.names.lookup x=some .cell\/sc.names.lookup x=some .free
def Loc(sc:Scope)(x:Str):Prop:=sc.names.lookup x=some .local\/sc.names.lookup x=some .cell
def zb(env:Env)(h:Heap)(m:Str->Option Value)(x:Str)(u:Value):Prop :=
 (env.kindOf x=some .local/\m x=some u)\/((env.kindOf x=some .cell\/env.kindOf x=some .free)/\∃ c,env.cells.lookup x=some c/\h.IsCell c (some u))
structure Cx.Ok(X:Cx):Prop where
 mod:Mod X.K X.mg X.base
 kind:X.env.scope.kind=.function
 glob:X.env.globals=mainGlobals
 blt:X.env.builtins=builtinsNs
 above:X.s₀.heap.objs.size<=X.env.locals
 inj:∀ x y c,X.env.cells.lookup x=some c->X.env.cells.lookup y=some c->x=y
 has:∀ x,(X.env.kindOf x=some .cell\/X.env.kindOf x=some .free)->∃ c,X.env.cells.lookup x=some c
 cab:∀ x c,X.fn x=true->X.env.cells.lookup x=some c->X.s₀.heap.objs.size<=c
 hd:X.calm=true->X.A.handled=none
 frames:X.A.frames=some X.stack
 stk:X.stack=X.outer\/(X.stack=X.env :: X.outer/\X.env.frame=some X.env.locals)
 exf:∀ b∈X.ex,b≠X.env.locals/\∀ x c,X.env.cells.lookup x=some c->c≠b
 bs:∀ b o,X.base.get? b=some o->X.s₀.heap.get? b=some o/\X.H₀ b=none
 bsz:X.base.objs.size<=X.s₀.heap.objs.size
 noex:∀ b o,X.base.get? b=some o->b ∉ X.ex
 exfs:∀ b∈X.ex,b ∉ X.fs
 funs:X.s₀.heap.FunFrames X.base X.outer
 frf:∀ b∈X.fs,X.H₀ b=none
structure Inv(X:Cx)(pins:List (Addr × Obj))(σ:List (Option V))(H:Hp)(s:Shared):Prop where
 ok:X.Ok
 os:s.os=X.s₀.os
 bare:AllBare s.gens
 base:Un X.fs X.ex X.H₀ H X.s₀.heap s.heap
 loc:∃ m,s.heap.Ns X.env.locals m/\∀(i:Nat) (x:Str) (v:V),X.N[i]?=some x->σ[i]?=some (some v)->Vis X.env.scope x->∃ u,aW v u/\zb X.env s.heap m x u
 cell:∀ x c,X.env.cells.lookup x=some c->∃ v,s.heap.IsCell c v
 free:H X.env.locals=none
 freeC:∀ x c,X.env.cells.lookup x=some c->H c=none
 pin:∀ p∈X.pn++pins,s.heap.get? p.1=some p.2/\H p.1=none/\p.1≠X.env.locals/\p.1 ∉ X.fs/\∀ v,p.2.data≠.cell v
 hok:HOk X.prog X.w H s.heap
 len:σ.length=X.N.length
section
variable{X:Cx} {pins:List (Addr × Obj)} {σ:List (Option V)} {H H':Hp} {s:Shared} {h':Heap}
theorem Cx.Ok.nofr(ok:X.Ok){b:Addr}{o:Obj}(e:X.base.get? b=some o):b ∉ X.fs:=λhb=>by
 have:=(ok.funs.mem hb).1;rw [e] at this;cases this
theorem Inv.bs(I:Inv X pins σ H s):∀ b o,X.base.get? b=some o->s.heap.get? b=some o/\H b=none:=λb o e =>
 ⟨I.base.keep b o (I.ok.bs b o e).1 (I.ok.bs b o e).2 (I.ok.nofr e) (I.ok.noex b o e),I.base.free b o (I.ok.bs b o e).1 (I.ok.bs b o e).2 (I.ok.noex b o e)⟩
theorem Inv.bk(I:Inv X pins σ H s):∀ b o,X.base.get? b=some o->s.heap.get? b=some o:=λb o e=>(I.bs b o e).1
theorem Inv.mod(I:Inv X pins σ H s):Mod X.K X.mg X.base:=I.ok.mod
theorem Inv.kIn(I:Inv X pins σ H s):X.K.In s.heap:=I.ok.mod.kin.keeps I.bk
theorem Inv.lt(I:Inv X pins σ H s):X.env.locals < s.heap.objs.size:=let ⟨_,hn,_⟩:=I.loc;hn.lt
theorem Inv.sz(I:Inv X pins σ H s):X.s₀.heap.objs.size<=s.heap.objs.size:=QQ I.ok.above (UV I.lt)
theorem Inv.nofs(I:Inv X pins σ H s){a:Addr}(h:s.heap.objs.size<=a):a ∉ X.fs:=λhb=>by
 obtain⟨_,o,ho,_⟩:=I.ok.funs.mem hb;exact Qs (QK (QD ho) (QQ I.sz h)) (Um _)
theorem Inv.cne(I:Inv X pins σ H s):∀ x c,X.env.cells.lookup x=some c->c≠X.env.locals:=λx c e z=>by
 obtain⟨v,o,ho,hd⟩:=I.cell x c e;obtain⟨m,⟨o',es,ep,ho',hd',_⟩,_⟩:=I.loc;rw [z,ho'] at ho;cases ho;rw [hd'] at hd;cases hd
theorem Inv.funs(I:Inv X pins σ H s):s.heap.FunFrames X.base X.outer:=by
 have all:∀(l:List Env),(∀ b∈frs l,b∈X.fs)->X.s₀.heap.FunFrames X.base l->s.heap.FunFrames X.base l:=by
  intro l
  induction l with
  | nil=>intro _ _;trivial
  | cons env r ih =>
   intro hs hl;obtain⟨hk,⟨L,o,hf,hn,ho,hd⟩,hr⟩:=hl;have hL:L∈X.fs:=hs L (by unfold frs;rw [Vb,hf];exact QJ);obtain⟨sl,e⟩:=I.base.slot L o ho (I.ok.frf L hL) hL λz=>I.ok.exfs L z hL;exact⟨hk,⟨L,_,hf,hn,e,hd⟩,ih (λb hb=>hs b (by unfold frs;rw [Vb,hf];exact QA _ hb)) hr⟩
 exact all X.outer (λ_ hb=>hb) I.ok.funs
theorem Inv.stack(I:Inv X pins σ H s):s.heap.FunFrames X.base X.stack:=by
 rcases I.ok.stk with e | ⟨e,hf⟩
 ·rw [e];exact I.funs
 ·rw [e];obtain⟨m,hn,_⟩:=I.loc;refine .cons (by rw [I.ok.kind];decide) hf hn ?_ I.funs;exact U5 (QQ I.ok.bsz I.ok.above)
theorem Inv.stkSub(I:Inv X pins σ H s):∀ b∈frs X.stack,b∈X.env.locals :: X.fs:=λb hb=>by
 rcases I.ok.stk with e | ⟨e,hf⟩
 ·rw [e] at hb;exact QA _ hb
 ·rw [e] at hb;unfold frs at hb;rw [Vb,hf] at hb;exact hb
theorem Inv.stkFree(I:Inv X pins σ H s):∀ b∈frs X.stack,H b=none:=λb hb=>by
 rcases Qi.mp (I.stkSub b hb) with e | hb
 ·rw [e];exact I.free
 ·obtain⟨_,o,ho,_⟩:=I.ok.funs.mem hb;exact I.base.free b o ho (I.ok.frf b hb) λz=>I.ok.exfs b z hb
theorem Inv.step{g':Array GenState}{t':Nat}{d':Drawn}{ch:List Addr}(I:Inv X pins σ H s)
  (hch:∀ b∈ch,(b∈X.ex\/X.s₀.heap.objs.size<=b)/\b≠X.env.locals/\(∀ x c,X.env.cells.lookup x=some c->c≠b)/\∀ p∈X.pn++pins,p.1≠b)
  (keep:∀ b o,b≠X.env.locals->b ∉ X.fs->b ∉ ch->s.heap.get? b=some o->H b=none->h'.get? b=some o)
  (slot:∀ b o,b≠X.env.locals->b∈X.fs->b ∉ ch->s.heap.get? b=some o->H b=none->∃ sl,h'.get? b=some { o with slots:=sl }) (free:∀ b o,b ∉ ch->s.heap.get? b=some o->H b=none->H' b=none)
  (there:∀ b o,b ∉ ch->s.heap.get? b=some o->∃ o',h'.get? b=some o')
  (tups:∀ b xs,H b=some (.tup xs)->H' b=some (.tup xs)) (frzs:∀ b o u,H b=some (.frz o u)->H' b=some (.frz o u)) (tbls:∀ b ps,H b=some (.tbl ps)->∃ more,H' b=some (.tbl (ps++more)))
  (ns:∀ m,s.heap.Ns X.env.locals m->h'.Ns X.env.locals m) (hok:HOk X.prog X.w H' h') (hg:AllBare g') :
  Inv X pins σ H' { s with heap:=h',gens:=g',drawn:=d',toks:=t' }:=by
 have neL:∀ b o,X.s₀.heap.get? b=some o->b≠X.env.locals:=λb o e=>QP (QK (QD e) I.ok.above);have neC:∀ b o,X.s₀.heap.get? b=some o->b ∉ X.ex->b ∉ ch:=λb o e hx hb=>by
  rcases(hch b hb).1 with z | z
  ·exact hx z
  ·exact Qs (QK (QD e) z) (Um _)
 have cellK:∀ x c,X.env.cells.lookup x=some c->∀ v,s.heap.IsCell c v->h'.IsCell c v:=λx c e v ⟨o,ho,hd⟩=>by
  have nch:c ∉ ch:=λz=>(hch c z).2.2.1 x c e rfl;by_cases hc:c∈X.fs
  ·obtain⟨sl,q⟩:=slot c o (I.cne x c e) hc nch ho (I.freeC x c e);exact⟨_,q,hd⟩
  ·exact⟨o,keep c o (I.cne x c e) hc nch ho (I.freeC x c e),hd⟩
 refine⟨I.ok,I.os,hg,⟨λb o e n hb hx=>?_,λb o e n hb hx=>?_,λb o e n hx=>?_,λb o e hx=>?_,λb xs e=>tups b xs (I.base.tups b xs e),λb o xs e=>frzs b o xs (I.base.frzs b o xs e),λb ps e=>?_⟩,?_,λx c e=>?_,?_,λx c e=>?_,λp hp=>?_,hok,I.len⟩
 ·exact keep b o (neL b o e) hb (neC b o e hx) (I.base.keep b o e n hb hx) (I.base.free b o e n hx)
 ·obtain⟨sl,e1⟩:=I.base.slot b o e n hb hx;obtain⟨sl',e2⟩:=slot b _ (neL b o e) hb (neC b o e hx) e1 (I.base.free b o e n hx);exact⟨sl',e2⟩
 ·obtain⟨o',e1⟩:=I.base.there b o e hx;exact free b o' (neC b o e hx) e1 (I.base.free b o e n hx)
 ·obtain⟨o',e1⟩:=I.base.there b o e hx;exact there b o' (neC b o e hx) e1
 ·obtain⟨m1,e1⟩:=I.base.tbls b ps e;obtain⟨m2,e2⟩:=tbls b _ e1;exact⟨m1++m2,by rw [e2,Array.append_assoc]⟩
 ·obtain⟨m,hn,hl⟩:=I.loc;refine⟨m,ns m hn,λi x v e1 e2 e3=>?_⟩;obtain⟨u,r,l⟩:=hl i x v e1 e2 e3;refine⟨u,r,?_⟩;rcases l with l | ⟨k,c,e,z⟩
  ·exact .inl l
  ·exact .inr ⟨k,c,e,cellK x c e _ z⟩
 ·obtain⟨v,z⟩:=I.cell x c e;exact⟨v,cellK x c e v z⟩
 ·obtain⟨m,⟨o,_,_,ho,_⟩,_⟩:=I.loc;exact free _ o (λz=>(hch _ z).2.1 rfl) ho I.free
 ·obtain⟨v,o,ho,hd⟩:=I.cell x c e;exact free c o (λz=>(hch c z).2.2.1 x c e rfl) ho (I.freeC x c e)
 ·obtain⟨e,n,ne,nf,d⟩:=I.pin p hp;have nch:p.1 ∉ ch:=λz=>(hch p.1 z).2.2.2 p hp rfl;exact⟨keep p.1 p.2 ne nf nch e n,free p.1 p.2 nch e n,ne,nf,d⟩
theorem Inv.un{t':Nat}(I:Inv X pins σ H s)(u:Un X.fs [] H H' s.heap h')(hok:HOk X.prog X.w H' h'):Inv X pins σ H' { s with heap:=h',toks:=t' }:=by
 obtain⟨m,⟨o,es,ep,ho,r⟩,_⟩:=id I.loc;obtain⟨sl,hL⟩:=u.any ho I.free (by simp);exact I.step (g':=s.gens) (d':=s.drawn) (ch:=[]) (λ_ z=>nomatch z) (λb o _ hb _ e n=>u.keep b o e n hb (by simp)) (λb o _ hb _ e n=>u.slot b o e n hb (by simp)) (λb o _ e n=>u.free b o e n (by simp)) (λb o _ e=>u.there b o e (by simp)) u.tups u.frzs u.tbls (λm' hm=>by
  obtain⟨o',es',ep',ho',r'⟩:=hm;rw [ho] at ho';cases ho';exact⟨_,es',ep',hL,r'⟩) hok I.bare
theorem Inv.call{g':Array GenState}{t':Nat}{d':Drawn}{ch:List Addr}(I:Inv X pins σ H s)(u:Un (frs X.stack) ch H H' s.heap h')(hok:HOk X.prog X.w H' h')(hg:AllBare g')
  (hch:∀ b∈ch,(b∈X.ex\/X.s₀.heap.objs.size<=b)/\b≠X.env.locals/\(∀ x c,X.env.cells.lookup x=some c->c≠b)/\∀ p∈X.pn++pins,p.1≠b) :
  Inv X pins σ H' { s with heap:=h',gens:=g',drawn:=d',toks:=t' }:=by
 obtain⟨m,⟨o,es,ep,ho,r⟩,_⟩:=id I.loc;obtain⟨sl,hL⟩:=u.any ho I.free λz=>(hch _ z).2.1 rfl;exact I.step (ch:=ch) hch (λb o hL hb hc e n=>u.keep b o e n (λz=>(Qi.mp (I.stkSub b z)).elim hL hb) hc) (λb o _ _ hc e n=>u.any e n hc) (λb o hc e n=>u.free b o e n hc) (λb o hc e=>u.there b o e hc) u.tups u.frzs u.tbls (λm' hm=>by
  obtain⟨o',es',ep',ho',r'⟩:=hm;rw [ho] at ho';cases ho';exact⟨_,es',ep',hL,r'⟩) hok hg
theorem Inv.turned{t':Nat}{it:Addr}(I:Inv X pins σ H s)(k:∀ b o,b≠it->s.heap.get? b=some o->h'.get? b=some o)(hn:H it=none)(hL:it≠X.env.locals)
  (h1:it∈X.ex\/X.s₀.heap.objs.size<=it) (h2:∀ x c,X.env.cells.lookup x=some c->c≠it) (h3:∀ p∈X.pn++pins,p.1≠it):Inv X pins σ H { s with heap:=h',toks:=t' }:=by
 have nit:∀ b u,H b=some u->b≠it:=λb u e z=>by rw [z,hn] at e;cases e
 refine I.step (g':=s.gens) (d':=s.drawn) (ch:=[it]) (λb hb=>?_) (λb o _ _ hc e _=>k b o (λz=>hc (by simp [z])) e) (λb o _ _ hc e _=>⟨o.slots,k b o (λz=>hc (by simp [z])) e⟩) (λ_ _ _ _ n=>n)
  (λb o hc e=>⟨o,k b o (λz=>hc (by simp [z])) e⟩) (λ_ _ e=>e) (λ_ _ _ e=>e) (λb ps e=>⟨#[],by rw [e];simp⟩) (λm hm=>?_) (λb u e=>?_) I.bare
 ·have e:b=it:=by simpa using hb
  subst e;exact⟨h1,hL,h2,h3⟩
 ·obtain⟨o,es,ep,ho,r⟩:=hm;exact⟨o,es,ep,k _ o (Ne.symm hL) ho,r⟩
 ·refine(I.hok b u e).stay (λc v hc q=>k c v ?_ q) (λ_ q=>q) λ_ _ q=>q;rcases hc with z | z
  ·rw [z];exact nit b u e
  ·exact nit c _ z
theorem Inv.tok(I:Inv X pins σ H s)(t:Nat):Inv X pins σ H { s with toks:=t }:=I.un (h':=s.heap) (t':=t) Un.refl I.hok
theorem Inv.kept{t':Nat}(I:Inv X pins σ H s)(k:∀ b u,s.heap.get? b=some u->h'.get? b=some u):Inv X pins σ H { s with heap:=h',toks:=t' }:=I.un (Un.kept k) (I.hok.kept k)
theorem Inv.laid{a:Addr}{o:HO}{t':Nat}(I:Inv X pins σ H s)(k:∀ b u,s.heap.get? b=some u->h'.get? b=some u)(hp:s.heap.objs.size<=a)(new:bB X.prog X.w (upd H a o) h' a o) :
  Inv X pins σ (upd H a o) { s with heap:=h',toks:=t' }:=I.un (Un.laid k hp (I.hok.fresh hp)) (I.hok.laid k hp new)
theorem Inv.write{x e:Addr}{o:HO}{t':Nat}(I:Inv X pins σ H s)(mu:Mut (H x))(he:e=x\/H e=some (.own x))(k:∀ b u,b≠e->s.heap.get? b=some u->h'.get? b=some u)(heo:∃ u,h'.get? e=some u)
  (new:bB X.prog X.w (upd H x o) h' x o):Inv X pins σ (upd H x o) { s with heap:=h',toks:=t' }:=I.un (Un.write mu he k heo) (I.hok.write mu he k heo new)
theorem Inv.pins_of{pins':List (Addr × Obj)}(I:Inv X pins σ H s)(h:∀ p∈pins',s.heap.get? p.1=some p.2/\H p.1=none/\p.1≠X.env.locals/\p.1 ∉ X.fs/\∀ v,p.2.data≠.cell v):Inv X pins' σ H s :=
 ⟨I.ok,I.os,I.bare,I.base,I.loc,I.cell,I.free,I.freeC,λp hp=>(Qr.mp hp).elim (λz=>I.pin p (QU _ z)) (h p),I.hok,I.len⟩
theorem iX{N:List Str}(hN:N.Nodup){i j:Nat}{x:Str}(a:N[i]?=some x)(b:N[j]?=some x):i=j:=by
 obtain⟨h1,e1⟩:=Qb.mp a;obtain⟨h2,e2⟩:=Qb.mp b;exact(Vm hN).mp (e1.trans e2.symm)
theorem j5{M:Model}{A:Around}{E:Value->Shared->Prop}{i:Nat}{x:Str}{v:V}{u:Value}{Q:Unit->Shared->Prop}(I:Inv X pins σ H s)(hN:X.N.Nodup)(hi:X.N[i]?=some x)(hx:Loc X.env.scope x)(r:aW v u)
  (h:∀ s',Inv X pins (σ.set i (some v)) H s'->(∃ a,Heap.SameBut a s.heap s'.heap/\(a=X.env.locals\/X.env.cells.lookup x=some a))->Q () s') (hf:X.fn x=true\/X.env.scope.names.lookup x=some .local:=by first | exact .inl rfl | exact .inr rfl | assumption):wpAny M A (storeName X.env x u) Q E s:=by
 obtain⟨m,hn,hl⟩:=id I.loc;have hcls:(X.env.scope.kind == .class || (X.env.scope.kind == .module && X.env.locals != X.env.globals))=false:=by rw [I.ok.kind];rfl
 have hiσ:i < σ.length:=by rw [I.len];exact(Qb.mp hi).1
 have cne:=I.cne;have tracked:∀{a:Addr} {h':Heap},(∃ o,s.heap.get? a=some o/\H a=none)->Heap.SameBut a s.heap h'->HOk X.prog X.w H h':=λ{a h'} ha hs b ob e=>by
  obtain⟨_,_,hfree⟩:=ha;refine(I.hok b ob e).stay (λc w' hc q=>(hs.2 c ?_).trans q) (λ_ q=>q) λ_ _ q=>q;rintro rfl;rcases hc with rfl | hc
  ·rw [hfree] at e;cases e
  ·rw [hfree] at hc;cases hc
 rcases hx with hk | hk
 ·refine wpAny_storeName_local hk hn (λh' hn' hs=>?_) hcls;obtain⟨oL,_,_,hoL,_⟩:=id hn;refine h _ ⟨I.ok,I.os,I.bare,⟨λb o e n hb hx=>?_,λb o e n hb hx=>?_,I.base.free,λb o e hx=>?_,I.base.tups,I.base.frzs,I.base.tbls⟩,⟨_,hn',λj y v' e1 e2 e3=>?_⟩,λy c e=>?_,I.free,I.freeC,λp hp=>?_,tracked ⟨oL,hoL,I.free⟩ hs,by simpa using I.len⟩ ⟨_,hs,.inl rfl⟩
  ·exact(hs.2 b (QP (QK (QD e) I.ok.above))).trans (I.base.keep b o e n hb hx)
  ·obtain⟨sl,e1⟩:=I.base.slot b o e n hb hx;exact⟨sl,(hs.2 b (QP (QK (QD e) I.ok.above))).trans e1⟩
  ·obtain⟨o',e1⟩:=I.base.there b o e hx;exact⟨o',(hs.2 b (QP (QK (QD e) I.ok.above))).trans e1⟩
  ·by_cases hj:j=i
   ·subst hj;rw [hi] at e1;cases e1;rw [Vk hiσ] at e2;cases e2;exact⟨u,r,.inl ⟨hk,by simp⟩⟩
   ·rw [UC (Ne.symm hj)] at e2;obtain⟨u',r',q⟩:=hl j y v' e1 e2 e3;refine⟨u',r',?_⟩;rcases q with⟨k,e⟩ | ⟨k,c,e,z⟩
    ·refine .inl ⟨k,?_⟩;have:y≠x:=λe=>hj (iX hN e1 (e ▸ hi));simp [this,e]
    ·exact .inr ⟨k,c,e,z.sameBut hs (cne y c e)⟩
  ·obtain⟨w',z⟩:=I.cell y c e;exact⟨w',z.sameBut hs (cne y c e)⟩
  ·obtain⟨e,n,ne,nf,d⟩:=I.pin p hp;exact⟨(hs.2 p.1 ne).trans e,n,ne,nf,d⟩
 ·have hfn:X.fn x=true:=by
   rcases hf with z | z
   ·exact z
   ·rw [z] at hk;cases hk
  obtain⟨c,hc⟩:=I.ok.has x (.inl hk);obtain⟨w',z⟩:=I.cell x c hc;refine wpAny_storeName_cell I.ok.kind hk hc z (λh' hc' hs=>?_);obtain⟨oc,hoc,hocd⟩:=id z;refine h { s with heap:=h' } ⟨I.ok,I.os,I.bare,⟨λb o e n hb hx=>?_,λb o e n hb hx=>?_,I.base.free,λb o e hx=>?_,I.base.tups,I.base.frzs,I.base.tbls⟩,⟨m,hn.sameBut hs (Ne.symm (cne x c hc)),λj y v' e1 e2 e3=>?_⟩,λy c' e=>?_,I.free,I.freeC,λp hp=>?_,tracked ⟨oc,hoc,I.freeC x c hc⟩ hs,by simpa using I.len⟩ ⟨c,hs,.inr hc⟩
  ·exact(hs.2 b (QP (QK (QD e) (I.ok.cab x c hfn hc)))).trans (I.base.keep b o e n hb hx)
  ·obtain⟨sl,e1⟩:=I.base.slot b o e n hb hx;exact⟨sl,(hs.2 b (QP (QK (QD e) (I.ok.cab x c hfn hc)))).trans e1⟩
  ·obtain⟨o',e1⟩:=I.base.there b o e hx;exact⟨o',(hs.2 b (QP (QK (QD e) (I.ok.cab x c hfn hc)))).trans e1⟩
  ·by_cases hj:j=i
   ·subst hj;rw [hi] at e1;cases e1;rw [Vk hiσ] at e2;cases e2;exact⟨u,r,.inr ⟨.inl hk,c,hc,hc'⟩⟩
   ·rw [UC (Ne.symm hj)] at e2;obtain⟨u',r',q⟩:=hl j y v' e1 e2 e3;refine⟨u',r',?_⟩;rcases q with q | ⟨k,c',e,z'⟩
    ·exact .inl q
    ·refine .inr ⟨k,c',e,z'.sameBut hs ?_⟩;rintro rfl;exact hj (iX hN e1 (I.ok.inj _ _ _ e hc ▸ hi))
  ·by_cases hcc:c'=c
   ·subst hcc;exact⟨_,hc'⟩
   ·obtain⟨w2,z2⟩:=I.cell y c' e;exact⟨w2,z2.sameBut hs hcc⟩
  ·obtain⟨e,n,ne,nf,d⟩:=I.pin p hp;refine⟨(hs.2 p.1 ?_).trans e,n,ne,nf,d⟩;intro q;rw [q,hoc] at e;have q':oc=p.2:=Qt e;exact d w' (by rw [<-q'];exact hocd)
theorem l0{M:Model}{A:Around}{E:Value->Shared->Prop}{i:Nat}{x:Str}{v:V}{u:Value}{Q:Unit->Shared->Prop}(I:Inv X pins σ H s)(hN:X.N.Nodup)(hi:X.N[i]?=some x)(hx:Loc X.env.scope x)(r:aW v u)
  (h:∀ s',Inv X pins (σ.set i (some v)) H s'->Q () s') (hf:X.fn x=true\/X.env.scope.names.lookup x=some .local:=by first | exact .inl rfl | exact .inr rfl | assumption):wpAny M A (storeName X.env x u) Q E s :=
 j5 I hN hi hx r (λs' I' _=>h s' I') hf
theorem Inv.call'{s':Shared}{ch:List Addr}(I:Inv X pins σ H s)(ho:s'.os=s.os)(u:Un (frs X.stack) ch H H' s.heap s'.heap)(hok:HOk X.prog X.w H' s'.heap)(hg:AllBare s'.gens)
  (hch:∀ b∈ch,(b∈X.ex\/X.s₀.heap.objs.size<=b)/\b≠X.env.locals/\(∀ x c,X.env.cells.lookup x=some c->c≠b)/\∀ p∈X.pn++pins,p.1≠b):Inv X pins σ H' s':=by
 obtain⟨h',g',d',t',o'⟩:=s';have e:o'=s.os:=ho;subst e;exact I.call (g':=g') (t':=t') (d':=d') u hok hg hch
end
abbrev XK:=Value->Option Addr->Hp->Prop
abbrev St:=List (Option V)
abbrev VK:=V->Hp->Prop
abbrev TE:=St->Hp->VK->Prop
abbrev TT:=St->Hp->(Bool->Hp->Prop)->Prop
abbrev TA:=St->Hp->(List V->Hp->Prop)->Prop
structure gk where
 nx:St->Hp->Prop
 rt:VK
 bk:St->Hp->Prop:=λ_ _=>False
 ct:St->Hp->Prop:=λ_ _=>False
abbrev TS:=gk->St->Hp->Prop
inductive XEP(X:Cx)(pins:List (Addr × Obj))(σ:St)(Q:VK)(u:Value)(s':Shared):Prop
 | mk:∀ v H',(Inv X pins σ H' s')->(aW v u)->(Q v H')->XEP X pins σ Q u s'
def EP(X:Cx)(pins:List (Addr × Obj))(σ:St)(Q:VK)(u:Value)(s':Shared):Prop:=XEP X pins σ Q u s'
inductive XTP(X:Cx)(pins:List (Addr × Obj))(σ:St)(Q:Bool->Hp->Prop)(b:Bool)(s':Shared):Prop
 | mk:∀ H',(Inv X pins σ H' s')->(Q b H')->XTP X pins σ Q b s'
def TP(X:Cx)(pins:List (Addr × Obj))(σ:St)(Q:Bool->Hp->Prop)(b:Bool)(s':Shared):Prop:=XTP X pins σ Q b s'
inductive XAP(X:Cx)(pins:List (Addr × Obj))(σ:St)(Q:List V->Hp->Prop)(us:List Value)(s':Shared):Prop
 | mk:∀ vs H',(Inv X pins σ H' s')->(aS vs us)->(Q vs H')->XAP X pins σ Q us s'
def AP(X:Cx)(pins:List (Addr × Obj))(σ:St)(Q:List V->Hp->Prop)(us:List Value)(s':Shared):Prop:=XAP X pins σ Q us s'
def SP(X:Cx)(pins:List (Addr × Obj))(D:gk)(f:Flow)(s':Shared):Prop :=
 match f with
 | .next=>∃ σ' H',Inv X pins σ' H' s'/\D.nx σ' H'
 | .brk=>∃ σ' H',Inv X pins σ' H' s'/\D.bk σ' H'
 | .cont=>∃ σ' H',Inv X pins σ' H' s'/\D.ct σ' H'
 | .ret u=>∃ v σ' H',Inv X pins σ' H' s'/\aW v u/\D.rt v H'
def PE(X:Cx)(e:Expr)(t:TE):Prop :=
 ∀(pins:List (Addr × Obj)) (s:Shared) (σ:St) (H:Hp) (Q:VK),Inv X pins σ H s->t σ H Q->wpAny (model X.prog X.w) X.A (eval e X.env) (EP X pins σ Q) X.xe s
def PT(X:Cx)(e:Expr)(t:TT):Prop :=
 ∀(pins:List (Addr × Obj)) (s:Shared) (σ:St) (H:Hp) (Q:Bool->Hp->Prop),Inv X pins σ H s->t σ H Q->wpAny (model X.prog X.w) X.A (isTrue e X.env (eval e X.env)) (TP X pins σ Q) X.xe s
def PW(X:Cx)(e:Expr)(t:TT):Prop :=
 ∀(whole:Sem Value) (pins:List (Addr × Obj)) (s:Shared) (σ:St) (H:Hp) (Q:Bool->Hp->Prop),Inv X pins σ H s->t σ H Q->wpAny (model X.prog X.w) X.A (isTrue e X.env whole) (TP X pins σ Q) X.xe s
theorem PW.pt{X:Cx}{e:Expr}{t:TT}(h:PW X e t):PT X e t:=h _
def PA(X:Cx)(es:List Expr)(t:TA):Prop :=
 ∀(pos:Pos) (pins:List (Addr × Obj)) (s:Shared) (σ:St) (H:Hp) (Q:List V->Hp->Prop),Inv X pins σ H s->t σ H Q->wpAny (model X.prog X.w) X.A (spliced (backTo pos (starEach es X.env))) (AP X pins σ Q) X.xe s
def PS(X:Cx)(st:Stmt)(t:TS):Prop :=
 ∀(pins:List (Addr × Obj)) (s:Shared) (σ:St) (H:Hp) (D:gk),Inv X pins σ H s->t D σ H->wpAny (model X.prog X.w) X.A (exec st X.env) (SP X pins D) X.xe s
def PSs(X:Cx)(st:List Stmt)(t:TS):Prop :=
 ∀(pins:List (Addr × Obj)) (s:Shared) (σ:St) (H:Hp) (D:gk),Inv X pins σ H s->t D σ H->wpAny (model X.prog X.w) X.A (execs st X.env) (SP X pins D) X.xe s
theorem thn{α:Type}{t:Sem α}{Q Q':α->Shared->Prop}{M:Model}{A:Around}{E:Value->Shared->Prop}{s:Shared}(h:wpAny M A t Q E s)(hQ:∀ a s,Q a s->Q' a s):wpAny M A t Q' E s:=Uk h hQ λ_ _ x=>x
end L2
namespace L2
open PySem PySem.Spec PyProof.Rows
section
variable{X:Cx}
inductive vC(i:Nat)(σ:St)(H:Hp)(Q:VK):Prop
 | mk:∀ v,(σ[i]?=some (some v))->(Q v H)->vC i σ H Q
def qJ(i:Nat):TE:=λσ H Q=>vC i σ H Q
def tC(v:V):TE:=λ_ H Q=>Q v H
theorem wp{i:Nat}{x:Str}{pos:Pos}(hN:X.N[i]?=some x)(hv:Vis X.env.scope x)(hd:(x == ("__debug__":Str))=false:=by decide)(hcd:(x == ("__classdict__":Str))=false:=by decide):PE X (.Name x pos) (qJ i):=by
 intro pins s σ H Q I h;obtain⟨v,e,h⟩:=h;obtain⟨m,hn,hl⟩:=I.loc;obtain⟨u,r,l⟩:=hl i x v hN e hv;have fin:EP X pins σ Q u s:=⟨v,H,I,r,h⟩;rcases l with⟨hk,hm⟩ | ⟨hk,c,hc,hcell⟩
 ·exact wpAny_Name (wpAny_loadName_local I.ok.kind hk hn hm fin) hd
 ·rcases hk with hk | hk
  ·exact wpAny_Name (wpAny_loadName_cell I.ok.kind hk hc hcell fin) hd
  ·exact wpAny_Name (wpAny_loadName_free I.ok.kind hk hc hcell fin hcd) hd
theorem ah{i j pos}:PE X (.Constant (.int i) j pos) (tC (.int i)):=λ_ _ _ H _ I h=>wpAny_Constant_int ⟨.int i,H,I.tok _,⟨_,rfl⟩,h⟩
theorem bw{b j pos}:PE X (.Constant (.bool b) j pos) (tC (.bl b)):=λ_ _ _ H _ I h=>Constant_bool ⟨.bl b,H,I,rfl,h⟩
theorem nE{j pos}:PE X (.Constant .none j pos) (tC .non):=λ_ _ _ H _ I h=>Constant_none ⟨.non,H,I,rfl,h⟩
theorem aq{x j pos}:PE X (.Constant (.str x) j pos) (tC (.str x)):=λ_ _ _ H _ I h=>Calls.Constant_str ⟨.str x,H,I.tok _,⟨_,rfl⟩,h⟩
def Gl(X:Cx)(x:Str):Prop:=X.env.kindOf x=some .globalImplicit
theorem ft{E:Value->Shared->Prop}{pins:List (Addr × Obj)}{s:Shared}{σ:St}{H:Hp}{x:Str}{u:Value}{pos:Pos}{Q:Value->Shared->Prop}(I:Inv X pins σ H s)(hg:Gl X x)(hm:X.mg x=some u)(h:Q u s)
  (hd:(x == ("__debug__":Str))=false:=by decide):wpAny (model X.prog X.w) X.A (eval (.Name x pos) X.env) Q E s :=
 Calls.Name_function_global I.ok.kind hg (Calls.loadGlobal_global (by rw [I.ok.glob];exact I.mod.glob.keeps I.bk) hm h) hd
theorem iY{E:Value->Shared->Prop}{pins:List (Addr × Obj)}{s:Shared}{σ:St}{H:Hp}{x:Str}{u:Value}{pos:Pos}{Q:Value->Shared->Prop}(I:Inv X pins σ H s)(hg:Gl X x)(hm:X.mg x=none)(hv:bootBuiltins x=some u)(h:Q u s)
  (hn:x≠"__name__":=by decide) (hd:(x == ("__debug__":Str))=false:=by decide):wpAny (model X.prog X.w) X.A (eval (.Name x pos) X.env) Q E s:=by
 obtain⟨mb,h1,h2⟩:=I.mod.blt;exact Calls.Name_function_global I.ok.kind hg (Calls.loadGlobal_builtin (by rw [I.ok.glob];exact I.mod.glob.keeps I.bk) hm (by rw [I.ok.blt];exact h1.keeps I.bk) ((h2 x hn).trans hv) h) hd
theorem cI{x:Str}{v:V}{u:Value}{pos:Pos}(hg:Gl X x)(hm:X.mg x=some u)(r:aW v u)(hd:(x == ("__debug__":Str))=false:=by decide):PE X (.Name x pos) (tC v) :=
 λ_ _ _ H _ I h=>ft I hg hm ⟨v,H,I,r,h⟩ hd
theorem cm{x:Str}{v:V}{u:Value}{pos:Pos}(hg:Gl X x)(hm:X.mg x=none)(hv:bootBuiltins x=some u)(r:aW v u)(hn:x≠"__name__":=by decide)(hd:(x == ("__debug__":Str))=false:=by decide):PE X (.Name x pos) (tC v) :=
 λ_ _ _ H _ I h=>iY I hg hm hv ⟨v,H,I,r,h⟩ hn hd
variable{a b:Expr} {ta tb:TE} {pos:Pos}
def PC(X:Cx)(op:CmpOp)(a b:Expr)(t:TE):Prop :=
 ∀(pins:List (Addr × Obj)) (s:Shared) (σ:St) (H:Hp) (Q:VK),Inv X pins σ H s->t σ H Q ->
  wpAny (model X.prog X.w) X.A (eval a X.env) (λv s₁=>wpAny (model X.prog X.w) X.A (eval b X.env) (λu s₂=>wpAny (model X.prog X.w) X.A (compareOp op v u) (EP X pins σ Q) X.xe s₂) X.xe s₁) X.xe s
theorem l5(b:Expr){op:CmpOp}(h:op≠.In)(h2:op≠.NotIn):behindInMarks op b=false:=by
 have e1:(op == CmpOp.In)=false:=by cases op <;> first | rfl | exact Qs rfl h
 have e2:(op == CmpOp.NotIn)=false:=by cases op <;> first | rfl | exact Qs rfl h2
 cases b <;> simp [behindInMarks,e1,e2]
def ze(ta:TE):TE:=λσ H Q=>ta σ H λx H1=>Q (.bl (decide (x=.non))) H1
def xC(ta:TE):TE:=λσ H Q=>ta σ H λx H1=>Q (.bl (!decide (x=.non))) H1
theorem aW.none_iff{x:V}{v:Value}(r:aW x v):(v == Value.none)=decide (x=.non):=by
 cases x with
 | non=>cases r;rfl
 | bl _=>cases r;rfl
 | int _=>obtain⟨t,rfl⟩:=r;rfl
 | str _=>obtain⟨t,rfl⟩:=r;rfl
 | byt _=>obtain⟨t,rfl⟩:=r;rfl
 | flt _=>obtain⟨t,rfl⟩:=r;rfl
 | ref _=>cases r;rfl
 | ty _=>cases r;rfl
theorem qK{j pos'}(ha:PE X a ta):PC X .Is a (.Constant .none j pos') (ze ta):=by
 intro pins s σ H Q I h;refine thn (ha pins s σ H _ I h) λv s1 ⟨x,H1,I1,r1,q1⟩=>?_;exact Constant_none (is_none_gen ⟨.bl _,H1,I1,by rw [r1.none_iff];rfl,q1⟩)
theorem gm{j pos'}(ha:PE X a ta):PC X .IsNot a (.Constant .none j pos') (xC ta):=by
 intro pins s σ H Q I h;refine thn (ha pins s σ H _ I h) λv s1 ⟨x,H1,I1,r1,q1⟩=>?_;exact Constant_none (isnot_none_gen ⟨.bl _,H1,I1,by rw [r1.none_iff];rfl,q1⟩)
inductive XtB(Q:Bool->Hp->Prop)(x:V)(H1:Hp):Prop
 | mk:∀ c,(x=.bl c)->(Q c H1)->XtB Q x H1
def tB(t:TE):TT:=λσ H Q=>t σ H λx H1=>XtB Q x H1
theorem qL{op:CmpOp}{t:TE}(h:PC X op a b t)(h1:behindInMarks op b=false:=by first | exact l5 _ (by decide) (by decide) | rfl):PE X (.Compare a [op] [b] pos) t:=λpins s σ H Q I hw=>wpAny_Compare1 (h pins s σ H Q I hw) h1
theorem c9{op:CmpOp}{t:TE}(h:PC X op a b t)(h1:behindInMarks op b=false:=by first | exact l5 _ (by decide) (by decide) | rfl):PT X (.Compare a [op] [b] pos) (tB t):=by
 intro pins s σ H Q I hw;refine wpAny_isTrue_Compare1 (thn (h pins s σ H _ I hw) λv s1 h1=>thn h1 λu s2 h2=>thn h2 λc s3 ⟨x,H1,I1,r1,q1⟩=>?_) h1;obtain⟨d,rfl,q⟩:=q1;cases r1;exact UD ⟨H1,I1,q⟩
theorem bP{e:Expr}{t:TE}(h:PE X e t)(he:∀ whole,isTrue e X.env whole=(do let v <-whole;standAt e.pos;holding [v] (truthy v)):=by intro _;rfl):PT X e (tB t):=by
 intro pins s σ H Q I hw;refine isTrue_plain (thn (h pins s σ H _ I hw) λv s1 ⟨x,H1,I1,r1,q1⟩=>?_) (he _);obtain⟨d,rfl,q⟩:=q1;cases r1;exact UD ⟨H1,I1,q⟩
variable{tA tB':TT} {rest:List Expr}
def zf(t u:TT):TT:=λσ H Q=>t σ H λc H1=>if c=true then u σ H1 Q else Q false H1
def tOr(t u:TT):TT:=λσ H Q=>t σ H λc H1=>if c=true then Q true H1 else u σ H1 Q
def zg(t:TT):TT:=λσ H Q=>t σ H λc H1=>Q (!c) H1
theorem dC(ha:PT X a tA):PW X (.BoolOp .And [a] pos) tA:=by
 intro wh pins s σ H Q I h;refine isTrue_and (thn (ha pins s σ H Q I h) λc s1 e=>?_);cases c with
 | true=>exact isTrue_and_nil e
 | false=>exact e
theorem ca(ha:PT X a tA):PW X (.BoolOp .Or [a] pos) tA:=by
 intro wh pins s σ H Q I h;refine isTrue_or (thn (ha pins s σ H Q I h) λc s1 e=>?_);cases c with
 | false=>exact isTrue_or_nil e
 | true=>exact e
theorem dZ(ha:PT X a tA)(hb:PW X (.BoolOp .And (b :: rest) pos) tB'):PW X (.BoolOp .And (a :: b :: rest) pos) (zf tA tB'):=by
 intro wh pins s σ H Q I h;refine isTrue_and (thn (ha pins s σ H _ I h) λc s1 ⟨H1,I1,q1⟩=>?_);cases c with
 | true=>exact hb wh pins s1 σ H1 Q I1 q1
 | false=>exact⟨H1,I1,q1⟩
theorem cL(ha:PT X a tA)(hb:PW X (.BoolOp .Or (b :: rest) pos) tB'):PW X (.BoolOp .Or (a :: b :: rest) pos) (tOr tA tB'):=by
 intro wh pins s σ H Q I h;refine isTrue_or (thn (ha pins s σ H _ I h) λc s1 ⟨H1,I1,q1⟩=>?_);cases c with
 | true=>exact⟨H1,I1,q1⟩
 | false=>exact hb wh pins s1 σ H1 Q I1 q1
theorem bS(ha:PT X a tA):PT X (.UnaryOp .Not a pos) (zg tA):=by
 intro pins s σ H Q I h;exact isTrue_not (thn (ha pins s σ H (λc H1=>Q (!c) H1) I h) λc s1 ⟨H1,I1,q1⟩=>⟨H1,I1,q1⟩)
def xD(ta tb:TE):TE:=λσ H Q=>ta σ H λx H1=>∃ c,x=.bl c/\if c=true then tb σ H1 Q else Q (.bl false) H1
def zh(ta tb:TE):TE:=λσ H Q=>ta σ H λx H1=>∃ c,x=.bl c/\if c=true then Q (.bl true) H1 else tb σ H1 Q
inductive qM(Q:VK)(x:V)(H1:Hp):Prop
 | mk:∀ c,(x=.bl c)->(Q (.bl (!c)) H1)->qM Q x H1
def xE(ta:TE):TE:=λσ H Q=>ta σ H λx H1=>qM Q x H1
theorem iZ{op}{t:TE}(h:PE X a t):PE X (.BoolOp op [a] pos) t:=λpins s σ H Q I hw=>BoolOp_one (h pins s σ H Q I hw)
theorem kR(ha:PE X a ta)(hb:PE X (.BoolOp .And (b :: rest) pos) tb):PE X (.BoolOp .And (a :: b :: rest) pos) (xD ta tb):=by
 intro pins s σ H Q I h;refine BoolOp_and (thn (ha pins s σ H _ I h) λv s1 ⟨x,H1,I1,r1,q1⟩=>?_);obtain⟨c,rfl,q1⟩:=q1;cases r1;refine UD ?_;cases c with
 | true=>exact hb pins s1 σ H1 Q I1 q1
 | false=>exact⟨.bl false,H1,I1,rfl,q1⟩
theorem vD(ha:PE X a ta)(hb:PE X (.BoolOp .Or (b :: rest) pos) tb):PE X (.BoolOp .Or (a :: b :: rest) pos) (zh ta tb):=by
 intro pins s σ H Q I h;refine BoolOp_or (thn (ha pins s σ H _ I h) λv s1 ⟨x,H1,I1,r1,q1⟩=>?_);obtain⟨c,rfl,q1⟩:=q1;cases r1;refine UD ?_;cases c with
 | false=>exact hb pins s1 σ H1 Q I1 q1
 | true=>exact⟨.bl true,H1,I1,rfl,q1⟩
theorem qN(ha:PE X a ta):PE X (.UnaryOp .Not a pos) (xE ta):=by
 intro pins s σ H Q I h;refine UnaryOp_ (thn (ha pins s σ H _ I h) λv s1 ⟨x,H1,I1,r1,q1⟩=>?_);obtain⟨c,rfl,q1⟩:=q1;cases r1;exact not_of (UD ⟨.bl (!c),H1,I1,rfl,q1⟩)
def tIf(t:TT)(ta tb:TE):TE:=λσ H Q=>t σ H λc H1=>if c=true then ta σ H1 Q else tb σ H1 Q
theorem l7{c:Expr}(hc:PT X c tA)(ha:PE X a ta)(hb:PE X b tb):PE X (.IfExp c a b pos) (tIf tA ta tb):=by
 intro pins s σ H Q I h;refine wpAny_IfExp (thn (hc pins s σ H _ I h) λd s1 ⟨H1,I1,q1⟩=>?_);cases d with
 | true=>exact ha pins s1 σ H1 Q I1 q1
 | false=>exact hb pins s1 σ H1 Q I1 q1
end
end L2
namespace L2
open PySem PySem.Spec PyProof.Rows
def SqL(K:W.Frag)(H:Hp)(a:Addr)(xs:List V):Prop :=
 Rd H a (.lst xs) \/
  ∃(o:Obj) (its:Array Value) (n:Nat),K.lookup a=some o/\o.cls=.type "list"/\o.dict=none/\o.data=.seq its n/\its.size<=sizeLine/\aS xs its.toList
def SqT(K:W.Frag)(H:Hp)(a:Addr)(xs:List V):Prop :=
 Rd H a (.tup xs) \/
  ∃(o:Obj) (its:Array Value) (n:Nat),K.lookup a=some o/\o.cls=.type "tuple"/\o.data=.seq its n/\its.size<=sizeLine/\aS xs its.toList
def zi:Value->Option V
 | .none=>some .non
 | .bool b=>some (.bl b)
 | .int i _=>some (.int i)
 | .str x _=>some (.str x)
 | .bytes b _=>some (.byt b)
 | .float b _=>some (.flt b)
 | .ref a=>some (.ref a)
 | .type n=>some (.ty n)
 | _=>none
theorem aW.abs{x:V}{u:Value}(r:aW x u):zi u=some x:=by
 cases x with
 | non=>cases r;rfl
 | bl _=>cases r;rfl
 | int _=>obtain⟨t,rfl⟩:=r;rfl
 | str _=>obtain⟨t,rfl⟩:=r;rfl
 | byt _=>obtain⟨t,rfl⟩:=r;rfl
 | flt _=>obtain⟨t,rfl⟩:=r;rfl
 | ref _=>cases r;rfl
 | ty _=>cases r;rfl
theorem aW.inj{x y:V}{u:Value}(r:aW x u)(q:aW y u):x=y:=Qt (r.abs.symm.trans q.abs)
theorem aS.inj:∀{xs ys:List V} {us:List Value},aS xs us->aS ys us->xs=ys
 | _,_,_,.nil,.nil=>rfl
 | _,_,_,.cons r t,.cons r' t'=>by rw [r.inj r',aS.inj t t']
section
variable{X:Cx} {pins:List (Addr × Obj)} {σ:St} {H:Hp} {s:Shared} {a:Addr} {xs ys:List V}
theorem SqL.of{K:W.Frag}(h:H a=some (.lst xs)):SqL K H a xs:=.inl (.inl h)
theorem SqT.of{K:W.Frag}(h:H a=some (.tup xs)):SqT K H a xs:=.inl (.inl h)
theorem Inv.list(I:Inv X pins σ H s)(h:SqL X.K H a xs):∃ its:List Value,aS xs its/\PlainL s.heap a its.toArray/\xs.length<=sizeLine:=by
 rcases h with h | ⟨o,its,n,hk,hc,hd,hs,hz,r⟩
 ·obtain⟨z,its,n,r,e⟩:=h.ok I.hok;exact⟨its,r,⟨_,n,e,rfl,rfl,rfl⟩,z⟩
 ·refine⟨its.toList,r,⟨o,n,I.kIn a o hk,hc,hd,by simpa using hs⟩,?_⟩;have e:=r.length;simp only [Q0] at e;lia
theorem Inv.tuple(I:Inv X pins σ H s)(h:SqT X.K H a xs):∃ its:List Value,aS xs its/\IsTup s.heap a its.toArray/\xs.length<=sizeLine:=by
 rcases h with h | ⟨o,its,n,hk,hc,hs,hz,r⟩
 ·obtain⟨z,its,r,p⟩:=h.ok I.hok;exact⟨its,r,p,z⟩
 ·refine⟨its.toList,r,⟨o,I.kIn a o hk,hc,n,by simpa using hs⟩,?_⟩;have e:=r.length;simp only [Q0] at e;lia
theorem Inv.list_inj(I:Inv X pins σ H s)(h:SqL X.K H a xs)(h':SqL X.K H a ys):xs=ys:=by
 obtain⟨its,r,⟨o,n,e,_,_,d⟩,_⟩:=I.list h;obtain⟨its',r',⟨o',n',e',_,_,d'⟩,_⟩:=I.list h';rw [e] at e';cases e';rw [d] at d'
 injection d' with d1 _
 have:its=its':=by simpa using QW Array.toList d1
 subst this;exact r.inj r'
theorem Inv.tuple_inj(I:Inv X pins σ H s)(h:SqT X.K H a xs)(h':SqT X.K H a ys):xs=ys:=by
 obtain⟨its,r,⟨o,e,_,n,d⟩,_⟩:=I.tuple h;obtain⟨its',r',⟨o',e',_,n',d'⟩,_⟩:=I.tuple h';rw [e] at e';cases e';rw [d] at d'
 injection d' with d1 _
 have:its=its':=by simpa using QW Array.toList d1
 subst this;exact r.inj r'
end
abbrev Cx.wish(X:Cx)(E:Value->Shared->Prop):Cx:={ X with xe:=E }
abbrev Cx.nox(X:Cx):Cx:=X.wish λ_ _=>False
theorem Cx.Ok.wish{X:Cx}(ok:X.Ok)(E:Value->Shared->Prop):(X.wish E).Ok :=
 ⟨ok.mod,ok.kind,ok.glob,ok.blt,ok.above,ok.inj,ok.has,ok.cab,ok.hd,ok.frames,ok.stk,ok.exf,ok.bs,ok.bsz,ok.noex,ok.exfs,ok.funs,ok.frf⟩
theorem Cx.Ok.unwish{X:Cx}{E:Value->Shared->Prop}(ok:(X.wish E).Ok):X.Ok :=
 ⟨ok.mod,ok.kind,ok.glob,ok.blt,ok.above,ok.inj,ok.has,ok.cab,ok.hd,ok.frames,ok.stk,ok.exf,ok.bs,ok.bsz,ok.noex,ok.exfs,ok.funs,ok.frf⟩
section
variable{X:Cx} {pins:List (Addr × Obj)} {σ:St} {H:Hp} {s:Shared} {E:Value->Shared->Prop}
theorem Inv.wish(I:Inv X pins σ H s)(E:Value->Shared->Prop):Inv (X.wish E) pins σ H s:=⟨I.ok.wish E,I.os,I.bare,I.base,I.loc,I.cell,I.free,I.freeC,I.pin,I.hok,I.len⟩
theorem Inv.unwish(I:Inv (X.wish E) pins σ H s):Inv X pins σ H s:=⟨I.ok.unwish,I.os,I.bare,I.base,I.loc,I.cell,I.free,I.freeC,I.pin,I.hok,I.len⟩
theorem SP.unwish{D:gk}{f:Flow}{s':Shared}(h:SP (X.wish E) pins D f s'):SP X pins D f s':=by
 cases f with
 | next=>obtain⟨σ',H',I,q⟩:=h;exact⟨σ',H',I.unwish,q⟩
 | brk=>obtain⟨σ',H',I,q⟩:=h;exact⟨σ',H',I.unwish,q⟩
 | cont=>obtain⟨σ',H',I,q⟩:=h;exact⟨σ',H',I.unwish,q⟩
 | ret u=>obtain⟨v,σ',H',I,r,q⟩:=h;exact⟨v,σ',H',I.unwish,r,q⟩
theorem PSs.nox{st:List Stmt}{t:TS}(h:PSs X.nox st t):PSs X st t:=λpins s σ H D I hw =>
 Uk (h pins s σ H D (I.wish _) hw) (λ_ _ q=>q.unwish) λ_ _ z=>False.elim z
end
section
variable{X:Cx} {st:Stmt} {rest:List Stmt} {t u:TS} {e:Expr} {te:TE} {pos:Pos}
def xF:TS:=λD σ H=>D.nx σ H
def zj(t u:TS):TS:=λD σ H=>t { D with nx:=u D } σ H
theorem ax:PSs X [] xF:=λ_ _ σ H _ I h=>Vr ⟨σ,H,I,h⟩
theorem ag(h1:PS X st t)(h2:PSs X rest u):PSs X (st :: rest) (zj t u):=by
 intro pins s σ H D I h;refine wpAny_execs_cons (thn (h1 pins s σ H { D with nx:=u D } I h) λf s1 q=>?_);cases f with
 | next =>
  obtain⟨σ',H',I',q⟩:=q;exact h2 pins s1 σ' H' D I' q
 | ret v=>exact q
 | brk=>exact q
 | cont=>exact q
theorem aj(h1:PS X st t):PSs X [st] t:=by
 intro pins s σ H D I h;refine wpAny_execs_cons (thn (h1 pins s σ H D I h) λf s1 q=>?_);cases f with
 | next=>exact Vr q
 | ret v=>exact q
 | brk=>exact q
 | cont=>exact q
theorem Inv.quiet{pins:List (Addr × Obj)}{σ:St}{H:Hp}{s:Shared}(I:Inv X pins σ H s):interactive X.env=false:=by simp [interactive,I.ok.kind]
def xG(te:TE):TS:=λD σ H=>te σ H λ_ H1=>D.nx σ H1
theorem aT(he:PE X e te)(hs:swapsWith e none pos.line X.env=pure false:=by rfl):PS X (.Expr e pos) (xG te):=by
 intro pins s σ H D I h;exact wpAny_Expr_any (thn (he pins s σ H _ I h) λv s1 ⟨x,H1,I1,r1,q1⟩=>⟨σ,H1,I1,q1⟩) I.quiet hs
def xH(te:TE):TS:=λD σ H=>te σ H D.rt
theorem av(he:PE X e te):PS X (.Return (some e) pos) (xH te):=by
 intro pins s σ H D I h;exact wpAny_Return_some (thn (he pins s σ H _ I h) λv s1 ⟨x,H1,I1,r1,q1⟩=>⟨x,σ,H1,I1,r1,q1⟩)
def zk(c:TT)(t u:TS):TS:=λD σ H=>c σ H λb H1=>if b=true then t D σ H1 else u D σ H1
theorem aM{c:Expr}{a b:List Stmt}{tc:TT}(hc:PT X c tc)(ha:PSs X a t)(hb:PSs X b u):PS X (.If c a b pos) (zk tc t u):=by
 intro pins s σ H D I h;refine wpAny_If (thn (hc pins s σ H _ I h) λd s1 ⟨H1,I1,q1⟩=>?_);cases d with
 | true=>exact ha pins s1 σ H1 D I1 q1
 | false=>exact hb pins s1 σ H1 D I1 q1
end
abbrev TG:=V->St->Hp->(St->Hp->Prop)->Prop
abbrev TGs:=List V->St->Hp->(St->Hp->Prop)->Prop
def PG(X:Cx)(target:Expr)(t:TG):Prop :=
 ∀(pins:List (Addr × Obj)) (s:Shared) (σ:St) (H:Hp) (v:V) (u:Value) (Q:St->Hp->Prop),Inv X pins σ H s->aW v u->t v σ H Q ->
  wpAny (model X.prog X.w) X.A (assign target X.env u) (λ_ s'=>∃ σ' H',Inv X pins σ' H' s'/\Q σ' H') X.xe s
def PGs(X:Cx)(ts:List Expr)(t:TGs):Prop :=
 ∀(pins:List (Addr × Obj)) (s:Shared) (σ:St) (H:Hp) (vs:List V) (us:List Value) (Q:St->Hp->Prop),Inv X pins σ H s->aS vs us->t vs σ H Q ->
  wpAny (model X.prog X.w) X.A (assignInOrder ((assignEach ts X.env).map (·.2)) us) (λ_ s'=>∃ σ' H',Inv X pins σ' H' s'/\Q σ' H') X.xe s
abbrev wq:=V->V->V->Hp->(Hp->Prop)->Prop
def xI(X:Cx)(t:wq):Prop :=
 ∀(pins:List (Addr × Obj)) (s:Shared) (σ:St) (H:Hp) (o i v:V) (ov iv u:Value) (Q:Hp->Prop),Inv X pins σ H s->aW o ov->aW i iv->aW v u->t o i v H Q ->
  wpAny (model X.prog X.w) X.A (setItem ov iv u) (λ_ s'=>∃ H',Inv X pins σ H' s'/\Q H') X.xe s
section
variable{X:Cx} {pos:Pos}
def l8(i:Nat):TG:=λv σ H Q=>Q (σ.set i (some v)) H
theorem bj{i:Nat}{x:Str}(hN:X.N.Nodup)(hi:X.N[i]?=some x)(hx:Loc X.env.scope x)(hf:X.fn x=true\/X.env.scope.names.lookup x=some .local:=by first | exact .inl rfl | exact .inr rfl | assumption):PG X (.Name x pos) (l8 i):=by
 intro pins s σ H v u Q I r h;exact wpAny_assign_Name (l0 I hN hi hx r (λs' I'=>⟨_,H,I',h⟩) hf)
def zl:TGs:=λvs σ H Q=>vs=[]/\Q σ H
inductive qO(t:TG)(u:TGs)(vs:List V)(σ:St)(H:Hp)(Q:St->Hp->Prop):Prop
 | mk:∀ v r,(vs=v :: r)->(t v σ H λσ' H'=>u r σ' H' Q)->qO t u vs σ H Q
def xJ(t:TG)(u:TGs):TGs:=λvs σ H Q=>qO t u vs σ H Q
theorem kS:PGs X [] zl:=by
 intro pins s σ H vs us Q I r h;obtain⟨e,h⟩:=h;subst e;cases r;exact assignInOrder_nil ⟨σ,H,I,h⟩
theorem d8{e:Expr}{es:List Expr}{t:TG}{u:TGs}(h1:PG X e t)(h2:PGs X es u)
  (hs:(assignEach (e :: es) X.env).map (·.2)=assign e X.env :: (assignEach es X.env).map (·.2):=by rfl):PGs X (e :: es) (xJ t u):=by
 intro pins s σ H vs us Q I r h;obtain⟨v,vr,e1,h⟩:=h;subst e1;cases r with
 | cons r rr =>
  rw [hs];refine assignInOrder_cons (thn (h1 pins s σ H _ _ _ I r h) λ_ s1 ⟨σ1,H1,I1,q1⟩=>?_);exact h2 pins s1 σ1 H1 _ _ Q I1 rr q1
inductive vE(K:W.Frag)(n:Nat)(t:TGs)(v:V)(σ:St)(H:Hp)(Q:St->Hp->Prop):Prop
 | mk:∀ a xs,(v=.ref a)->(SqT K H a xs)->(xs.length=n)->(t xs σ H Q)->vE K n t v σ H Q
def zm(K:W.Frag)(n:Nat)(t:TGs):TG:=λv σ H Q=>vE K n t v σ H Q
theorem nF{es:List Expr}{k:Nat}{t:TGs}{n:Nat}(hc:X.calm=true)(h:PGs X es t)
  (hn:(assignEach es X.env).length=n:=by rfl) (hst:(assignEach es X.env).findIdx? (·.1)=none:=by rfl):PG X (.Tuple es k pos) (zm X.K n t):=by
 intro pins s σ H v u Q I r hw;obtain⟨a,xs,e1,hq,hl,hw⟩:=hw;subst e1;cases r;obtain⟨its,rv,ht,hz⟩:=I.tuple hq;refine assign_Tuple_tuple (I.ok.hd hc) ht (by simp [hn,<-hl,rv.length]) hst λh' hx=>?_;have I1:Inv X pins σ H { s with heap:=h' }:=I.kept (t':=s.toks) λb o e=>hx b o (QP (QD e)) e;exact h pins _ σ H xs _ Q I1 (by simpa using rv) hw
def zn(to ti:TE)(t:wq):TG:=λv σ H Q=>to σ H λo H1=>ti σ H1 λi H2=>t o i v H2 λH3=>Q σ H3
theorem kU{o i:Expr}{to ti:TE}{t:wq}(ho:PE X o to)(hi:PE X i ti)(hs:xI X t)
  (ha:∀ v,assign (.Subscript o i pos) X.env v=(do
   let ov <-holding [v] (eval o X.env)
   let iv <-holding [v,ov] (eval i X.env)
   standAt pos
   holding [v,ov,iv] (setItem ov iv v)
   release [v,ov,iv] []):=by intro _;rfl):PG X (.Subscript o i pos) (zn to ti t):=by
 intro pins s σ H v u Q I r h;rw [ha];refine Qa (Uf (thn (ho pins s σ H _ I h) λov s1 ⟨x,H1,I1,r1,q1⟩=>?_));refine Qa (Uf (thn (hi pins s1 σ H1 _ I1 q1) λiv s2 ⟨y,H2,I2,r2,q2⟩=>?_));refine Qa (wpAny_standAt (Qa (Uf (thn (hs pins s2 σ H2 x y v ov iv u _ I2 r1 r2 r q2) λ_ s3 ⟨H3,I3,q3⟩=>?_))));exact wpAny_release ⟨σ,H3,I3,q3⟩
def wr(te:TE)(g:TG):TS:=λD σ H=>te σ H λx H1=>g x σ H1 D.nx
theorem i0{tg e:Expr}{te:TE}{g:TG}(he:PE X e te)(hg:PG X tg g)(hs:swapsWithSole [tg] e pos.line X.env=pure false:=by rfl)(hw:swappedStores [tg] e X.env=pure none:=by rfl)
  (h1:(assignEach [tg] X.env).map (·.2)=[assign tg X.env]:=by rfl):PS X (.Assign [tg] e pos) (wr te g):=by
 intro pins s σ H D I h;refine wpAny_Assign_stores (thn (he pins s σ H _ I h) λv s1 ⟨x,H1,I1,r1,q1⟩=>?_) hs hw;rw [h1];exact thn (hg pins s1 σ H1 x v _ I1 r1 q1) λ_ s2 q=>q
theorem aH{i:Nat}{x:Str}{e:Expr}{te:TE}{pos':Pos}(hN:X.N.Nodup)(hi:X.N[i]?=some x)(hx:Loc X.env.scope x)(he:PE X e te)(hs:swapsWith e (some (.Name x pos')) pos.line X.env=pure false:=by rfl)(hf:X.fn x=true\/X.env.scope.names.lookup x=some .local:=by first | exact .inl rfl | exact .inr rfl | assumption) :
  PS X (.Assign [.Name x pos'] e pos) (wr te (l8 i)):=by
 intro pins s σ H D I h;refine wpAny_Assign_Name (thn (he pins s σ H _ I h) λv s1 ⟨y,H1,I1,r1,q1⟩=>?_) hs;exact l0 I1 hN hi hx r1 (λs2 I2=>⟨_,H1,I2,q1⟩) hf
end
section
variable{X:Cx} {pos:Pos}
def wu(c:TT)(tb:TS):TS:=λD σ H=>∃ W:Nat->St->Hp->Prop,(∃ m,W m σ H)/\∀ m σ H,W m σ H ->
 c σ H λb H1=>if b=true then ∃ N:St->Hp->Prop,(∀ σ' H',N σ' H'->∃ m',m' < m/\W m' σ' H')/\tb { D with nx:=N,ct:=N,bk:=D.nx } σ H1 else D.nx σ H1
theorem dI{c:Expr}{body:List Stmt}{tc:TT}{tb:TS}(hp:PassesOwn (model X.prog X.w) X.A X.env X.xe)(hc:PT X c tc)(hb:PSs X body tb):PS X (.While c body [] pos) (wu tc tb):=by
 intro pins s σ H D I h;obtain⟨W,⟨m0,w0⟩,turn⟩:=h;refine wpAny_While (codeAny_whileLoop (λn s'=>∃ σ' H',Inv X pins σ' H' s'/\W n σ' H') ?_ m0 ⟨σ,H,I,w0⟩);rintro n s1 ⟨σ1,H1,I1,w1⟩;refine UW hp (thn (hc pins s1 σ1 H1 _ I1 (turn n σ1 H1 w1)) λb s2 ⟨H2,I2,q2⟩=>?_);cases b with
 | true =>
  obtain⟨N,hN,q2⟩:=q2;rw [Qn rfl];refine UW hp (thn (hb pins s2 σ1 H2 _ I2 q2) λf s3 q3=>?_);cases f with
  | next =>
   obtain⟨σ3,H3,I3,n3⟩:=q3;obtain⟨m',hm,w3⟩:=hN σ3 H3 n3;exact⟨m',hm,σ3,H3,I3,w3⟩
  | cont =>
   obtain⟨σ3,H3,I3,n3⟩:=q3;obtain⟨m',hm,w3⟩:=hN σ3 H3 n3;exact⟨m',hm,σ3,H3,I3,w3⟩
  | brk=>exact q3
  | ret v=>exact q3
 | false =>
  rw [Qf Qj];exact Vr ⟨σ1,H2,I2,q2⟩
end
structure It where
 go:Nat->Hp->Prop
 yld:Nat->Hp->V->Hp->Prop
 stop:Nat->Hp->Prop
def jT(X:Cx)(pins:List (Addr × Obj))(H:Hp)(b:Addr):Prop :=
 H b=none/\b≠X.env.locals/\b ∉ X.fs/\(b∈X.ex\/X.s₀.heap.objs.size<=b)/\(∀ x c,X.env.cells.lookup x=some c->c≠b)/\∀ p∈X.pn++pins,p.1≠b
theorem Inv.fpOk{X:Cx}{pins:List (Addr × Obj)}{σ:St}{H H':Hp}{s:Shared}{b:Addr}(I:Inv X pins σ H s)(hb:s.heap.objs.size<=b)(hn:H' b=none):jT X pins H' b:=by
 refine⟨hn,Nat.ne_of_gt (QK I.lt hb),I.nofs hb,.inr (QQ I.sz hb),λx c e z=>?_,λp hp z=>?_⟩
 ·obtain⟨v,q⟩:=I.cell x c e;exact Qs (QK q.lt (by rw [z];exact hb)) (Um _)
 ·exact Qs (QK (QD (I.pin p hp).1) (by rw [z];exact hb)) (Um _)
structure p6(P:Program)(w:World)(K:W.Frag)(tg:Expr)(J:It)(fp:List Addr)(it:Addr)(tn:Nat->Heap->Prop):Prop where
 mem:it∈fp
 obj:∀ i h,tn i h->∀ b∈fp,∃ o,h.get? b=some o/\∀ v,o.data≠.cell v
 keep:∀ i h h',tn i h->(∀ b∈fp,∀ o,h.get? b=some o->h'.get? b=some o)->tn i h'
 item:∀(X:Cx),X.prog=P->X.w=w->X.K=K->X.calm=true->∀(i:Nat) (pins:List (Addr × Obj)) (s:Shared) (σ:St) (H:Hp) (E:Value->Shared->Prop),Inv X pins σ H s->(∀ b∈fp,jT X pins H b)->tn i s.heap->J.go i H ->
  wpAny (model P w) X.A (pyNext (.ref it)) (λr s1=>∃ u,r=some u /\
   wpAny (model P w) X.A (letOwnedTupleGo tg (.ref it) u) (λ_ s2=>∃ x H',Inv X pins σ H' s2/\aW x u/\J.yld i H x H'/\tn (i+1) s2.heap/\∀ b∈fp,H' b=none) E s1) E s
 done:∀(X:Cx),X.prog=P->X.w=w->X.K=K->X.calm=true->∀(i:Nat) (pins:List (Addr × Obj)) (s:Shared) (σ:St) (H:Hp) (E:Value->Shared->Prop),Inv X pins σ H s->(∀ b∈fp,jT X pins H b)->tn i s.heap->J.stop i H ->
  wpAny (model P w) X.A (pyNext (.ref it)) (λr s1=>r=none/\Inv X pins σ H s1) E s
 self:∀(A:Around) (i:Nat) (s:Shared) (Q:Value->Shared->Prop) (E:Value->Shared->Prop),tn i s.heap->Q (.ref it) s->wpAny (model P w) A (pyIter (.ref it)) Q E s
abbrev TI:=St->Hp->(It->Hp->Prop)->Prop
def PIE(X:Cx)(pins:List (Addr × Obj))(σ:St)(tg:Expr)(R:It->Hp->Prop)(itv:Value)(s2:Shared):Prop :=
 ∃(it:Addr) (fp:List Addr) (tn:Nat->Heap->Prop) (J:It) (H':Hp),itv=.ref it/\Inv X pins σ H' s2/\p6 X.prog X.w X.K tg J fp it tn/\tn 0 s2.heap/\(∀ b∈fp,jT X pins H' b)/\R J H'
def PI(X:Cx)(tg iter:Expr)(wi:TI):Prop :=
 ∀(pins:List (Addr × Obj)) (s:Shared) (σ:St) (H:Hp) (R:It->Hp->Prop),Inv X pins σ H s->wi σ H R ->
  wpAny (model X.prog X.w) X.A (eval iter X.env) (λv s1=>wpAny (model X.prog X.w) X.A (pyIter v) (PIE X pins σ tg R) X.xe s1) X.xe s
theorem oJ{M:Model}{A:Around}{E:Value->Shared->Prop}{s:Shared}{tg:Expr}{it:Addr}{u:Value}{o:Obj}{n:String}{vs:Array Value}{Q:Unit->Shared->Prop}(ho:s.heap.get? it=some o)(hc:o.cls=.type n)(hd:o.data=.fields vs)
  (hn:["enumerate","zip","dict_itemiterator","dict_reverseitemiterator","odict_iterator","itertools.zip_longest","itertools.pairwise"].contains n=false) (hQ:Q () s):wpAny M A (letOwnedTupleGo tg (.ref it) u) Q E s:=by
 unfold letOwnedTupleGo;cases tg <;> first
  | exact Qd hQ
  | (cases u <;> first
    | exact Qd hQ
    | (refine Qa (wpAny_load ho ?_);rw [hc,hd];show wpAny M A (if (["enumerate","zip","dict_itemiterator","dict_reverseitemiterator","odict_iterator","itertools.zip_longest","itertools.pairwise"].contains n && vs[0]? == some (rawInt _))=true then _ else _) Q E s;rw [Qf (by intro h;rw [hn,Bool.false_and] at h;cases h)];exact Qd hQ))
def Itl(K:W.Frag)(a:Addr):It :=
 ⟨λi H=>∃ xs x,SqL K H a xs/\xs[i]?=some x,λi H x H'=>H'=H/\∀ xs,SqL K H a xs->xs[i]?=some x,λi H=>∃ xs,SqL K H a xs/\xs.length<=i⟩
def Itt(K:W.Frag)(a:Addr):It :=
 ⟨λi H=>∃ xs x,SqT K H a xs/\xs[i]?=some x,λi H x H'=>H'=H/\∀ xs,SqT K H a xs->xs[i]?=some x,λi H=>∃ xs,SqT K H a xs/\xs.length<=i⟩
def Itr(lo:Int)(n:Nat):It:=⟨λi _=>i < n,λi H x H'=>H'=H/\x=.int (lo+i),λi _=>n<=i⟩
theorem p7{P:Program}{w:World}{K:W.Frag}{tg:Expr}(a it:Addr):p6 P w K tg (Itl K a) [it] it (λi h=>h.IsListIter it a i) where
 mem:=by simp
 obj:=λi h st b hb=>by
  have e:b=it:=by simpa using hb
  subst e;obtain⟨o,e,c,d⟩:=st;exact⟨o,e,λv z=>by rw [d] at z;cases z⟩
 keep:=λi h h' st k=>st.at λo e=>k it (by simp) o e
 item:=by
  intro X hP hw hK hc i pins s σ H E I hf st hg;subst hP hw hK;obtain⟨xs,x,hq,hx⟩:=hg;obtain⟨its,rv,p,hz⟩:=I.list hq;obtain⟨u,hu,ru⟩:=rv.get hx;obtain⟨f0,f1,f2,f3,f4,f5⟩:=hf it (by simp);refine wpAny_pyNext_list_item st p.isList (x:=u) (by simpa using hu) λh' st' sb=>?_;have I1:Inv X pins σ H { s with heap:=h' }:=I.turned (t':=s.toks) (λb o hb e=>(sb.2 b hb).trans e) f0 f1 f3 f4 f5;obtain⟨o,e,c,d⟩:=id st';exact⟨u,rfl,oJ (s:={ s with heap:=h' }) e c d (by decide) ⟨x,H,I1,ru,⟨rfl,λys hy=>by rw [I.list_inj hy hq];exact hx⟩,st',λb hb=>(hf b hb).1⟩⟩
 done:=by
  intro X hP hw hK hc i pins s σ H E I hf st hg;subst hP hw hK;obtain⟨xs,hq,hx⟩:=hg;obtain⟨its,rv,p,hz⟩:=I.list hq;obtain⟨f0,f1,f2,f3,f4,f5⟩:=hf it (by simp);have hl:=rv.length;exact wpAny_pyNext_list_end (I.ok.hd hc) st p.isList (by simp;lia) λh' eb=>⟨rfl,I.turned (t':=s.toks) (λb o hb e=>eb b o hb e) f0 f1 f3 f4 f5⟩
 self:=λ_ _ _ _ _ st h=>wpAny_pyIter_listiter st h
theorem nG{P:Program}{w:World}{K:W.Frag}{tg:Expr}(a it:Addr):p6 P w K tg (Itt K a) [it] it (λi h=>h.IsTupleIter it a i) where
 mem:=by simp
 obj:=λi h st b hb=>by
  have e:b=it:=by simpa using hb
  subst e;obtain⟨o,e,c,d⟩:=st;exact⟨o,e,λv z=>by rw [d] at z;cases z⟩
 keep:=λi h h' st k=>st.at λo e=>k it (by simp) o e
 item:=by
  intro X hP hw hK hc i pins s σ H E I hf st hg;subst hP hw hK;obtain⟨xs,x,hq,hx⟩:=hg;obtain⟨its,rv,p,hz⟩:=I.tuple hq;obtain⟨u,hu,ru⟩:=rv.get hx;obtain⟨f0,f1,f2,f3,f4,f5⟩:=hf it (by simp);refine wpAny_pyNext_tuple_item st (show s.heap.IsTuple a its.toArray from p) (x:=u) (by simpa using hu) λh' st' sb=>?_;have I1:Inv X pins σ H { s with heap:=h' }:=I.turned (t':=s.toks) (λb o hb e=>(sb.2 b hb).trans e) f0 f1 f3 f4 f5;obtain⟨o,e,c,d⟩:=id st';exact⟨u,rfl,oJ (s:={ s with heap:=h' }) e c d (by decide) ⟨x,H,I1,ru,⟨rfl,λys hy=>by rw [I.tuple_inj hy hq];exact hx⟩,st',λb hb=>(hf b hb).1⟩⟩
 done:=by
  intro X hP hw hK hc i pins s σ H E I hf st hg;subst hP hw hK;obtain⟨xs,hq,hx⟩:=hg;obtain⟨its,rv,p,hz⟩:=I.tuple hq;obtain⟨f0,f1,f2,f3,f4,f5⟩:=hf it (by simp);have hl:=rv.length;exact wpAny_pyNext_tuple_end (I.ok.hd hc) st (show s.heap.IsTuple a its.toArray from p) (by simp;lia) λh' eb=>⟨rfl,I.turned (t':=s.toks) (λb o hb e=>eb b o hb e) f0 f1 f3 f4 f5⟩
 self:=λ_ _ _ _ _ st h=>wpAny_pyIter_tupleiter st h
theorem nH{P:Program}{w:World}{K:PySem.W.Frag}{tg:Expr}(it:Addr)(lo:Int)(n:Nat):p6 P w K tg (Itr lo n) [it] it (λi h=>IsRangeIter h it (lo+(i:Nat) * 1) ((n:Int) - (i:Nat)) 1) where
 mem:=by simp
 obj:=λi h st b hb=>by
  have e:b=it:=by simpa using hb
  subst e;exact⟨_,st,λv z=>by
   have z':Data.fields _=Data.cell v:=z;cases z'⟩
 keep:=λi h h' st k=>k it (by simp) _ st
 item:=by
  intro X hP hw hK hc i pins s σ H E I hf st hg;subst hP hw hK;obtain⟨f0,f1,f2,f3,f4,f5⟩:=hf it (by simp);have W:=Walks.range (prog:=X.prog) (w:=X.w) (I.ok.hd hc) it lo 1 n;refine W.item i s _ _ hg st λv h' tk hv st' kk=>?_;obtain⟨t,rfl⟩:=hv;have I1:Inv X pins σ H { s with heap:=h',toks:=tk }:=I.turned (λb o hb e=>kk b o (by simpa using hb) e) f0 f1 f3 f4 f5;refine⟨_,rfl,oJ (s:={ s with heap:=h',toks:=tk }) (n:="range_iterator") st' rfl rfl (by decide) ⟨.int (lo+i),H,I1,⟨t,?_⟩,⟨rfl,rfl⟩,st',λb hb=>(hf b hb).1⟩⟩;rw [Int.mul_one]
 done:=by
  intro X hP hw hK hc i pins s σ H E I hf st hg;subst hP hw hK;obtain⟨f0,f1,f2,f3,f4,f5⟩:=hf it (by simp);exact wpAny_pyNext_range_end (I.ok.hd hc) st (by have:n<=i:=hg;lia) λh' eb=>⟨rfl,I.turned (t':=s.toks) (λb o hb e=>eb b o hb e) f0 f1 f3 f4 f5⟩
 self:=λ_ _ _ _ _ st h=>wpAny_pyIter_rangeiter st h
end L2
namespace L2
open PySem PySem.Spec PyProof.Rows
section
variable{X:Cx} {tg:Expr}
inductive qP(K:W.Frag)(R:It->Hp->Prop)(x:V)(H1:Hp):Prop
 | mk:∀ a,(x=.ref a)->((∃ xs,SqL K H1 a xs))->(R (Itl K a) H1)->qP K R x H1
def xK(K:W.Frag)(tl:TE):TI:=λσ H R=>tl σ H λx H1=>qP K R x H1
inductive vF(K:W.Frag)(R:It->Hp->Prop)(x:V)(H1:Hp):Prop
 | mk:∀ a,(x=.ref a)->((∃ xs,SqT K H1 a xs))->(R (Itt K a) H1)->vF K R x H1
def zo(K:W.Frag)(tl:TE):TI:=λσ H R=>tl σ H λx H1=>vF K R x H1
theorem bi{l:Expr}{tl:TE}(hl:PE X l tl):PI X tg l (xK X.K tl):=by
 intro pins s σ H R I h;refine thn (hl pins s σ H _ I h) λv s1 ⟨x,H1,I1,r1,q1⟩=>?_;obtain⟨a,e,⟨xs,hq⟩,q⟩:=q1;subst e;cases r1;obtain⟨its,rv,p,hz⟩:=I1.list hq;refine wpAny_pyIter_list p.isList ?_;refine⟨s1.heap.objs.size,[s1.heap.objs.size],_,_,H1,rfl,I1.kept (t':=s1.toks) λb o e=>Qm _ e,p7 a _,⟨_,QE _ rfl,rfl,rfl⟩,λb hb=>?_,q⟩;have e:b=s1.heap.objs.size:=by simpa using hb
 subst e;exact I1.fpOk (Qk _) (I1.hok.fresh (Qk _))
theorem qQ{l:Expr}{tl:TE}(hl:PE X l tl):PI X tg l (zo X.K tl):=by
 intro pins s σ H R I h;refine thn (hl pins s σ H _ I h) λv s1 ⟨x,H1,I1,r1,q1⟩=>?_;obtain⟨a,e,⟨xs,hq⟩,q⟩:=q1;subst e;cases r1;obtain⟨its,rv,p,hz⟩:=I1.tuple hq;refine wpAny_pyIter_tuple (show s1.heap.IsTuple a its.toArray from p) ?_;refine⟨s1.heap.objs.size,[s1.heap.objs.size],_,_,H1,rfl,I1.kept (t':=s1.toks) λb o e=>Qm _ e,nG a _,⟨_,QE _ rfl,rfl,rfl⟩,λb hb=>?_,q⟩;have e:b=s1.heap.objs.size:=by simpa using hb
 subst e;exact I1.fpOk (Qk _) (I1.hok.fresh (Qk _))
theorem qR{pins:List (Addr × Obj)}{σ:St}{H:Hp}{s:Shared}{R:It->Hp->Prop}{E:Value->Shared->Prop}{lo hi:Int}{t u v:Tok}{tk:Nat}(I:Inv X pins σ H s)(h1:-(2 ^ 62)<=lo)(h2:lo < 2 ^ 62)(h3:-(2 ^ 62)<=hi)(h4:hi < 2 ^ 62)
  (q:R (Itr lo (hi - lo).toNat) H):wpAny (model X.prog X.w) X.A (pyIter (.ref s.heap.objs.size)) (PIE X pins σ tg R) E { s with heap:=s.heap.push { cls:=.type "range",data:=.fields #[.int lo t,.int hi u,.int 1 v] },toks:=tk }:=by
 refine wpAny_pyIter_range (IsRange.new ..) (small_one h1 h2 h3 h4) ?_;have I1:Inv X pins σ H { s with heap:=s.heap.push { cls:=.type "range",data:=.fields #[.int lo t,.int hi u,.int 1 v] },toks:=tk }:=I.kept λb o e=>Qm _ e;refine⟨(s.heap.push { cls:=.type "range",data:=.fields #[.int lo t,.int hi u,.int 1 v] }).objs.size,[(s.heap.push { cls:=.type "range",data:=.fields #[.int lo t,.int hi u,.int 1 v] }).objs.size],_,_,H,rfl,
  I1.kept (t':=tk) λb o e=>Qm _ e,nH _ lo (hi - lo).toNat,?_,λb hb=>?_,q⟩
 ·have e1:lo+((0:Nat):Int) * 1=lo:=by simp
  have e2:(((hi - lo).toNat:Nat):Int) - ((0:Nat):Int)=Builtin.Range.rangeSize lo hi 1:=by rw [rangeSize_one];split <;> omega
  show IsRangeIter _ _ (lo+((0:Nat):Int) * 1) ((((hi - lo).toNat:Nat):Int) - ((0:Nat):Int)) 1;rw [e1,e2];exact QE _ rfl
 ·have e:b=(s.heap.push { cls:=.type "range",data:=.fields #[.int lo t,.int hi u,.int 1 v] }).objs.size:=by simpa using hb
  subst e;exact I1.fpOk (Qk _) (I1.hok.fresh (Qk _))
def xL(ta:TA):TI:=λσ H R=>ta σ H λvs H1=>∃ j:Int,vs=[.int j]/\-(2 ^ 62)<=j/\j < 2 ^ 62/\R (Itr 0 j.toNat) H1
theorem d9{a:Expr}{ta:TA}{p pos:Pos}(hg:Gl X "range")(hm:X.mg "range"=none)(ha:PA X [a] ta)(hs:starEach [a] X.env=[(false,eval a X.env)]:=by rfl):PI X tg (.Call (.Name "range" p) [a] [] pos) (xL ta):=by
 intro pins s σ H R I h;refine Call_ (iY I hg hm boot_range (PyProof.Rows.callWith_type1 (thn (ha pos pins s σ H _ I h) λus s1 ⟨vs,H1,I1,r1,q1⟩=>?_) hs rfl));obtain⟨j,e,q1,q2,q⟩:=q1;subst e;cases r1 with
 | cons r rr =>
  cases rr;obtain⟨t,rfl⟩:=r;exact call_range_1 (qR I1 (by lia) (by lia) q1 q2 (by simpa using q))
def zq(wi:TI)(g:TG)(tb:TS):TS:=λD σ H=>wi σ H λJ H1=>∃ W:Nat->Nat->St->Hp->Prop,(∃ m,W 0 m σ H1)/\∀ i m σ H,W i m σ H ->
 (J.stop i H/\D.nx σ H)\/(J.go i H/\∃ N:St->Hp->Prop,(∀ σ' H',N σ' H'->∃ m',m' < m/\W (i+1) m' σ' H')/\∀ x H',J.yld i H x H'->g x σ H' λσ2 H2=>tb { D with nx:=N,ct:=N,bk:=D.nx } σ2 H2)
def gY(fp:List Addr)(h:Heap):List (Addr × Obj):=fp.filterMap λb=>(h.get? b).map λo=>(b,o)
theorem fY{fp:List Addr}{h:Heap}{b:Addr}{o:Obj}(hb:b∈fp)(e:h.get? b=some o):(b,o)∈gY fp h:=List.mem_filterMap.mpr ⟨b,hb,by rw [e];rfl⟩
theorem p8{fp:List Addr}{h:Heap}{p:Addr × Obj}(hp:p∈gY fp h):p.1∈fp/\h.get? p.1=some p.2:=by
 obtain⟨b,hb,e⟩:=List.mem_filterMap.mp hp;cases q:h.get? b with
 | none=>rw [q] at e;cases e
 | some o =>
  rw [q] at e;have e':(b,o)=p:=Qt e;subst e';exact⟨hb,q⟩
theorem Inv.pinned{pins:List (Addr × Obj)}{σ:St}{H:Hp}{s:Shared}{fp:List Addr}(I:Inv X pins σ H s)(hf:∀ b∈fp,jT X pins H b)(ho:∀ b∈fp,∃ o,s.heap.get? b=some o/\∀ v,o.data≠.cell v):Inv X (pins++gY fp s.heap) σ H s :=
 I.pins_of λp hp=>(Qr.mp hp).elim (λz=>I.pin p (Qy _ z)) λz=>by
  obtain⟨hb,e⟩:=p8 z;obtain⟨f0,f1,f2,_⟩:=hf p.1 hb;obtain⟨o,e',d⟩:=ho p.1 hb;rw [e] at e';cases e';exact⟨e,f0,f1,f2,d⟩
theorem Inv.unpinned{pins pl:List (Addr × Obj)}{σ:St}{H:Hp}{s:Shared}(I:Inv X (pins++pl) σ H s):Inv X pins σ H s:=I.pins_of λp hp=>I.pin p (Qy _ (QU _ hp))
theorem bQ{iter:Expr}{body:List Stmt}{wi:TI}{g:TG}{tb:TS}{pos:Pos}(hp:PassesOwn (model X.prog X.w) X.A X.env X.xe)(hc:X.calm=true)(hi:PI X tg iter wi)(hg:PG X tg g)(hb:PSs X body tb)
  (hs:∀ x,foldedSetIterable iter X.env x=pure x:=by intro _;rfl):PS X (.For tg iter body [] pos) (zq wi g tb):=by
 intro pins s σ H D I h;refine wpAny_For (thn (hi pins s σ H _ I h) λv s1 h1=>thn h1 λitv s2 h2=>?_) hs;obtain⟨it,fp,tn,J,H2,e,I2,T,st2,f2,W,⟨m0,w0⟩,turn⟩:=h2;subst e;have stat:∀{H':Hp},(∀ b∈fp,H' b=none)->∀ b∈fp,jT X pins H' b:=λhn b hb=>⟨hn b hb,(f2 b hb).2⟩;refine codeAny_forLoop_any (λn s'=>∃ i σ' H',Inv X pins σ' H' s'/\tn i s'.heap/\(∀ b∈fp,H' b=none)/\W i n σ' H') ?_ m0 ⟨0,σ,H2,I2,st2,λb hb=>(f2 b hb).1,w0⟩;rintro n s3 ⟨i,σ3,H3,I3,st3,fr3,w3⟩;rcases turn i n σ3 H3 w3 with⟨stop,qn⟩ | ⟨go,N,hN,step⟩
 ·refine UW hp (thn (T.done X rfl rfl rfl hc i pins s3 σ3 H3 X.xe I3 (stat fr3) st3 stop) λr s4 ⟨hr,I4⟩=>?_);subst hr;exact Vr ⟨σ3,H3,I4,qn⟩
 ·refine UW hp (thn (T.item X rfl rfl rfl hc i pins s3 σ3 H3 X.xe I3 (stat fr3) st3 go) λr s4 ⟨u,hr,h4⟩=>?_);subst hr;refine UW hp (thn h4 λ_ s5 ⟨x,H5,I5,r5,y5,st5,fr5⟩=>?_);have I5':=I5.pinned (stat fr5) (T.obj _ _ st5);refine UW hp (thn (hg _ s5 σ3 H5 x u _ I5' r5 (step x H5 y5)) λ_ s6 ⟨σ6,H6,I6,q6⟩=>?_);refine UW hp (thn (hb _ s6 σ6 H6 _ I6 q6) λf s7 q7=>?_);have again:∀{σ7:St} {H7:Hp},Inv X (pins++gY fp s5.heap) σ7 H7 s7->N σ7 H7->∃ m,m < n/\∃ i σ' H',Inv X pins σ' H' s7/\tn i s7.heap/\(∀ b∈fp,H' b=none)/\W i m σ' H':=λ{σ7 H7} I7 n7=>by
   obtain⟨m',hm,w7⟩:=hN σ7 H7 n7;refine⟨m',hm,i+1,σ7,H7,I7.unpinned,T.keep _ _ _ st5 λb hb o e=>(I7.pin (b,o) (Qy _ (Qy _ (fY hb e)))).1,λb hb=>?_,w7⟩;obtain⟨o,e,d⟩:=T.obj _ _ st5 b hb;exact(I7.pin (b,o) (Qy _ (Qy _ (fY hb e)))).2.1
  cases f with
  | next=>obtain⟨σ7,H7,I7,n7⟩:=q7;exact again I7 n7
  | cont=>obtain⟨σ7,H7,I7,n7⟩:=q7;exact again I7 n7
  | brk=>obtain⟨σ7,H7,I7,q7⟩:=q7;exact⟨σ7,H7,I7.unpinned,q7⟩
  | ret v=>obtain⟨x7,σ7,H7,I7,r7,q7⟩:=q7;exact⟨x7,σ7,H7,I7.unpinned,r7,q7⟩
end
theorem b8{K:PySem.W.Frag}{a:Addr}{xs:List V}{g:TG}{tb:TS}{D:gk}{σ:St}{H:Hp}(Pv:Nat->St->Hp->Prop)(h0:Pv 0 σ H)(hl:∀ i σ H,i<=xs.length->Pv i σ H->SqL K H a xs)
  (hs:∀ i x σ H,xs[i]?=some x->Pv i σ H->g x σ H λσ2 H2=>tb { D with nx:=Pv (i+1),ct:=Pv (i+1),bk:=D.nx } σ2 H2) (hd:∀ σ H,Pv xs.length σ H->D.nx σ H) :
  ∃ W:Nat->Nat->St->Hp->Prop,(∃ m,W 0 m σ H)/\∀ i m σ H,W i m σ H ->
   ((Itl K a).stop i H/\D.nx σ H)\/((Itl K a).go i H/\∃ N:St->Hp->Prop,(∀ σ' H',N σ' H'->∃ m',m' < m/\W (i+1) m' σ' H')/\∀ x H',(Itl K a).yld i H x H'->g x σ H' λσ2 H2=>tb { D with nx:=N,ct:=N,bk:=D.nx } σ2 H2):=by
 refine⟨λi m σ H=>m=xs.length - i/\i<=xs.length/\Pv i σ H,⟨xs.length,by simp,Uh _,h0⟩,?_⟩;rintro i m σ H ⟨rfl,hi,p⟩;have q:=hl i σ H hi p;by_cases hlt:i < xs.length
 ·refine .inr ⟨⟨xs,xs[i],q,by simp [hlt]⟩,Pv (i+1),λσ' H' p'=>⟨xs.length - (i+1),by lia,rfl,hlt,p'⟩,λx H' y=>?_⟩;obtain⟨e,y⟩:=y;subst e;exact hs i x σ _ (y xs q) p
 ·have e:i=xs.length:=by lia
  subst e;exact .inl ⟨⟨xs,q,Qk _⟩,hd σ H p⟩
theorem oK{K:PySem.W.Frag}{a:Addr}{xs:List V}{g:TG}{tb:TS}{D:gk}{σ:St}{H:Hp}(Pv:Nat->St->Hp->Prop)(h0:Pv 0 σ H)(hl:∀ i σ H,i<=xs.length->Pv i σ H->SqT K H a xs)
  (hs:∀ i x σ H,xs[i]?=some x->Pv i σ H->g x σ H λσ2 H2=>tb { D with nx:=Pv (i+1),ct:=Pv (i+1),bk:=D.nx } σ2 H2) (hd:∀ σ H,Pv xs.length σ H->D.nx σ H) :
  ∃ W:Nat->Nat->St->Hp->Prop,(∃ m,W 0 m σ H)/\∀ i m σ H,W i m σ H ->
   ((Itt K a).stop i H/\D.nx σ H)\/((Itt K a).go i H/\∃ N:St->Hp->Prop,(∀ σ' H',N σ' H'->∃ m',m' < m/\W (i+1) m' σ' H')/\∀ x H',(Itt K a).yld i H x H'->g x σ H' λσ2 H2=>tb { D with nx:=N,ct:=N,bk:=D.nx } σ2 H2):=by
 refine⟨λi m σ H=>m=xs.length - i/\i<=xs.length/\Pv i σ H,⟨xs.length,by simp,Uh _,h0⟩,?_⟩;rintro i m σ H ⟨rfl,hi,p⟩;have q:=hl i σ H hi p;by_cases hlt:i < xs.length
 ·refine .inr ⟨⟨xs,xs[i],q,by simp [hlt]⟩,Pv (i+1),λσ' H' p'=>⟨xs.length - (i+1),by lia,rfl,hlt,p'⟩,λx H' y=>?_⟩;obtain⟨e,y⟩:=y;subst e;exact hs i x σ _ (y xs q) p
 ·have e:i=xs.length:=by lia
  subst e;exact .inl ⟨⟨xs,q,Qk _⟩,hd σ H p⟩
theorem ef{lo:Int}{n:Nat}{g:TG}{tb:TS}{D:gk}{σ:St}{H:Hp}(Pv:Nat->St->Hp->Prop)(h0:Pv 0 σ H)
  (hs:∀ i σ H,i < n->Pv i σ H->g (.int (lo+i)) σ H λσ2 H2=>tb { D with nx:=Pv (i+1),ct:=Pv (i+1),bk:=D.nx } σ2 H2) (hd:∀ σ H,Pv n σ H->D.nx σ H) :
  ∃ W:Nat->Nat->St->Hp->Prop,(∃ m,W 0 m σ H)/\∀ i m σ H,W i m σ H ->
   ((Itr lo n).stop i H/\D.nx σ H)\/((Itr lo n).go i H/\∃ N:St->Hp->Prop,(∀ σ' H',N σ' H'->∃ m',m' < m/\W (i+1) m' σ' H')/\∀ x H',(Itr lo n).yld i H x H'->g x σ H' λσ2 H2=>tb { D with nx:=N,ct:=N,bk:=D.nx } σ2 H2):=by
 refine⟨λi m σ H=>m=n - i/\i<=n/\Pv i σ H,⟨n,by simp,Uh _,h0⟩,?_⟩;rintro i m σ H ⟨rfl,hi,p⟩;by_cases hlt:i < n
 ·refine .inr ⟨hlt,Pv (i+1),λσ' H' p'=>⟨n - (i+1),by lia,rfl,hlt,p'⟩,λx H' y=>?_⟩;obtain⟨e,y⟩:=y;subst e y;exact hs i σ _ hlt p
 ·have e:i=n:=by lia
  subst e;exact .inl ⟨Qk _,hd σ H p⟩
end L2
namespace L2
open PySem PySem.Spec PyProof.Rows
abbrev R2:=V->V->Hp->VK->Prop
def OpR(X:Cx)(f:Value->Value->Sem Value)(r:R2):Prop :=
 ∀(pins:List (Addr × Obj)) (s:Shared) (σ:St) (H:Hp) (x y:V) (v u:Value) (Q:VK),Inv X pins σ H s->aW x v->aW y u->r x y H Q ->
  wpAny (model X.prog X.w) X.A (f v u) (EP X pins σ Q) X.xe s
def UnR(X:Cx)(f:Value->Sem Value)(r:V->Hp->VK->Prop):Prop :=
 ∀(pins:List (Addr × Obj)) (s:Shared) (σ:St) (H:Hp) (x:V) (v:Value) (Q:VK),Inv X pins σ H s->aW x v->r x H Q ->
  wpAny (model X.prog X.w) X.A (f v) (EP X pins σ Q) X.xe s
def eh(X:Cx)(f:Value)(r:List V->Hp->VK->Prop):Prop :=
 ∀(pins:List (Addr × Obj)) (s:Shared) (σ:St) (H:Hp) (xs:List V) (us:List Value) (Q:VK),Inv X pins σ H s->aS xs us->r xs H Q ->
  wpAny (model X.prog X.w) X.A (call f us) (EP X pins σ Q) X.xe s
def zr(X:Cx)(r:V->Hp->(Bool->Hp->Prop)->Prop):Prop :=
 ∀(pins:List (Addr × Obj)) (s:Shared) (σ:St) (H:Hp) (x:V) (v:Value) (Q:Bool->Hp->Prop),Inv X pins σ H s->aW x v->r x H Q ->
  wpAny (model X.prog X.w) X.A (truthy v) (TP X pins σ Q) X.xe s
def tOp(r:R2)(ta tb:TE):TE:=λσ H Q=>ta σ H λx H1=>tb σ H1 λy H2=>r x y H2 Q
def tUn(r:V->Hp->VK->Prop)(ta:TE):TE:=λσ H Q=>ta σ H λx H1=>r x H1 Q
inductive XrI(C:Int->Int->Prop)(g:Int->Int->V)(x:V)(y:V)(H:Hp)(Q:VK):Prop
 | mk:∀ i j,(x=.int i)->(y=.int j)->(C i j)->(Q (g i j) H)->XrI C g x y H Q
def rI(C:Int->Int->Prop)(g:Int->Int->V):R2:=λx y H Q=>XrI C g x y H Q
inductive xM(g:Int->Int->V)(x:V)(y:V)(H:Hp)(Q:VK):Prop
 | mk:∀ i j,(x=.int i)->(y=.int j)->(Q (g i j) H)->xM g x y H Q
def rI0(g:Int->Int->V):R2:=λx y H Q=>xM g x y H Q
inductive XrU(g:Int->V)(x:V)(H:Hp)(Q:VK):Prop
 | mk:∀ i,(x=.int i)->(Q (g i) H)->XrU g x H Q
def rU(g:Int->V):V->Hp->VK->Prop:=λx H Q=>XrU g x H Q
section
variable{X:Cx} {a b c:Expr} {ta tb tc:TE} {pos:Pos}
theorem wv(ha:PE X a ta)(hb:PE X b tb){pins:List (Addr × Obj)}{s:Shared}{σ:St}{H:Hp}{R:V->V->Hp->Prop}(I:Inv X pins σ H s)
  (h:ta σ H λx H1=>tb σ H1 λy H2=>R x y H2) {Q:Value->Shared->Prop} {f:Value->Value->Sem Value}
  (hf:∀ v u s2 x y H2,Inv X pins σ H2 s2->aW x v->aW y u->R x y H2->wpAny (model X.prog X.w) X.A (f v u) Q X.xe s2) :
  wpAny (model X.prog X.w) X.A (eval a X.env) (λv s₁=>wpAny (model X.prog X.w) X.A (eval b X.env) (λu s₂=>wpAny (model X.prog X.w) X.A (f v u) Q X.xe s₂) X.xe s₁) X.xe s:=by
 refine thn (ha pins s σ H _ I h) λv s1 ⟨x,H1,I1,r1,q1⟩=>?_;refine thn (hb pins s1 σ H1 _ I1 q1) λu s2 ⟨y,H2,I2,r2,q2⟩=>?_;exact hf v u s2 x y H2 I2 r1 r2 q2
theorem aO{op:Operator}{r:R2}(ho:OpR X (binaryOp op) r)(ha:PE X a ta)(hb:PE X b tb):PE X (.BinOp a op b pos) (tOp r ta tb):=by
 intro pins s σ H Q I h;exact wpAny_BinOp (wv ha hb I h λv u s2 x y H2 I2 rx ry q=>ho pins s2 σ H2 x y v u Q I2 rx ry q)
theorem dk{op:UnaryOp}{r:V->Hp->VK->Prop}(ho:UnR X (unaryOp op) r)(ha:PE X a ta):PE X (.UnaryOp op a pos) (tUn r ta):=by
 intro pins s σ H Q I h;exact UnaryOp_ (thn (ha pins s σ H _ I h) λv s1 ⟨x,H1,I1,r1,q1⟩=>ho pins s1 σ H1 x v Q I1 r1 q1)
theorem opI{f:Value->Value->Sem Value}{C:Int->Int->Prop}{g:Int->Int->Int}
  (rule:∀(i j:Int) (t u:Tok) (s:Shared) (Q:Value->Shared->Prop) (E:Value->Shared->Prop),C i j->Q (.int (g i j) s.toks) { s with toks:=s.toks+1 }->wpAny (model X.prog X.w) X.A (f (.int i t) (.int j u)) Q E s) :
  OpR X f (rI C λi j=>.int (g i j)):=by
 intro pins s σ H x y v u Q I rx ry h;obtain⟨i,j,rfl,rfl,hc,q⟩:=h;obtain⟨t,rfl⟩:=rx;obtain⟨t',rfl⟩:=ry;exact rule i j t t' s _ _ hc ⟨.int (g i j),H,I.tok _,⟨_,rfl⟩,q⟩
theorem xN{f:Value->Value->Sem Value}{g:Int->Int->Int}
  (rule:∀(i j:Int) (t u:Tok) (s:Shared) (Q:Value->Shared->Prop) (E:Value->Shared->Prop),Q (.int (g i j) s.toks) { s with toks:=s.toks+1 }->wpAny (model X.prog X.w) X.A (f (.int i t) (.int j u)) Q E s) :
  OpR X f (rI0 λi j=>.int (g i j)):=by
 intro pins s σ H x y v u Q I rx ry h;obtain⟨i,j,rfl,rfl,q⟩:=h;obtain⟨t,rfl⟩:=rx;obtain⟨t',rfl⟩:=ry;exact rule i j t t' s _ _ ⟨.int (g i j),H,I.tok _,⟨_,rfl⟩,q⟩
theorem ww{f:Value->Value->Sem Value}{g:Int->Int->Bool}
  (rule:∀(i j:Int) (t u:Tok) (s:Shared) (Q:Value->Shared->Prop) (E:Value->Shared->Prop),Q (.bool (g i j)) s->wpAny (model X.prog X.w) X.A (f (.int i t) (.int j u)) Q E s) :
  OpR X f (rI0 λi j=>.bl (g i j)):=by
 intro pins s σ H x y v u Q I rx ry h;obtain⟨i,j,rfl,rfl,q⟩:=h;obtain⟨t,rfl⟩:=rx;obtain⟨t',rfl⟩:=ry;exact rule i j t t' s _ _ ⟨.bl (g i j),H,I,rfl,q⟩
def zt(i j:Int):Prop:=0 < j/\j < 1073741824
def wx(i j:Int):Prop:=(-(2 ^ 64) < i/\i < 2 ^ 64)\/(-(2 ^ 64) < j/\j < 2 ^ 64)
theorem wx.ok{i j:Int}(h:wx i j):IntMulOk i j:=by
 rcases h with⟨h1,h2⟩ | ⟨h1,h2⟩
 ·exact .of_left (intBits_le_64 h1 h2)
 ·exact .of_right (intBits_le_64 h1 h2)
theorem eR:OpR X (binaryOp .Add) (rI0 λi j=>.int (i+j)):=xN λ_ _ _ _ _ _ _ q=>add_int q
theorem i5:OpR X (binaryOp .Sub) (rI0 λi j=>.int (i - j)):=xN λ_ _ _ _ _ _ _ q=>sub_int q
theorem cQ:OpR X (binaryOp .Mult) (rI wx λi j=>.int (i * j)):=opI λ_ _ _ _ _ _ _ hc q=>mul_int q hc.ok
theorem oM:OpR X (binaryOp .FloorDiv) (rI zt λi j=>.int (i / j)):=opI λi j _ _ _ _ _ hc q=>by
 have h1:(0:Int) < j:=hc.1;have h2:j < 1073741824:=hc.2;exact floordiv_int (by lia) (by rw [Int.fdiv_eq_ediv_of_nonneg i (by lia)];exact q) (.inl (PyProof.noPylong_small (by lia)))
theorem bH:OpR X (binaryOp .Mod) (rI (λ_ j=>0 < j) λi j=>.int (i % j)):=opI λi j _ _ _ _ _ hc q=>by
 have h1:(0:Int) < j:=hc;exact mod_int' (by lia) (by rw [Int.fmod_eq_emod_of_nonneg i (by lia)];exact q)
theorem unI{f:Value->Sem Value}{g:Int->Int}
  (rule:∀(i:Int) (t:Tok) (s:Shared) (Q:Value->Shared->Prop) (E:Value->Shared->Prop),Q (.int (g i) s.toks) { s with toks:=s.toks+1 }->wpAny (model X.prog X.w) X.A (f (.int i t)) Q E s) :
  UnR X f (rU λi=>.int (g i)):=by
 intro pins s σ H x v Q I rx h;obtain⟨i,rfl,q⟩:=h;obtain⟨t,rfl⟩:=rx;exact rule i t s _ _ ⟨.int (g i),H,I.tok _,⟨_,rfl⟩,q⟩
theorem ci:UnR X (unaryOp .USub) (rU λi=>.int (-i)):=unI λ_ _ _ _ _ q=>neg_int q
end
def wy:V->V->Bool
 | .non,.non=>true | .non,.int _=>true | .int _,.non=>true | .non,.bl _=>true | .bl _,.non=>true | .non,.str _=>true | .str _,.non=>true
 | .int _,.int _=>true | .bl _,.bl _=>true | .str _,.str _=>true | .byt _,.byt _=>true
 | .int _,.str _=>true | .str _,.int _=>true | .bl _,.str _=>true | .str _,.bl _=>true
 | _,_=>false
def rEq:R2:=λx y H Q=>wy x y=true/\Q (.bl (decide (x=y))) H
def rNe:R2:=λx y H Q=>wy x y=true/\Q (.bl (!decide (x=y))) H
theorem oN{i j:Int}:decide (V.int i=V.int j)=(i == j):=by
 rw [Ua];simp
theorem qT{i j:Bool}:decide (V.bl i=V.bl j)=(i == j):=by
 rw [Ua];simp
theorem oO{i j:Str}:decide (V.str i=V.str j)=(i == j):=by
 rw [Ua];simp
theorem oP{i j:Array UInt8}:decide (V.byt i=V.byt j)=(i.toList == j.toList):=by
 rw [Ua];cases i;cases j;simp
section
variable{X:Cx} {a b c:Expr} {ta tb tc:TE} {pos:Pos}
theorem bv{pins:List (Addr × Obj)}{σ:St}{H:Hp}{s:Shared}{Q:VK}{k k':Bool}(I:Inv X pins σ H s)(q:Q (.bl k) H)(e:k=k'):EP X pins σ Q (.bool k') s:=by
 subst e;exact⟨.bl k,H,I,rfl,q⟩
theorem aZ:OpR X (compareOp .Eq) rEq:=by
 intro pins s σ H x y v u Q I rx ry h;obtain⟨hs,q⟩:=h;cases x with
 | non =>
  cases rx;cases y with
  | non=>cases ry;exact PySem.EqNone.eq_none_none (bv I q (by simp))
  | bl j=>cases ry;exact PySem.EqNone.eq_none_bool (bv I q (by simp))
  | int j=>obtain⟨t',rfl⟩:=ry;exact PySem.EqNone.eq_none_int (bv I q (by simp))
  | str j=>obtain⟨t',rfl⟩:=ry;exact PySem.EqNone.eq_none_str (bv I q (by simp))
  | _=>exact Qs (show false=true from hs) Qj
 | bl i =>
  cases rx;cases y with
  | non=>cases ry;exact PySem.EqNone.eq_bool_none (bv I q (by simp))
  | bl j=>cases ry;exact eq_bool (bv I q qT)
  | str j=>obtain⟨t',rfl⟩:=ry;exact PySem.EqMixed.eq_bool_str (bv I q (by simp))
  | _=>exact Qs (show false=true from hs) Qj
 | int i =>
  obtain⟨t,rfl⟩:=rx;cases y with
  | non=>cases ry;exact PySem.EqNone.eq_int_none (bv I q (by simp))
  | int j=>obtain⟨t',rfl⟩:=ry;exact eq_int (bv I q oN)
  | str j=>obtain⟨t',rfl⟩:=ry;exact PySem.EqMixed.eq_int_str (bv I q (by simp))
  | _=>exact Qs (show false=true from hs) Qj
 | str i =>
  obtain⟨t,rfl⟩:=rx;cases y with
  | non=>cases ry;exact PySem.EqNone.eq_str_none (bv I q (by simp))
  | bl j=>cases ry;exact PySem.EqMixed.eq_str_bool (bv I q (by simp))
  | int j=>obtain⟨t',rfl⟩:=ry;exact PySem.EqMixed.eq_str_int (bv I q (by simp))
  | str j=>obtain⟨t',rfl⟩:=ry;exact eq_str (bv I q oO)
  | _=>exact Qs (show false=true from hs) Qj
 | byt i =>
  obtain⟨t,rfl⟩:=rx;cases y with
  | byt j=>obtain⟨t',rfl⟩:=ry;exact W.eq_bytes (bv I q oP)
  | _=>exact Qs (show false=true from hs) Qj
 | _=>cases y <;> exact Qs (show false=true from hs) Qj
theorem dS:OpR X (compareOp .NotEq) rNe:=by
 intro pins s σ H x y v u Q I rx ry h;obtain⟨hs,q⟩:=h;cases x with
 | non =>
  cases rx;cases y with
  | non=>cases ry;exact PySem.EqNone.ne_none_none (bv I q (by simp))
  | bl j=>cases ry;exact PySem.EqNone.ne_none_bool (bv I q (by simp))
  | int j=>obtain⟨t',rfl⟩:=ry;exact PySem.EqNone.ne_none_int (bv I q (by simp))
  | str j=>obtain⟨t',rfl⟩:=ry;exact PySem.EqNone.ne_none_str (bv I q (by simp))
  | _=>exact Qs (show false=true from hs) Qj
 | bl i =>
  cases rx;cases y with
  | non=>cases ry;exact PySem.EqNone.ne_bool_none (bv I q (by simp))
  | bl j=>cases ry;exact ne_bool (bv I q (QW not qT))
  | str j=>obtain⟨t',rfl⟩:=ry;exact PySem.EqMixed.ne_bool_str (bv I q (by simp))
  | _=>exact Qs (show false=true from hs) Qj
 | int i =>
  obtain⟨t,rfl⟩:=rx;cases y with
  | non=>cases ry;exact PySem.EqNone.ne_int_none (bv I q (by simp))
  | int j=>obtain⟨t',rfl⟩:=ry;exact ne_int (bv I q (QW not oN))
  | str j=>obtain⟨t',rfl⟩:=ry;exact PySem.EqMixed.ne_int_str (bv I q (by simp))
  | _=>exact Qs (show false=true from hs) Qj
 | str i =>
  obtain⟨t,rfl⟩:=rx;cases y with
  | non=>cases ry;exact PySem.EqNone.ne_str_none (bv I q (by simp))
  | bl j=>cases ry;exact PySem.EqMixed.ne_str_bool (bv I q (by simp))
  | int j=>obtain⟨t',rfl⟩:=ry;exact PySem.EqMixed.ne_str_int (bv I q (by simp))
  | str j=>obtain⟨t',rfl⟩:=ry;exact ne_str (bv I q (QW not oO))
  | _=>exact Qs (show false=true from hs) Qj
 | byt i =>
  obtain⟨t,rfl⟩:=rx;cases y with
  | byt j=>obtain⟨t',rfl⟩:=ry;exact W.ne_bytes (bv I q (QW not oP))
  | _=>exact Qs (show false=true from hs) Qj
 | _=>cases y <;> exact Qs (show false=true from hs) Qj
theorem gq:OpR X (compareOp .Lt) (rI0 λi j=>.bl (decide (i < j))):=ww λ_ _ _ _ _ _ _ q=>lt_int q
theorem qU:OpR X (compareOp .Gt) (rI0 λi j=>.bl (decide (j < i))):=ww λ_ _ _ _ _ _ _ q=>gt_int q
theorem oQ:OpR X (compareOp .GtE) (rI0 λi j=>.bl (decide (j<=i))):=ww λ_ _ _ _ _ _ _ q=>ge_int q
theorem ay(b:Expr){op:CmpOp}(h:op≠.In:=by decide)(h2:op≠.NotIn:=by decide):behindInMarks op b=false:=by
 have e1:(op == CmpOp.In)=false:=by cases op <;> first | rfl | exact Qs rfl h
 have e2:(op == CmpOp.NotIn)=false:=by cases op <;> first | rfl | exact Qs rfl h2
 cases b <;> simp [behindInMarks,e1,e2]
theorem bX{op:CmpOp}{r:R2}(ho:OpR X (compareOp op) r)(ha:PE X a ta)(hb:PE X b tb)(hm:behindInMarks op b=false):PE X (.Compare a [op] [b] pos) (tOp r ta tb):=by
 intro pins s σ H Q I h;exact wpAny_Compare1 (wv ha hb I h λv u s2 x y H2 I2 rx ry q=>ho pins s2 σ H2 x y v u Q I2 rx ry q) hm
inductive qV(Q:Bool->Hp->Prop)(x:V)(H':Hp):Prop
 | mk:∀ k,(x=.bl k)->(Q k H')->qV Q x H'
def xO(t:TE):TT:=λσ H Q=>t σ H λx H'=>qV Q x H'
theorem au{op:CmpOp}{r:R2}(ho:OpR X (compareOp op) r)(ha:PE X a ta)(hb:PE X b tb)(hm:behindInMarks op b=false):PT X (.Compare a [op] [b] pos) (xO (tOp r ta tb)):=by
 intro pins s σ H Q I h;refine wpAny_isTrue_Compare1 (thn (ha pins s σ H _ I h) λv s1 ⟨x,H1,I1,r1,q1⟩=>thn (hb pins s1 σ H1 _ I1 q1) λu s2 ⟨y,H2,I2,r2,q2⟩ =>
  thn (ho pins s2 σ H2 x y v u _ I2 r1 r2 q2) λc s3 ⟨z,H3,I3,r3,k,e,q3⟩=>?_) hm
 subst e;cases r3;exact UD ⟨H3,I3,q3⟩
def xP(K:W.Frag)(x:V)(H:Hp)(k:Bool):Prop :=
 match x with
 | .non=>k=false
 | .bl b=>k=b
 | .int i=>k=(i != 0)
 | .str y=>y.length<=sizeLine/\k=((y.length:Int) != 0)
 | .byt y=>y.size<=sizeLine/\k=((y.size:Int) != 0)
 | .ref p=>(∃ xs,SqL K H p xs/\k=!xs.isEmpty)\/(∃ xs,SqT K H p xs/\k=!xs.isEmpty)\/∃ kvs,H p=some (.dK kvs)/\k=!kvs.isEmpty
 | _=>False
theorem nI{κ:Type}{kvs:List (κ × V)}{vs:List (κ × Value)}(r:KV kvs vs):(!vs.isEmpty)=!kvs.isEmpty:=by
 cases r <;> rfl
theorem i6{xs:List V}{its:List Value}(r:aS xs its):(!its.toArray.isEmpty)=!xs.isEmpty:=by
 cases r <;> simp
theorem i7:(sizeLine:Nat) < 2 ^ 63:=by rw [sizeLine_eq];decide
theorem wz:zr X (λx H Q=>∃ k,xP X.K x H k/\Q k H):=by
 intro pins s σ H x v Q I rx h;obtain⟨k,e,q⟩:=h;have hl:=i7;have hs:sizeLine=16777216:=sizeLine_eq;cases x with
 | non =>
  cases rx;have e':k=false:=e;subst e';exact truthy_none ⟨H,I,q⟩
 | bl b =>
  cases rx;have e':k=b:=e;subst e';exact UD ⟨H,I,q⟩
 | int i =>
  obtain⟨t,rfl⟩:=rx;have e':k=(i != 0):=e;subst e';exact PySem.P.truthy_int ⟨H,I,q⟩
 | str y =>
  obtain⟨t,rfl⟩:=rx;obtain⟨hy,e'⟩:y.length<=sizeLine/\k=((y.length:Int) != 0):=e;subst e';exact PySem.P.truthy_str (by lia) ⟨H,I.tok _,q⟩
 | byt y =>
  obtain⟨t,rfl⟩:=rx;obtain⟨hy,e'⟩:y.size<=sizeLine/\k=((y.size:Int) != 0):=e;subst e';exact W.truthy_bytes (by lia) ⟨H,I.tok _,q⟩
 | ref p =>
  cases rx;have e':(∃ xs,SqL X.K H p xs/\k=!xs.isEmpty)\/(∃ xs,SqT X.K H p xs/\k=!xs.isEmpty)\/∃ kvs,H p=some (.dK kvs)/\k=!kvs.isEmpty:=e;rcases e' with⟨xs,hx,e'⟩ | ⟨xs,hx,e'⟩ | ⟨kvs,hx,e'⟩
  ·subst e';obtain⟨its,r,pl,hz⟩:=I.list hx;have hlen:=r.length;exact wpAny_truthy_list pl.isList (by simp only [Qu];lia) ⟨H,I.tok _,by rw [i6 r];exact q⟩
  ·subst e';obtain⟨its,r,pl,hz⟩:=I.tuple hx;have hlen:=r.length;exact truthy_tuple pl (by simp only [Qu];lia) ⟨H,I.tok _,by rw [i6 r];exact q⟩
  ·subst e';obtain⟨hz,hS,vs,r,m⟩:kvs.length<=sizeLine/\(p == sysModules)=false/\∃ vs,KV kvs vs/\s.heap.DictOf (aX X.prog X.w) p vs:=I.hok p _ hx;have hlen:kvs.length=vs.length:=Paired.length r;exact wpAny_truthy_dict hS m (by lia) ⟨H,I.tok _,by rw [nI r];exact q⟩
 | _=>exact(show False from e).elim
theorem gt(ha:PE X a ta)(he:∀ whole,isTrue a X.env whole=(do let v <-whole;standAt a.pos;holding [v] (truthy v))) :
  PT X a (λσ H Q=>ta σ H λx H'=>∃ k,xP X.K x H' k/\Q k H'):=by
 intro pins s σ H Q I h;exact isTrue_plain (thn (ha pins s σ H _ I h) λv s1 ⟨x,H1,I1,r1,q1⟩=>wz pins s1 σ H1 x v Q I1 r1 q1) (he _)
theorem eT:OpR X (binaryOp .Add) (λx y H Q=>∃ i j,x=.str i/\y=.str j/\i.length+j.length<=sizeLine/\Q (.str (i++j)) H):=by
 intro pins s σ H x y v u Q I rx ry h;obtain⟨i,j,rfl,rfl,hz,q⟩:=h;obtain⟨t,rfl⟩:=rx;obtain⟨t',rfl⟩:=ry;exact add_str (λt' tk=>⟨.str (i++j),H,I.tok _,⟨_,rfl⟩,q⟩) hz
theorem fO{x:V}{us:List Value}(r:aS [x] us):∃ u,us=[u]/\aW x u:=by
 cases r with
 | cons r1 r2=>cases r2;exact⟨_,rfl,r1⟩
end
end L2
namespace L2
open PySem PySem.Spec PyProof.Rows
structure nJ(h:Heap)(x dx C:Addr)(mA:Str->Option Value):Prop where
 obj:h.get? x=some (W.instObj C dx)
 ns:h.Ns1 dx mA
 ne:dx≠x
theorem p9{h:Heap}{dx:Addr}{mA:Str->Option Value}(n:h.Ns1 dx mA):∃ od,h.get? dx=some od/\∀ name,W.lookIn name od=some (mA name):=by
 obtain⟨o,es,ep,ho,hd,hk,_,hm⟩:=n;refine⟨o,ho,λname=>?_⟩;have e:=hm name;unfold nsFind findBy at e;rw [<-Array.find?_toList] at e;unfold W.lookIn;rw [hd];dsimp only;split
 ·rename_i y q
  rw [q] at e;exact QW some e
 ·rename_i q
  rw [q] at e;have a:es.toList.any (·.refKey)=false:=by
   rw [List.any_eq_false];intro y hy;obtain⟨z,t,hkey⟩:=hk y (Array.mem_toList_iff.mp hy);simp [DictEntry.refKey,hkey]
  have a':¬ es.toList.any (·.refKey)=true:=by rw [a];exact Qj
  rw [Qf a'];exact QW some e
theorem nJ.look{h:Heap}{x dx C:Addr}{mA:Str->Option Value}(I:nJ h x dx C mA):∃ od,W.InstAt h x (W.instObj C dx) C (some od)/\∀ name,W.lookIn name od=some (mA name) :=
 let ⟨od,ho,hl⟩:=p9 I.ns
 ⟨od,⟨I.obj,rfl,rfl,ho⟩,hl⟩
section
variable{prog:Program} {w:World} {A:Around} {E:Value->Shared->Prop} {s:Shared} {K:W.Frag} {x dx C f:Addr} {mA:Str->Option Value} {name:Str} {v:Value}
theorem uf{expr:Bool}{Q:Value->Shared->Prop}(X:K.In s.heap)(I:nJ s.heap x dx C mA)(hg:W.plainGet K C name=true)(hh:W.hasDictIn K C=true)
  (ha:W.findIn K (.ref C) name=some none) (hv:mA name=some v) (hv':W.handedIn v=true) (h:Q v { s with toks:=s.toks+1 }) :
  wpAny (model prog w) A (getAttr (.ref x) name expr) Q E s:=by
 obtain⟨od,J,hl⟩:=I.look;exact W.get_value X J (W.plainGet_of hg).1 (W.findObj_own hh ha rfl (by rw [hl,hv])) hv' h
theorem qW{pl:Sem Bool}{Q:Value × List Value->Shared->Prop}(X:K.In s.heap)(I:nJ s.heap x dx C mA)(hg:W.plainGet K C name=true)
  (hf:W.findIn K (.ref C) name=some (some (.ref f))) (ht:W.isFn K (.ref f)=true) (hv:mA name=none) (h:Q (.ref f,[.ref x]) s) :
  wpAny (model prog w) A (getMethod (.ref x) name pl) Q E s:=by
 obtain⟨od,J,hl⟩:=I.look;exact W.method_fn X J (W.plainGet_of hg).1 (W.plainGet_of hg).2 hf (U3.mp ht) (by show(W.lookIn name od).map (·.isSome)=some false;rw [hl,hv];rfl) h
theorem ug{ns:List Str}{Q:Unit->Shared->Prop}(X:K.In s.heap)(I:nJ s.heap x dx C mA)
  (hs:W.findIn K (.ref C) "__setattr__"=some (some (.builtin "object.__setattr__"))) (hp:W.plainOver K C=true) (ht:W.takerIn K C name=some none) (hh:W.hasDictIn K C=true)
  (hw:PySem.Within mA ns) (hsz:ns.length<=sizeLine)
  (h:∀ h',nJ h' x dx C (λy=>if y=name then some v else mA y)->Heap.SameBut dx s.heap h'->Q () { s with heap:=h',toks:=s.toks+2 }) :
  wpAny (model prog w) A (setAttr (.ref x) name v) Q E s:=by
 obtain⟨od,J,hl⟩:=I.look;refine W.set_plain X J hs (W.osa_open (s:={ s with toks:=s.toks+1 }) (r:=none) X J hp ht λb=>?_);obtain⟨cd,hc,hd'⟩:=W.any_some hh;have hx:s.heap.get? x=some ⟨.ref C,some dx,.plain,#[]⟩:=I.obj;refine Qa (Qd (Qa (Qa (wpAny_loadPart hx (Qa (W.Looks.here (s:={ s with toks:=s.toks+1 }) (W.looks_clsIn X hc) ?_))))));rw [hd'];refine Qd (a:=some dx) (Qa (Qd (Qa ?_)));refine wpAny_nsSet1 (s:={ s with toks:=s.toks+1 }) I.ns λh' hn2 hs2=>?_;obtain⟨oD,esD,epD,hoD,hdD,hcD⟩:=hn2.count (PySem.Within.cons name v hw);refine Qa (wpAny_lookBehind hoD (by rw [hdD];exact pastItsLine_dict (QQ hcD (by rw [QL];lia))) ?_);exact Qd (h _ ⟨(hs2.2 _ (Ne.symm I.ne)).trans I.obj,hn2,I.ne⟩ hs2)
theorem qX{R:Result->Shared->Prop}{vs:List Value}{kw:List (Str × Value)}(X:K.In s.heap)(hm:W.makesIn K C=true)
  (hi:W.findIn K (.ref C) "__init__"=some (some (.ref f))) (hf:W.typeIn K (.ref f)=some (.type "function"))
  (h:codeAny (model prog w) (A.under (.builtin "type.__call__" ⟨.ref C :: vs,kw⟩)) (.call (.ref f) ⟨.ref (s.heap.objs.size+1) :: vs,kw⟩) (W.InitBack (s.heap.objs.size+1) R)
   { s with heap:=(s.heap.push W.emptyDict).push (W.instObj C s.heap.objs.size) }) :
  codeAny (model prog w) A (.call (.ref C) ⟨vs,kw⟩) R s:=by
 obtain⟨hh,g,d,t,os⟩:=s;exact W.make_core (W.makes_of X hm) (W.looks_findIn X hi) (λself=>W.bind_fn X self hf) (.inl rfl) h
end
def fM(f:Str)(v:V):List (Str × V)->List (Str × V)
 | []=>[(f,v)]
 | (g,x) :: r=>if g=f then (g,v) :: r else (g,x) :: fM f v r
theorem iA(f g:Str)(v:V):∀ fs:List (Str × V),(fM f v fs).lookup g=if g=f then some v else fs.lookup g
 | []=>by
  show List.lookup g [(f,v)]=_;by_cases h:g=f
  ·have hb:(g == f)=true:=U3.mpr h;simp only [List.lookup,hb,Qn h]
  ·have hb:(g == f)=false:=UH.mpr h;simp only [List.lookup,hb,Qf h]
 | (k,x) :: r=>by
  have ih:=iA f g v r;rw [show fM f v ((k,x) :: r)=(if k=f then (k,v) :: r else (k,x) :: fM f v r) from rfl];by_cases hk:k=f
  ·rw [Qn hk];by_cases h:g=k
   ·have hb:(g == k)=true:=U3.mpr h;simp only [List.lookup,hb,Qn (h.trans hk)]
   ·have hb:(g == k)=false:=UH.mpr h;simp only [List.lookup,hb,Qf (λe:g=f=>h (e.trans hk.symm))]
  ·rw [Qf hk];by_cases h:g=k
   ·have hb:(g == k)=true:=U3.mpr h;simp only [List.lookup,hb,Qf (λe:g=f=>hk (h.symm.trans e))]
   ·have hb:(g == k)=false:=UH.mpr h;simp only [List.lookup,hb];exact ih
theorem gZ(f:Str)(v:V):∀ fs:List (Str × V),f∈(fM f v fs).map (·.1)/\∀ g,g∈fs.map (·.1)->g∈(fM f v fs).map (·.1)
 | []=>⟨by simp [fM],λg h=>by simp at h⟩
 | (k,x) :: r=>by
  obtain⟨i1,i2⟩:=gZ f v r;rw [show fM f v ((k,x) :: r)=(if k=f then (k,v) :: r else (k,x) :: fM f v r) from rfl];by_cases hk:k=f
  ·rw [Qn hk];subst hk;exact⟨by simp,λg h=>by simpa using h⟩
  ·rw [Qf hk];refine⟨?_,λg h=>?_⟩
   ·rw [Uo];exact QA _ i1
   ·rw [Uo] at h ⊢;rcases Qi.mp h with e | e
    ·exact Qi.mpr (.inl e)
    ·exact QA _ (i2 g e)
theorem iB(f:Str)(v:V):∀ fs:List (Str × V),(fM f v fs).length<=fs.length+1
 | []=>by simp [fM]
 | (k,x) :: r=>by
  have ih:=iB f v r;rw [show fM f v ((k,x) :: r)=(if k=f then (k,v) :: r else (k,x) :: fM f v r) from rfl];by_cases hk:k=f
  ·rw [Qn hk,QL,QL];lia
  ·rw [Qf hk,QL,QL];lia
theorem eQ.some_of{v:V}{o:Option Value}(r:eQ (some v) o):∃ u,o=some u/\aW v u:=by
 cases o with
 | none=>exact(show False from r).elim
 | some u=>exact⟨u,rfl,r⟩
theorem eQ.none_of{o:Option Value}(r:eQ none o):o=none:=by
 cases o with
 | none=>rfl
 | some u=>exact(show False from r).elim
theorem qa{v:V}{u:Value}(r:aW v u):W.handedIn u=true:=by
 cases v with
 | non=>cases (show u=Value.none from r);rfl
 | bl b=>cases (show u=Value.bool b from r);rfl
 | int i=>obtain⟨t,e⟩:=(show ∃ t,u=Value.int i t from r);cases e;rfl
 | str x=>obtain⟨t,e⟩:=(show ∃ t,u=Value.str x t from r);cases e;rfl
 | byt b=>obtain⟨t,e⟩:=(show ∃ t,u=Value.bytes b t from r);cases e;rfl
 | flt b=>obtain⟨t,e⟩:=(show ∃ t,u=Value.float b t from r);cases e;rfl
 | ref a=>cases (show u=Value.ref a from r);rfl
 | ty n=>cases (show u=Value.type n from r);rfl
section
variable{P:Program} {w:World} {H H':Hp} {h h':Heap} {a C dx:Addr} {fs fs':List (Str × V)}
theorem iO(hok:HOk P w H h)(e:H a=some (.ins C dx fs)):∃ mA,nJ h a dx C mA/\(∀ f,eQ (fs.lookup f) (mA f))/\PySem.Within mA (fs.map (·.1))/\fs.length<=1000/\H dx=some (.own a):=by
 obtain⟨d,z,ne,ob,mA,n,r,q⟩:=(show bB P w H h a (.ins C dx fs) from hok a _ e);exact⟨mA,⟨ob,n,ne⟩,r,q,z,d⟩
end
structure Cls(K:W.Frag)(C:Addr):Prop where
 pg:W.plainGet K C Str.empty=true
 hd:W.hasDictIn K C=true
 po:W.plainOver K C=true
 sa:W.findIn K (.ref C) "__setattr__"=some (some (.builtin "object.__setattr__"))
theorem Cls.get{K:W.Frag}{C:Addr}(c:Cls K C)(f:Str):W.plainGet K C f=true:=c.pg
def d4(K:W.Frag)(C:Addr)(f:Str):Prop:=W.findIn K (.ref C) f=some none
theorem d4.taker{K:W.Frag}{C:Addr}{f:Str}(n:d4 K C f):W.takerIn K C f=some none:=by
 unfold W.takerIn;rw [show W.findIn K (.ref C) f=some none from n];rfl
structure fZ(K:W.Frag)(C:Addr)(m:Str)(f:Addr):Prop where
 at_:W.findIn K (.ref C) m=some (some (.ref f))
 fn:W.isFn K (.ref f)=true
 kp:W.keepIn K (.ref f)=true
section
variable{X:Cx} {pins:List (Addr × Obj)} {σ:St} {H:Hp} {s:Shared} {a C dx:Addr} {fs:List (Str × V)} {f:Str} {v:V} {A:Around} {E:Value->Shared->Prop}
theorem nK{b:Bool}{Q:Value->Shared->Prop}(I:Inv X pins σ H s)(e:H a=some (.ins C dx fs))(c:Cls X.K C)(n:d4 X.K C f)(l:fs.lookup f=some v)
  (h:∀ u s',Inv X pins σ H s'->aW v u->Q u s'):wpAny (model X.prog X.w) A (getAttr (.ref a) f b) Q E s:=by
 obtain⟨mA,O,r,_,_,_⟩:=iO I.hok e;obtain⟨u,hu,ru⟩:=eQ.some_of (v:=v) (o:=mA f) (by rw [<-l];exact r f);exact uf I.kIn O (c.get f) c.hd n hu (qa ru) (h u _ (I.tok _) ru)
theorem i8{m:Str}{g:Addr}{pl:Sem Bool}{Q:Value × List Value->Shared->Prop}(I:Inv X pins σ H s)(e:H a=some (.ins C dx fs))(c:Cls X.K C)(k:fZ X.K C m g)(l:fs.lookup m=none)
  (h:Q (.ref g,[.ref a]) s):wpAny (model X.prog X.w) A (getMethod (.ref a) m pl) Q E s:=by
 obtain⟨mA,O,r,_,_,_⟩:=iO I.hok e;have hn:mA m=none:=eQ.none_of (by rw [<-l];exact r m);exact qW I.kIn O (c.get m) k.at_ k.fn hn h
theorem nL{y:V}{u:Value}{Q:Unit->Shared->Prop}(I:Inv X pins σ H s)(e:H a=some (.ins C dx fs))(c:Cls X.K C)(n:d4 X.K C f)(hl:fs.length < 1000)(ry:aW y u)
  (h:∀ s',Inv X pins σ (upd H a (.ins C dx (fM f y fs))) s'->Q () s'):wpAny (model X.prog X.w) A (setAttr (.ref a) f u) Q E s:=by
 obtain⟨mA,O,r,wi,_,ho⟩:=iO I.hok e;have hz:(fs.map (·.1)).length<=sizeLine:=by rw [Qc,sizeLine_eq];lia
 refine ug I.kIn O c.sa c.po n.taker c.hd wi hz λh' O' sb=>h _ ?_;have hd:∃ o,h'.get? dx=some o:=let ⟨o,_,_,e',_⟩:=O'.ns;⟨o,e'⟩;refine I.write (x:=a) (e:=dx) (by rw [e];exact True.intro) (.inr ho) (λb q hb z=>(sb.2 b hb).trans z) hd ?_;refine⟨by rw [af O.ne];exact ho,?_,O.ne,O'.obj,_,O'.ns,λg=>?_,λg hg=>?_⟩
 ·have:=iB f y fs;lia
 ·show eQ ((fM f y fs).lookup g) (if g=f then some u else mA g);rw [iA];by_cases q:g=f
  ·rw [Qn q,Qn q];exact ry
  ·rw [Qf q,Qf q];exact r g
 ·by_cases q:g=f
  ·rw [q];exact(gZ f y fs).1
  ·refine(gZ f y fs).2 g (wi g λz=>hg ?_);show(if g=f then some u else mA g)=none;rw [Qf q];exact z
theorem Inv.made(I:Inv X pins σ H s):Inv X pins σ (upd (upd H s.heap.objs.size (.own (s.heap.objs.size+1))) (s.heap.objs.size+1) (.ins C s.heap.objs.size []))
  { s with heap:=(s.heap.push W.emptyDict).push (W.instObj C s.heap.objs.size) }:=by
 have e1:(s.heap.push W.emptyDict).get? s.heap.objs.size=some W.emptyDict:=QE s.heap rfl;have e2:((s.heap.push W.emptyDict).push (W.instObj C s.heap.objs.size)).get? (s.heap.objs.size+1)=some (W.instObj C s.heap.objs.size):=by
  have:=QE (s.heap.push W.emptyDict) (o:=W.instObj C s.heap.objs.size) rfl;rwa [Heap.size_push] at this
 have e3:(s.heap.push W.emptyDict).Ns s.heap.objs.size (λ_=>none):=⟨W.emptyDict,#[],_,e1,rfl,(λe he=>Qs he (by simp)),λ_=>rfl⟩;have I1:=I.laid (a:=s.heap.objs.size) (o:=.own (s.heap.objs.size+1)) (h':=s.heap.push W.emptyDict) (t':=s.toks) (λb u q=>Qm _ q) (Qk _) ⟨_,e1⟩;refine I1.laid (a:=s.heap.objs.size+1) (o:=.ins C s.heap.objs.size []) (t':=s.toks) (λb u q=>Qm _ q) (Us (Heap.size_push _ _)) ?_;have ne:s.heap.objs.size≠s.heap.objs.size+1:=QP (VO _);refine⟨by rw [af ne,ae],Uh _,ne,e2,λ_=>none,(Heap.Ns1.of_empty e3).at λo q=>Qm _ q,λ_=>True.intro,λy hy=>Qs rfl hy⟩
theorem uh{prog:Program}{w:World}{env:Env}{e:Expr}{f:Str}{pos:Pos}{s:Shared}{Q:Value->Shared->Prop}(hb:attributeBase e f env (eval e env)=eval e env)
  (h:wpAny (model prog w) A (eval e env) (λo s₁=>wpAny (model prog w) A (getAttr o f true) Q E s₁) E s):wpAny (model prog w) A (eval (.Attribute e f pos) env) Q E s :=
 Attribute_any_ h (by rw [arm_eval_Attribute,hb])
end
inductive vG(K:W.Frag)(f:Str)(Q:VK)(x:V)(H1:Hp):Prop
 | mk:∀ a C dx fs v,(x=.ref a)->(H1 a=some (.ins C dx fs))->(Cls K C)->(d4 K C f)->(fs.lookup f=some v)->(Q v H1)->vG K f Q x H1
def zu(K:W.Frag)(ta:TE)(f:Str):TE:=λσ H Q=>ta σ H λx H1=>vG K f Q x H1
inductive vH(K:W.Frag)(f:Str)(D:gk)(σ:St)(y:V)(x:V)(H2:Hp):Prop
 | mk:∀ a C dx fs,(x=.ref a)->(H2 a=some (.ins C dx fs))->(Cls K C)->(d4 K C f)->(fs.length < 1000)->(D.nx σ (upd H2 a (.ins C dx (fM f y fs))))->vH K f D σ y x H2
def zv(K:W.Frag)(ta tv:TE)(f:Str):TS:=λD σ H=>tv σ H λy H1=>ta σ H1 λx H2=>vH K f D σ y x H2
section
variable{X:Cx} {o e value:Expr} {f:Str} {pos pos' tpos:Pos} {ta tv:TE}
theorem bI(he:PE X e ta)(hb:attributeBase e f X.env (eval e X.env)=eval e X.env):PE X (.Attribute e f pos) (zu X.K ta f):=by
 intro pins s σ H Q I h;refine uh hb (thn (he pins s σ H _ I h) λu s1 ⟨x,H1,I1,rx,a,C,dx,fs,v,ex,ea,c,n,l,q⟩=>?_);subst ex;obtain rfl:u=Value.ref a:=rx;exact nK I1 ea c n l λu' s2 I2 ru=>⟨v,H1,I2,ru,q⟩
theorem kW(ha:PE X o ta)(hv:PE X value tv)(hs:swapsWith value (some (.Attribute o f pos')) pos.line X.env=pure false):PS X (.Assign [.Attribute o f pos'] value pos) (zv X.K ta tv f):=by
 intro pins s σ H D I h;refine plainObj_wpAny_Assign_Attribute (thn (hv pins s σ H _ I h) λu s1 ⟨y,H1,I1,ry,q⟩=>thn (ha pins s1 σ H1 _ I1 q) λov s2 ⟨x,H2,I2,rx,a,C,dx,fs,ex,ea,c,n,l,q2⟩=>?_) hs;subst ex;obtain rfl:ov=Value.ref a:=rx;exact nL I2 ea c n l ry λs3 I3=>⟨σ,_,I3,q2⟩
end
section
variable{X:Cx} {pins:List (Addr × Obj)} {σ:St} {H:Hp} {s:Shared} {A:Around} {E:Value->Shared->Prop} {Q:Value->Shared->Prop} {c:Value} {b:Bool}
inductive g0(K:W.Frag)(H:Hp):V->Value->Prop where
 | non:g0 K H .non (.type "NoneType")
 | bl (x:Bool):g0 K H (.bl x) (.type "bool")
 | int (i:Int):g0 K H (.int i) (.type "int")
 | str (x:Str):g0 K H (.str x) (.type "str")
 | flt (x:UInt64):g0 K H (.flt x) (.type "float")
 | lst {a:Addr} {xs:List V} (e:H a=some (.lst xs)):g0 K H (.ref a) (.type "list")
 | frz {a:Addr} {o:Obj} {xs:List V} (e:H a=some (.frz o (.lst xs))):g0 K H (.ref a) (.type "list")
 | tup {a:Addr} {xs:List V} (e:H a=some (.tup xs)):g0 K H (.ref a) (.type "tuple")
 | dK {a:Addr} {kvs:List (Key × V)} (e:H a=some (.dK kvs)):g0 K H (.ref a) (.type "dict")
 | dT {a:Addr} {kvs:List (List Key × V)} (e:H a=some (.dT kvs)):g0 K H (.ref a) (.type "dict")
 | ins {a C dx:Addr} {fs:List (Str × V)} (e:H a=some (.ins C dx fs)) (cl:Cls K C) (ha:W.findIn K (.ref C) "__class__"=some (some (.builtin "object.__class__")))
   (hn:W.specialIn K (.builtin "object.__class__") "__get__"=some (some (.builtin "getset_descriptor.__get__"))) (htk:W.takesIn K (.builtin "object.__class__")=some true)
   (hm:W.mroIn K C (.type "object")=some true):g0 K H (.ref a) (.ref C)
theorem qb{x:V}{u t:Value}(I:Inv X pins σ H s)(rx:aW x u)(ty:g0 X.K H x t)(e:W.kitOne X.K t c=some b)(h:∀ tk,Q (.bool b) { s with toks:=tk }) :
  wpAny (model X.prog X.w) A (call (.builtin "isinstance") [u,c]) Q E s:=by
 cases ty with
 | non=>cases (show u=Value.none from rx);exact W.kia_one W.kitx_none I.kIn True.intro e (λz=>nomatch z) h
 | bl y=>cases (show u=Value.bool y from rx);exact W.kia_one W.kitx_bool I.kIn True.intro e (λz=>nomatch z) h
 | int i=>obtain⟨t,q⟩:=(show ∃ t,u=Value.int i t from rx);cases q;exact W.kia_one W.kitx_int I.kIn True.intro e (λz=>nomatch z) h
 | str y=>obtain⟨t,q⟩:=(show ∃ t,u=Value.str y t from rx);cases q;exact W.kia_one W.kitx_str I.kIn True.intro e (λz=>nomatch z) h
 | flt y=>obtain⟨t,q⟩:=(show ∃ t,u=Value.float y t from rx);cases q;exact W.kia_one W.kitx_float I.kIn True.intro e (λz=>nomatch z) h
 | @lst a xs ea =>
  cases (show u=Value.ref a from rx);obtain⟨_,_,n,_,h1⟩:=(show bB X.prog X.w H s.heap a (.lst xs) from I.hok a _ ea);exact W.kia_one W.kitx_list I.kIn ⟨_,h1,rfl⟩ e (λz=>nomatch z) h
 | @frz a ob xs ea =>
  cases (show u=Value.ref a from rx);obtain⟨_,_,_,n,_,h1⟩:=(show bB X.prog X.w H s.heap a (.frz ob (.lst xs)) from I.hok a _ ea);exact W.kia_one W.kitx_list I.kIn ⟨_,h1,rfl⟩ e (λz=>nomatch z) h
 | @tup a xs ea =>
  cases (show u=Value.ref a from rx);obtain⟨_,_,_,p⟩:=(show bB X.prog X.w H s.heap a (.tup xs) from I.hok a _ ea);obtain⟨o,h1,h2,_⟩:=p;exact W.kia_one W.kitx_tuple I.kIn ⟨o,h1,h2⟩ e (λz=>nomatch z) h
 | @dK a kvs ea =>
  cases (show u=Value.ref a from rx);obtain⟨_,_,vs,_,p⟩:=(show bB X.prog X.w H s.heap a (.dK kvs) from I.hok a _ ea);obtain⟨o,es,ep,h1,h2,_⟩:=p;exact W.kia_one W.kitx_dict I.kIn ⟨o,h1,h2.1⟩ e (λz=>nomatch z) h
 | @dT a kvs ea =>
  cases (show u=Value.ref a from rx);obtain⟨_,_,xs,_,o,es,ep,h1,h2,_⟩:=(show bB X.prog X.w H s.heap a (.dT kvs) from I.hok a _ ea);exact W.kia_one W.kitx_dict I.kIn ⟨o,h1,h2.1⟩ e (λz=>nomatch z) h
 | @ins a C dx fs ea cl ha hn htk hm =>
  cases (show u=Value.ref a from rx);obtain⟨mA,O,_⟩:=iO I.hok ea;obtain⟨od,J,_⟩:=O.look;exact W.kia_one (W.kitx_own (cl.get _) cl.hd ha hn htk hm) I.kIn J e (λz=>nomatch z) h
end
end L2
namespace L2
open PySem PySem.Spec PyProof.Rows
structure bO(k:Nat)(A:Around):Prop where
 hd:A.handled=none
 dp:A.depth+3 * k+5 < recursionLimit
 un:A.units+16 * k+200 < cLine
theorem bO.mono{j k:Nat}{A:Around}(r:bO k A)(h:j<=k):bO j A:=⟨r.hd,by have:=r.dp;lia,by have:=r.un;lia⟩
theorem bO.deeper{k:Nat}{A:Around}(r:bO (k+1) A)(env:Env):bO k (A.deeper env) :=
 ⟨r.hd,by have:=r.dp;show A.depth+1+3 * k+5 < _;lia,by have:=r.un;show A.units+3+16 * k+200 < _;lia⟩
theorem bO.in1{k:Nat}{A:Around}(r:bO (k+1) A):bO k A.in1 :=
 ⟨r.hd,by have:=r.dp;show A.depth+3 * k+5 < _;lia,by have:=r.un;show A.units+1+16 * k+200 < _;lia⟩
theorem nM{A:Around}{C:Addr}{us:List Value}{kw:List (Str × Value)}:(A.under (.builtin "type.__call__" ⟨.ref C :: us,kw⟩)).depth=A.depth+1:=by
 first | rfl | simp [Around.under,Code.weight,Code.isCreation,Code.isGuard,Code.isCaller,Code.frames,Code.isFrame,guardIds]
theorem nN{A:Around}{C:Addr}{us:List Value}{kw:List (Str × Value)}:(A.under (.builtin "type.__call__" ⟨.ref C :: us,kw⟩)).units=A.units+1:=by
 first | rfl | simp [Around.under,Code.cUnits,Code.frames,Code.isFrame]
theorem bO.make{k:Nat}{A:Around}(r:bO (k+1) A)(C:Addr)(us:List Value)(kw:List (Str × Value)):bO k (A.under (.builtin "type.__call__" ⟨.ref C :: us,kw⟩)) :=
 ⟨r.hd,by have:=r.dp;rw [nM];lia,by have:=r.un;rw [nN];lia⟩
theorem bO.depth{k:Nat}{A:Around}(r:bO k A):A.depth < recursionLimit:=by have:=r.dp;lia
theorem bO.units{k:Nat}{A:Around}(r:bO k A):A.units+64 < cLine:=by have:=r.un;lia
def ui:TA:=λ_ H Q=>Q [] H
def vI(ta:TE)(tr:TA):TA:=λσ H Q=>ta σ H λx H1=>tr σ H1 λxs H2=>Q (x :: xs) H2
section
variable{X:Cx} {e:Expr} {es:List Expr} {te:TE} {t:TA} {pos:Pos}
theorem ai:PA X [] ui:=λ_ _ _ _ H Q I h=>Calls.spliced_nil ⟨[],H,I,.nil,h⟩
theorem uj(ha:PE X e te)(hr:PA X es t)(hs:starEach (e :: es) X.env=(false,eval e X.env) :: starEach es X.env:=by rfl):PA X (e :: es) (vI te t):=by
 intro pos pins s σ H Q I h;rw [hs];show wpAny _ _ (spliced ((false,eval e X.env) :: backTo pos (starEach es X.env))) _ _ s;refine Calls.spliced_cons (thn (ha pins s σ H _ I h) λu s1 ⟨x,H1,I1,r1,q1⟩=>?_);exact thn (hr pos pins s1 σ H1 _ I1 q1) λus s2 ⟨xs,H2,I2,r2,q2⟩=>⟨x :: xs,H2,I2,.cons r1 r2,q2⟩
def zw(t:TA):TE:=λσ H Q=>t σ H λxs H1=>xs.length<=sizeLine/\∀ p,H1 p=none->Q (.ref p) (upd H1 p (.tup xs))
def zz(t:TA):TE:=λσ H Q=>t σ H λxs H1=>xs.length<=sizeLine/\∀ p,H1 p=none->Q (.ref p) (upd H1 p (.lst xs))
theorem bJ{x1}(h:PA X es t):PE X (.Tuple es x1 pos) (zw t):=by
 intro pins s σ H Q I hq;refine wpAny_Tuple_spliced (thn (h pos pins s σ H _ I hq) λus s1 ⟨xs,H1,I1,r,z,q⟩=>⟨by rw [<-r.length];exact z,?_⟩);have hf:H1 s1.heap.objs.size=none:=I1.hok.fresh (Qk _);refine⟨.ref s1.heap.objs.size,upd H1 s1.heap.objs.size (.tup xs),I1.laid (t':=s1.toks) (λb u e=>Qm _ e) (Qk _) ?_,rfl,q _ hf⟩;exact⟨z,us,r,⟨_,QE _ rfl,rfl,_,rfl⟩⟩
theorem aU(h:PA X es t):PE X (.List es pos) (zz t):=by
 intro pins s σ H Q I hq;refine wpAny_List_spliced (thn (h pos pins s σ H _ I hq) λus s1 ⟨xs,H1,I1,r,z,q⟩=>⟨by rw [<-r.length];exact z,?_⟩);have hf:H1 s1.heap.objs.size=none:=I1.hok.fresh (Qk _);refine⟨.ref s1.heap.objs.size,upd H1 s1.heap.objs.size (.lst xs),I1.laid (t':=s1.toks) (λb u e=>Qm _ e) (Qk _) ?_,rfl,q _ hf⟩;exact⟨z,us,0,r,QE _ rfl⟩
end
abbrev Sp:=List V->Hp->VK->XK->Prop
abbrev CXT:=List Env->Hp->Shared->XK->Value->Shared->Prop
structure i9(P:Program)(w:World)(K:W.Frag)(mg:Str->Option Value)(base:Heap)(A:Around)(outer:List Env)(s:Shared)(H:Hp):Prop where
 frames:A.frames=some outer
 mod:Mod K mg base
 bs:∀ b o,base.get? b=some o->s.heap.get? b=some o/\H b=none
 bsz:base.objs.size<=s.heap.objs.size
 funs:s.heap.FunFrames base outer
 frf:∀ b∈frs outer,H b=none
 hok:HOk P w H s.heap
 bare:AllBare s.gens
def CE(outer:List Env)(P:Program)(w:World)(H:Hp)(s:Shared)(Q:VK)(u:Value)(s':Shared):Prop :=
 ∃ v H',s'.os=s.os/\AllBare s'.gens/\Un (frs outer) [] H H' s.heap s'.heap/\HOk P w H' s'.heap/\aW v u/\Q v H'
def CR(CX:CXT)(outer:List Env)(P:Program)(w:World)(H:Hp)(s:Shared)(Q:VK)(E:XK)(r:Result)(s':Shared):Prop :=
 match r with
 | .ok (.ret u)=>CE outer P w H s Q u s'
 | .ok _=>False
 | .error e=>CX outer H s E e s'
structure aF(P:Program)(w:World)(K:W.Frag)(mg:Str->Option Value)(base:Heap)(CX:CXT)(k:Nat)(f:Addr)(fd:FuncData)(ps:List Str)(sp:Sp):Prop where
 len:∀ vs H Q E,sp vs H Q E->vs.length=ps.length
 run:∀(A:Around) (outer:List Env) (s:Shared) (H:Hp) (args:Args) (us:List Value) (vs:List V) (Q:VK) (E:XK),bO k A->i9 P w K mg base A outer s H->BindsTo s fd args (ps.zip us)->aS vs us->sp vs H Q E ->
  codeAny (model P w) A (.call (.ref f) args) (CR CX outer P w H s Q E) s
theorem i9.make{P:Program}{w:World}{K:W.Frag}{mg:Str->Option Value}{base:Heap}{A:Around}{outer:List Env}{s:Shared}{H:Hp}(e:i9 P w K mg base A outer s H)(C:Addr)(us:List Value)(kw:List (Str × Value)) :
  i9 P w K mg base (A.under (.builtin "type.__call__" ⟨.ref C :: us,kw⟩)) outer s H:=⟨by first | exact e.frames | (simpa [Around.under,Code.envs,Code.isFrame,pushEnvs] using e.frames),e.mod,e.bs,e.bsz,e.funs,e.frf,e.hok,e.bare⟩
theorem i9.in1{P:Program}{w:World}{K:W.Frag}{mg:Str->Option Value}{base:Heap}{A:Around}{outer:List Env}{s:Shared}{H:Hp}(e:i9 P w K mg base A outer s H) :
  i9 P w K mg base A.in1 outer s H:=⟨e.frames,e.mod,e.bs,e.bsz,e.funs,e.frf,e.hok,e.bare⟩
section
variable{X:Cx} {pins:List (Addr × Obj)} {σ:St} {H:Hp} {s s':Shared}
theorem Inv.env0(I:Inv X pins σ H s):i9 X.prog X.w X.K X.mg X.base X.A X.stack s H :=
 ⟨I.ok.frames,I.ok.mod,I.bs,QQ I.ok.bsz I.sz,I.stack,I.stkFree,I.hok,I.bare⟩
theorem Inv.after{Q:VK}{u:Value}(I:Inv X pins σ H s)(h:CE X.stack X.prog X.w H s Q u s'):EP X pins σ Q u s':=by
 obtain⟨v,H',os,bare,un,hok,r,q⟩:=h;obtain⟨hh,g,d,t,os'⟩:=s';obtain rfl:os'=s.os:=os;exact⟨v,H',I.call (h':=hh) (g':=g) (d':=d) (t':=t) (ch:=[]) un hok bare (λb z=>Qs z (by simp)),r,q⟩
end
def vJ(sp:Sp)(dvs:List V)(E:XK)(t:TA):TE:=λσ H Q=>t σ H λvs H1=>sp (vs++dvs) H1 Q E
inductive qY(C:Addr)(m:Str)(sp:Sp)(dvs:List V)(E:XK)(t:TA)(σ:St)(Q:VK)(x:V)(H1:Hp):Prop
 | mk:∀ a dx fs,(x=.ref a)->(H1 a=some (.ins C dx fs))->(fs.lookup m=none)->(t σ H1 λvs H2=>sp (x :: (vs++dvs)) H2 Q E)->qY C m sp dvs E t σ Q x H1
def vK(C:Addr)(m:Str)(sp:Sp)(dvs:List V)(E:XK)(ta:TE)(t:TA):TE:=λσ H Q=>ta σ H λx H1=>qY C m sp dvs E t σ Q x H1
def xQ(C:Addr)(sp:Sp)(dvs:List V)(E:XK)(t:TA):TE:=λσ H Q=>t σ H λvs H1=>∀ x dx,H1 x=none->H1 dx=none->dx≠x ->
 sp (.ref x :: (vs++dvs)) (upd (upd H1 dx (.own x)) x (.ins C dx [])) (λv H2=>v=.non/\Q (.ref x) H2) E
def aY(K:W.Frag)(fd:FuncData)(ps:List Str)(ds:List Value):Prop :=
 ∀(s:Shared) (us:List Value),K.In s.heap->(us++ds).length=ps.length->BindsTo s fd ⟨us,[]⟩ (ps.zip (us++ds))
theorem aY.all{K:W.Frag}{fd:FuncData}{ps:List Str}(h:∀ us:List Value,us.length=ps.length->bindArgs fd ⟨us,[]⟩=pure (ps.zip us)):aY K fd ps []:=λs us _ hl=>by
 rw [Uv] at hl ⊢;exact .of_eq (h us hl)
def dy(CX:CXT)(X:Cx)(E:XK):Prop:=∀(pins:List (Addr × Obj)) (σ:St) (H:Hp) (s:Shared) (e:Value) (s':Shared),Inv X pins σ H s->CX X.stack H s E e s'->X.xe e s'
section
variable{X:Cx} {CX:CXT} {k:Nat} {f C:Addr} {fd:FuncData} {ps:List Str} {sp:Sp} {dvs:List V} {ds:List Value} {E:XK} {x m:Str} {p pos apos:Pos} {e o:Expr} {es:List Expr} {ta:TE} {t:TA}
theorem kX{pins:List (Addr × Obj)}{σ:St}{H:Hp}{s:Shared}{Q:VK}{us:List Value}{vs:List V}(F:aF X.prog X.w X.K X.mg X.base CX k f fd ps sp)(hr:bO k X.A)(hb:aY X.K fd ps ds)(hd:aS dvs ds)(hx:dy CX X E)
  (I:Inv X pins σ H s) (r:aS vs us) (h:sp (vs++dvs) H Q E):wpAny (model X.prog X.w) X.A (call (.ref f) us) (EP X pins σ Q) X.xe s:=by
 have r2:aS (vs++dvs) (us++ds):=r.append hd;have hl:(us++ds).length=ps.length:=by rw [<-r2.length];exact F.len _ _ _ _ h
 refine wpAny_call (codeAny_mono (F.run X.A X.stack s H ⟨us,[]⟩ (us++ds) (vs++dvs) Q E hr I.env0 (hb s us I.kIn hl) r2 h) λr s' hq=>?_);cases r with
 | error e=>exact hx pins σ H s e s' I hq
 | ok fl =>
  cases fl with
  | ret u=>exact I.after hq
  | next=>exact False.elim hq
  | brk=>exact False.elim hq
  | cont=>exact False.elim hq
theorem aP(F:aF X.prog X.w X.K X.mg X.base CX k f fd ps sp)(hr:bO k X.A)(hg:Gl X x)(hm:X.mg x=some (.ref f))(hk:W.keepIn X.K (.ref f)=true)(hb:aY X.K fd ps ds)(hd:aS dvs ds)(hx:dy CX X E)
  (ha:PA X (e :: es) t) (hdb:(x == ("__debug__":Str))=false:=by decide) (he:starEach (e :: es) X.env=(false,eval e X.env) :: starEach es X.env:=by rfl) (hpl:(backTo pos (starEach es X.env)).any (·.1)=false:=by rfl) :
  PE X (.Call (.Name x p) (e :: es) [] pos) (vJ sp dvs E t):=by
 intro pins s σ H Q I h;refine UU (ft I hg hm ?_ hdb);refine W.callWith_K (h₀:=X.base) I.ok.mod.kin hk (thn (ha pos pins s σ H _ I h) λus s1 ⟨vs,H1,I1,r,q⟩=>⟨I1.kIn,?_⟩) he hpl;exact kX F hr hb hd hx I1 r q
theorem eY(F:aF X.prog X.w X.K X.mg X.base CX k f fd ps sp)(hr:bO k X.A)(hg:Gl X x)(hm:X.mg x=some (.ref f))(hk:W.keepIn X.K (.ref f)=true)(hb:aY X.K fd ps ds)(hd:aS dvs ds)(hx:dy CX X E)
  (hdb:(x == ("__debug__":Str))=false:=by decide):PE X (.Call (.Name x p) [] [] pos) (vJ sp dvs E ui):=by
 intro pins s σ H Q I h;refine UU (ft I hg hm ?_ hdb);exact W.callWith_K0 I.kIn hk (kX (us:=[]) F hr hb hd hx I .nil h)
theorem bn{pl:Sem Bool}(he:PE X o ta)(c:Cls X.K C)(hm:fZ X.K C m f)(F:aF X.prog X.w X.K X.mg X.base CX k f fd ps sp)(hr:bO k X.A)(hb:aY X.K fd ps ds)(hd:aS dvs ds)(hx:dy CX X E)(ha:PA X (e :: es) t)
  (hst:starEach (e :: es) X.env=(false,eval e X.env) :: starEach es X.env:=by rfl) (hpl:(backTo pos (starEach es X.env)).any (·.1)=false:=by rfl)
  (ht:eval (.Call (.Attribute o m apos) (e :: es) [] pos) X.env=(do
   let ov <-eval o X.env
   standAt apos.atName
   let (f,first) <-holding [ov] (getMethod ov m pl)
   callWith pos f first (backTo pos (starEach (e :: es) X.env)) (backToKw pos (keywordEach [] X.env))):=by rfl) :
  PE X (.Call (.Attribute o m apos) (e :: es) [] pos) (vK C m sp dvs E ta t):=by
 intro pins s σ H Q I h;refine W.methodCall_KW (pl:=pl) (thn (he pins s σ H _ I h) λu s1 ⟨x,H1,I1,rx,a,dx,fs,ex,ea,l,q⟩=>?_) ht;subst ex;obtain rfl:u=Value.ref a:=rx;refine i8 I1 ea c hm l ?_;refine W.callWith_K (first:=[.ref a]) (h₀:=X.base) I.ok.mod.kin hm.kp (thn (ha pos pins s1 σ H1 _ I1 q) λus s2 ⟨vs,H2,I2,r,q2⟩=>⟨I2.kIn,?_⟩) hst hpl;exact kX (us:=.ref a :: us) (vs:=.ref a :: vs) F hr hb hd hx I2 (.cons rfl r) q2
theorem l9{pl:Sem Bool}(he:PE X o ta)(c:Cls X.K C)(hm:fZ X.K C m f)(F:aF X.prog X.w X.K X.mg X.base CX k f fd ps sp)(hr:bO k X.A)(hb:aY X.K fd ps ds)(hd:aS dvs ds)(hx:dy CX X E)
  (ht:eval (.Call (.Attribute o m apos) [] [] pos) X.env=(do
   let ov <-eval o X.env
   standAt apos.atName
   let (f,first) <-holding [ov] (getMethod ov m pl)
   callWith pos f first (backTo pos (starEach [] X.env)) (backToKw pos (keywordEach [] X.env))):=by rfl) :
  PE X (.Call (.Attribute o m apos) [] [] pos) (vK C m sp dvs E ta ui):=by
 intro pins s σ H Q I h;refine W.methodCall_KW (pl:=pl) (thn (he pins s σ H _ I h) λu s1 ⟨x,H1,I1,rx,a,dx,fs,ex,ea,l,q⟩=>?_) ht;subst ex;obtain rfl:u=Value.ref a:=rx;refine i8 I1 ea c hm l ?_;exact W.callWith_K0 (first:=[.ref a]) I1.kIn hm.kp (kX (us:=[.ref a]) (vs:=[.ref a]) F hr hb hd hx I1 (.cons rfl .nil) q)
structure Mk(K:W.Frag)(C f:Addr):Prop where
 makes:W.makesIn K C=true
 init:W.findIn K (.ref C) "__init__"=some (some (.ref f))
 fn:W.isFn K (.ref f)=true
 kp:W.keepIn K (.ref C)=true
theorem qZ{pins:List (Addr × Obj)}{σ:St}{H:Hp}{s:Shared}{Q:VK}{us:List Value}{vs:List V}(M:Mk X.K C f)(F:aF X.prog X.w X.K X.mg X.base CX k f fd ps sp)(hr:bO (k+1) X.A)(hb:aY X.K fd ps ds)(hd:aS dvs ds)
  (hx:dy CX X E) (I:Inv X pins σ H s) (r:aS vs us)
  (h:∀ x dx,H x=none->H dx=none->dx≠x->sp (.ref x :: (vs++dvs)) (upd (upd H dx (.own x)) x (.ins C dx [])) (λv H2=>v=.non/\Q (.ref x) H2) E) :
  wpAny (model X.prog X.w) X.A (call (.ref C) us) (EP X pins σ Q) X.xe s:=by
 have hq:=h (s.heap.objs.size+1) s.heap.objs.size (I.hok.fresh (Uc _)) (I.hok.fresh (Qk _)) (QP (VO _));have I2:=Inv.made (C:=C) I;have r2:aS (V.ref (s.heap.objs.size+1) :: (vs++dvs)) (Value.ref (s.heap.objs.size+1) :: (us++ds)):=.cons rfl (r.append hd);have hl:(Value.ref (s.heap.objs.size+1) :: us++ds).length=ps.length:=by
  have e:=r2.length;rw [F.len _ _ _ _ hq] at e;exact e.symm
 refine wpAny_call (qX (f:=f) I.kIn M.makes M.init (U3.mp M.fn) (codeAny_mono (F.run _ X.stack _ _ ⟨Value.ref (s.heap.objs.size+1) :: us,[]⟩ (Value.ref (s.heap.objs.size+1) :: (us++ds)) _ _ E (hr.make C us [])
  (I2.env0.make C us []) (hb _ (Value.ref (s.heap.objs.size+1) :: us) I2.kIn hl) r2 hq) λr s' hq'=>?_))
 cases r with
 | error e=>exact hx pins σ _ _ e s' I2 hq'
 | ok fl =>
  cases fl with
  | ret u =>
   obtain⟨v,H',I3,rv,ev,q3⟩:=I2.after hq';subst ev;exact⟨rv,⟨V.ref (s.heap.objs.size+1),H',I3,rfl,q3⟩⟩
  | next=>exact False.elim hq'
  | brk=>exact False.elim hq'
  | cont=>exact False.elim hq'
theorem q5(M:Mk X.K C f)(F:aF X.prog X.w X.K X.mg X.base CX k f fd ps sp)(hr:bO (k+1) X.A)(hg:Gl X x)(hm:X.mg x=some (.ref C))(hb:aY X.K fd ps ds)(hd:aS dvs ds)(hx:dy CX X E)
  (hdb:(x == ("__debug__":Str))=false:=by decide):PE X (.Call (.Name x p) [] [] pos) (xQ C sp dvs E ui):=by
 intro pins s σ H Q I h;refine UU (ft I hg hm ?_ hdb);exact W.callWith_K0 I.kIn M.kp (qZ (us:=[]) M F hr hb hd hx I .nil h)
end
structure aI(N P:List Str)(sc:Scope):Prop where
 kind:sc.kind=.function
 co:sc.isCoroutine=false
 gen:sc.isGenerator=false
 nd:N.Nodup
 pre:N.take P.length=P
 par:∀ x∈P,sc.names.lookup x=some .local\/sc.names.lookup x=some .cell
 nofree:∀ y∈sc.names,y.2≠.free
theorem j6{kindOf:Str->Option NameKind}{x:Str}:∀{binds:List (Str × Value)} {m:Str->Option Value},(∀ v,(x,v) ∉ binds)->bindL kindOf binds m x=m x
 | [],_,_=>rfl
 | (n,v) :: r,m,h=>by
  unfold bindL;rw [j6 λw hw=>h w (QA _ hw)];split
  ·have:x≠n:=by rintro rfl;exact h v QJ
   simp [this]
  ·rfl
theorem j7{kindOf:Str->Option NameKind}{x:Str}:∀{binds:List (Str × Value)} {m:Str->Option Value},(∀ v,(x,v) ∉ binds)->bindC kindOf binds m x=m x
 | [],_,_=>rfl
 | (n,v) :: r,m,h=>by
  unfold bindC;rw [j7 λw hw=>h w (QA _ hw)];split
  ·rfl
  ·have:x≠n:=by rintro rfl;exact h v QJ
   simp [this]
theorem j8{kindOf:Str->Option NameKind}{x:Str}{v:Value}:∀{P:List Str} {vs:List Value} {i:Nat} {m:Str->Option Value},P.Nodup->P[i]?=some x->vs[i]?=some v->kindOf x=some .local ->
  bindL kindOf (P.zip vs) m x=some v
 | [],_,_,_,_,h,_,_=>by simp at h
 | _ :: _,[],_,_,_,_,h,_=>by simp at h
 | p :: P,w :: vs,0,m,nd,h1,h2,hk=>by
  simp at h1 h2;subst h1;subst h2;show bindL kindOf ((p,w) :: P.zip vs) m p=_;unfold bindL;rw [j6 λv hv=>(QN.mp nd).1 (List.of_mem_zip hv).1,Qn hk];simp
 | p :: P,w :: vs,i+1,m,nd,h1,h2,hk=>by
  show bindL kindOf ((p,w) :: P.zip vs) m x=_;unfold bindL;exact j8 (i:=i) (QN.mp nd).2 (by simpa using h1) (by simpa using h2) hk
theorem j9{kindOf:Str->Option NameKind}{x:Str}{v:Value}:∀{P:List Str} {vs:List Value} {i:Nat} {m:Str->Option Value},P.Nodup->P[i]?=some x->vs[i]?=some v->kindOf x≠some .local ->
  bindC kindOf (P.zip vs) m x=some v
 | [],_,_,_,_,h,_,_=>by simp at h
 | _ :: _,[],_,_,_,_,h,_=>by simp at h
 | p :: P,w :: vs,0,m,nd,h1,h2,hk=>by
  simp at h1 h2;subst h1;subst h2;show bindC kindOf ((p,w) :: P.zip vs) m p=_;unfold bindC;rw [j7 λv hv=>(QN.mp nd).1 (List.of_mem_zip hv).1,Qf hk];simp
 | p :: P,w :: vs,i+1,m,nd,h1,h2,hk=>by
  show bindC kindOf ((p,w) :: P.zip vs) m x=_;unfold bindC;exact j9 (i:=i) (QN.mp nd).2 (by simpa using h1) (by simpa using h2) hk
def start(N:List Str)(vs:List V):St:=vs.map some++List.replicate (N.length - vs.length) none
def ja(CX:CXT)(P:Program)(w:World)(K:W.Frag)(mg:Str->Option Value)(base:Heap)(N:List Str)(qual:Str)(scope:Scope)(f:Addr)(cd:Value)(A:Around)(outer:List Env)(s:Shared)(H:Hp)(E:XK):Cx where
 prog:=P
 w:=w
 K:=K
 mg:=mg
 base:=base
 A:=A.deeper (envOfC qual scope s.heap.objs.size f cd)
 N:=N
 s₀:=s
 H₀:=H
 env:=envOfC qual scope s.heap.objs.size f cd
 outer:=outer
 stack:=envOfC qual scope s.heap.objs.size f cd :: outer
 ex:=[]
 calm:=true
 fn:=λ_=>true
 pn:=[]
 xe:=λe s'=>wpAny (model P w) (A.deeper (envOfC qual scope s.heap.objs.size f cd)) (leaving (envOfC qual scope s.heap.objs.size f cd) e) (λ_ s''=>CX outer H s E e s'') (λe' s''=>CX outer H s E e' s'') s'
theorem ma{sc:Scope}{n:Nat}{x:Str}(h:sc.names.lookup x=some .cell):∃ c,(cellsFrom n sc.names []).lookup x=some c:=by
 have q:=W.cellsFrom_some sc.names n [] (.inl h);exact Option.isSome_iff_exists.mp q
theorem qc{CX:CXT}{P:Program}{w:World}{K:W.Frag}{mg:Str->Option Value}{base:Heap}{N ps:List Str}{qual:Str}{scope:Scope}{f:Addr}{cd:Value}{A:Around}{outer:List Env}{s s1:Shared}{H:Hp}{E:XK}{us:List Value}{vs:List V}
  (S:aI N ps scope) (hd:A.handled=none) (e0:i9 P w K mg base A outer s H) (hl:vs.length=ps.length) (r:aS vs us)
  (x:InCallC s s.heap.objs.size (bindL (envOfC qual scope s.heap.objs.size f cd).kindOf (ps.zip us) λ_=>none) (cellsFrom (s.heap.objs.size+1) scope.names []) (bindC (envOfC qual scope s.heap.objs.size f cd).kindOf (ps.zip us) λ_=>none) s1) :
  Inv (ja CX P w K mg base N qual scope f cd A outer s H E) [] (start N vs) H s1:=by
 have hpl:ps.length<=N.length:=by have:=QW List.length S.pre;rw [Q9] at this;lia
 obtain⟨h1,tk,rfl,hk⟩:=x.done;have noA:∀ b:Addr,b ∉ (ja CX P w K mg base N qual scope f cd A outer s H E).ex:=λb z=>Qs (show b∈([]:List Addr) from z) (by simp);refine⟨⟨e0.mod,S.kind,rfl,rfl,Qk _,λy z c h1 h2=>?_,λy hy=>?_,λy c _ h=>?_,λ_=>hd,Around.frames_deeper e0.frames,.inr ⟨rfl,rfl⟩,λb z=>Qs z (noA b),e0.bs,e0.bsz,λb _ _=>noA b,λb z=>Qs z (noA b),e0.funs,e0.frf⟩,
  rfl,e0.bare,Un.kept hk,⟨_,x.toInCall.ns,λi y v h1 h2 h3=>?_⟩,λy c h=>⟨_,x.cell y c h⟩,e0.hok.fresh (Qk _),λy c h=>?_,λp hp=>Qs (show p∈([]:List (Addr × Obj)) from hp) (by simp),e0.hok.kept hk,?_⟩
 ·exact name_of_addr x.apart (PySem.mem_of_lookup h1) (PySem.mem_of_lookup h2)
 ·have hy:scope.names.lookup y=some .cell\/scope.names.lookup y=some .free:=hy;rcases hy with hy | hy
  ·exact ma hy
  ·exact Qs rfl (S.nofree _ (PySem.mem_of_lookup hy))
 ·exact UV (x.above y c (PySem.mem_of_lookup h))
 ·have hi:i < vs.length:=by
   unfold start at h2;by_cases hi:i < vs.length
   ·exact hi
   ·rw [List.getElem?_append_right (by simpa using hi)] at h2;rw [List.getElem?_replicate] at h2;split at h2 <;> cases h2
  have ha:vs[i]?=some v:=by
   unfold start at h2;rw [Q8 (by simpa using hi),Qq] at h2;cases e:vs[i]? with
   | none=>rw [e] at h2;cases h2
   | some a=>rw [e] at h2;cases h2;rfl
  obtain⟨u,hu,rv⟩:=r.get ha;have hp:ps[i]?=some y:=by
   rw [<-S.pre,VL (by lia)];exact h1
  have ndP:ps.Nodup:=by rw [<-S.pre];exact S.nd.sublist (VC _ _)
  refine⟨u,rv,?_⟩;rcases S.par y (QC hp) with k | k
  ·exact .inl ⟨k,j8 ndP hp hu k⟩
  ·obtain⟨c,e⟩:=ma (n:=s.heap.objs.size+1) k;refine .inr ⟨.inl k,c,e,?_⟩;have q:=x.cell y c e;rw [j9 ndP hp hu (by show scope.names.lookup y≠_;rw [k];decide)] at q;exact q
 ·exact e0.hok.fresh (UV (x.above y c (PySem.mem_of_lookup h)))
 ·unfold start;show _=N.length;rw [Ql,Qc,List.length_replicate];lia
theorem q8{CX:CXT}{P:Program}{w:World}{K:W.Frag}{mg:Str->Option Value}{base:Heap}{k:Nat}{f:Addr}{name qual:Str}{params:Arguments}{body:List Stmt}{scope:Scope}{dV kV doc pm cdv ct oc:Value}{an od:Option Addr}
  {osl:Array (Option Value)} {N ps:List Str} {sp:Sp} (lk:K.lookup f=some ⟨oc,od,.func (W.fnOf name qual params body scope dV kV doc pm an cdv ct),osl⟩) (hcd:W.codeIn K cdv qual=true) (S:aI N ps scope)
  (len:∀ vs H Q E,sp vs H Q E->vs.length=ps.length)
  (hbody:∀(A:Around) (outer:List Env) (s:Shared) (H:Hp) (vs:List V) (Q:VK) (E:XK),bO k (A.deeper (envOfC qual scope s.heap.objs.size f cdv))->sp vs H Q E ->
   ∃ t,PSs (ja CX P w K mg base N qual scope f cdv A outer s H E) body t/\t { nx:=λ_ H'=>Q .non H',rt:=Q } (start N vs) H) :
  aF P w K mg base CX (k+1) f (W.fnOf name qual params body scope dV kV doc pm an cdv ct) ps sp:=by
 refine⟨len,λA outer s H args us vs Q E hr e0 hb r hsp=>?_⟩;have hl:=len _ _ _ _ hsp;have KX:K.In s.heap:=e0.mod.kin.keeps λb o e=>(e0.bs b o e).1;have lim:s.heap.NoLimit:=e0.mod.nolimit.keeps λb o e=>(e0.bs b o e).1;have hkind:∀ y∈ps.zip us,scope.names.lookup y.1=some .local\/(scope.names.lookup y.1=some .cell/\((cellsFrom (s.heap.objs.size+1) scope.names []).lookup y.1).isSome=true):=λ⟨n,v⟩ hy=>by
  rcases S.par n (List.of_mem_zip hy).1 with q | q
  ·exact .inl q
  ·exact .inr ⟨q,W.cellsFrom_some _ _ _ (.inl q)⟩
 refine codeAny_call_function hr.depth (KX _ _ lk) rfl S.co S.gen rfl (W.codeRec_of KX hcd) (hb _ _ _ _ ?_);refine wpAny_newFunctionEnv_cells S.kind hkind λenv he s1 x=>?_;subst he;refine⟨lim.keeps x.toInCall.keep,codeAny_func ?_⟩;obtain⟨t,ht,hq⟩:=hbody A outer s H vs Q E (hr.deeper _) hsp;have I:Inv (ja CX P w K mg base N qual scope f cdv A outer s H E) [] (start N vs) H s1:=qc S hr.hd e0 hl r x;refine Uk (ht [] s1 (start N vs) H _ I hq) (λfl s' hs=>?_) λe s' hs=>hs;have fin:∀{σ':St} {H':Hp} {v:V} {u:Value},Inv (ja CX P w K mg base N qual scope f cdv A outer s H E) [] σ' H' s'->aW v u->Q v H'->CE outer P w H s Q u s' :=
  λ{σ' H' v u} J rv q=>⟨v,H',J.os,J.bare,J.base,J.hok,rv,q⟩
 cases fl with
 | ret u =>
  obtain⟨v,σ',H',J,rv,q⟩:=hs;exact fin J rv q
 | next =>
  obtain⟨σ',H',J,q⟩:=hs;exact fin (v:=V.non) (u:=Value.none) J rfl q
 | brk =>
  obtain⟨_,_,_,q⟩:=hs;exact False.elim q
 | cont =>
  obtain⟨_,_,_,q⟩:=hs;exact False.elim q
end L2
namespace L2
open PySem PySem.Spec PyProof.Rows
section
variable{X:Cx} {x:Str} {p pos:Pos} {e:Expr} {es:List Expr} {t:TA} {id T:String} {r:List V->Hp->VK->Prop}
def tCB(r:List V->Hp->VK->Prop)(t:TA):TE:=λσ H Q=>t σ H λvs H1=>r vs H1 Q
theorem aG(hc:eh X (.builtin id) r)(hg:Gl X x)(hm:X.mg x=none)(hv:bootBuiltins x=some (.builtin id))(ha:PA X (e :: es) t)(hn:x≠"__name__":=by decide)(hdb:(x == ("__debug__":Str))=false:=by decide)
  (he:starEach (e :: es) X.env=(false,eval e X.env) :: starEach es X.env:=by rfl) (hpl:(backTo pos (starEach es X.env)).any (·.1)=false:=by rfl):PE X (.Call (.Name x p) (e :: es) [] pos) (tCB r t):=by
 intro pins s σ H Q I h;refine UU (iY I hg hm hv ?_ hn hdb);exact PyProof.Rows.callWith_builtin1 (thn (ha pos pins s σ H _ I h) λus s1 ⟨vs,H1,I1,r1,q1⟩=>hc pins s1 σ H1 vs us Q I1 r1 q1) he hpl
theorem fu(hc:eh X (.type T) r)(hg:Gl X x)(hm:X.mg x=none)(hv:bootBuiltins x=some (.type T))(ha:PA X (e :: es) t)(hn:x≠"__name__":=by decide)(hdb:(x == ("__debug__":Str))=false:=by decide)
  (he:starEach (e :: es) X.env=(false,eval e X.env) :: starEach es X.env:=by rfl) (hpl:(backTo pos (starEach es X.env)).any (·.1)=false:=by rfl):PE X (.Call (.Name x p) (e :: es) [] pos) (tCB r t):=by
 intro pins s σ H Q I h;refine UU (iY I hg hm hv ?_ hn hdb);exact PyProof.Rows.callWith_type1 (thn (ha pos pins s σ H _ I h) λus s1 ⟨vs,H1,I1,r1,q1⟩=>hc pins s1 σ H1 vs us Q I1 r1 q1) he hpl
end
end L2
namespace HT
open PySem PyProof.Rows
theorem rcLt_int(A:Around)(s:Shared)(a:Int)(t:Tok)(c:Int)(u:Tok)(prog:Program)(w:World)(E:Value->Shared->Prop)(Q:Value->Shared->Prop)(h:Q (.bool (decide (a < c))) s) :
  wpAny (model prog w) A (richCompare .Lt (.int a t) (.int c u)) Q E s :=
 (PyProof.Rows.lt_int h:wpAny (model prog w) A (compareOp .Lt (.int a t) (.int c u)) Q E s)
section
variable{prog:Program} {w:World} {A:Around} {E:Value->Shared->Prop} {s:Shared}
def sIx(n d:Nat):Option Int->Nat
 | none=>d
 | some v=>if v < 0 then (v+(n:Int)).toNat else min v.toNat n
theorem sIx_nat(n d k:Nat):sIx n d (some (k:Int))=min k n:=by
 show(if (k:Int) < 0 then ((k:Int)+(n:Int)).toNat else min (k:Int).toNat n)=min k n;rw [Qf (by lia),Int.toNat_natCast]
theorem wA(n d:Nat)(hd:d<=n)(o:Option Int):sIx n d o<=n:=by
 cases o with
 | none=>exact hd
 | some v =>
  show(if v < 0 then (v+(n:Int)).toNat else min v.toNat n)<=n;by_cases hv:v < 0
  ·rw [Qn hv];lia
  ·rw [Qf hv];exact Nat.min_le_right _ _
theorem oR(v:Int)(n d:Nat):(if v < 0 then max (v+(n:Int)) 0 else min v (n:Int))=((sIx n d (some v):Nat):Int):=by
 show(if v < 0 then max (v+(n:Int)) 0 else min v (n:Int))=(((if v < 0 then (v+(n:Int)).toNat else min v.toNat n):Nat):Int);by_cases hv:v < 0
 ·simp only [Qn hv];lia
 ·simp only [Qf hv];lia
theorem nO(lo hi:Option Int)(n:Nat):Builtin.Slice.sliceAdjust lo hi 1 (n:Int)=(((sIx n 0 lo:Nat):Int),((sIx n n hi:Nat):Int)):=by
 have h1:¬ ((1:Int) < 0):=by lia
 unfold Builtin.Slice.sliceAdjust;simp only [h1,if_false];refine Prod.ext ?_ ?_
 ·cases lo with
  | none=>rfl
  | some v=>exact oR v n 0
 ·cases hi with
  | none=>rfl
  | some v=>exact oR v n n
theorem nP(i j:Nat):Builtin.Slice.slicePlaces (i:Int) (j:Int) 1=j - i:=by
 unfold Builtin.Slice.slicePlaces;have h1:(1:Int) > 0:=by lia
 simp only [h1,if_true,Int.ediv_one];split <;> omega
theorem jb{v:Value}{o:Option Int}{Q:Option Int->Shared->Prop}(p:IsPart v o)(h:Q o s):wpAny (model prog w) A (Builtin.Slice.slicePartIndex v) Q E s:=by
 cases p with
 | none=>exact slicePart_none h
 | int i t=>exact slicePart_int h
theorem g7{sl:Addr}{vl vu:Value}{lo hi:Option Int}{n:Nat}{Q:Int × Int × Nat->Shared->Prop}(hs:s.heap.IsSliceOf sl vl vu .none)(pl:IsPart vl lo)(pu:IsPart vu hi)
  (h:Q (((sIx n 0 lo:Nat):Int),1,sIx n n hi - sIx n 0 lo) s):wpAny (model prog w) A (Builtin.Slice.sliceApplied (.ref sl) (pure (n:Int))) Q E s:=by
 obtain⟨os,hos,hcs,hds⟩:=id hs;unfold Builtin.Slice.sliceApplied Builtin.Slice.sliceFields;refine Qa (Qa (wpAny_field hos hds (x:=vl) rfl (Qa (wpAny_field hos hds (x:=vu) rfl (Qa (wpAny_field hos hds (x:=.none) rfl (Qd ?_)))))));refine Qa (slicePart_none ?_);show wpAny _ _ (if ((1:Int) == 0)=true then _ else _) _ _ s;rw [Qf (by decide)];refine Qa (jb pl (Qa (jb pu (Qa (Qd ?_)))));show wpAny _ _ (match Builtin.Slice.sliceAdjust lo hi 1 (n:Int) with | (lo,hi)=>pure (lo,(1:Int),Builtin.Slice.slicePlaces lo hi 1)) _ _ s
 rw [nO lo hi n];show wpAny _ _ (pure (((sIx n 0 lo:Nat):Int),(1:Int),Builtin.Slice.slicePlaces ((sIx n 0 lo:Nat):Int) ((sIx n n hi:Nat):Int) 1)) _ _ s;rw [nP];exact Qd h
theorem q9(xs:Array Value)(i k:Nat):((List.range k).filterMap λ(m:Nat)=>xs[((i:Int)+(m:Int) * 1).toNat]?).toArray=((xs.toList.drop i).take k).toArray:=by
 have e:(λ(m:Nat)=>xs[((i:Int)+(m:Int) * 1).toNat]?)=λm=>xs[i+m]?:=by
  funext m
  have:((i:Int)+(m:Int) * 1).toNat=i+m:=by lia
  rw [this]
 rw [e];have:=pick_run xs i k;rw [List.filterMap_map] at this;have e2:((λx=>xs[x]?) ∘ λx=>i+x)=λm=>xs[i+m]?:=rfl;rw [e2] at this;rw [this]
theorem getItem_tuple_cut{t sl:Addr}{items:Array Value}{vl vu:Value}{lo hi:Option Int}{Q:Value->Shared->Prop}(ht:IsTup s.heap t items)(hs:s.heap.IsSliceOf sl vl vu .none)(pl:IsPart vl lo)(pu:IsPart vu hi)
  (hw:¬ (sIx items.size 0 lo=0/\sIx items.size items.size hi=items.size))
  (h:Q (.ref s.heap.objs.size) { s with heap:=s.heap.push { cls:=.type "tuple",data:=.seq ((items.toList.drop (sIx items.size 0 lo)).take (sIx items.size items.size hi - sIx items.size 0 lo)).toArray } })
  (hsz:items.size<=sizeLine):wpAny (model prog w) A (getItem (.ref t) (.ref sl)) Q E s:=by
 have htake:sizeOk (.seq ((items.toList.drop (sIx items.size 0 lo)).take (sIx items.size items.size hi - sIx items.size 0 lo)).toArray):=by
  show((items.toList.drop (sIx items.size 0 lo)).take (sIx items.size items.size hi - sIx items.size 0 lo)).toArray.size<=sizeLine;rw [Qu,Q9,VQ,Q0];lia
 have hj:sIx items.size items.size hi<=items.size:=wA _ _ (Qk _) hi;obtain⟨os,hos,hcs,hds⟩:=id hs;have hTs:s.TypeIs (.ref sl) "slice":=⟨os,hos,hcs⟩;unfold getItem
 try with_reducible refine Uf ?_
 first | refine Qa (Qd ?_) | skip
 refine Qa (wpAny_sequenceKey ht.typeIs (by decide) ?_);refine Qa (wpAny_callSpecial?_slot (name:=Str.ofString "__getitem__") ht.typeIs PyProof.Rows.slot_tuple_getitem
  (UL PyProof.Rows.slot_tuple_getitem ht.typeIs entry_tuple_getitem ?_ (args_tuple_getitem _ _)))
 show wpAny _ _ (Builtin.Tuple.tupleItemsOf (.ref t) >>= _) _ _ s;refine Qa (tupleItemsOf_ ht ?_);refine Qa (wpAny_typeOf hTs ?_);rw [Qn (by decide)];refine Qa (g7 hs pl pu ?_);have hno:¬ ((((sIx items.size 0 lo:Nat):Int) == 0 && (1:Int) == 1 && (sIx items.size items.size hi - sIx items.size 0 lo) == items.size)=true):=by
  intro q;rw [QO,QO] at q;have q1:((sIx items.size 0 lo:Nat):Int)=0:=QY q.1.1;have q2:sIx items.size items.size hi - sIx items.size 0 lo=items.size:=QY q.2;exact hw ⟨by lia,by lia⟩
 show wpAny _ _ (if (((sIx items.size 0 lo:Nat):Int) == 0 && (1:Int) == 1 && (sIx items.size items.size hi - sIx items.size 0 lo) == items.size)=true then _ else _) _ _ s;rw [Qf hno,q9]
 first
  | exact Qa (m:=Builtin.Tuple.tupleExact _) (UE (Qd ⟨_,rfl,Qd h⟩) htake)
  | exact Qa (m:=Builtin.Tuple.tupleExact _) (UE (Qa (Qd (Qd ⟨_,rfl,Qd h⟩))) htake)
  | exact Qa (Qa (m:=Builtin.Tuple.tupleExact _) (UE (Qd (Qd ⟨_,rfl,Qd h⟩)) htake))
  | exact Qa (Qa (m:=Builtin.Tuple.tupleExact _) (UE (Qd ⟨_,rfl,Qd h⟩) htake))
end
end HT
namespace L2
open PySem PySem.Spec PyProof.Rows
abbrev TO:=St->Hp->(Option Int->Hp->Prop)->Prop
def PO(X:Cx)(e:Option Expr)(t:TO):Prop :=
 ∀(pins:List (Addr × Obj)) (s:Shared) (σ:St) (H:Hp) (Q:Option Int->Hp->Prop),Inv X pins σ H s->t σ H Q ->
  wpAny (model X.prog X.w) X.A (evalPart e X.env) (λu s'=>∃ o H',Inv X pins σ H' s'/\IsPart u o/\Q o H') X.xe s
def uk:TO:=λ_ H Q=>Q none H
inductive re(Q:Option Int->Hp->Prop)(x:V)(H1:Hp):Prop
 | mk:∀ i,(x=.int i)->(Q (some i) H1)->re Q x H1
def xR(t:TE):TO:=λσ H Q=>t σ H λx H1=>re Q x H1
section
variable{X:Cx} {e:Expr} {te:TE} {lo hi:Option Expr} {tl th:TO} {pos p2:Pos}
theorem dh:PO X none uk:=by
 intro pins s σ H Q I h;rw [evalPart_none];exact Qd ⟨none,H,I,.none,h⟩
theorem di(h:PE X e te):PO X (some e) (xR te):=by
 intro pins s σ H Q I hw;rw [evalPart_some];refine thn (h pins s σ H _ I hw) λu s1 ⟨x,H1,I1,r1,q1⟩=>?_;obtain⟨i,rfl,q⟩:=q1;obtain⟨t,rfl⟩:=r1;exact⟨some i,H1,I1,.int i t,q⟩
def SlR(X:Cx)(r:V->Option Int->Option Int->Hp->VK->Prop):Prop :=
 ∀(pins:List (Addr × Obj)) (s:Shared) (σ:St) (H:Hp) (x:V) (v vl vu:Value) (lo hi:Option Int) (sl:Addr) (Q:VK),Inv X pins σ H s->aW x v->s.heap.IsSliceOf sl vl vu .none->IsPart vl lo->IsPart vu hi->r x lo hi H Q ->
  ∃ T id,typeLookup (.type T) "__getitem__"=pure (some (.builtin id))/\s.TypeIs v T/\wpAny (model X.prog X.w) X.A (getItem v (.ref sl)) (EP X pins σ Q) X.xe s
def tSl(r:V->Option Int->Option Int->Hp->VK->Prop)(te:TE)(tl th:TO):TE:=λσ H Q=>te σ H λx H1=>tl σ H1 λl H2=>th σ H2 λu H3=>r x l u H3 Q
theorem cC{r:V->Option Int->Option Int->Hp->VK->Prop}(hr:SlR X r)(he:PE X e te)(hl:PO X lo tl)(hu:PO X hi th):PE X (.Subscript e (.Slice lo hi none p2) pos) (tSl r te tl th):=by
 intro pins s σ H Q I h;refine Subscript_ (thn (he pins s σ H _ I h) λv s1 ⟨x,H1,I1,r1,q1⟩=>?_);refine wpAny_Slice (thn (hl pins s1 σ H1 _ I1 q1) λvl s2 ⟨l,H2,I2,pl,q2⟩=>thn (hu pins s2 σ H2 _ I2 q2) λvu s3 ⟨u,H3,I3,pu,q3⟩=>?_);rw [evalPart_none];refine Qd ?_;have I4:Inv X pins σ H3 { s3 with heap:=s3.heap.push { cls:=.type "slice",data:=.fields #[vl,vu,.none] } }:=I3.kept (t':=s3.toks) λb ob q=>Qm _ q;obtain⟨T,id,hT,ht,hg⟩:=hr pins { s3 with heap:=s3.heap.push { cls:=.type "slice",data:=.fields #[vl,vu,.none] } } σ H3 x v vl vu l u s3.heap.objs.size Q I4 r1 (Heap.IsSliceOf.new ..) pl pu q3;show wpAny (model X.prog X.w) X.A (subscriptTail e (.Slice lo hi none p2) v (.ref s3.heap.objs.size)) (EP X pins σ Q) X.xe { s3 with heap:=s3.heap.push { cls:=.type "slice",data:=.fields #[vl,vu,.none] } };exact tail_any (ops:=[.ref s3.heap.objs.size,v]) ht hT hg (by with_unfolding_all rfl)
def eZ(xs:List V)(lo hi:Option Int):List V:=(xs.drop (HT.sIx xs.length 0 lo)).take (HT.sIx xs.length xs.length hi - HT.sIx xs.length 0 lo)
theorem iC(xs:List V)(lo hi:Option Int):(eZ xs lo hi).length<=xs.length:=by
 unfold eZ;rw [Q9,VQ];lia
def zA(K:W.Frag):V->Option Int->Option Int->Hp->VK->Prop:=λx lo hi H Q=>∃ a xs,x=.ref a/\SqT K H a xs /\
 ¬ (HT.sIx xs.length 0 lo=0/\HT.sIx xs.length xs.length hi=xs.length)/\∀ p,H p=none->Q (.ref p) (upd H p (.tup (eZ xs lo hi)))
theorem f7:SlR X (zA X.K):=by
 intro pins s σ H x v vl vu lo hi sl Q I rx hs pl pu h;obtain⟨a,xs,rfl,hx,hw,q⟩:=h;cases rx;obtain⟨its,r,ht,hz⟩:=I.tuple hx;have hlen:its.toArray.size=xs.length:=by rw [Qu];exact r.length.symm
 refine⟨"tuple",_,PyProof.Rows.slot_tuple_getitem.lookup,ht.typeIs,?_⟩;refine HT.getItem_tuple_cut ht hs pl pu (by rw [hlen];exact hw) ?_ (by rw [hlen];exact hz);rw [hlen];refine⟨.ref s.heap.objs.size,_,I.laid (t':=s.toks) (o:=.tup (eZ xs lo hi)) (λb ob q=>Qm _ q) (Qk _) ?_,rfl,q _ (I.hok.fresh (Qk _))⟩;exact⟨QQ (iC xs lo hi) hz,_,(r.drop (HT.sIx xs.length 0 lo)).take (HT.sIx xs.length xs.length hi - HT.sIx xs.length 0 lo),IsTup.new _ _⟩
end
end L2
namespace L2
open PySem PySem.Spec PyProof.Rows
def ixN(n:Nat)(i:Int):Option Nat:=if 0<=i then (if i < n then some i.toNat else none) else if -(n:Int)<=i then some (i+n).toNat else none
def atI{α:Type}(xs:List α)(i:Int):Option α:=(ixN xs.length i).bind λj=>xs[j]?
theorem oS{n:Nat}{i:Int}{j:Nat}(h:ixN n i=some j):seqIndex? i n=some j/\j < n/\-(n:Int)<=i/\i < n:=by
 unfold ixN at h;by_cases h0:0<=i
 ·rw [Qn h0] at h;by_cases h1:i < n
  ·rw [Qn h1] at h;have e:i.toNat=j:=Qt h;exact⟨by rw [seqIndex_of h0 h1,e],by lia,by lia,h1⟩
  ·rw [Qf h1] at h;cases h
 ·rw [Qf h0] at h;by_cases h1:-(n:Int)<=i
  ·rw [Qn h1] at h;have e:(i+n).toNat=j:=Qt h;exact⟨by rw [seqIndex_neg (by lia) h1,e],by lia,h1,by lia⟩
  ·rw [Qf h1] at h;cases h
theorem oU{α:Type}{xs:List α}{i:Int}{v:α}(h:atI xs i=some v):∃ j,seqIndex? i xs.length=some j/\xs[j]?=some v/\j < xs.length/\-(xs.length:Int)<=i/\i < xs.length:=by
 unfold atI at h;cases e:ixN xs.length i with
 | none=>rw [e] at h;cases h
 | some j =>
  rw [e] at h;obtain⟨h1,h2,h3,h4⟩:=oS e;exact⟨j,h1,h,h2,h3,h4⟩
theorem cn{α:Type}{xs:List α}{j:Nat}{v:α}(h:xs[j]?=some v):atI xs (j:Int)=some v:=by
 have hj:j < xs.length:=(Qb.mp h).1;have e:ixN xs.length (j:Int)=some j:=by
  unfold ixN;rw [Qn (by lia),Qn (by lia)];simp
 unfold atI;rw [e];exact h
theorem b9{α:Type}(xs:List α)(v:α):atI (xs++[v]) (-1)=some v:=by
 have hl:(xs++[v]).length=xs.length+1:=by simp
 have e:ixN (xs++[v]).length (-1)=some xs.length:=by
  unfold ixN;rw [hl,Qf (by decide),Qn (by lia)];congr 1
  omega
 unfold atI;rw [e];show(xs++[v])[xs.length]?=some v;simp
def ul(b:Expr):Prop:=∀ o i,subscripted b false o i=operate [o,i] (getItem o i)
def IxR(X:Cx)(r:R2):Prop :=
 ∀(value slice:Expr) (pins:List (Addr × Obj)) (s:Shared) (σ:St) (H:Hp) (x y:V) (v u:Value) (Q:VK),Inv X pins σ H s->aW x v->aW y u->r x y H Q ->
  subscripted slice false v u=operate [v,u] (getItem v u)->wpAny (model X.prog X.w) X.A (subscriptTail value slice v u) (EP X pins σ Q) X.xe s
def MtR(X:Cx)(id:String)(r:V->List V->Hp->VK->Prop):Prop :=
 ∀(pins:List (Addr × Obj)) (s:Shared) (σ:St) (H:Hp) (x:V) (xs:List V) (v:Value) (us:List Value) (Q:VK),Inv X pins σ H s->aW x v->aS xs us->r x xs H Q ->
  wpAny (model X.prog X.w) X.A (call (.builtin id) (v :: us)) (EP X pins σ Q) X.xe s
section
variable{X:Cx} {a b:Expr} {ta tb:TE} {pos:Pos}
theorem ap{r:R2}(hr:IxR X r)(ha:PE X a ta)(hb:PE X b tb)(hs:ul b):PE X (.Subscript a b pos) (tOp r ta tb):=by
 intro pins s σ H Q I h;exact Subscript_ (wv ha hb I h λv u s2 x y H2 I2 rx ry q=>hr a b pins s2 σ H2 x y v u Q I2 rx ry q (hs _ _))
inductive vL(K:W.Frag)(x:V)(y:V)(H:Hp)(Q:VK):Prop
 | mk:∀ p xs i v,(x=.ref p)->(y=.int i)->(SqL K H p xs)->(atI xs i=some v)->(Q v H)->vL K x y H Q
def xS(K:W.Frag):R2:=λx y H Q=>vL K x y H Q
inductive vM(K:W.Frag)(x:V)(y:V)(H:Hp)(Q:VK):Prop
 | mk:∀ p xs i v,(x=.ref p)->(y=.int i)->(SqT K H p xs)->(atI xs i=some v)->(Q v H)->vM K x y H Q
def xT(K:W.Frag):R2:=λx y H Q=>vM K x y H Q
theorem aN:IxR X (xS X.K):=by
 intro value slice pins s σ H x y v u Q I rx ry h hs;obtain⟨p,xs,i,z,rfl,rfl,hq,he,q⟩:=h;cases rx;obtain⟨t,rfl⟩:=ry;obtain⟨its,r,pl,hz⟩:=I.list hq;obtain⟨j,h1,h2,h3,h4,h5⟩:=oU he;obtain⟨w,ew,rw'⟩:=r.get h2;have hl:=r.length;have hn:=i7;have fin:EP X pins σ Q w s:=⟨z,H,I,rw',q⟩;by_cases h0:0<=i
 ·have hj:i.toNat=j:=by
   rw [seqIndex_of h0 h5] at h1;exact Qt h1
  exact item_listR pl.isList h0 (by lia) (by rw [hj];simpa using ew) fin hs
 ·have hj:(i+(its.toArray.size:Int)).toNat=j:=by
   rw [seqIndex_neg (by lia) h4] at h1;rw [Qu,<-hl];exact Qt h1
  exact subscriptTail_builtinR (x:=w) pl.isList.typeIs slot_list_getitem.lookup
   (wpAny_getItem_list_neg (Q:=λr s'=>r=w/\EP X pins σ Q r s') pl.isList (by lia) (by rw [Qu] <;> omega) (by lia) (by rw [hj];simpa using ew) ⟨rfl,fin⟩) hs
theorem ar:IxR X (xT X.K):=by
 intro value slice pins s σ H x y v u Q I rx ry h hs;obtain⟨p,xs,i,z,rfl,rfl,hq,he,q⟩:=h;cases rx;obtain⟨t,rfl⟩:=ry;obtain⟨its,r,pl,hz⟩:=I.tuple hq;obtain⟨j,h1,h2,h3,h4,h5⟩:=oU he;obtain⟨w,ew,rw'⟩:=r.get h2;have hl:=r.length;have hn:=i7;have fin:EP X pins σ Q w s:=⟨z,H,I,rw',q⟩;exact subscriptTail_builtinR (x:=w) pl.typeIs slot_tuple_getitem.lookup
  (getItem_tuple (j:=j) (Q:=λr s'=>r=w/\EP X pins σ Q r s') pl (by lia) (by lia) (by rw [Qu,<-hl];exact h1) (by simpa using ew) ⟨rfl,fin⟩) hs
theorem nQ(its:List Value)(n j:Nat)(u:Value):Obj.mapSeq (·.setIfInBounds j u) { cls:=.type "list",data:=.seq its.toArray n }={ cls:=.type "list",data:=.seq (its.set j u).toArray n }:=by
 simp [Obj.mapSeq]
theorem Inv.lst{pins:List (Addr × Obj)}{σ:St}{H:Hp}{s:Shared}{p:Addr}{xs:List V}(I:Inv X pins σ H s)(h:H p=some (.lst xs)) :
  ∃(its:List Value) (n:Nat),aS xs its/\s.heap.get? p=some { cls:=.type "list",data:=.seq its.toArray n }/\xs.length<=sizeLine:=by
 obtain⟨z,its,n,r,e⟩:=I.hok p _ h;exact⟨its,n,r,e,z⟩
theorem Inv.lstUpd{pins:List (Addr × Obj)}{σ:St}{H:Hp}{s:Shared}{p:Addr}{xs ys:List V}{its its':List Value}{n n':Nat}{f:Obj->Obj}(I:Inv X pins σ H s)(h:H p=some (.lst xs))
  (ho:s.heap.get? p=some { cls:=.type "list",data:=.seq its.toArray n }) (hf:f { cls:=.type "list",data:=.seq its.toArray n }={ cls:=.type "list",data:=.seq its'.toArray n' }) (r:aS ys its') (hz:ys.length<=sizeLine) (t:Nat) :
  Inv X pins σ (upd H p (.lst ys)) { s with heap:=s.heap.update p f,toks:=t }:=by
 have e:(s.heap.update p f).get? p=some { cls:=.type "list",data:=.seq its'.toArray n' }:=by
  rw [Vl f ho (by rw [hf] <;> rfl),hf]
 refine I.write (x:=p) (e:=p) (by rw [h];trivial) (.inl rfl) (λb u hb q=>(Heap.get?_update_other _ _ (Ne.symm hb)).trans q) ⟨_,e⟩ ?_;exact⟨hz,its',n',r,e⟩
inductive rf(o:V)(i:V)(v:V)(H:Hp)(Q:Hp->Prop):Prop
 | mk:∀ p xs k j,(o=.ref p)->(i=.int k)->(H p=some (.lst xs))->(ixN xs.length k=some j)->(Q (upd H p (.lst (xs.set j v))))->rf o i v H Q
def xU:V->V->V->Hp->(Hp->Prop)->Prop:=λo i v H Q=>rf o i v H Q
theorem gu:xI X xU:=by
 intro pins s σ H o i v ov iv u Q I ro ri rv h;obtain⟨p,xs,k,j,rfl,rfl,hp,hj,q⟩:=h;cases ro;obtain⟨t,rfl⟩:=ri;obtain⟨its,n,r,ho,hz⟩:=I.lst hp;obtain⟨h1,h2,h3,h4⟩:=oS hj;have hl:=r.length;have hn:=i7;have I':Inv X pins σ (upd H p (.lst (xs.set j v))) { s with heap:=s.heap.update p (Obj.mapSeq (·.setIfInBounds j u)) } :=
  I.lstUpd hp ho (nQ its n j u) (r.set rv j) (by rw [UX];exact hz) s.toks
 by_cases h0:0<=k
 ·have hk:k.toNat=j:=by
   rw [seqIndex_of h0 h4] at h1;exact Qt h1
  exact W.ki_setAt ho h0 (by lia) (by rw [Qu,<-hl];exact h4) (by rw [hk];exact⟨_,I',q⟩)
 ·have hk:(k+(its.toArray.size:Int)).toNat=j:=by
   rw [seqIndex_neg (by lia) h3] at h1;rw [Qu,<-hl];exact Qt h1
  exact W.ki_setBack ho (by lia) (by rw [Qu,<-hl];exact h3) (by lia) (by rw [hk];exact⟨_,I',q⟩)
theorem kY(lo hi:Option Int)(n:Nat):(sliceBounds lo hi none n).1=((HT.sIx n 0 lo:Nat):Int)/\(sliceBounds lo hi none n).2.1=((HT.sIx n n hi:Nat):Int)/\(sliceBounds lo hi none n).2.2=1:=by
 refine⟨?_,?_,rfl⟩
 ·cases lo with
  | none=>simp [sliceBounds,HT.sIx]
  | some i =>
   simp only [sliceBounds,HT.sIx,Option.getD_none,show(1:Int) > 0 by decide,if_true];by_cases h:i < 0
   ·simp only [h,if_true] <;> omega
   ·simp only [h,if_false] <;> omega
 ·cases hi with
  | none=>simp [sliceBounds,HT.sIx]
  | some i =>
   simp only [sliceBounds,HT.sIx,Option.getD_none,show(1:Int) > 0 by decide,if_true];by_cases h:i < 0
   ·simp only [h,if_true] <;> omega
   ·simp only [h,if_false] <;> omega
theorem jU(its:List Value)(lo hi:Option Int):slicePick its.toArray lo hi none=((its.drop (HT.sIx its.length 0 lo)).take (HT.sIx its.length its.length hi - HT.sIx its.length 0 lo)).toArray:=by
 obtain⟨h1,h2,h3⟩:=kY lo hi its.toArray.size;unfold slicePick;rw [h1,h2,h3];simp only [sliceRange_one,pick_run,Qu] <;> rfl
inductive vN(K:W.Frag)(x:V)(lo:Option Int)(hi:Option Int)(H:Hp)(Q:VK):Prop
 | mk:∀ a xs,(x=.ref a)->(SqL K H a xs)->(∀ p,H p=none->Q (.ref p) (upd H p (.lst (eZ xs lo hi))))->vN K x lo hi H Q
def zB(K:W.Frag):V->Option Int->Option Int->Hp->VK->Prop:=λx lo hi H Q=>vN K x lo hi H Q
theorem kZ:SlR X (zB X.K):=by
 intro pins s σ H x v vl vu lo hi sl Q I rx hs pl pu h;obtain⟨a,xs,rfl,hx,q⟩:=h;cases rx;obtain⟨its,r,ht,hz⟩:=I.list hx;have hlen:=r.length;refine⟨"list",_,slot_list_getitem.lookup,ht.isList.typeIs,?_⟩;refine wpAny_getItem_list_slice ht.isList hs pl pu .none (by simp) ?_ (by rw [Qu] <;> omega);rw [jU,<-hlen];refine⟨.ref s.heap.objs.size,_,I.laid (t':=s.toks) (o:=.lst (eZ xs lo hi)) (λb ob q=>Qm _ q) (Qk _) ?_,rfl,q _ (I.hok.fresh (Qk _))⟩;exact⟨QQ (iC xs lo hi) hz,_,0,(r.drop (HT.sIx xs.length 0 lo)).take (HT.sIx xs.length xs.length hi - HT.sIx xs.length 0 lo),QE _ rfl⟩
def fP:V->Bool
 | .non=>true
 | .bl _=>true
 | .int _=>true
 | .str _=>true
 | _=>false
def eqV:V->V->Bool
 | .non,.non=>true
 | .bl a,.bl b=>a == b
 | .bl a,.int b=>(if a then 1 else 0) == b
 | .int a,.bl b=>a == (if b then 1 else 0)
 | .int a,.int b=>a == b
 | .str a,.str b=>a == b
 | _,_=>false
theorem wB{A:Around}{s:Shared}{y x:V}{u v:Value}(ry:aW y u)(rx:aW x v)(fy:fP y=true)(fx:fP x=true):SeqAt.EqAt A s u v (eqV y x):=by
 cases y with
 | non =>
  cases ry;cases x with
  | non=>cases rx;exact SeqAt.EqAt.same _
  | bl b=>cases rx;exact SeqAt.EqAt.none_bool b
  | int b=>obtain⟨t,rfl⟩:=rx;exact SeqAt.EqAt.none_int b t
  | str b=>obtain⟨t,rfl⟩:=rx;exact SeqAt.EqAt.none_str b t
  | _=>exact Qs (show false=true from fx) Qj
 | bl a =>
  cases ry;cases x with
  | non=>cases rx;exact SeqAt.EqAt.bool_none a
  | bl b=>cases rx;exact SeqAt.EqAt.bool_bool a b
  | int b=>obtain⟨t,rfl⟩:=rx;exact SeqAt.EqAt.bool_int a b t
  | str b=>obtain⟨t,rfl⟩:=rx;exact SeqAt.EqAt.bool_str a b t
  | _=>exact Qs (show false=true from fx) Qj
 | int a =>
  obtain⟨t',rfl⟩:=ry;cases x with
  | non=>cases rx;exact SeqAt.EqAt.int_none a t'
  | bl b=>cases rx;exact SeqAt.EqAt.int_bool a t' b
  | int b=>obtain⟨t,rfl⟩:=rx;exact SeqAt.EqAt.int_int a t' b t
  | str b=>obtain⟨t,rfl⟩:=rx;exact SeqAt.EqAt.int_str a t' b t
  | _=>exact Qs (show false=true from fx) Qj
 | str a =>
  obtain⟨t',rfl⟩:=ry;cases x with
  | non=>cases rx;exact SeqAt.EqAt.str_none a t'
  | bl b=>cases rx;exact SeqAt.EqAt.str_bool a t' b
  | int b=>obtain⟨t,rfl⟩:=rx;exact SeqAt.EqAt.str_int a t' b t
  | str b=>obtain⟨t,rfl⟩:=rx;exact SeqAt.EqAt.str_str a t' b t
  | _=>exact Qs (show false=true from fx) Qj
 | _=>exact Qs (show false=true from fy) Qj
def eqU(x:V)(u:Value):Bool:=match u with
 | .none=>eqV .non x
 | .bool b=>eqV (.bl b) x
 | .int i _=>eqV (.int i) x
 | .str z _=>eqV (.str z) x
 | _=>false
theorem rg{x y:V}{u:Value}(r:aW y u)(f:fP y=true):eqU x u=eqV y x:=by
 cases y with
 | non=>cases r;rfl
 | bl b=>cases r;rfl
 | int i=>obtain⟨t,rfl⟩:=r;rfl
 | str z=>obtain⟨t,rfl⟩:=r;rfl
 | _=>exact Qs (show false=true from f) Qj
theorem gv{x:V}:∀{xs:List V} {us:List Value},aS xs us->xs.all fP=true->us.any (eqU x)=xs.any λy=>eqV y x
 | _,_,.nil,_=>rfl
 | y :: xs,u :: us,.cons r t,f=>by
  rw [List.all_cons,QO] at f;rw [Ve,Ve,rg r f.1,gv t f.2]
theorem e9{A:Around}{s:Shared}{x:V}{v:Value}(rx:aW x v)(fx:fP x=true):∀{xs:List V} {us:List Value},aS xs us->xs.all fP=true->∀ u∈us,SeqAt.EqAt A s u v (eqU x u)
 | _,_,.nil,_=>λu hu=>by cases hu
 | y :: xs,u :: us,.cons r t,f=>λu' hu=>by
  rw [List.all_cons,QO] at f;rcases Qi.mp hu with rfl | hu
  ·rw [rg r f.1];exact wB r rx f.1 fx
  ·exact e9 rx fx t f.2 u' hu
def inV(x:V)(xs:List V):Bool:=xs.any λy=>eqV y x
inductive xV(K:W.Frag)(neg:Bool)(x:V)(y:V)(H:Hp)(Q:VK):Prop
 | mk:∀ p xs,(y=.ref p)->((SqL K H p xs\/SqT K H p xs))->(fP x=true)->(xs.all fP=true)->(Q (.bl (if neg then !inV x xs else inV x xs)) H)->xV K neg x y H Q
def rIn(K:W.Frag)(neg:Bool):R2:=λx y H Q=>xV K neg x y H Q
theorem dG:OpR X (compareOp .In) (rIn X.K false):=by
 intro pins s σ H x y v u Q I rx ry h;obtain⟨p,xs,rfl,hq,fx,fs,q⟩:=h;cases ry;rcases hq with hq | hq
 ·obtain⟨its,r,pl,hz⟩:=I.list hq;refine SeqAt.in_listAt (eqU x) pl.isList (λw hw=>e9 rx fx r fs w (by simpa using hw)) ⟨.bl _,H,I,rfl,?_⟩;rw [show its.toArray.any (eqU x)=its.any (eqU x) by simp,gv r fs];exact q
 ·obtain⟨its,r,pl,hz⟩:=I.tuple hq;refine SeqAt.in_tupleAt (eqU x) pl (λw hw=>e9 rx fx r fs w (by simpa using hw)) ⟨.bl _,H,I,rfl,?_⟩;rw [show its.toArray.any (eqU x)=its.any (eqU x) by simp,gv r fs];exact q
theorem gw:OpR X (compareOp .NotIn) (rIn X.K true):=by
 intro pins s σ H x y v u Q I rx ry h;obtain⟨p,xs,rfl,hq,fx,fs,q⟩:=h;cases ry;rcases hq with hq | hq
 ·obtain⟨its,r,pl,hz⟩:=I.list hq;refine SeqAt.notIn_listAt (eqU x) pl.isList (λw hw=>e9 rx fx r fs w (by simpa using hw)) ⟨.bl _,H,I,rfl,?_⟩;rw [show its.toArray.any (eqU x)=its.any (eqU x) by simp,gv r fs];exact q
 ·obtain⟨its,r,pl,hz⟩:=I.tuple hq;refine SeqAt.notIn_tupleAt (eqU x) pl (λw hw=>e9 rx fx r fs w (by simpa using hw)) ⟨.bl _,H,I,rfl,?_⟩;rw [show its.toArray.any (eqU x)=its.any (eqU x) by simp,gv r fs];exact q
theorem aJ:eh X (.builtin "len") (λxs H Q=>∃ p ys,xs=[.ref p]/\(SqL X.K H p ys\/SqT X.K H p ys)/\Q (.int ys.length) H):=by
 intro pins s σ H xs us Q I r h;obtain⟨p,ys,rfl,hq,q⟩:=h;obtain⟨u,rfl,rx⟩:=fO r;cases rx;have hn:=i7;rcases hq with hq | hq
 ·obtain⟨its,r',pl,hz⟩:=I.list hq;have hlen:=r'.length;exact Calls.call_len_list pl.isList (by simp only [Qu] <;> omega) ⟨.int ys.length,H,I.tok _,⟨s.toks+1,by rw [Qu,hlen]⟩,q⟩
 ·obtain⟨its,r',pl,hz⟩:=I.tuple hq;have hlen:=r'.length;exact len_tuple pl (by simp only [Qu] <;> omega) ⟨.int ys.length,H,I.tok _,⟨s.toks+1,by rw [Qu,hlen]⟩,q⟩
theorem gy:eh X (.type "list") (λxs H Q=>∃ p ys,xs=[.ref p]/\(SqL X.K H p ys\/SqT X.K H p ys)/\∀ l,H l=none->Q (.ref l) (upd H l (.lst ys))):=by
 intro pins s σ H xs us Q I r h;obtain⟨p,ys,rfl,hq,q⟩:=h;obtain⟨u,rfl,rx⟩:=fO r;cases rx;have fin:∀(its:List Value),aS ys its->ys.length<=sizeLine->∀(h':Heap) (c':Nat),(∀ b o',s.heap.get? b=some o'->h'.get? b=some o') ->
   h'.get? s.heap.objs.size=some { cls:=.type "list",dict:=none,data:=.seq its.toArray c',slots:=#[] }->EP X pins σ Q (.ref s.heap.objs.size) { s with heap:=h' }:=λits r' hz h' c' kp e =>
  ⟨.ref s.heap.objs.size,_,I.laid (t':=s.toks) kp (Qk _) (show bB X.prog X.w _ h' _ (.lst ys) from⟨hz,its,c',r',e⟩),rfl,q _ (I.hok.fresh (Qk _))⟩
 rcases hq with hq | hq
 ·obtain⟨its,r',pl,hz⟩:=I.list hq;have hlen:=r'.length;obtain⟨o,ho,hc,n,hd⟩:=pl.isList;exact call_list_seq p (.inl rfl) ho hc hd (λh' c' kp e=>fin its r' hz h' c' kp e) (by simp only [Qu] <;> omega)
 ·obtain⟨its,r',pl,hz⟩:=I.tuple hq;have hlen:=r'.length;obtain⟨o,ho,hc,n,hd⟩:=pl;exact call_list_seq p (.inr rfl) ho hc hd (λh' c' kp e=>fin its r' hz h' c' kp e) (by simp only [Qu] <;> omega)
def tyV(K:W.Frag)(T:String)(x:V)(H:Hp):Prop:=match x with
 | .str _=>T="str"
 | .int _=>T="int"
 | .ref p=>(T="list"/\∃ xs,SqL K H p xs)\/(T="tuple"/\∃ o,K.lookup p=some o/\o.cls=.type "tuple"/\o.dict=none) \/
   (T="dict"/\((∃ kvs,H p=some (.dK kvs))\/∃ kvs,H p=some (.dT kvs)))\/(T="set"/\∃ S n,H p=some (.set S n))
 | _=>False
theorem rh{pins:List (Addr × Obj)}{σ:St}{H:Hp}{s:Shared}{T:String}{x:V}{v:Value}(I:Inv X pins σ H s)(r:aW x v)(ty:tyV X.K T x H) :
  s.TypeIs v T/\∀ a,v=.ref a->∃ ob,s.heap.get? a=some ob/\ob.dict=none:=by
 cases x with
 | str z =>
  obtain⟨t,rfl⟩:=r;cases (show T="str" from ty);exact⟨typeIs_str s z t,λ_ e=>nomatch e⟩
 | int i =>
  obtain⟨t,rfl⟩:=r;cases (show T="int" from ty);exact⟨typeIs_int s i t,λ_ e=>nomatch e⟩
 | ref p =>
  cases r;rcases ty with⟨rfl,xs,hq⟩ | ⟨rfl,o,hk,hc,hd⟩ | ⟨rfl,hk⟩ | ⟨rfl,S,n,hk⟩
  ·obtain⟨its,_,pl,_⟩:=I.list hq;refine⟨pl.isList.typeIs,λa e=>?_⟩;cases e;obtain⟨o,n,e,c,hd,_⟩:=pl;exact⟨o,e,hd⟩
  ·refine⟨⟨o,I.kIn p o hk,hc⟩,λa e=>?_⟩;cases e;exact⟨o,I.kIn _ o hk,hd⟩
  ·have z:∃ o,s.heap.get? p=some o/\o.ExactDict:=by
    rcases hk with⟨kvs,hk⟩ | ⟨kvs,hk⟩
    ·obtain⟨_,_,_,_,o,_,_,e,ex,_⟩:=I.hok p _ hk;exact⟨o,e,ex⟩
    ·obtain⟨_,_,_,_,o,_,_,e,ex,_⟩:=I.hok p _ hk;exact⟨o,e,ex⟩
   obtain⟨o,e,ex⟩:=z;refine⟨⟨o,e,ex.1⟩,λa e2=>?_⟩;cases e2;exact⟨o,e,ex.2.1⟩
  ·obtain⟨o,_,_,_,e,ex,_⟩:=I.hok p _ hk;refine⟨⟨o,e,ex.1⟩,λa e2=>?_⟩;cases e2;exact⟨o,e,ex.2.1⟩
 | _=>exact False.elim ty
def zC(K:W.Frag)(T:String)(r:V->List V->Hp->VK->Prop)(to:TE):TE:=λσ H Q=>to σ H λx H1=>tyV K T x H1/\r x [] H1 Q
def tBM(K:W.Frag)(T:String)(r:V->List V->Hp->VK->Prop)(to:TE)(t:TA):TE:=λσ H Q=>to σ H λx H1=>tyV K T x H1/\t σ H1 λxs H2=>r x xs H2 Q
variable{o e:Expr} {es:List Expr} {to:TE} {t:TA} {name:Str} {apos cpos:Pos} {T id:String} {r:V->List V->Hp->VK->Prop}
theorem wC(pa:PlainAttrs T)(slot:Slot T name id)(hty:typeOf (.builtin id)=pure (.type "method_descriptor"))(hm:MtR X id r)(ho:PE X o to)
  (hbase:attributeBase o name X.env (eval o X.env)=eval o X.env:=by rfl) (hline:(apos.endLine == cpos.line)=true:=by rfl):PE X (.Call (.Attribute o name apos) [] [] cpos) (zC X.K T r to):=by
 intro pins s σ H Q I h;refine wpAny_Call_method0_late hbase hline (thn (ho pins s σ H _ I h) λv s1 ⟨x,H1,I1,r1,ty,q1⟩=>?_);obtain⟨h1,h2⟩:=rh I1 r1 ty;exact⟨T,id,pa,slot,hty,h1,h2,Calls.callWith_builtin rfl (PySem.evalArgs_none (hm pins s1 σ H1 x [] v [] Q I1 r1 .nil q1))⟩
theorem bR(pa:PlainAttrs T)(slot:Slot T name id)(hty:typeOf (.builtin id)=pure (.type "method_descriptor"))(hm:MtR X id r)(ho:PE X o to)(ha:PA X (e :: es) t)
  (hbase:attributeBase o name X.env (eval o X.env)=eval o X.env:=by rfl)
  (hfew:((backTo cpos (starEach (e :: es) X.env)).all (λx=>!x.1) && (backToKw cpos (keywordEach [] X.env)).all (λx=>x.1.isSome)
   && decide ((e :: es).length+([]:List Keyword).length+(if ([]:List Keyword).isEmpty then 0 else 1) < 30))=true:=by rfl)
  (hline:(apos.endLine == cpos.line)=true:=by rfl) (hs:starEach (e :: es) X.env=(false,eval e X.env) :: starEach es X.env:=by rfl) (hplain:(backTo cpos (starEach es X.env)).any (·.1)=false:=by rfl) :
  PE X (.Call (.Attribute o name apos) (e :: es) [] cpos) (tBM X.K T r to t):=by
 intro pins s σ H Q I h;refine wpAny_Call_method_late hbase hfew hline rfl (thn (ho pins s σ H _ I h) λv s1 ⟨x,H1,I1,r1,ty,q1⟩=>?_);obtain⟨h1,h2⟩:=rh I1 r1 ty;refine⟨T,id,pa,slot,hty,h1,h2,?_⟩;have hA:=ha cpos pins s1 σ H1 _ I1 q1;rw [hs] at hA ⊢;refine Calls.callWith_builtin (by show(false || (backTo cpos (starEach es X.env)).any (·.1))=false;rw [hplain] <;> rfl) (Calls.evalArgs_plain ?_);exact thn hA λus s2 ⟨vs,H2,I2,r2,q2⟩=>hm pins s2 σ H2 x vs v us Q I2 r1 r2 q2
end
end L2
namespace L2
open PySem PySem.Spec PyProof.Rows
def MtM(X:Cx)(id:String)(r:V->List V->Hp->VK->Prop):Prop :=
 ∀(pins:List (Addr × Obj)) (s:Shared) (σ:St) (H:Hp) (x:V) (xs:List V) (v:Value) (us:List Value) (Q:VK),Inv X pins σ H s->aW x v->aS xs us->r x xs H Q ->
  wpAny (model X.prog X.w) X.A (call (.builtin id) (v :: us)) (EP X pins σ Q) X.xe s
theorem aS.one:∀{x:V} {us:List Value},aS [x] us->∃ u,us=[u]/\aW x u
 | _,_,.cons r .nil=>⟨_,rfl,r⟩
theorem aS.two:∀{x y:V} {us:List Value},aS [x,y] us->∃ u v,us=[u,v]/\aW x u/\aW y v
 | _,_,_,.cons r (.cons q .nil)=>⟨_,_,rfl,r,q⟩
theorem aS.eraseIdx:∀{xs:List V} {us:List Value} (i:Nat),aS xs us->aS (xs.eraseIdx i) (us.eraseIdx i)
 | _,_,_,.nil=>.nil
 | _,_,0,.cons _ t=>t
 | _,_,i+1,.cons r t=>.cons r (aS.eraseIdx i t)
theorem g8{α:Type}:∀(l:List α) (i:Nat),(l.eraseIdx i).length<=l.length
 | [],_=>Qk _
 | _ :: _,0=>Uc _
 | _ :: r,i+1=>Nat.succ_le_succ (g8 r i)
section
variable{X:Cx} {pins:List (Addr × Obj)} {σ:St} {H:Hp} {s:Shared} {l b:Addr} {xs ys zs:List V}
theorem Inv.lset{its its':List Value}{n:Nat}{f:Array Value->Array Value}{t':Nat}(I:Inv X pins σ H s)(hH:H l=some (.lst xs))
  (e:s.heap.get? l=some { cls:=.type "list",data:=.seq its.toArray n }) (hf:f its.toArray=its'.toArray) (hv:aS ys its') (hz:ys.length<=sizeLine) :
  Inv X pins σ (upd H l (.lst ys)) { s with heap:=s.heap.update l (Obj.mapSeq f),toks:=t' }:=by
 have q:=PySem.IsL.update e f;rw [hf] at q;refine I.write (x:=l) (e:=l) (by rw [hH];exact trivial) (.inl rfl) (λb' u hb hu=>(Heap.get?_update_other s.heap (Obj.mapSeq f) (Ne.symm hb)).trans hu) ⟨_,q⟩ ?_;exact⟨hz,its',_,hv,q⟩
theorem Inv.lnew{its:List Value}{t':Nat}(I:Inv X pins σ H s)(hv:aS ys its)(hz:ys.length<=sizeLine) :
  Inv X pins σ (upd H s.heap.objs.size (.lst ys)) { s with heap:=s.heap.push { cls:=.type "list",data:=.seq its.toArray },toks:=t' } :=
 I.laid (λ_ _ q=>Qm _ q) (Qk _) ⟨hz,its,0,hv,QE _ rfl⟩
theorem Inv.fresh(I:Inv X pins σ H s):H s.heap.objs.size=none:=I.hok.fresh (Qk _)
theorem Inv.lstM(I:Inv X pins σ H s)(hH:H l=some (.lst xs)):xs.length<=sizeLine/\∃(its:List Value) (n:Nat),aS xs its/\xs.length=its.length/\s.heap.get? l=some { cls:=.type "list",data:=.seq its.toArray n }:=by
 obtain⟨z,its,n,r,e⟩:=I.hok l _ hH;exact⟨z,its,n,r,r.length,e⟩
theorem rj{n:Nat}(h:n<=sizeLine):Builtin.List.listTooLong n=false:=by
 unfold Builtin.List.listTooLong;exact Qp (by lia)
end
section
variable{X:Cx}
inductive mf(x:V)(vs:List V)(H:Hp)(Q:VK):Prop
 | mk:∀ l xs y,(x=.ref l)->(vs=[y])->(H l=some (.lst xs))->(xs.length < sizeLine)->(Q .non (upd H l (.lst (xs++[y]))))->mf x vs H Q
def um:V->List V->Hp->VK->Prop:=λx vs H Q=>mf x vs H Q
theorem bf:MtM X "list.append" um:=by
 intro pins s σ H x vs v us Q I rx rv h;obtain⟨l,xs,y,rfl,rfl,hH,hz,q⟩:=h;cases rx;obtain⟨u,rfl,ru⟩:=rv.one;obtain⟨z,its,n,r,hl,e⟩:=I.lstM hH;refine call_meets F.slot_list_append ⟨_,e,rfl⟩ F.entry_list_append (F.args_list_append_2 _ _) (PySem.list_append l its.toArray n u (by rw [Qu];lia)) ⟨e,?_⟩;refine⟨.non,_,I.lset (its':=its++[u]) hH e (by simp) (r.append (.cons ru .nil)) ?_,rfl,q⟩;rw [Ql,Qz];lia
inductive mh(x:V)(vs:List V)(H:Hp)(Q:VK):Prop
 | mk:∀ l b xs zs,(x=.ref l)->(vs=[.ref b])->(H l=some (.lst xs))->(H b=some (.lst zs))->(xs.length+zs.length<=sizeLine)->(Q .non (upd H l (.lst (xs++zs))))->mh x vs H Q
def uo:V->List V->Hp->VK->Prop:=λx vs H Q=>mh x vs H Q
theorem g9:MtM X "list.extend" uo:=by
 intro pins s σ H x vs v us Q I rx rv h;obtain⟨l,b,xs,zs,rfl,rfl,hH,hB,hz,q⟩:=h;cases rx;obtain⟨u,rfl,ru⟩:=rv.one;cases ru;obtain⟨z,its,n,r,hl,e⟩:=I.lstM hH;obtain⟨z2,its2,n2,r2,hl2,e2⟩:=I.lstM hB;have hsz:its.toArray.size+its2.toArray.size<=sizeLine:=by rw [Qu,Qu];lia
 have hlong:¬ (!its.toArray.isEmpty && Builtin.List.listTooLong (its.toArray.size+its2.toArray.size))=true:=by
  rw [rj hsz,Bool.and_false];exact Qj
 refine call_meets F.slot_list_extend ⟨_,e,rfl⟩ F.entry_list_extend (F.args_list_extend_2 _ _)
  (AutoSeq1.list_extend_list_list_0 l its.toArray n b its2.toArray n2 hlong (by rw [Qu];lia) (by lia)) ⟨e,e2,?_⟩
 refine⟨.non,_,I.lset (its':=its++its2) hH e (by simp) (r.append r2) ?_,rfl,q⟩;rw [Ql];lia
inductive oW(x:V)(vs:List V)(H:Hp)(Q:VK):Prop
 | mk:∀ l xs i k y,(x=.ref l)->(vs=[.int i])->(H l=some (.lst xs))->(-(2 ^ 63)<=i)->(i < 2 ^ 63)->(seqIndex? i xs.length=some k)->(xs[k]?=some y)->(Q y (upd H l (.lst (xs.eraseIdx k))))->oW x vs H Q
def wD:V->List V->Hp->VK->Prop:=λx vs H Q=>oW x vs H Q
theorem rl:MtM X "list.pop" wD:=by
 intro pins s σ H x vs v us Q I rx rv h;obtain⟨l,xs,i,k,y,rfl,rfl,hH,h1,h2,hk,hy,q⟩:=h;cases rx;obtain⟨u,rfl,ru⟩:=rv.one;obtain⟨t,rfl⟩:=ru;obtain⟨z,its,n,r,hl,e⟩:=I.lstM hH;obtain⟨w,hw,rw'⟩:=r.get hy;refine call_meets F.slot_list_pop ⟨_,e,rfl⟩ F.entry_list_pop (F.args_list_pop_2 _ _)
  (MeetsSeq.list_pop_at l its.toArray n i t k w (fitsIndex_both h1 h2) (by rw [Qu,<-hl];exact hk) (by rw [<-Uz];exact hw) (by rw [Qu];lia)) ⟨e,?_⟩
 refine⟨y,_,I.lset (its':=its.eraseIdx k) hH e ?_ (r.eraseIdx k) ?_,rw',q⟩
 ·show its.toArray.eraseIdxIfInBounds k=(its.eraseIdx k).toArray;rw [List.eraseIdxIfInBounds_toArray]
 ·have:=g8 xs k;lia
def zD:R2:=λx y H Q=>∃ l b xs zs,x=.ref l/\y=.ref b/\H l=some (.lst xs)/\H b=some (.lst zs)/\xs.length+zs.length<=sizeLine/\∀ p,H p=none->Q (.ref p) (upd H p (.lst (xs++zs)))
theorem nR:OpR X (binaryOp .Add) zD:=by
 intro pins s σ H x y v u Q I rx ry h;obtain⟨l,b,xs,zs,rfl,rfl,hH,hB,hz,q⟩:=h;cases rx;cases ry;obtain⟨z,its,n,r,hl,e⟩:=I.lstM hH;obtain⟨z2,its2,n2,r2,hl2,e2⟩:=I.lstM hB;refine PySem.P.add_list e e2 ?_ (by rw [Qu,Qu];lia);have ea:its.toArray++its2.toArray=(its++its2).toArray:=by simp
 rw [ea];exact⟨.ref _,_,I.lnew (t':=s.toks) (r.append r2) (by rw [Ql];lia),rfl,q _ I.fresh⟩
end
end L2
namespace L2
open PySem PySem.Spec PyProof.Rows
section
variable{κ:Type} [DecidableEq κ]
def bL(kvs:List (κ × V))(k:κ):Option V:=(kvs.find? λkv=>decide (kv.1=k)).map (·.2)
def cR(kvs:List (κ × V))(k:κ)(v:V):List (κ × V) :=
 if (kvs.any λkv=>decide (kv.1=k))=true then kvs.map (λkv=>if kv.1=k then (kv.1,v) else kv) else kvs++[(k,v)]
def et(kvs:List (κ × V))(k:κ):List (κ × V):=kvs.filter λkv=>decide (kv.1≠k)
theorem dJ{p:κ × V}{r:List (κ × V)}{k:κ}(e:p.1=k):bL (p :: r) k=some p.2:=by simp [bL,UR,e]
theorem cD{p:κ × V}{r:List (κ × V)}{k:κ}(e:¬ p.1=k):bL (p :: r) k=bL r k:=by simp [bL,UR,e]
theorem jc(k:κ):∀ kvs:List (κ × V),(kvs.any λkv=>decide (kv.1=k))=(bL kvs k).isSome
 | []=>rfl
 | p :: r=>by
  rw [Ve];by_cases e:p.1=k
  ·simp only [dJ e,Qh e,Bool.true_or,Option.isSome_some]
  ·rw [cD e,Qp e,Bool.false_or];exact jc k r
theorem dU(kvs:List (κ × V))(k:κ)(v:V):(cR kvs k v).length<=kvs.length+1:=by
 unfold cR;split
 ·rw [Qc];lia
 ·rw [Ql,QL,Vs];lia
theorem eu{kvs:List (κ × V)}{k:κ}(v:V)(h:bL kvs k=none):cR kvs k v=kvs++[(k,v)]:=by
 unfold cR;rw [jc,h];exact Qf (by decide)
theorem eQ.isSome_eq{o:Option V}{u:Option Value}(r:eQ o u):o.isSome=u.isSome:=by
 cases o with
 | none=>cases u with
  | none=>rfl
  | some _=>exact(show False from r).elim
 | some _=>cases u with
  | none=>exact(show False from r).elim
  | some _=>rfl
theorem eQ.getD{o:Option V}{u:Option Value}{d:V}{d':Value}(r:eQ o u)(rd:aW d d'):aW (o.getD d) (u.getD d'):=by
 cases o with
 | none=>cases u with
  | none=>exact rd
  | some _=>exact(show False from r).elim
 | some _=>cases u with
  | none=>exact(show False from r).elim
  | some _=>exact r
theorem KV.val{kvs:List (κ × V)}{vs:List (κ × Value)}(r:KV kvs vs)(k:κ):eQ (bL kvs k) (valueAt vs k):=by
 unfold KV at r
 induction r with
 | nil=>exact True.intro
 | @cons p q ps qs h t ih =>
  obtain⟨h1,h2⟩:=h;by_cases e:p.1=k
  ·have e':q.1=k:=h1.symm.trans e;have b:valueAt (q :: qs) k=some q.2:=by simp [valueAt,UR,e']
   rw [dJ e,b];exact h2
  ·have e':¬ q.1=k:=λz=>e (h1.trans z);have b:valueAt (q :: qs) k=valueAt qs k:=by simp [valueAt,UR,e']
   rw [cD e,b];exact ih
theorem KV.any{kvs:List (κ × V)}{vs:List (κ × Value)}(r:KV kvs vs)(k:κ):(kvs.any λkv=>decide (kv.1=k))=vs.any λkv=>decide (kv.1=k):=by
 unfold KV at r
 induction r with
 | nil=>rfl
 | cons h t ih=>rw [Ve,Ve,ih,h.1]
theorem KV.repl{kvs:List (κ × V)}{vs:List (κ × Value)}(r:KV kvs vs)(k:κ){y:V}{u:Value}(ry:aW y u) :
  KV (kvs.map λkv=>if kv.1=k then (kv.1,y) else kv) (vs.map λkv=>if kv.1=k then (kv.1,u) else kv):=by
 unfold KV at r ⊢
 induction r with
 | nil=>exact .nil
 | @cons p q ps qs h t ih =>
  rw [Uo,Uo];refine .cons ?_ ih;obtain⟨h1,h2⟩:=h;by_cases e:p.1=k
  ·rw [Qn e,Qn (h1.symm.trans e)];exact⟨h1,ry⟩
  ·rw [Qf e,Qf (λz=>e (h1.trans z))];exact⟨h1,h2⟩
theorem KV.put{kvs:List (κ × V)}{vs:List (κ × Value)}(r:KV kvs vs)(k:κ){y:V}{u:Value}(ry:aW y u):KV (cR kvs k y) (stored vs k u):=by
 unfold cR stored;rw [r.any k];by_cases e:(vs.any λkv=>decide (kv.1=k))=true
 ·rw [Qn e,Qn e];exact r.repl k ry
 ·rw [Qf e,Qf e];exact Paired.snoc r ⟨rfl,ry⟩
theorem KV.keys{kvs:List (κ × V)}{vs:List (κ × Value)}(r:KV kvs vs):kvs.map (·.1)=vs.map (·.1):=by
 unfold KV at r
 induction r with
 | nil=>rfl
 | cons h t ih=>rw [Uo,Uo,ih,h.1]
theorem KV.length{kvs:List (κ × V)}{vs:List (κ × Value)}(r:KV kvs vs):kvs.length=vs.length:=Paired.length r
theorem rm(kvs:List (κ × V))(k:κ):(et kvs k).length<=kvs.length:=Q2 _ _
end
theorem eA{P:Program}{w:World}{k:Key}{u:Value}(r:aW (kV k) u):(aX P w).is k u=true:=by
 cases k with
 | inl i=>obtain⟨t,e⟩:=(show ∃ t,u=Value.int i t from r);subst e;exact lY P w i t
 | inr x=>obtain⟨t,e⟩:=(show ∃ t,u=Value.str x t from r);subst e;exact lZ P w x t
theorem kc{P:Program}{w:World}:∀{ks:List Key} {us:List Value},aS (ks.map kV) us->ItemsAre (aX P w) ks us
 | [],_,r=>by rw [List.map_nil] at r;cases r;exact .nil
 | k :: ks,_,r=>by
  rw [Uo] at r;cases r with
  | cons h t=>exact .cons (eA h) (kc t)
abbrev KT(H:Hp):List (List Key × V)->List (List Key × Addr × Value)->Prop:=Paired λp q=>p.1=q.1/\H q.2.1=some (.tup (p.1.map kV))/\aW p.2 q.2.2
theorem KT.val{H:Hp}{kvs:List (List Key × V)}{xs:List (List Key × Addr × Value)}(r:KT H kvs xs)(k:List Key):eQ (bL kvs k) ((atKey xs k).map (·.2)):=by
 induction r with
 | nil=>exact True.intro
 | @cons p q ps qs h t ih =>
  obtain⟨h1,_,h2⟩:=h;by_cases e:p.1=k
  ·have e':q.1=k:=h1.symm.trans e;have b:atKey (q :: qs) k=some q.2:=by simp [atKey,UR,e']
   rw [dJ e,b];exact h2
  ·have e':¬ q.1=k:=λz=>e (h1.trans z);have b:atKey (q :: qs) k=atKey qs k:=by simp [atKey,UR,e']
   rw [cD e,b];exact ih
theorem KT.repl{H:Hp}{kvs:List (List Key × V)}{xs:List (List Key × Addr × Value)}(r:KT H kvs xs)(k:List Key){y:V}{u:Value}(ry:aW y u) :
  KT H (kvs.map λkv=>if kv.1=k then (kv.1,y) else kv) (xs.map (putAt k u)):=by
 induction r with
 | nil=>exact .nil
 | @cons p q ps qs h t ih =>
  rw [Uo,Uo];refine .cons ?_ ih;obtain⟨h1,h2,h3⟩:=h;unfold putAt;by_cases e:p.1=k
  ·rw [Qn e,Qn (h1.symm.trans e)];exact⟨h1,h2,ry⟩
  ·rw [Qf e,Qf (λz=>e (h1.trans z))];exact⟨h1,h2,h3⟩
theorem KT.put{H:Hp}{kvs:List (List Key × V)}{xs:List (List Key × Addr × Value)}(r:KT H kvs xs)(k:List Key){b:Addr}{y:V}{u:Value}(hb:H b=some (.tup (k.map kV)))(ry:aW y u) :
  KT H (cR kvs k y) (storedH xs k b u):=by
 have e:(kvs.any λkv=>decide (kv.1=k))=(atKey xs k).isSome:=by
  rw [jc,(r.val k).isSome_eq,Option.isSome_map]
 unfold cR storedH;rw [e];by_cases q:(atKey xs k).isSome=true
 ·rw [Qn q,Qn q];exact r.repl k ry
 ·rw [Qf q,Qf q];exact Paired.snoc r ⟨rfl,hb,ry⟩
theorem KT.keeps{H H':Hp}{kvs:List (List Key × V)}{xs:List (List Key × Addr × Value)}(r:KT H kvs xs)(ht:∀ b ys,H b=some (.tup ys)->H' b=some (.tup ys)):KT H' kvs xs :=
 Paired.mapP r λ_ _ z=>⟨z.1,ht _ _ z.2.1,z.2.2⟩
section
variable{P:Program} {w:World} {H:Hp} {h:Heap} {a:Addr}
theorem vO{u:HO}(ok:HOk P w H h)(e:Rd H a u):bB P w H h a u:=e.ok ok
theorem fQ{kvs:List (Key × V)}(ok:HOk P w H h)(e:Rd H a (.dK kvs)):kvs.length<=sizeLine/\(a == sysModules)=false/\∃ vs,KV kvs vs/\h.DictOf (aX P w) a vs :=
 show bB P w H h a (.dK kvs) from vO ok e
theorem oX{kvs:List (Key × V)}(ok:HOk P w H h)(e:H a=some (.dK kvs)):kvs.length<=sizeLine/\(a == sysModules)=false/\∃ vs,KV kvs vs/\h.DictOf (aX P w) a vs:=fQ ok (.inl e)
theorem fb{ks:List Key}(ok:HOk P w H h)(e:H a=some (.tup (ks.map kV))):(tupleKind (aX P w)).is h ks a:=by
 obtain⟨_,its,r,o,h1,h2,n,h3⟩:=(show bB P w H h a (.tup (ks.map kV)) from ok a _ e);exact⟨o,its.toArray,n,h1,h2,h3,by simpa using kc r⟩
theorem fR{kvs:List (List Key × V)}(ok:HOk P w H h)(e:Rd H a (.dT kvs)):kvs.length<=sizeLine/\(a == sysModules)=false /\
  ∃ xs,KT H kvs xs/\h.DictOfH (tupleKind (aX P w)) a xs:=by
 obtain⟨z,y,xs,r,o,es,ep,h1,h2,h3,h4,h5⟩:=(show bB P w H h a (.dT kvs) from vO ok e);refine⟨z,y,xs,r,o,es,ep,h1,h2,h3,h4,λx hx=>?_,h5⟩;have all:∀{l:List (List Key × V)} {m:List (List Key × Addr × Value)},KT H l m->∀ x∈m,(tupleKind (aX P w)).is h x.1 x.2.1:=by
  intro l m q
  induction q with
  | nil=>intro x hx;exact nomatch hx
  | @cons p q ps qs hq t ih =>
   intro x hx;rcases Qi.mp hx with e | hx
   ·subst e;exact fb ok (by rw [<-hq.1];exact hq.2.1)
   ·exact ih x hx
 exact all r x hx
theorem vP{kvs:List (List Key × V)}(ok:HOk P w H h)(e:H a=some (.dT kvs)):kvs.length<=sizeLine/\(a == sysModules)=false /\
  ∃ xs,KT H kvs xs/\h.DictOfH (tupleKind (aX P w)) a xs:=fR ok (.inl e)
end
def bG(H:Hp)(a:Addr)(y:V)(r:Option V):Prop :=
 (∃ kvs k,Rd H a (.dK kvs)/\y=kV k/\r=bL kvs k)\/∃ kvs k b,Rd H a (.dT kvs)/\y=.ref b/\H b=some (.tup (k.map kV))/\r=bL kvs k
def iH(H:Hp)(a:Addr)(y v:V)(H':Hp):Prop :=
 (∃ kvs k,H a=some (.dK kvs)/\y=kV k/\kvs.length < sizeLine/\H'=upd H a (.dK (cR kvs k v))) \/
 ∃ kvs k b,H a=some (.dT kvs)/\y=.ref b/\H b=some (.tup (k.map kV))/\kvs.length < sizeLine/\H'=upd H a (.dT (cR kvs k v))
theorem bG.k{H:Hp}{a:Addr}{kvs:List (Key × V)}{k:Key}(e:H a=some (.dK kvs)):bG H a (kV k) (bL kvs k):=.inl ⟨kvs,k,.inl e,rfl,rfl⟩
theorem bG.t{H:Hp}{a b:Addr}{kvs:List (List Key × V)}{k:List Key}(e:H a=some (.dT kvs))(eb:H b=some (.tup (k.map kV))):bG H a (.ref b) (bL kvs k):=.inr ⟨kvs,k,b,.inl e,rfl,eb,rfl⟩
theorem iH.k{H:Hp}{a:Addr}{kvs:List (Key × V)}{k:Key}{v:V}(e:H a=some (.dK kvs))(hl:kvs.length < sizeLine):iH H a (kV k) v (upd H a (.dK (cR kvs k v))):=.inl ⟨kvs,k,e,rfl,hl,rfl⟩
theorem iH.t{H:Hp}{a b:Addr}{kvs:List (List Key × V)}{k:List Key}{v:V}(e:H a=some (.dT kvs))(eb:H b=some (.tup (k.map kV)))(hl:kvs.length < sizeLine) :
  iH H a (.ref b) v (upd H a (.dT (cR kvs k v))):=.inr ⟨kvs,k,b,e,rfl,eb,hl,rfl⟩
section
variable{X:Cx} {pins:List (Addr × Obj)} {σ:St} {H:Hp} {s:Shared} {a:Addr} {y v:V} {u r:Value} {o:Option V} {A:Around} {E:Value->Shared->Prop}
theorem Inv.big(I:Inv X pins σ H s):sysModules < s.heap.objs.size:=by
 have h:mainGlobals < s.heap.objs.size:=(I.mod.glob.keeps I.bk).lt;exact Nat.lt_trans (by decide) h
theorem qd{Q:Value->Shared->Prop}(hu:A.units+1 < cLine)(I:Inv X pins σ H s)(g:bG H a y (some v))(ry:aW y u)(h:∀ w' s',Inv X pins σ H s'->aW v w'->Q w' s') :
  wpAny (model X.prog X.w) A (getItem (.ref a) u) Q E s:=by
 rcases g with⟨kvs,k,e,ey,l⟩ | ⟨kvs,k,b,e,ey,eb,l⟩
 ·subst ey;obtain⟨z,hd,vs,rel,dd⟩:=fQ I.hok e;obtain⟨w',hw,rw'⟩:=eQ.some_of (v:=v) (o:=valueAt vs k) (by rw [l];exact rel.val k);exact wpAny_getItem_of (eA ry) dd.mapOf hw (h w' _ (I.tok _) rw')
 ·subst ey;cases (show u=Value.ref b from ry);obtain⟨z,hd,xs,rel,dd⟩:=fR I.hok e;obtain⟨w',hw,rw'⟩:=eQ.some_of (v:=v) (o:=(atKey xs k).map (·.2)) (by rw [l];exact rel.val k);obtain⟨p,hp,hp2⟩:=Option.map_eq_some_iff.mp hw;refine wpAny_getItem_heap (tupleKind_room_in1 hu) (fb I.hok eb) dd hp ?_;rw [hp2];exact h w' _ (I.tok _) rw'
theorem zE{Q:Value->Shared->Prop}(hu:A.units+1 < cLine)(I:Inv X pins σ H s)(g:bG H a y o)(ry:aW y u)(h:∀ s',Inv X pins σ H s'->Q (.bool o.isSome) s') :
  wpAny (model X.prog X.w) A (compareOp .In u (.ref a)) Q E s:=by
 rcases g with⟨kvs,k,e,ey,l⟩ | ⟨kvs,k,b,e,ey,eb,l⟩
 ·subst ey;obtain⟨z,hd,vs,rel,dd⟩:=fQ I.hok e;refine wpAny_in_of (eA ry) hd dd.mapOf ?_;rw [<-(rel.val k).isSome_eq,<-l];exact h _ (I.tok _)
 ·subst ey;cases (show u=Value.ref b from ry);obtain⟨z,hd,xs,rel,dd⟩:=fR I.hok e;refine wpAny_in_heap (tupleKind_room_in1 hu) (fb I.hok eb) hd dd ?_;have q:=(rel.val k).isSome_eq;rw [Option.isSome_map] at q;rw [<-q,<-l];exact h _ (I.tok _)
theorem uq{Q:Value->Shared->Prop}(hu:A.units+1 < cLine)(I:Inv X pins σ H s)(g:bG H a y o)(ry:aW y u)(h:∀ s',Inv X pins σ H s'->Q (.bool (!o.isSome)) s') :
  wpAny (model X.prog X.w) A (compareOp .NotIn u (.ref a)) Q E s:=by
 rcases g with⟨kvs,k,e,ey,l⟩ | ⟨kvs,k,b,e,ey,eb,l⟩
 ·subst ey;obtain⟨z,hd,vs,rel,dd⟩:=fQ I.hok e;refine wpAny_notIn_of (eA ry) hd dd.mapOf ?_;rw [<-(rel.val k).isSome_eq,<-l];exact h _ (I.tok _)
 ·subst ey;cases (show u=Value.ref b from ry);obtain⟨z,hd,xs,rel,dd⟩:=fR I.hok e;refine wpAny_notIn_heap (tupleKind_room_in1 hu) (fb I.hok eb) hd dd ?_;have q:=(rel.val k).isSome_eq;rw [Option.isSome_map] at q;rw [<-q,<-l];exact h _ (I.tok _)
theorem gA{h':Heap}{t':Nat}{ob:HO}(I:Inv X pins σ H s)(mu:Mut (H a))(hs:Heap.SameBut a s.heap h')(he:∃ q,h'.get? a=some q)(new:bB X.prog X.w (upd H a ob) h' a ob) :
  Inv X pins σ (upd H a ob) { s with heap:=h',toks:=t' } :=
 I.write (x:=a) (e:=a) mu (.inl rfl) (λb q hb z=>(hs.2 b hb).trans z) he new
theorem nU{P:Program}{w:World}{H':Hp}{h':Heap}{kvs:List (Key × V)}{vs:List (Key × Value)}(z:kvs.length<=sizeLine)(hd:(a == sysModules)=false)(rel:KV kvs vs)(dd:h'.DictOf (aX P w) a vs) :
  bB P w H' h' a (.dK kvs):=⟨z,hd,vs,rel,dd⟩
theorem qe{H':Hp}{Q:Unit->Shared->Prop}(hu:A.units+1 < cLine)(I:Inv X pins σ H s)(g:iH H a y v H')(ry:aW y u)(rv:aW v r)(h:∀ s',Inv X pins σ H' s'->Q () s') :
  wpAny (model X.prog X.w) A (setItem (.ref a) u r) Q E s:=by
 rcases g with⟨kvs,k,e,ey,l,eH⟩ | ⟨kvs,k,b,e,ey,eb,l,eH⟩
 ·subst ey eH;obtain⟨z,hd,vs,rel,dd⟩:=oX I.hok e;have hz:vs.length<=sizeLine:=by rw [<-rel.length];exact z
  have hl:(cR kvs k v).length<=sizeLine:=by have:=dU kvs k v;lia
  refine wpAny_setItem_pairs (hsz:=hz) (eA ry) dd λh' dd' hs=>h _ ?_;have he:∃ q,h'.get? a=some q:=let ⟨q,_,_,hq,_⟩:=dd';⟨q,hq⟩;exact gA I (by rw [e];exact True.intro) hs he (nU hl hd (rel.put k rv) dd')
 ·subst ey eH;cases (show u=Value.ref b from ry);obtain⟨z,hd,xs,rel,dd⟩:=vP I.hok e;have hz:xs.length<=sizeLine:=by rw [<-Paired.length rel];exact z
  have hl:(cR kvs k v).length<=sizeLine:=by have:=dU kvs k v;lia
  refine wpAny_setItem_heap (hsz:=hz) (tupleKind_room_in1 hu) (fb I.hok eb) dd λh' dd' hs=>h _ ?_;obtain⟨q,es,ep,hq,h2,h3,h4,_,h5⟩:=dd';refine gA I (by rw [e];exact True.intro) hs ⟨q,hq⟩ ⟨hl,hd,_,(rel.put k eb rv).keeps λc ys ec=>?_,q,es,ep,hq,h2,h3,h4,h5⟩;rw [af (be ec e (λz=>nomatch z))];exact ec
end
def wE(i:Expr):Prop:=∀ ov iv,subscripted i false ov iv=operate [ov,iv] (getItem ov iv)
theorem oY{prog:Program}{w:World}{A:Around}{E:Value->Shared->Prop}{s:Shared}{env:Env}{value slice:Expr}{pos:Pos}{T id:String}{Q:Value->Shared->Prop}
  (hl:typeLookup (.type T) "__getitem__"=pure (some (.builtin id))) (hs:wE slice)
  (h:wpAny (model prog w) A (eval value env) (λo s₁=>wpAny (model prog w) A (eval slice env) (λi s₂=>s₂.TypeIs o T/\wpAny (model prog w) A (getItem o i) Q E s₂) E s₁) E s) :
  wpAny (model prog w) A (eval (.Subscript value slice pos) env) Q E s:=by
 refine Subscript_ (Uk h (λo s₁ h₁=>Uk h₁ (λi s₂ h₂=>?_) λ_ _ x=>x) λ_ _ x=>x);obtain⟨hT,h₂⟩:=h₂;unfold subscriptTail;refine Qa ?_;rw [getitemInPython_of_ne hT.not_modules];refine Qa (wpAny_specialOf hT hl ?_);have fin:wpAny (model prog w) A (subscripted slice false o i) (λr s₃=>wpAny (model prog w) A (letTemporaryGo value o r >>= λ_=>pure r) Q E s₃) E s₂:=by
  rw [hs o i];exact wpAny_operating (Uk h₂ (λr s₃ h₃=>Qa (wpAny_letTemporaryGo (Qd h₃))) λ_ _ x=>x)
 first
  | exact Qd (Qa fin)
  | exact Qa (Qd (Qa fin))
  | exact Qa fin
theorem mi{X:Cx}{pins:List (Addr × Obj)}{σ:St}{H:Hp}{s:Shared}{a:Addr}{y:V}{o:Option V}(I:Inv X pins σ H s)(g:bG H a y o):s.TypeIs (.ref a) "dict":=by
 rcases g with⟨kvs,k,e,_,_⟩ | ⟨kvs,k,b,e,_,_,_⟩
 ·obtain⟨_,_,vs,_,dd⟩:=fQ I.hok e;exact dd.typeIs
 ·obtain⟨_,_,xs,_,dd⟩:=fR I.hok e;exact dd.typeIs
inductive rA(Q:VK)(x:V)(y:V)(H2:Hp):Prop
 | mk:∀ a v,(x=.ref a)->(bG H2 a y (some v))->(Q v H2)->rA Q x y H2
def xW(td ty:TE):TE:=λσ H Q=>td σ H λx H1=>ty σ H1 λy H2=>rA Q x y H2
inductive vQ(Q:VK)(y:V)(x:V)(H2:Hp):Prop
 | mk:∀ a o,(x=.ref a)->(bG H2 a y o)->(Q (.bl o.isSome) H2)->vQ Q y x H2
def zF(ty td:TE):TE:=λσ H Q=>ty σ H λy H1=>td σ H1 λx H2=>vQ Q y x H2
inductive mj(Q:VK)(y:V)(x:V)(H2:Hp):Prop
 | mk:∀ a o,(x=.ref a)->(bG H2 a y o)->(Q (.bl (!o.isSome)) H2)->mj Q y x H2
def ut(ty td:TE):TE:=λσ H Q=>ty σ H λy H1=>td σ H1 λx H2=>mj Q y x H2
inductive rB(D:gk)(σ:St)(v:V)(x:V)(y:V)(H3:Hp):Prop
 | mk:∀ a H4,(x=.ref a)->(iH H3 a y v H4)->(D.nx σ H4)->rB D σ v x y H3
def xX(td ty tv:TE):TS:=λD σ H=>tv σ H λv H1=>td σ H1 λx H2=>ty σ H2 λy H3=>rB D σ v x y H3
section
variable{X:Cx} {o i e value:Expr} {pos pos' tpos:Pos} {td ty tv:TE}
theorem a7(hu:X.A.units+1 < cLine)(ho:PE X o td)(hi:PE X i ty)(hs:wE i):PE X (.Subscript o i pos) (xW td ty):=by
 intro pins s σ H Q I h;refine oY PySem.F.slot_dict_getitem.lookup hs (thn (ho pins s σ H _ I h) λu s1 ⟨x,H1,I1,rx,q1⟩=>thn (hi pins s1 σ H1 _ I1 q1) λiv s2 ⟨y,H2,I2,ry,a,v,ex,g,q2⟩=>?_);subst ex;obtain rfl:u=Value.ref a:=rx;exact⟨mi I2 g,qd hu I2 g ry λw' s3 I3 rw'=>⟨v,H2,I3,rw',q2⟩⟩
theorem jd(hu:X.A.units+1 < cLine)(hi:PE X i ty)(ho:PE X o td):PC X .In i o (zF ty td):=by
 intro pins s σ H Q I h;refine thn (hi pins s σ H _ I h) λiv s1 ⟨y,H1,I1,ry,q1⟩=>thn (ho pins s1 σ H1 _ I1 q1) λu s2 ⟨x,H2,I2,rx,a,ov,ex,g,q2⟩=>?_;subst ex;obtain rfl:u=Value.ref a:=rx;exact zE hu I2 g ry λs3 I3=>⟨.bl ov.isSome,H2,I3,rfl,q2⟩
theorem hJ(hu:X.A.units+1 < cLine)(hi:PE X i ty)(ho:PE X o td):PC X .NotIn i o (ut ty td):=by
 intro pins s σ H Q I h;refine thn (hi pins s σ H _ I h) λiv s1 ⟨y,H1,I1,ry,q1⟩=>thn (ho pins s1 σ H1 _ I1 q1) λu s2 ⟨x,H2,I2,rx,a,ov,ex,g,q2⟩=>?_;subst ex;obtain rfl:u=Value.ref a:=rx;exact uq hu I2 g ry λs3 I3=>⟨.bl (!ov.isSome),H2,I3,rfl,q2⟩
theorem fw(hu:X.A.units+1 < cLine)(ho:PE X o td)(hi:PE X i ty)(hv:PE X value tv)(hs:swapsWith value (some (.Subscript o i pos')) pos.line X.env=pure false) :
  PS X (.Assign [.Subscript o i pos'] value pos) (xX td ty tv):=by
 intro pins s σ H D I h;refine wpAny_Assign_Subscript (thn (hv pins s σ H _ I h) λr s1 ⟨v,H1,I1,rv,q1⟩=>thn (ho pins s1 σ H1 _ I1 q1) λu s2 ⟨x,H2,I2,rx,q2⟩=>thn (hi pins s2 σ H2 _ I2 q2) λiv s3 ⟨y,H3,I3,ry,a,H4,ex,g,q3⟩=>?_) hs;subst ex;obtain rfl:u=Value.ref a:=rx;exact qe hu I3 g ry rv λs4 I4=>⟨σ,H4,I4,q3⟩
end
theorem ml{P:Program}{w:World}{H:Hp}(h:Heap)(hb:sysModules < h.objs.size):bB P w H (h.push { cls:=.type "dict",data:=.dict #[] }) h.objs.size (.dK []) :=
 ⟨Uh _,UH.mpr (Ne.symm (QP hb)),[],.nil,Heap.DictOf.new h⟩
theorem rC{P:Program}{w:World}{H:Hp}(h:Heap)(hb:sysModules < h.objs.size):bB P w H (h.push { cls:=.type "dict",data:=.dict #[] }) h.objs.size (.dT []) :=
 ⟨Uh _,UH.mpr (Ne.symm (QP hb)),[],.nil,_,#[],0,QE _ rfl,⟨rfl,rfl,rfl⟩,rfl,rfl,UP⟩
def wF:TE:=λ_ H Q=>∀ p,H p=none->Q (.ref p) (upd H p (.dK []))
def wG:TE:=λ_ H Q=>∀ p,H p=none->Q (.ref p) (upd H p (.dT []))
section
variable{X:Cx} {pos:Pos}
theorem je:PE X (.Dict [] [] pos) wF:=λpins s σ H Q I h =>
 wpAny_Dict_empty ⟨.ref s.heap.objs.size,_,I.laid (a:=s.heap.objs.size) (o:=.dK []) (t':=s.toks) (λ_ _ q=>Qm _ q) (Qk _) (ml s.heap I.big),rfl,h _ (I.hok.fresh (Qk _))⟩
theorem rD:PE X (.Dict [] [] pos) wG:=λpins s σ H Q I h =>
 wpAny_Dict_empty ⟨.ref s.heap.objs.size,_,I.laid (a:=s.heap.objs.size) (o:=.dT []) (t':=s.toks) (λ_ _ q=>Qm _ q) (Qk _) (rC s.heap I.big),rfl,h _ (I.hok.fresh (Qk _))⟩
end
def nV:List (TE × TE)->St->Hp->(List (V × V)->Hp->Prop)->Prop
 | [],_,H,Q=>Q [] H
 | (tk,tv) :: r,σ,H,Q=>tk σ H λx H1=>tv σ H1 λy H2=>nV r σ H2 λps H3=>Q ((x,y) :: ps) H3
abbrev VV:List (V × V)->List (Value × Value)->Prop:=Paired λp q=>aW p.1 q.1/\aW p.2 q.2
def PPs(X:Cx)(pos:Pos)(keys:List (Option Expr))(values:List Expr)(trs:List (TE × TE)):Prop :=
 ∀(pins:List (Addr × Obj)) (s:Shared) (σ:St) (H:Hp) (Q:List (V × V)->Hp->Prop),Inv X pins σ H s->nV trs σ H Q ->
  wpAny (model X.prog X.w) X.A (evalPairs (pairTrees keys values X.env pos)) (λvs s'=>∃ ps H',Inv X pins σ H' s'/\VV ps vs/\Q ps H') X.xe s
theorem k6{X:Cx}{pos:Pos}:PPs X pos [] [] []:=λpins s σ H Q I h=>pairTrees_nil_walk ⟨[],H,I,.nil,h⟩
theorem eB{X:Cx}{pos:Pos}{k v:Expr}{ks:List (Option Expr)}{vs:List Expr}{tk tv:TE}{trs:List (TE × TE)}(hk:PE X k tk)(hv:PE X v tv)(hr:PPs X pos ks vs trs) :
  PPs X pos (some k :: ks) (v :: vs) ((tk,tv) :: trs):=λpins s σ H Q I h =>
 pairTrees_cons_walk (thn (hk pins s σ H _ I h) λu s1 ⟨x,H1,I1,rx,q1⟩=>thn (hv pins s1 σ H1 _ I1 q1) λw2 s2 ⟨y,H2,I2,ry,q2⟩ =>
  thn (hr pins s2 σ H2 _ I2 q2) λws s3 ⟨ps,H3,I3,rel,q3⟩=>⟨(x,y) :: ps,H3,I3,.cons ⟨rx,ry⟩ rel,q3⟩)
def hV(kvs more:List (Key × V)):List (Key × V):=more.foldl (λacc kv=>cR acc kv.1 kv.2) kvs
theorem KV.merge:∀{more:List (Key × V)} {rs:List (Key × Value)} {kvs:List (Key × V)} {vs:List (Key × Value)},KV more rs->KV kvs vs->KV (hV kvs more) (merged vs rs):=by
 intro more rs kvs vs r;unfold KV at r
 induction r generalizing kvs vs with
 | nil=>intro q;exact q
 | @cons p q ps qs h t ih =>
  intro r0;have e:KV (cR kvs p.1 p.2) (stored vs q.1 q.2):=by
   have:=r0.put p.1 h.2;rw [<-h.1];exact this
  exact ih e
theorem fS:∀(more kvs:List (Key × V)),(hV kvs more).length<=kvs.length+more.length
 | [],kvs=>by show kvs.length<=kvs.length+0;lia
 | p :: r,kvs=>by
  have h1:=fS r (cR kvs p.1 p.2);have h2:=dU kvs p.1 p.2;show(hV (cR kvs p.1 p.2) r).length<=_;rw [QL];lia
theorem jf{P:Program}{w:World}:∀{kvs:List (Key × V)} {ws:List (Value × Value)},VV (kvs.map λkv=>(kV kv.1,kv.2)) ws->∃ rs,Carries (aX P w) ws rs/\KV kvs rs
 | [],_,r=>by rw [List.map_nil] at r;cases r;exact⟨[],True.intro,.nil⟩
 | p :: kvs,_,r=>by
  rw [Uo] at r;cases r with
  | @cons a b as bs h t =>
   obtain⟨rs,c,q⟩:=jf (P:=P) (w:=w) t;obtain⟨b1,b2⟩:=b;exact⟨(p.1,b2) :: rs,⟨eA h.1,rfl,c⟩,.cons ⟨rfl,h.2⟩ q⟩
def xY(trs:List (TE × TE)):TE:=λσ H Q=>∀ p,H p=none->nV trs σ (upd H p (.dK [])) λps H2=>H2 p=some (.dK [])/\∃ kvs:List (Key × V),ps=kvs.map (λkv=>(kV kv.1,kv.2))/\kvs.length<=15/\Q (.ref p) (upd H2 p (.dK (hV [] kvs)))
theorem k7{X:Cx}{pos:Pos}{keys:List (Option Expr)}{values:List Expr}{trs:List (TE × TE)}(h:PPs X pos keys values trs)(hall:keys.all (·.isSome)=true)(hl:keys.length=values.length)(h0:keys≠[])
  (h15:keys.length<=15):PE X (.Dict keys values pos) (xY trs):=by
 intro pins s σ H Q I q;have hn:=I.hok.fresh (Qk s.heap.objs.size);have I1:=I.laid (a:=s.heap.objs.size) (o:=.dK []) (h':=s.heap.push { cls:=.type "dict",data:=.dict #[] }) (t':=s.toks) (λ_ _ q=>Qm _ q) (Qk _) (ml s.heap I.big);refine wpAny_Dict_walk (knd:=aX X.prog X.w) hall hl h0 h15 (thn (h pins _ σ _ _ I1 (q _ hn)) λws s2 ⟨ps,H2,I2,rel,e,kvs,ep,lk,q2⟩=>?_);subst ep;obtain⟨rs,c,rk⟩:=jf (P:=X.prog) (w:=X.w) rel;obtain⟨z,hd,vs0,r0,dd⟩:=oX I2.hok e;cases r0;refine⟨rs,c,dd,λh' dd' hs=>⟨.ref s.heap.objs.size,_,?_,rfl,q2⟩⟩;have hz:(hV [] kvs).length<=sizeLine:=by
  have h1:=fS kvs [];rw [Vs] at h1;rw [sizeLine_eq];lia
 have he:∃ q,h'.get? s.heap.objs.size=some q:=let ⟨q,_,_,hq,_⟩:=dd';⟨q,hq⟩;exact gA I2 (by rw [e];exact True.intro) hs he (nU hz hd (rk.merge .nil) dd')
structure M1(X:Cx)(o:Expr)(m:Str)(apos:Pos)(e:Expr)(cpos:Pos):Prop where
 base:attributeBase o m X.env (eval o X.env)=eval o X.env
 few:((backTo cpos (starEach [e] X.env)).all (λx=>!x.1) && (backToKw cpos (keywordEach [] X.env)).all (λx=>x.1.isSome)
  && decide (([e]:List Expr).length+([]:List Keyword).length+(if ([]:List Keyword).isEmpty then 0 else 1) < 30))=true
 line:(apos.endLine == cpos.line)=true
 trees:backTo cpos (starEach [e] X.env)=[(false,eval e X.env)]
structure M2(X:Cx)(o:Expr)(m:Str)(apos:Pos)(e f:Expr)(cpos:Pos):Prop where
 base:attributeBase o m X.env (eval o X.env)=eval o X.env
 few:((backTo cpos (starEach [e,f] X.env)).all (λx=>!x.1) && (backToKw cpos (keywordEach [] X.env)).all (λx=>x.1.isSome)
  && decide (([e,f]:List Expr).length+([]:List Keyword).length+(if ([]:List Keyword).isEmpty then 0 else 1) < 30))=true
 line:(apos.endLine == cpos.line)=true
 trees:backTo cpos (starEach [e,f] X.env)=[(false,eval e X.env),(false,eval f X.env)]
def IsD(H:Hp)(a:Addr):Prop:=(∃ kvs,Rd H a (.dK kvs))\/∃ kvs,Rd H a (.dT kvs)
theorem k8{X:Cx}{pins:List (Addr × Obj)}{σ:St}{H:Hp}{s:Shared}{a:Addr}(I:Inv X pins σ H s)(d:IsD H a) :
  s.TypeIs (.ref a) "dict"/\(∀ b,Value.ref a=.ref b->∃ ob,s.heap.get? b=some ob/\ob.dict=none)/\(a == sysModules)=false:=by
 rcases d with⟨kvs,e⟩ | ⟨kvs,e⟩
 ·obtain⟨_,hd,vs,_,dd⟩:=fQ I.hok e;refine⟨dd.typeIs,λb q=>?_,hd⟩;cases q;obtain⟨ob,_,_,h1,h2,_⟩:=dd;exact⟨ob,h1,h2.2.1⟩
 ·obtain⟨_,hd,xs,_,dd⟩:=fR I.hok e;refine⟨dd.typeIs,λb q=>?_,hd⟩;cases q;obtain⟨ob,_,_,h1,h2,_⟩:=dd;exact⟨ob,h1,h2.2.1⟩
section
variable{X:Cx} {pins:List (Addr × Obj)} {σ:St} {H:Hp} {s:Shared} {a:Addr} {y d:V} {u r:Value} {o:Option V} {A:Around} {E:Value->Shared->Prop}
theorem wH{Q:Value->Shared->Prop}(hu:A.units+1 < cLine)(I:Inv X pins σ H s)(g:bG H a y o)(ry:aW y u)(h:∀ w' s',Inv X pins σ H s'->aW (o.getD .non) w'->Q w' s') :
  wpAny (model X.prog X.w) A (call (.builtin "dict.get") [.ref a,u]) Q E s:=by
 rcases g with⟨kvs,k,e,ey,l⟩ | ⟨kvs,k,b,e,ey,eb,l⟩
 ·subst ey;obtain⟨z,hd,vs,rel,dd⟩:=fQ I.hok e;refine call_meetsIn UQ dd.typeIs Vh (PySem.F.args_dict_get_2 _ _) (meets_dict_get (aX X.prog X.w) a (eA ry) hd) ⟨_,dd.mapOf,h _ _ (I.tok _) ?_⟩;rw [l];exact(rel.val k).getD rfl
 ·subst ey;cases (show u=Value.ref b from ry);obtain⟨z,hd,xs,rel,dd⟩:=fR I.hok e;refine call_meetsIn UQ dd.typeIs Vh (PySem.F.args_dict_get_2 _ _) (meetsH_dict_get (tupleKind (aX X.prog X.w)) a b hd) ⟨tupleKind_room_in1 hu,k,xs,fb I.hok eb,dd,h _ _ (I.tok _) ?_⟩;rw [l];exact(rel.val k).getD rfl
theorem wI{Q:Value->Shared->Prop}(hu:A.units+1 < cLine)(I:Inv X pins σ H s)(g:bG H a y o)(ry:aW y u)(rd:aW d r)(h:∀ w' s',Inv X pins σ H s'->aW (o.getD d) w'->Q w' s') :
  wpAny (model X.prog X.w) A (call (.builtin "dict.get") [.ref a,u,r]) Q E s:=by
 rcases g with⟨kvs,k,e,ey,l⟩ | ⟨kvs,k,b,e,ey,eb,l⟩
 ·subst ey;obtain⟨z,hd,vs,rel,dd⟩:=fQ I.hok e;refine call_meetsIn UQ dd.typeIs Vh (PySem.F.args_dict_get_3 _ _ _) (meets_dict_get_default (aX X.prog X.w) a (eA ry) hd r) ⟨_,dd.mapOf,h _ _ (I.tok _) ?_⟩;rw [l];exact(rel.val k).getD rd
 ·subst ey;cases (show u=Value.ref b from ry);obtain⟨z,hd,xs,rel,dd⟩:=fR I.hok e;refine call_meetsIn UQ dd.typeIs Vh (PySem.F.args_dict_get_3 _ _ _) (meetsH_dict_get_default (tupleKind (aX X.prog X.w)) a b hd r) ⟨tupleKind_room_in1 hu,k,xs,fb I.hok eb,dd,h _ _ (I.tok _) ?_⟩;rw [l];exact(rel.val k).getD rd
end
def wJ(td ty:TE):TE:=λσ H Q=>td σ H λx H1=>∃ a,x=.ref a/\IsD H1 a/\ty σ H1 λy H2=>∃ o,bG H2 a y o/\Q (o.getD .non) H2
def wK(td ty tx:TE):TE:=λσ H Q=>td σ H λx H1=>∃ a,x=.ref a/\IsD H1 a/\ty σ H1 λy H2=>tx σ H2 λz H3=>∃ o,bG H3 a y o/\Q (o.getD z) H3
section
variable{X:Cx} {o e f:Expr} {apos cpos:Pos} {td ty tx:TE}
theorem rE(hu:X.A.units+1 < cLine)(ho:PE X o td)(he:PE X e ty)(m:M1 X o "get" apos e cpos):PE X (.Call (.Attribute o "get" apos) [e] [] cpos) (wJ td ty):=by
 intro pins s σ H Q I h;refine VB m.base m.few m.line US UQ PySem.F.type_dict_get (thn (ho pins s σ H _ I h) λu s1 ⟨x,H1,I1,rx,a,ex,d,q1⟩=>?_);subst ex;obtain rfl:u=Value.ref a:=rx;obtain⟨t1,t2,_⟩:=k8 I1 d;refine⟨t1,t2,?_⟩;rw [m.trees];refine Calls.callWith_builtin rfl (Calls.evalArgs_plain (Calls.spliced_cons (thn (he pins s1 σ H1 _ I1 q1) λiv s2 ⟨y,H2,I2,ry,ov,g,q2⟩=>Calls.spliced_nil ?_)));exact wH hu I2 g ry λw' s3 I3 rw'=>⟨_,H2,I3,rw',q2⟩
theorem gB(hu:X.A.units+1 < cLine)(ho:PE X o td)(he:PE X e ty)(hf:PE X f tx)(m:M2 X o "get" apos e f cpos):PE X (.Call (.Attribute o "get" apos) [e,f] [] cpos) (wK td ty tx):=by
 intro pins s σ H Q I h;refine VB m.base m.few m.line US UQ PySem.F.type_dict_get (thn (ho pins s σ H _ I h) λu s1 ⟨x,H1,I1,rx,a,ex,d,q1⟩=>?_);subst ex;obtain rfl:u=Value.ref a:=rx;obtain⟨t1,t2,_⟩:=k8 I1 d;refine⟨t1,t2,?_⟩;rw [m.trees];refine Calls.callWith_builtin rfl (Calls.evalArgs_plain (Calls.spliced_cons (thn (he pins s1 σ H1 _ I1 q1) λiv s2 ⟨y,H2,I2,ry,q2⟩ =>
  Calls.spliced_cons (thn (hf pins s2 σ H2 _ I2 q2) λfv s3 ⟨z,H3,I3,rz,ov,g,q3⟩=>Calls.spliced_nil ?_))))
 exact wI hu I3 g ry rz λw' s4 I4 rw'=>⟨_,H3,I4,rw',q3⟩
end
end L2
namespace Att
open PySem PySem.W PySem.Calls PyProof.Rows
theorem iI{P:Params}{h:Heap}:∀(ns:List Int) (vs:List Value),WellAll P h vs (ns.map WData.int)->IntsAre vs ns:=by
 intro ns
 induction ns with
 | nil =>
  intro vs w;rw [List.map_nil] at w;cases w;exact .nil
 | cons n ns ih =>
  intro vs w;rw [Uo] at w;cases w with
  | cons a b =>
   cases a;exact .cons _ _ (ih _ b)
theorem qg{l:OpenLaw}{n:Nat}(hn:l.most=some n){P:Params}{h:Heap}{args:List WData}{vals:List Value}
  (hpre:l.row.toRowW.claim.pre args=true) (hwl:WellAll P h vals args) :
  ∃ a vs ns,vals=[Value.ref a]/\args=[WData.list (ns.map WData.int)]/\h.get? a=some { cls:=.type "list",data:=.seq vs.toArray }/\IntsAre vs ns/\ns.length<=n:=by
 have hsh:WShape.hasAll [] args [.list .int]=true:=(pre_splitW hpre).1;have hc:l.pre.holds [] { args:=args }=true:=(pre_splitW hpre).2;obtain⟨d,r,rfl,h1,h2⟩:=hasAllW_cons hsh;obtain rfl:=hasAllW_nil h2;obtain⟨xs,rfl,h3⟩:=hasW_list h1;obtain⟨ns,rfl⟩:=items_int h3;have hlen:ns.length<=n:=by
  unfold OpenLaw.pre at hc;have h4:(WTm.not (.lt (.lit (.int (n:Int))) (.len (.arg 0)))).holds [] { args:=[.list (ns.map .int)] }=true:=by
   have h4:=(holds_andW hc).1;rw [hn] at h4;exact h4
  have h5:=condW_of h4 (w_not (w_lt w_lit (w_len_list (w_arg rfl))));rw [Qc] at h5;refine Nat.le_of_not_lt λq=>?_;have q':(n:Int) < ((ns.length:Nat):Int):=by lia
  first
   | (rw [Qh q'] at h5;exact Qs h5 (by decide))
   | (simp at h5;lia)
 cases hwl with
 | cons w1 w2 =>
  cases w2;cases w1 with
  | list ho hall=>exact⟨_,_,ns,rfl,rfl,ho,iI ns _ hall,hlen⟩
theorem qh(l:OpenLaw)(args:List WData):l.row.toRowW.claim.post args (.bool true) args=true :=
 postW_of (r:=l.row.toRowW) (X:=(true == true))
  (show WShape.has [] (.bool true) .bool=true by first | rfl | decide | simp [WShape.has,WShape.arms,WShape.armsAll])
  (show(WTm.eq .res (.lit (.bool true))).value [] { args:=args,res:=some (.bool true),after:=args }=some (.bool (true == true)) from w_eq_bool (w_res rfl) w_lit) rfl
theorem attach_call{l:OpenLaw}{n:Nat}{q:Program}{loose:List Str}{XP:(Str->Option Value)->Heap->Prop}{YP:World->Heap->Prop}{d:DefRec}
  (hn:l.most=some n) (hdf:d.params.defaults=[])
  (call:∀(w:World) (s₀ s₁:Shared) (mg mb:Str->Option Value) (fa:Addr) (o:Obj) (pm cd doc:Value) (a:Addr) (vs:List Value) (ns:List Int),
   Ground q loose [] XP w s₀ mg mb s₁.heap->YP w s₁.heap ->
   s₁.heap.get? fa=some o->o.data=.func (docDef d.name d.params d.body d.scope pm cd doc)->s₁.heap.CodeRec cd d.name->mg d.name=some (.ref fa) ->
   s₁.heap.get? a=some { cls:=.type "list",data:=.seq vs.toArray }->IntsAre vs ns->ns.length<=n->s₁.gens=#[] ->
   codeAny (model l.prog w) callerA (.call (.ref fa) ⟨[.ref a],[]⟩) (λr s'=>r=.ok (.ret (.bool true))/\OldK s₁.heap s'.heap/\s'.os=s₁.os/\AllBare s'.gens) s₁) :
  WalkO q loose XP YP l.row.toRowW d [] (λf vs=>PySem.call f vs):=by
 intro w s₀ s₁ mg mb G Y fa o pm cd doc dV kV ho hd hcd hD hmg hg args vals as hpre hlay hrd hwl hlo;obtain rfl:dV=.none:=Dflts.none hD hdf;obtain rfl:kV=.none:=Dflts.noKw hD;obtain⟨a,vs,ns,rfl,rfl,hobj,hints,hlen⟩:=qg hn hpre hwl;refine enter_call (codeAny_mono (call w s₀ s₁ mg mb fa o pm cd doc a vs ns G Y ho (fd_plain hd) hcd hmg hobj hints hlen hg) λr s' hq=>?_);obtain⟨rfl,h2,h3,h4⟩:=hq;exact⟨.inl ⟨.bool true,.bool true,[],rfl,λ_=>rfl,.bool true,qh l _,λ_=>⟨List.Pairwise.nil,λ_ hm=>(nomatch hm)⟩⟩,h2,h3,h4⟩
end Att
namespace L2
open PySem PySem.Spec PyProof.Rows
theorem ke:∀{vs:List Value} {ns:List Int},IntsAre vs ns->aS (ns.map V.int) vs
 | _,_,.nil=>.nil
 | _,_,.cons n t h=>.cons ⟨t,rfl⟩ (ke h)
end L2
namespace L2
open PySem PySem.Spec PyProof.Rows
def cq(s:Stmt)(j:Nat):Stmt:=match s with
 | .ClassDef _ _ _ body _ _ _ _ _ _ _=>body.getD j (.Pass ⟨0,0,0,0⟩)
 | _=>.Pass ⟨0,0,0,0⟩
def aK(s:Stmt):Arguments:=match s with
 | .FunctionDef _ a _ _ _ _ _ _ _ _=>a
 | _=>{ posonlyargs:=[],args:=[],vararg:=none,kwonlyargs:=[],kw_defaults:=[],kwarg:=none,defaults:=[] }
def aE(s:Stmt):List Stmt:=match s with
 | .FunctionDef _ _ b _ _ _ _ _ _ _=>b
 | _=>[]
def am(s:Stmt):Scope:=match s with
 | .FunctionDef _ _ _ _ _ _ sc _ _ _=>sc
 | _=>{ kind:=.function,names:=[],isGenerator:=false,isCoroutine:=false }
abbrev CX0:CXT:=λ_ _ _ _ _ _=>False
abbrev E0:XK:=λ_ _ _=>False
theorem bg{X:Cx}:dy CX0 X E0:=λ_ _ _ _ _ _ _ h=>h.elim
structure Fun(K:W.Frag)(x qual:Str)(st:Stmt)(f:Addr)(fd:FuncData):Prop where
 ex:∃(oc:Value) (od:Option Addr) (kV doc pm:Value) (an:Option Addr) (cdv ct:Value) (osl:Array (Option Value)),
  fd=W.fnOf x qual (aK st) (aE st) (am st) .none kV doc pm an cdv ct/\K.lookup f=some ⟨oc,od,.func fd,osl⟩/\W.codeIn K cdv qual=true
 kp:W.keepIn K (.ref f)=true
section
variable{P:Program} {w:World} {K:W.Frag} {mg:Str->Option Value} {base:Heap}
theorem Fun.ok{x qual:Str}{st:Stmt}{f:Addr}{fd:FuncData}{N ps:List Str}{k:Nat}{sp:Sp}(F:Fun K x qual st f fd)(S:aI N ps (am st))(len:∀ vs H Q E,sp vs H Q E->vs.length=ps.length)
  (hbody:∀(cdv:Value) (A:Around) (outer:List Env) (s:Shared) (H:Hp) (vs:List V) (Q:VK) (E:XK),bO k (A.deeper (envOfC qual (am st) s.heap.objs.size f cdv))->sp vs H Q E ->
   ∃ t,PSs (ja CX0 P w K mg base N qual (am st) f cdv A outer s H E).nox (aE st) t/\t { nx:=λ_ H'=>Q .non H',rt:=Q } (start N vs) H):aF P w K mg base CX0 (k+1) f fd ps sp:=by
 obtain⟨oc,od,kV,doc,pm,an,cdv,ct,osl,rfl,lk,hcd⟩:=F.ex;refine q8 lk hcd S len λA outer s H vs Q E hr hsp=>?_;obtain⟨t,h,q⟩:=hbody cdv A outer s H vs Q E hr hsp;exact⟨t,h.nox,q⟩
theorem Fun.binds{x qual:Str}{st:Stmt}{f:Addr}{fd:FuncData}{ps:List Str}(F:Fun K x qual st f fd)
  (h:∀(kV doc pm:Value) (an:Option Addr) (cdv ct:Value) (us:List Value),us.length=ps.length->bindArgs (W.fnOf x qual (aK st) (aE st) (am st) .none kV doc pm an cdv ct) ⟨us,[]⟩=pure (ps.zip us)):aY K fd ps []:=by
 obtain⟨oc,od,kV,doc,pm,an,cdv,ct,osl,rfl,lk,hcd⟩:=F.ex;exact .all (h kV doc pm an cdv ct)
theorem aQ{x qual:Str}{st:Stmt}{f:Addr}{oc:Value}{od an:Option Addr}{osl:Array (Option Value)}{kV doc pm cdv ct:Value}(l:K.lookup f=some ⟨oc,od,.func (W.fnOf x qual (aK st) (aE st) (am st) .none kV doc pm an cdv ct),osl⟩)
  (c:W.codeIn K cdv qual=true) (k:W.keepIn K (.ref f)=true):Fun K x qual st f (W.fnOf x qual (aK st) (aE st) (am st) .none kV doc pm an cdv ct):=⟨⟨oc,od,kV,doc,pm,an,cdv,ct,osl,rfl,l,c⟩,k⟩
end
theorem cE{A:Around}{k:Nat}(hr:bO k A):A.units+1 < cLine:=Nat.lt_of_le_of_lt (Nat.add_le_add_left (by decide:1<=64) _) hr.units
theorem aB{n:Nat}(h:n<=1000):n < sizeLine:=Nat.lt_of_le_of_lt h (by decide)
section
variable{X:Cx}
theorem pv(i:Nat){x:Str}{pos:Pos}(hN:X.N[i]?=some x:=by rfl)(hv:Vis X.env.scope x:=by first | exact Or.inl rfl | exact Or.inr (Or.inl rfl) | exact Or.inr (Or.inr rfl))(hd:(x == ("__debug__":Str))=false:=by decide)
  (hcd:(x == ("__classdict__":Str))=false:=by decide):PE X (.Name x pos) (qJ i):=wp hN hv hd hcd
end
theorem bt{A B:Prop}(h:B):if false=true then A else B:=by
 rw [Qf Qj];exact h
theorem bM{A B:Prop}(h:A):if true=true then A else B:=by
 rw [Qn rfl];exact h
theorem cF{c A B:Prop} [Decidable c] (h1:c->A) (h2:¬ c->B):if c then A else B:=by
 by_cases h:c
 ·rw [Qn h];exact h1 h
 ·rw [Qf h];exact h2 h
theorem gC{c A B:Prop} [Decidable c] (hc:c) (h:B):if (!decide c)=true then A else B:=by
 rw [Qh hc];exact bt h
def aw(H H':Hp):Prop:=∀ b o,H b=some o->H' b=some o
theorem aw.refl(H:Hp):aw H H:=λ_ _ h=>h
theorem aw.trans{H H1 H2:Hp}(a:aw H H1)(b:aw H1 H2):aw H H2:=λc o h=>b c o (a c o h)
theorem aw.free{H H':Hp}(e:aw H H'){l:Addr}(h:H' l=Option.none):H l=Option.none:=by
 cases q:H l with
 | none=>rfl
 | some o =>
  rw [e l o q] at h;cases h
theorem aw.seq{K:W.Frag}{H H':Hp}{a:Addr}{xs:List V}(e:aw H H')(h:SqL K H a xs):SqL K H' a xs:=by
 rcases h with(h | ⟨o,h⟩) | h
 ·exact .inl (.inl (e _ _ h))
 ·exact .inl (.inr ⟨o,e _ _ h⟩)
 ·exact .inr h
section
variable{κ:Type} [DecidableEq κ]
theorem dj:∀{l:List κ} {k:κ},l.Nodup->¬ k∈l->(l++[k]).Nodup
 | [],k,_,_=>by simp
 | a :: r,k,h,hk=>by
  obtain⟨h1,h2⟩:=QN.mp h;show(a :: (r++[k])).Nodup;refine QN.mpr ⟨λm=>?_,dj h2 λm=>hk (Qi.mpr (Or.inr m))⟩;rcases Qr.mp m with q | q
  ·exact h1 q
  ·exact hk (Qi.mpr (Or.inl (Qo.mp q).symm))
theorem qi{p:κ × V}{r:List (κ × V)}{k:κ}(e:p.1=k):et (p :: r) k=et r k:=by
 unfold et;rw [QS,Qf (by simp [e])]
theorem kg{p:κ × V}{r:List (κ × V)}{k:κ}(e:¬ p.1=k):et (p :: r) k=p :: et r k:=by
 unfold et;rw [QS,Qn (by simp [e])]
theorem mm:∀{kvs:List (κ × V)} {k:κ},¬ k∈kvs.map (·.1)->et kvs k=kvs
 | [],_,_=>rfl
 | p :: r,k,h=>by
  have h':¬ k∈r.map (·.1):=λm=>by
   obtain⟨q,hq,e⟩:=Qg.mp m;exact h (Qg.mpr ⟨q,Qi.mpr (Or.inr hq),e⟩)
  rw [kg λe=>h (Qg.mpr ⟨p,Qi.mpr (Or.inl rfl),e⟩),mm h']
end
end L2
set_option maxHeartbeats 4000000
namespace L2
open PySem PySem.Spec PyProof.Rows
section
variable{X:Cx}
theorem bu:eh X (.builtin "isinstance") (λxs H Q=>∃ x n t b,xs=[x,.ty n]/\g0 X.K H x t/\W.kitOne X.K t (.type n)=some b/\Q (.bl b) H):=by
 intro pins s σ H xs us Q I r h;obtain⟨x,n,t,b,rfl,ty,e,q⟩:=h;obtain⟨u,v,rfl,rx,rv⟩:=r.two;cases (show v=Value.type n from rv);exact qb I rx ty e λtk=>⟨.bl b,H,I.tok tk,rfl,q⟩
end
theorem bK(K:W.Frag)(T:String):W.kitOne K (.type T) (.type T)=some true:=by
 unfold W.kitOne;rw [Qn (UA _)]
theorem k9(K:W.Frag):W.kitOne K (.type "int") (.type "bool")=some false:=by
 show(if (Value.type "int" == Value.type "bool")=true then some true else if W.kitMeta "bool"=true then (PySem.fastBuiltinMro "int").map (·.contains (.type "bool")) else none)=some false;decide +kernel
mutual
inductive DtV(K:W.Frag)(H:Hp):V->PyData->Prop
 | non:DtV K H .non .none
 | bl (b:Bool):DtV K H (.bl b) (.bool b)
 | int (i:Int):DtV K H (.int i) (.int i)
 | str (x:Str):DtV K H (.str x) (.str x)
 | lst {a:Addr} {xs:List V} {ds:List PyData}:SqL K H a xs->eE K H xs ds->DtV K H (.ref a) (.list ds)
 | tup {a:Addr} {xs:List V} {ds:List PyData}:SqT K H a xs->eE K H xs ds->DtV K H (.ref a) (.tuple ds)
inductive eE(K:W.Frag)(H:Hp):List V->List PyData->Prop
 | nil:eE K H [] []
 | cons {x:V} {d:PyData} {xs:List V} {ds:List PyData}:DtV K H x d->eE K H xs ds->eE K H (x :: xs) (d :: ds)
end
section
variable{X:Cx} {pins:List (Addr × Obj)} {σ:St} {H:Hp} {s:Shared}
theorem DtV.reads(I:Inv X pins σ H s){v:V}{d:PyData}(h:DtV X.K H v d):∀ u,aW v u->∃ as,Reads s.heap u d as:=by
 refine DtV.rec (motive_1:=λv d _=>∀ u,aW v u->∃ as,Reads s.heap u d as) (motive_2:=λvs ds _=>∀ us,aS vs us->∃ as,ReadsAll s.heap us ds as) ?_ ?_ ?_ ?_ ?_ ?_ ?_ ?_ h
 ·intro u r;cases (show u=Value.none from r);exact⟨_,.none⟩
 ·intro b u r;cases (show u=Value.bool b from r);exact⟨_,.bool b⟩
 ·intro i u r;obtain⟨t,rfl⟩:=(show ∃ t,u=Value.int i t from r);exact⟨_,.int i t⟩
 ·intro x u r;obtain⟨t,rfl⟩:=(show ∃ t,u=Value.str x t from r);exact⟨_,.str x t⟩
 ·intro a xs ds hq _ ih u r;cases (show u=Value.ref a from r);obtain⟨its,rv,⟨o,n,e,c,_,dd⟩,_⟩:=I.list hq;obtain⟨as,ra⟩:=ih its rv;exact⟨_,.list e c dd (by simpa using ra)⟩
 ·intro a xs ds hq _ ih u r;cases (show u=Value.ref a from r);obtain⟨its,rv,⟨o,e,c,n,dd⟩,_⟩:=I.tuple hq;obtain⟨as,ra⟩:=ih its rv;exact⟨_,.tuple e c dd (by simpa using ra)⟩
 ·intro us r;cases r;exact⟨_,.nil⟩
 ·intro x d xs ds _ _ ih1 ih2 us r;cases r with
  | cons r1 r2 =>
   obtain⟨as,h1⟩:=ih1 _ r1;obtain⟨bs,h2⟩:=ih2 _ r2;exact⟨_,.cons h1 h2⟩
end
inductive vR(K:PySem.W.Frag)(x:V)(y:V)(H:Hp)(Q:VK):Prop
 | mk:∀ d e,(DtV K H x d)->(DtV K H y e)->(SeqAt.shaped d=true)->(SeqAt.shaped e=true)->(Q (.bl (PyData.eqv d e)) H)->vR K x y H Q
def zG(K:PySem.W.Frag):R2:=λx y H Q=>vR K x y H Q
inductive vS(K:PySem.W.Frag)(x:V)(y:V)(H:Hp)(Q:VK):Prop
 | mk:∀ d e,(DtV K H x d)->(DtV K H y e)->(SeqAt.shaped d=true)->(SeqAt.shaped e=true)->(Q (.bl (!PyData.eqv d e)) H)->vS K x y H Q
def zH(K:PySem.W.Frag):R2:=λx y H Q=>vS K x y H Q
theorem lc{X:Cx}(hu:X.A.units+64 < cLine):OpR X (compareOp .Eq) (zG X.K):=by
 intro pins s σ H x y v u Q I rx ry h;obtain⟨d,e,hd,he,sd,se,q⟩:=h;obtain⟨as,ra⟩:=hd.reads I v rx;obtain⟨bs,rb⟩:=he.reads I u ry;exact eq_dataH ra rb sd se hu ⟨.bl _,H,I,rfl,q⟩
theorem wL{X:Cx}(hu:X.A.units+64 < cLine):OpR X (compareOp .NotEq) (zH X.K):=by
 intro pins s σ H x y v u Q I rx ry h;obtain⟨d,e,hd,he,sd,se,q⟩:=h;obtain⟨as,ra⟩:=hd.reads I v rx;obtain⟨bs,rb⟩:=he.reads I u ry;exact ne_dataH ra rb sd se hu ⟨.bl _,H,I,rfl,q⟩
theorem aw.put{H H1:Hp}{p:Addr}(s:aw H H1)(h:H p=none)(o:HO):aw H (upd H1 p o):=λb u q=>by
 rw [af (ao q h)];exact s b u q
theorem aw.new{H:Hp}{p:Addr}(h:H p=none)(o:HO):aw H (upd H p o):=(aw.refl H).put h o
end L2
namespace L2
open PySem PySem.Spec PyProof.Rows
theorem Inv.track{X:Cx}{pins:List (Addr × Obj)}{σ:St}{H:Hp}{s:Shared}{D:Addr}{o:HO}(I:Inv X pins σ H s)(hs:X.s₀.heap.objs.size<=D)(hL:D≠X.env.locals)
  (hC:∀ x c,X.env.cells.lookup x=some c->c≠D) (hp:∀ p∈X.pn++pins,p.1≠D) (hn:H D=none) (new:bB X.prog X.w (upd H D o) s.heap D o):Inv X pins σ (upd H D o) s:=by
 have ne0:∀ b u,X.s₀.heap.get? b=some u->b≠D:=λb u e=>QP (QK (QD e) hs);have neH:∀ b u,H b=some u->b≠D:=λb u e=>ao e hn;refine⟨I.ok,I.os,I.bare,⟨I.base.keep,I.base.slot,λb u e n hx=>?_,I.base.there,λb xs e=>?_,λb u v e=>?_,λb ps e=>?_⟩,I.loc,I.cell,?_,λx c e=>?_,λp h=>?_,?_,I.len⟩
 ·rw [af (ne0 b u e)];exact I.base.free b u e n hx
 ·have q:=I.base.tups b xs e;rw [af (neH _ _ q)];exact q
 ·have q:=I.base.frzs b u v e;rw [af (neH _ _ q)];exact q
 ·obtain⟨m,q⟩:=I.base.tbls b ps e;exact⟨m,by rw [af (neH _ _ q)];exact q⟩
 ·rw [af hL.symm];exact I.free
 ·rw [af (hC x c e)];exact I.freeC x c e
 ·obtain⟨a,b,c⟩:=I.pin p h;exact⟨a,by rw [af (hp p h)];exact b,c⟩
 ·intro b u e;by_cases hb:b=D
  ·subst hb;rw [ae] at e;cases e;exact new
  ·rw [af hb] at e;exact(I.hok b u e).stay (λ_ _ _ q=>q) (λc q=>by rw [af (neH _ _ q)];exact q) λc xs q=>by rw [af (neH _ _ q)];exact q
abbrev blk(X:Cx)(scope:Scope)(cl:List (Str × Addr))(C:Addr)(N:List Str)(s:Shared)(H:Hp)(ex:List Addr):Cx :=
 { X with N:=N,s₀:=s,H₀:=H,env:=compEnvC scope cl C X.env,outer:=X.stack,ex:=ex,fn:=λ_=>false,pn:=[],xe:=λ_ _=>False }
def ld(sc scope:Scope)(x:Str)(N rest:List Str):Bool :=
 scope.kind == .function && scope.names.lookup x == some .local && (rest.length == N.length) && decide (x :: rest).Nodup
 && scope.names.all (λy=>y.2 != .cell && (y.2 != .local || ((y.1 == x || y.1 == ".0") && scope.names.lookup y.1 == some .local))
   && (y.2 != .free || (scope.names.lookup y.1 == some .free && (sc.names.lookup y.1 == some .cell || sc.names.lookup y.1 == some .free))) && y.1 != ".")
 && (rest.zip N).all (λp=>p.1 == "." || (p.1 == p.2 && p.1 != x && p.1 != ".0"))
theorem f8{env:Env}:∀(names:List (Str × NameKind)) (acc:List (Str × Addr)),(∀ y∈names,y.2=.free->∃ c,env.cells.lookup y.1=some c) ->
  ∃ cl:List (Str × Addr),(forIn names acc λp r=>if (p.2 == NameKind.free)=true then (do let a <-cellOf env p.1;pure (ForInStep.yield ((p.1,a) :: r))) else pure (ForInStep.yield r))=(pure cl:Sem _) /\
   (∀ p∈cl,p∈acc\/env.cells.lookup p.1=some p.2)/\(∀ p∈acc,p∈cl)/\∀ y∈names,y.2=.free->∃ c,(y.1,c)∈cl
 | [],acc,_=>⟨acc,rfl,λp hp=>.inl hp,λp hp=>hp,λy hy=>Qs hy (by simp)⟩
 | (n,k) :: r,acc,h=>by
  by_cases hk:k=.free
  ·subst hk;obtain⟨c,hc⟩:=h (n,.free) (by simp) rfl;obtain⟨cl,e,h1,h2,h3⟩:=f8 (env:=env) r ((n,c) :: acc) λy hy=>h y (by simp [hy]);have ec:cellOf env n=pure c:=by unfold cellOf;rw [hc]
   refine⟨cl,?_,λp hp=>?_,λp hp=>h2 p (by simp [hp]),λy hy hf=>?_⟩
   ·rw [List.forIn_cons];simp only [ec,UA,if_true,pure_bind];exact e
   ·rcases h1 p hp with q | q
    ·rcases Qi.mp q with q | q
     ·rw [q];exact .inr hc
     ·exact .inl q
    ·exact .inr q
   ·rcases Qi.mp hy with q | q
    ·rw [q];exact⟨c,h2 _ (by simp)⟩
    ·exact h3 y q hf
  ·obtain⟨cl,e,h1,h2,h3⟩:=f8 (env:=env) r acc λy hy=>h y (by simp [hy]);have hkf:(k == NameKind.free)=false:=UH.mpr hk;refine⟨cl,?_,h1,h2,λy hy hf=>?_⟩
   ·rw [List.forIn_cons];simp only [hkf,Ui,if_false,pure_bind];exact e
   ·rcases Qi.mp hy with q | q
    ·rw [q] at hf;exact Qs hf hk
    ·exact h3 y q hf
theorem jg{α β:Type} [BEq α] [LawfulBEq α]:∀{l:List (α × β)} {a:α} {b:β},(a,b)∈l->∃ c,l.lookup a=some c
 | [],_,_,h=>Qs h (by simp)
 | (x,y) :: r,a,b,h=>by
  rw [UN];cases e:a == x with
  | true=>exact⟨y,rfl⟩
  | false =>
   rcases Qi.mp h with q | q
   ·cases q;rw [UA] at e;cases e
   ·exact jg q
theorem da{α β:Type} [BEq α] [LawfulBEq α]:∀{l:List (α × β)} {a:α} {b:β},l.lookup a=some b->(a,b)∈l
 | [],_,_,h=>by cases h
 | (x,y) :: r,a,b,h=>by
  rw [UN] at h;cases e:a == x with
  | true=>rw [e] at h;cases h;rw [QY e];simp
  | false=>rw [e] at h;exact QA _ (da h)
theorem jh{scope:Scope}{env:Env}(h:∀ y∈scope.names,y.2=.free->∃ c,env.cells.lookup y.1=some c) :
  ∃ cl,closureFor scope env=pure cl/\(∀ y c,cl.lookup y=some c->env.cells.lookup y=some c)/\∀ y,(y,NameKind.free)∈scope.names->∃ c,cl.lookup y=some c:=by
 obtain⟨cl,e,h1,_,h3⟩:=f8 (env:=env) scope.names [] h;refine⟨cl,?_,λy c hc=>?_,λy hy=>?_⟩
 ·simp only [closureFor];rw [e];rfl
 ·rcases h1 _ (da hc) with q | q
  ·exact Qs q (by simp)
  ·exact q
 ·obtain⟨c,hc⟩:=h3 _ hy rfl;exact jg hc
theorem cj{env:Env}:∀{names:List (Str × NameKind)} {y:Str} {k':NameKind},
  (names.map λ(n,k)=>if (k == NameKind.free && env.scope.kind == .function && env.kindOf n == some .cell) then (n,NameKind.cell) else (n,k)).lookup y=some k' ->
  ∃ k,names.lookup y=some k/\(k'=k\/(k=.free/\k'=.cell))
 | [],_,_,h=>by cases h
 | (n,k) :: r,y,k',h=>by
  have ih:=@cj env r y k';rw [Uo] at h;rw [UN];by_cases hc:(k == NameKind.free && env.scope.kind == .function && env.kindOf n == some .cell)=true
  ·have hk:k=.free:=by
    rw [QO,QO] at hc;exact QY hc.1.1
   simp only [hc,if_true,UN] at h;cases e:y == n with
   | true=>rw [e] at h;cases h;exact⟨k,rfl,.inr ⟨hk,rfl⟩⟩
   | false=>rw [e] at h;exact ih h
  ·simp only [hc,Ui,if_false,UN] at h;cases e:y == n with
   | true=>rw [e] at h;cases h;exact⟨_,rfl,.inl rfl⟩
   | false=>rw [e] at h;exact ih h
structure kh(sc scope:Scope)(x:Str)(N rest:List Str):Prop where
 kind:scope.kind=.function
 loc:scope.names.lookup x=some .local
 len:rest.length=N.length
 nd:(x :: rest).Nodup
 nocell:∀ y∈scope.names,y.2≠.cell
 names:∀ y∈scope.names,y.2=.local->scope.names.lookup y.1=some .local
 own:∀ y,scope.names.lookup y=some .local->y=x\/y=".0"
 free:∀ y∈scope.names,y.2=.free->sc.names.lookup y.1=some .cell\/sc.names.lookup y.1=some .free
 dot:∀ k,scope.names.lookup (".":Str)≠some k
 same:∀(i:Nat) y z,rest[i]?=some y->N[i]?=some z->y="."\/(y=z/\y≠x/\y≠".0")
theorem kj{sc scope:Scope}{x:Str}{N rest:List Str}(h:ld sc scope x N rest=true):kh sc scope x N rest:=by
 unfold ld at h;rw [QO,QO,QO,QO,QO] at h;obtain⟨⟨⟨⟨⟨h1,h2⟩,h3⟩,h4⟩,h5⟩,h6⟩:=h;rw [U8] at h5 h6;have f5:∀ y∈scope.names,y.2≠.cell/\(y.2=.local->(y.1=x\/y.1=".0")/\scope.names.lookup y.1=some .local) /\
   (y.2=.free->sc.names.lookup y.1=some .cell\/sc.names.lookup y.1=some .free)/\y.1≠".":=λy hy=>by
  have q:=h5 y hy;rw [QO,QO,QO] at q;obtain⟨⟨⟨q1,q2⟩,q3⟩,q4⟩:=q;refine⟨bne_iff_ne.mp q1,λz=>?_,λz=>?_,bne_iff_ne.mp q4⟩
  ·rw [z] at q2;have q2:((y.1 == x || y.1 == ".0") && scope.names.lookup y.1 == some .local)=true:=q2;rw [QO,Vt] at q2;exact⟨q2.1.imp QY QY,QY q2.2⟩
  ·rw [z] at q3;have q3:(scope.names.lookup y.1 == some .free && (sc.names.lookup y.1 == some .cell || sc.names.lookup y.1 == some .free))=true:=q3;rw [QO,Vt] at q3;exact q3.2.imp QY QY
 refine⟨QY h1,QY h2,QY h3,QI h4,λy hy=>(f5 y hy).1,λy hy z=>((f5 y hy).2.1 z).2,λy hy=>?_,λy hy=>(f5 y hy).2.2.1,λk hk=>?_,λi y z hy hz=>?_⟩
 ·exact((f5 _ (da hy)).2.1 rfl).1
 ·exact(f5 _ (da hk)).2.2.2 rfl
 ·have hm:(y,z)∈rest.zip N:=by
   rw [List.mem_iff_getElem?];exact⟨i,by rw [List.getElem?_zip_eq_some];exact⟨hy,hz⟩⟩
  have q:=h6 _ hm;rw [Vt,QO,QO] at q;rcases q with q | ⟨⟨q1,q2⟩,q3⟩
  ·exact .inl (QY q)
  ·exact .inr ⟨QY q1,bne_iff_ne.mp q2,bne_iff_ne.mp q3⟩
def PF(X:Cx)(ifs:List Expr)(t:TT):Prop :=
 ∀(pins:List (Addr × Obj)) (s:Shared) (σ:St) (H:Hp) (Q:Bool->Hp->Prop),Inv X pins σ H s->t σ H Q ->
  wpAny (model X.prog X.w) X.A (forIn ifs true λc r=>if r=true then do { let ok <-isTrue c X.env (eval c X.env);pure (ForInStep.yield ok) } else pure (ForInStep.yield r)) (TP X pins σ Q) X.xe s
theorem ji{X:Cx}:PF X [] (λ_ H Q=>Q true H):=λ_ _ _ H _ I h=>wpAny_tests_nil ⟨H,I,h⟩
theorem d5{X:Cx}{c:Expr}{t:TT}(h:PT X c t):PF X [c] t:=λpins s σ H Q I q=>wpAny_tests_one (h pins s σ H Q I q)
def jj(tt:TT)(te:TE)(σ:St)(Fin:List V->Hp->Prop):It->Hp->Prop:=λJ H1=>∃ W:Nat->Nat->List V->Hp->Prop,(∃ m,W 0 m [] H1)/\∀ i m ys H',W i m ys H' ->
 (J.stop i H'/\Fin ys H')\/(J.go i H'/\∀ v H2,J.yld i H' v H2->tt (some v :: σ) H2 λb H3 =>
  if b=true then te (some v :: σ) H3 λy H4=>ys.length < sizeLine/\∃ m',m' < m/\W (i+1) m' (ys++[y]) H4 else ∃ m',m' < m/\W (i+1) m' ys H3)
section
variable{X:Cx} {pins:List (Addr × Obj)} {σ:St} {H:Hp} {s:Shared} {x:Str} {px pos:Pos} {iter elt:Expr} {ifs:List Expr} {sc scope:Scope} {rest:List Str} {wi:TI} {tt:TT} {te:TE} {cl:List (Str × Addr)} {Fin:List V->Hp->Prop}
theorem jm{RR:Value->Addr->Result->Shared->Prop}(ok:kh sc scope x X.N rest)(hsc:X.env.scope=sc)(hcalm:X.calm=true)(hi:PI X (.Name x px) iter wi)
  (ht:∀ cl C s₀ H₀ ex,PF (blk X scope cl C (x :: rest) s₀ H₀ ex) ifs tt) (he:∀ cl C s₀ H₀ ex,PE (blk X scope cl C (x :: rest) s₀ H₀ ex) elt te)
  (hcl1:∀ y c,cl.lookup y=some c->X.env.cells.lookup y=some c) (hcl2:∀ y,(y,NameKind.free)∈scope.names->∃ c,cl.lookup y=some c)
  (fin:∀ D C ys H' s',Inv X pins σ (upd H' D (.lst ys)) s'->H' D=none->Fin ys H'->jT X pins (upd H' D (.lst ys)) C->(∃ m,s'.heap.Ns C m)->RR (.ref D) C (.ok .next) s')
  (I:Inv X pins σ H s) (h:wi σ H (jj tt te σ Fin)) :
  wpAny (model X.prog X.w) X.A (eval iter X.env) (λxv s₁=>wpAny (model X.prog X.w) X.A (pyIter xv) (λit s₂ =>
   wpAny (model X.prog X.w) X.A (newList []) (λacc s₃=>wpAny (model X.prog X.w) X.A (newFunctionEnv scope X.env.globals cl [] X.env.qual none .none (some X.env)) (λcenv s₄ =>
    codeAny (model X.prog X.w) X.A (.compStart (.ListComp elt [⟨.Name x px,iter,ifs,0⟩] scope pos) 0 it acc { cenv with scope:=relabel scope X.env }) (RR acc cenv.locals) s₄) X.xe s₃) X.xe s₂) X.xe s₁) X.xe s:=by
 refine thn (hi pins s σ H _ I h) λv s1 h1=>thn h1 λitv s2 h2=>?_;obtain⟨it,fp,tn,J,H2,e,I2,T,st2,f2,W,⟨m0,w0⟩,turn⟩:=h2;subst e;refine UE (wpAny_newFunctionEnv ok.nocell (by intro y hy;cases hy) (λh₁ hns hsb=>?_) ok.kind);dsimp only at hns hsb ⊢;obtain⟨Hp2,eH2⟩:∃ Hp2,Hp2=s2.heap.push { cls:=.type "list",dict:=none,data:=.seq ([]:List Value).toArray }:=⟨_,rfl⟩;rw [<-eH2] at hns hsb ⊢;obtain⟨D,eD⟩:∃ D:Nat,D=s2.heap.objs.size:=⟨_,rfl⟩;obtain⟨C,eC⟩:∃ C:Nat,C=Hp2.objs.size:=⟨_,rfl⟩;have lDC:D < C:=by rw [eC,eH2,Heap.size_push,eD];exact VO _
 have sDC:s2.heap.objs.size<=C:=by rw [<-eD];exact UV lDC
 have nDC:D≠C:=QP lDC;have neC:∀ b:Addr,b < D->b≠C:=λb l=>QP (Nat.lt_trans l lDC);have neD:∀ b:Addr,b < D->b≠D:=λb l=>QP l;rw [<-eC] at hns hsb ⊢;rw [<-eD];have old:∀ b o,s2.heap.get? b=some o->h₁.get? b=some o:=λb o q=>by
  refine hsb.extBut b o (neC b (eD ▸ QD q)) (Qm _ ?_);rw [eH2];exact Qm _ q
 have hD:h₁.PlainList D #[]:=by
  refine⟨0,hsb.extBut _ _ nDC (Qm _ ?_)⟩;rw [eH2,eD];exact QE _ rfl
 have fD:∀{H':Hp},H' D=none->jT X pins H' D:=λhn=>I2.fpOk (Us eD.symm) hn;have fC:∀{H':Hp},H' C=none->jT X pins H' C:=λhn=>I2.fpOk sDC hn;have fpl:∀ b∈fp,b < D:=λb hb=>by
  obtain⟨o,q,_⟩:=T.obj _ _ st2 b hb;rw [eD];exact QD q
 have fpst:∀ b∈fp,b ∉ frs X.stack:=λb hb z=>by
  obtain⟨_,n1,n2,_⟩:=f2 b hb;rcases Qi.mp (I2.stkSub b z) with q | q
  ·exact n1 q
  ·exact n2 q
 have cst:∀ a,s2.heap.objs.size<=a->a ∉ frs X.stack:=λa ha z=>by
  rcases Qi.mp (I2.stkSub a z) with q | q
  ·exact Qs (QK I2.lt (q ▸ ha)) (Um _)
  ·exact I2.nofs ha q
 have cells:∀ y c,cl.lookup y=some c->c < D:=λy c q=>by
  obtain⟨w',z⟩:=I2.cell y c (hcl1 y c q);rw [eD];exact z.lt
 have isfree:∀ y,((relabel scope X.env).names.lookup y=some .cell\/(relabel scope X.env).names.lookup y=some .free)->(y,NameKind.free)∈scope.names:=λy q=>by
  rcases q with q | q
  ·obtain⟨k,z,hk⟩:=cj q;have hm:=da z;rcases hk with hk | ⟨hk,_⟩
   ·rw [<-hk] at hm;exact Qs rfl (ok.nocell _ hm)
   ·rw [hk] at hm;exact hm
  ·obtain⟨k,z,hk⟩:=cj q;have hm:=da z;rcases hk with hk | ⟨hk,_⟩
   ·rw [<-hk] at hm;exact hm
   ·rw [hk] at hm;exact hm
 have okB:(blk X scope cl C (x :: rest) s2 H2 fp).Ok:=by
  refine⟨I2.ok.mod,ok.kind,I2.ok.glob,I2.ok.blt,?_,λy z c q1 q2=>I2.ok.inj y z c (hcl1 y c q1) (hcl1 z c q2),λy q=>hcl2 y (isfree y q),λy c q=>Qs (show false=true from q) Qj,I2.ok.hd,I2.ok.frames,.inl rfl,λb hb=>⟨?_,λy c q z=>?_⟩,
   I2.bs,QQ I2.ok.bsz I2.sz,λb o q hb=>?_,fpst,I2.stack,I2.stkFree⟩
  ·exact sDC
  ·exact neC b (fpl b hb)
  ·exact(f2 b hb).2.2.2.2.1 y c (hcl1 y c q) z
  ·rcases(f2 b hb).2.2.2.1 with z | z
   ·exact I2.ok.noex b o q z
   ·exact Qs (QK (QD q) (QQ I2.ok.bsz z)) (Um _)
 have IB:Inv (blk X scope cl C (x :: rest) s2 H2 fp) [] (none :: σ) H2 { s2 with heap:=h₁,toks:=s2.toks+([]:List (Str × Value)).length }:=by
  refine⟨okB,rfl,I2.bare,Un.kept old,⟨_,hns,λi y v' e1 e2 e3=>?_⟩,λy c q=>?_,?_,λy c q=>I2.freeC y c (hcl1 y c q),λp hp=>Qs hp (by simp),I2.hok.kept old,?_⟩
  ·cases i with
   | zero=>cases e2
   | succ i =>
    have e1:rest[i]?=some y:=e1;have e2:σ[i]?=some (some v'):=e2;have hiN:i < X.N.length:=by rw [<-ok.len];exact(Qb.mp e1).1
    have eN:X.N[i]?=some X.N[i]:=Qe hiN;have e3:Vis (relabel scope X.env) y:=e3;have nloc:¬ (relabel scope X.env).names.lookup y=some .local:=λq=>by
     obtain⟨k,z,hk⟩:=cj q;rcases ok.same i y _ e1 eN with z' | ⟨_,n1,n2⟩
     ·rw [z'] at z;exact ok.dot _ z
     ·rcases hk with hk | ⟨_,hk⟩
      ·rw [<-hk] at z;rcases ok.own y z with z | z
       ·exact n1 z
       ·exact n2 z
      ·cases hk
    have fr:(relabel scope X.env).names.lookup y=some .cell\/(relabel scope X.env).names.lookup y=some .free:=e3.resolve_left nloc;have hm:=isfree y fr;obtain⟨c,hc⟩:=hcl2 y hm;rcases ok.same i y _ e1 eN with z' | ⟨z',_,_⟩
    ·rcases fr with q | q <;> (obtain⟨k,z,_⟩:=cj q;rw [z'] at z;exact Qs z (ok.dot _))
    ·rw [<-z'] at eN;have kd:X.env.kindOf y=some .cell\/X.env.kindOf y=some .free:=by
      have:=ok.free _ hm rfl;rw [<-hsc] at this;exact this
     obtain⟨m,_,hl⟩:=I2.loc;obtain⟨u,r,lk⟩:=hl i y v' eN e2 (.inr kd);refine⟨u,r,.inr ⟨fr,c,hc,?_⟩⟩;rcases lk with⟨lk,_⟩ | ⟨_,c',hc',z⟩
     ·rcases kd with kd | kd <;> (rw [kd] at lk;cases lk)
     ·have q:=hcl1 y c hc;rw [q] at hc';cases hc';exact z.keeps old
  ·obtain⟨w',z⟩:=I2.cell y c (hcl1 y c q);exact⟨w',z.keeps old⟩
  ·exact I2.hok.fresh sDC
  ·show(none :: σ).length=(x :: rest).length;rw [QL,QL,I2.len,ok.len]
 have hx:(relabel scope X.env).names.lookup x=some .local:=lookup_relabel_local ok.loc;have fB:∀{ob:Obj} {H':Hp},(∀ b∈fp,H' b=none)->∀ b∈fp,jT (blk X scope cl C (x :: rest) s2 H2 fp) [(D,ob)] H' b:=λ{ob H'} hn b hb=>by
  refine⟨hn b hb,?_,fpst b hb,.inl hb,λy c q z=>(f2 b hb).2.2.2.2.1 y c (hcl1 y c q) z,λp hp=>?_⟩
  ·exact neC b (fpl b hb)
  ·have:p=(D,ob):=by simpa using hp
   rw [this];exact(neD b (fpl b hb)).symm
 have loop:∀ s₃:Shared,s₃={ s2 with heap:=h₁,toks:=s2.toks+([]:List (Str × Value)).length } ->
   codeAny (model X.prog X.w) X.A (.compLoop (.ListComp elt [⟨.Name x px,iter,ifs,0⟩] scope pos) 0 (.ref it) (.ref D) (compEnvC scope cl C X.env)) (RR (.ref D) C) s₃:=by
  rintro s₃ rfl;refine codeAny_compLoop_tests (λn s'=>∃(i:Nat) (ys:List V) (v0:Option V) (H':Hp) (items:List Value),Inv (blk X scope cl C (x :: rest) s2 H2 fp) [] (v0 :: σ) H' s'/\s'.heap.PlainList D items.toArray/\aS ys items /\
   H' D=none/\tn i s'.heap/\(∀ b∈fp,H' b=none)/\ys.length<=sizeLine/\W i n ys H') ?_ m0 ⟨0,[],none,H2,[],IB,hD,.nil,I2.hok.fresh (Us eD.symm),T.keep _ _ _ st2 (λb _ o q=>old b o q),λb hb=>(f2 b hb).1,Uh _,w0⟩
  rintro n s3 ⟨i,ys,v0,H3,items,I3,pl3,rv3,nD,st3,fr3,hlen,w3⟩;obtain⟨cap,ho⟩:=id pl3;have ncell:∀{its:List Value} {cp:Nat} (v:Option Value),({ cls:=.type "list",data:=.seq its.toArray cp }:Obj).data≠.cell v:=λv z=>nomatch z;have I3p:Inv (blk X scope cl C (x :: rest) s2 H2 fp) [(D,{ cls:=.type "list",data:=.seq items.toArray cap })] (v0 :: σ) H3 s3:=I3.pins_of λp hp=>by
   have:p=(D,{ cls:=.type "list",data:=.seq items.toArray cap }):=by simpa using hp
   rw [this];exact⟨ho,nD,nDC,cst D (Us eD.symm),ncell⟩
  rcases turn i n ys H3 w3 with⟨stop,qf⟩ | ⟨go,step⟩
  ·refine thn (T.done (blk X scope cl C (x :: rest) s2 H2 fp) rfl rfl rfl hcalm i _ s3 (v0 :: σ) H3 _ I3p (fB fr3) st3 stop) λr s4 ⟨hr,I4⟩=>?_;subst hr;obtain⟨e4,n4,_⟩:=I4.pin _ (Qy _ (Qo.mpr rfl));have IX:Inv X pins σ H3 s4:=I2.call' (ch:=fp) I4.os I4.base I4.hok I4.bare λb hb=>⟨(f2 b hb).2.2.2.1,(f2 b hb).2.1,(f2 b hb).2.2.2.2.1,(f2 b hb).2.2.2.2.2⟩;obtain⟨g1,g2,g3,g4,g5,g6⟩:=fD (H':=H3) nD;have IX':Inv X pins σ (upd H3 D (.lst ys)) s4:=IX.track (eD ▸ I2.sz) g2 g5 g6 nD ⟨hlen,items,cap,rv3,e4⟩;refine fin D C ys H3 s4 IX' nD qf (fC ?_) (let ⟨m,q,_⟩:=I4.loc;⟨m,q⟩);rw [af nDC.symm];exact I4.free
  ·refine thn (T.item (blk X scope cl C (x :: rest) s2 H2 fp) rfl rfl rfl hcalm i _ s3 (v0 :: σ) H3 _ I3p (fB fr3) st3 go) λr s4 ⟨u,hr,h4⟩=>?_;subst hr;have key:wpAny (model X.prog X.w) X.A (letOwnedTupleGo (.Name x px) (.ref it) u >>= λ_=>assign (.Name x px) (compEnvC scope cl C X.env) u) (λ_ s₂ =>
     wpAny (model X.prog X.w) X.A (forIn ifs true λc r=>if r=true then do { let ok <-isTrue c (compEnvC scope cl C X.env) (eval c (compEnvC scope cl C X.env));pure (ForInStep.yield ok) } else pure (ForInStep.yield r)) (λok s₃ =>
      if ok=true then wpAny (model X.prog X.w) X.A (eval elt (compEnvC scope cl C X.env)) (λx' s₄ =>
       wpAny (model X.prog X.w) X.A (call (.builtin "list.append") [.ref D,x']) (λ_ s₅=>∃ m,m < n/\∃(i:Nat) (ys:List V) (v0:Option V) (H':Hp) (items:List Value),Inv (blk X scope cl C (x :: rest) s2 H2 fp) [] (v0 :: σ) H' s₅/\s₅.heap.PlainList D items.toArray/\aS ys items /\
        H' D=none/\tn i s₅.heap/\(∀ b∈fp,H' b=none)/\ys.length<=sizeLine/\W i m ys H') (notedBy (model X.prog X.w) X.A (compEnvC scope cl C X.env) λe s'=>RR (.ref D) C (.error e) s') s₄) (notedBy (model X.prog X.w) X.A (compEnvC scope cl C X.env) λe s'=>RR (.ref D) C (.error e) s') s₃
      else ∃ m,m < n/\∃(i:Nat) (ys:List V) (v0:Option V) (H':Hp) (items:List Value),Inv (blk X scope cl C (x :: rest) s2 H2 fp) [] (v0 :: σ) H' s₃/\s₃.heap.PlainList D items.toArray/\aS ys items /\
        H' D=none/\tn i s₃.heap/\(∀ b∈fp,H' b=none)/\ys.length<=sizeLine/\W i m ys H') (notedBy (model X.prog X.w) X.A (compEnvC scope cl C X.env) λe s'=>RR (.ref D) C (.error e) s') s₂)
     (notedBy (model X.prog X.w) X.A (compEnvC scope cl C X.env) λe s'=>RR (.ref D) C (.error e) s') s4:=by
    refine Qa (thn h4 λ_ s5 ⟨v,H5,I5,r5,y5,st5,fr5⟩=>?_);have I5':=I5.pinned (fB fr5) (T.obj _ _ st5);have pg:PG (blk X scope cl C (x :: rest) s2 H2 fp) (.Name x px) (l8 0):=bj ok.nd rfl (.inl hx) (.inr hx);refine Uk (pg _ s5 (v0 :: σ) H5 v u (λσ' H'=>σ'=some v :: σ/\H'=H5) I5' r5 ⟨rfl,rfl⟩) (λ_ s6 ⟨σ6,H6,I6,eσ,eH⟩=>?_) λ_ _ z=>z.elim;subst eσ eH;refine Uk (ht cl C s2 H2 fp _ s6 _ _ _ I6 (step v _ y5)) (λb s7 ⟨H7,I7,q7⟩=>?_) λ_ _ z=>z.elim;have memD:(D,({ cls:=.type "list",data:=.seq items.toArray cap }:Obj))∈(blk X scope cl C (x :: rest) s2 H2 fp).pn++([(D,{ cls:=.type "list",data:=.seq items.toArray cap })]++gY fp s5.heap) :=
     Qy _ (QU _ (Qo.mpr rfl))
    have memF:∀{b:Addr} {o:Obj},b∈fp->s5.heap.get? b=some o->(b,o)∈(blk X scope cl C (x :: rest) s2 H2 fp).pn++([(D,({ cls:=.type "list",data:=.seq items.toArray cap }:Obj))]++gY fp s5.heap):=λhb q =>
     Qy _ (Qy _ (fY hb q))
    cases b with
    | false =>
     rw [Qf Qj] at q7 ⊢;obtain⟨m',hm,w7⟩:=q7;refine⟨m',hm,i+1,ys,some v,H7,items,I7.pins_of (λp hp=>Qs hp (by simp)),⟨cap,(I7.pin _ memD).1⟩,rv3,(I7.pin _ memD).2.1,T.keep _ _ _ st5 λb hb o q=>(I7.pin _ (memF hb q)).1,λb hb=>?_,hlen,w7⟩;obtain⟨o,q,_⟩:=T.obj _ _ st5 b hb;exact(I7.pin _ (memF hb q)).2.1
    | true =>
     rw [Qn rfl] at q7 ⊢;refine Uk (he cl C s2 H2 fp _ s7 _ _ _ I7 q7) (λu' s8 ⟨y,H8,I8,r8,hl8,m',hm,w8⟩=>?_) λ_ _ z=>z.elim;have pl8:s8.heap.PlainList D items.toArray:=⟨cap,(I8.pin _ memD).1⟩;have hlv:=rv3.length;refine wpAny_list_append_plain pl8 (λh' pl' sb=>?_) (by rw [Qu];lia);have nD8:=(I8.pin _ memD).2.1;have I9:Inv (blk X scope cl C (x :: rest) s2 H2 fp) [] (some v :: σ) H8 { s8 with heap:=h' }:=by
      have I8':Inv (blk X scope cl C (x :: rest) s2 H2 fp) [] (some v :: σ) H8 s8:=I8.pins_of (λp hp=>Qs hp (by simp));refine I8'.turned (it:=D) (t':=s8.toks) (λb o hb q=>(sb.2 b hb).trans q) nD8 nDC (.inr (Us eD.symm)) (λy' c q=>neD c (cells y' c q)) (λp hp=>Qs hp (by simp))
     refine⟨m',hm,i+1,ys++[y],some v,H8,items++[u'],I9,by simpa using pl',rv3.append (.cons r8 .nil),nD8,T.keep _ _ _ st5 λb hb o q=>?_,λb hb=>?_,?_,w8⟩
     ·exact(sb.2 b (neD b (fpl b hb))).trans (I8.pin _ (memF hb q)).1
     ·obtain⟨o,q,_⟩:=T.obj _ _ st5 b hb;exact(I8.pin _ (memF hb q)).2.1
     ·rw [Ql,Qz];lia
   exact key
 exact codeAny_compStart_list (loop _ rfl) (T.self X.A 0 _ _ _ (T.keep _ _ _ st2 (λb _ o q=>old b o q)) (loop _ rfl))
def vT(wi:TI)(tt:TT)(te:TE):TE:=λσ H Q=>wi σ H (jj tt te σ λys H'=>∀ D,H' D=none->Q (.ref D) (upd H' D (.lst ys)))
theorem dL{N:List Str}(ok:ld sc scope x N rest=true)(hsc:X.env.scope=sc)(hN:X.N=N)(hcalm:X.calm=true)(hi:PI X (.Name x px) iter wi)
  (ht:∀ cl C s₀ H₀ ex,PF (blk X scope cl C (x :: rest) s₀ H₀ ex) ifs tt) (he:∀ cl C s₀ H₀ ex,PE (blk X scope cl C (x :: rest) s₀ H₀ ex) elt te)
  (hs:∀ z,foldedSetIterable iter X.env z=pure z:=by intro _;rfl):PE X (.ListComp elt [⟨.Name x px,iter,ifs,0⟩] scope pos) (vT wi tt te):=by
 intro pins s σ H Q I h;have cf:=kj ok;rw [<-hN] at cf;obtain⟨cl,e,h1,h2⟩:=jh (scope:=scope) (env:=X.env) λy hy hf=>I.ok.has y.1 (by
  have:=cf.free y hy hf;rw [<-hsc] at this;exact this)
 rw [eval_ListComp];refine wpAny_comprehension_free (use:=none) rfl hs e cf.kind cf.names (jm (RR:=λacc C=>compPost (model X.prog X.w) X.A X.xe none (EP X pins σ Q) acc C) cf hsc hcalm hi ht he h1 h2 (λD C ys H' s' IX nD q fC hNs=>?_) I h);obtain⟨m,hns⟩:=hNs;obtain⟨g1,g2,g3,g4,g5,g6⟩:=fC;exact⟨m,hns,λh' sb=>⟨.ref D,_,IX.turned (it:=C) (t':=s'.toks) (λb o hb z=>(sb.2 b hb).trans z) g1 g2 g4 g5 g6,rfl,q D nD⟩⟩
theorem dm{N:List Str}{i:Nat}{y:Str}{py spos:Pos}(hNd:X.N.Nodup)(hyi:X.N[i]?=some y)(hy:Loc X.env.scope y)
  (hsw:swapsWith (.ListComp elt [⟨.Name x px,iter,ifs,0⟩] scope pos) (some (.Name y py)) spos.line X.env=pure true) (ok:ld sc scope x N rest=true) (hsc:X.env.scope=sc) (hN:X.N=N) (hcalm:X.calm=true) (hi:PI X (.Name x px) iter wi)
  (ht:∀ cl C s₀ H₀ ex,PF (blk X scope cl C (x :: rest) s₀ H₀ ex) ifs tt) (he:∀ cl C s₀ H₀ ex,PE (blk X scope cl C (x :: rest) s₀ H₀ ex) elt te)
  (hf:X.fn y=true\/X.env.scope.names.lookup y=some .local:=by first | exact .inl rfl | exact .inr rfl | assumption)
  (hs:∀ z,foldedSetIterable iter X.env z=pure z:=by intro _;rfl):PS X (.Assign [.Name y py] (.ListComp elt [⟨.Name x px,iter,ifs,0⟩] scope pos) spos) (wr (vT wi tt te) (l8 i)):=by
 intro pins s σ H D I h;have cf:=kj ok;rw [<-hN] at cf;obtain⟨cl,e,h1,h2⟩:=jh (scope:=scope) (env:=X.env) λy hy hf=>I.ok.has y.1 (by
  have:=cf.free y hy hf;rw [<-hsc] at this;exact this)
 rw [exec_Assign_Name_used _ _ _ _ hsw];refine Qa (wpAny_standAt (Qa ?_));show wpAny _ X.A (comprehension (.ListComp elt [⟨.Name x px,iter,ifs,0⟩] scope pos) scope X.env _ (newList []) false (eval iter X.env) (some (assign (.Name y py) X.env)) >>= λ_=>pure ()) _ _ s;refine Qa (thn (wpAny_comprehension_free (use:=some (assign (.Name y py) X.env)) (Q:=λ_ s'=>SP X pins D .next s') rfl hs e cf.kind cf.names
  (jm (RR:=λacc C=>compPost (model X.prog X.w) X.A X.xe (some (assign (.Name y py) X.env)) (λ_ s'=>SP X pins D .next s') acc C) cf hsc hcalm hi ht he h1 h2 (λD' C ys H' s' IX nD q fC hNs=>?_) I h)) λ_ s' q=>Qd (Qd q))
 obtain⟨m,hns⟩:=hNs;obtain⟨g1,g2,g3,g4,g5,g6⟩:=fC;show wpAny _ X.A (assign (.Name y py) X.env (.ref D')) _ _ s';refine wpAny_assign_Name (j5 IX hNd hyi hy (v:=.ref D') rfl (λs'' I'' ⟨a,sb,ha⟩=>?_) hf);refine⟨m,hns.sameBut sb ?_,λh' sb'=>⟨_,_,I''.turned (it:=C) (t':=s''.toks) (λb o hb z=>(sb'.2 b hb).trans z) g1 g2 g4 g5 g6,q D' nD⟩⟩;rcases ha with ha | ha
 ·rw [ha];exact g2
 ·exact(g5 y a ha).symm
end
end L2
namespace L2
open PySem PySem.Spec PyProof.Rows
def ltS(a b:Str):Bool:=ltCps a.cps.toList b.cps.toList
theorem oZ:∀ a:List Nat,ltCps a a=false
 | []=>rfl
 | x :: r=>by rw [ltCps];simp [oZ r]
theorem rF:∀ a b c:List Nat,ltCps a b=true->ltCps b c=true->ltCps a c=true
 | [],[],_,h,_=>by cases h
 | [],_ :: _,[],_,h=>by cases h
 | [],_ :: _,_ :: _,_,_=>rfl
 | _ :: _,[],_,h,_=>by cases h
 | _ :: _,_ :: _,[],_,h=>by cases h
 | x :: r,y :: t,z :: u,h1,h2=>by
  rw [ltCps] at h1 h2 ⊢;simp only [Vt,QO,Vg,U3] at h1 h2 ⊢;rcases h1 with h1 | ⟨e1,h1⟩ <;> rcases h2 with h2 | ⟨e2,h2⟩
  ·exact .inl (by lia)
  ·exact .inl (by lia)
  ·exact .inl (by lia)
  ·exact .inr ⟨by lia,rF r t u h1 h2⟩
theorem o0:∀ a b:List Nat,ltCps a b=true\/a=b\/ltCps b a=true
 | [],[]=>.inr (.inl rfl)
 | [],_ :: _=>.inl rfl
 | _ :: _,[]=>.inr (.inr rfl)
 | x :: r,y :: t=>by
  rw [ltCps,ltCps];simp only [Vt,QO,Vg,U3];rcases Nat.lt_trichotomy x y with h | h | h
  ·exact .inl (.inl h)
  ·subst h;rcases o0 r t with h | h | h
   ·exact .inl (.inr ⟨rfl,h⟩)
   ·exact .inr (.inl (by rw [h]))
   ·exact .inr (.inr (.inr ⟨rfl,h⟩))
  ·exact .inr (.inr (.inl h))
theorem uu{a b:Str}(h:a.cps.toList=b.cps.toList):a=b:=by
 cases a;cases b;congr 1
 exact Array.toList_inj.mp h
theorem iP(a:Str):ltS a a=false:=oZ _
theorem lf(a b c:Str)(h1:ltS a b=true)(h2:ltS b c=true):ltS a c=true:=rF _ _ _ h1 h2
theorem iQ(a b:Str):ltS a b=true\/a=b\/ltS b a=true:=by
 rcases o0 a.cps.toList b.cps.toList with h | h | h
 ·exact .inl h
 ·exact .inr (.inl (uu h))
 ·exact .inr (.inr h)
def dM(ss:List Str):Prop:=ss.Pairwise λa b=>ltS b a=false
theorem gD:∀{ss:List Str},sortedS ss=true->dM ss
 | [],_=>.nil
 | [x],_=>VP _ _
 | x :: y :: r,h=>by
  have h:(!ltCps y.cps.toList x.cps.toList && risingS y r)=true:=h;rw [QO] at h;have ih:dM (y :: r):=gD (show sortedS (y :: r)=true from h.2);have hxy:ltS y x=false:=by
   have:=h.1;unfold ltS;cases e:ltCps y.cps.toList x.cps.toList with
   | false=>rfl
   | true=>rw [e] at this;cases this
  refine UO.mpr ⟨λz hz=>?_,ih⟩;rcases Qi.mp hz with e | hz
  ·rw [e];exact hxy
  ·have hzy:=(UO.mp ih).1 z hz;cases e:ltS z x with
   | false=>rfl
   | true =>
    rcases iQ z y with q | q | q
    ·rw [q] at hzy;cases hzy
    ·rw [<-q,e] at hxy;cases hxy
    ·have:=lf _ _ _ q e;rw [this] at hxy;cases hxy
theorem jn:∀{a b:List Str},dM a->dM b->a.Perm b->a=b
 | [],b,_,_,p=>(List.nil_perm.mp p).symm
 | x :: a,[],_,_,p=>Qs p (by simp)
 | x :: a,y :: b,ha,hb,p=>by
  have ha':=UO.mp ha;have hb':=UO.mp hb;have e:x=y:=by
   have hx:x∈y :: b:=p.mem_iff.mp (by simp);have hy:y∈x :: a:=p.mem_iff.mpr (by simp);rcases Qi.mp hx with q | q
   ·exact q
   ·rcases Qi.mp hy with q' | q'
    ·exact q'.symm
    ·have h1:=hb'.1 x q;have h2:=ha'.1 y q';rcases iQ x y with z | z | z
     ·rw [z] at h1;cases h1
     ·exact z
     ·rw [z] at h2;cases h2
  subst e;rw [jn ha'.2 hb'.2 p.cons_inv]
theorem gE:∀{ss:List Str} {vs:List Value},aS (ss.map V.str) vs->StrsAre vs ss
 | [],[],_=>.nil
 | [],_ :: _,h=>nomatch h
 | _ :: _,[],h=>nomatch h
 | x :: ss,u :: vs,.cons r t=>by
  obtain⟨k,rfl⟩:=(show ∃ k,u=Value.str x k from r);exact .cons x k (gE t)
theorem fz:∀{vs:List Value} {ss:List Str},StrsAre vs ss->aS (ss.map V.str) vs
 | _,_,.nil=>.nil
 | _,_,.cons y t h=>.cons ⟨t,rfl⟩ (fz h)
section
variable{X:Cx}
theorem eI:eh X (.builtin "sorted") (λxs H Q=>∃ p ss,xs=[.ref p]/\SqL X.K H p (ss.map V.str)/\ss.length < 64/\∀ l ss',H l=none->ss'.Perm ss->dM ss'->Q (.ref l) (upd H l (.lst (ss'.map V.str)))):=by
 intro pins s σ H xs us Q I r h;obtain⟨p,ss,rfl,hq,h64,q⟩:=h;obtain⟨u,rfl,rx⟩:=fO r;cases rx;obtain⟨its,rv,pl,hz⟩:=I.list hq;have hlen:=rv.length;rw [Qc] at hlen hz;refine sorted_strs pl.isList (gE rv) (by lia) λout ss' a1 a2 a3=>?_;obtain⟨e,he⟩:=sortedAll_at s.heap its out;have hl':ss'.length=ss.length:=a2.length_eq;refine⟨.ref (s.heap.objs.size+1),upd H (s.heap.objs.size+1) (.lst (ss'.map V.str)),I.laid (t':=s.toks) (λb o z=>sortedAll_old z) (Uc _) ⟨by rw [Qc];lia,out.toList,e,fz a1,by simpa using he⟩,rfl,q _ ss' (I.hok.fresh (Uc _)) a2 (gD a3)⟩
theorem gF(f:Nat->Str):∀ k,argBest (λi j=>ltS (f i) (f j)) k<=k/\∀ j,j<=k->ltS (f j) (f (argBest (λi j=>ltS (f i) (f j)) k))=false
 | 0=>⟨Qk _,λj hj=>by
   have:j=0:=by lia
   subst this;exact iP _⟩
 | k+1=>by
  obtain⟨h1,h2⟩:=gF f k;rw [argBest];cases e:ltS (f (k+1)) (f (argBest (λi j=>ltS (f i) (f j)) k)) with
  | true =>
   simp only [if_true];refine⟨Qk _,λj hj=>?_⟩;by_cases hk:j=k+1
   ·subst hk;exact iP _
   ·have h3:=h2 j (by lia);cases z:ltS (f j) (f (k+1)) with
    | false=>rfl
    | true=>rw [lf _ _ _ z e] at h3;cases h3
  | false =>
   simp only [Ui,if_false];refine⟨by lia,λj hj=>?_⟩;by_cases hk:j=k+1
   ·subst hk;exact e
   ·exact h2 j (by lia)
theorem jV(hc:X.calm=true):eh X (.builtin "min") (λxs H Q=>∃ p ss,xs=[.ref p]/\SqL X.K H p (ss.map V.str)/\ss≠[]/\∀ x,x∈ss->(∀ y∈ss,ltS y x=false)->Q (.str x) H):=by
 intro pins s σ H xs us Q I r h;obtain⟨p,ss,rfl,hq,hne,q⟩:=h;obtain⟨u,rfl,rx⟩:=fO r;cases rx;obtain⟨its,rv,pl,hz⟩:=I.list hq;have hlen:=rv.length;rw [Qc] at hlen hz;have hlt:p < s.heap.objs.size:=by obtain⟨o,n,e,_⟩:=pl;exact QD e
 have hn0:0 < its.length:=by
  rw [<-hlen];exact Va.mpr hne
 have val:∀(i:Nat) (v:Value),its.toArray[i]?=some v->∃ t,v=.str (ss.getD i default) t:=λi v e=>by
  have e':its[i]?=some v:=by simpa using e
  have hi:i < ss.length:=by rw [hlen];exact(Qb.mp e').1
  obtain⟨u,h1,h2⟩:=rv.get (i:=i) (x:=.str (ss.getD i default)) (by
   rw [Qq,Qe hi];simp [List.getD,Qe hi])
  rw [e'] at h1;cases h1;exact h2
 refine call_min_walk (wpAny_pyIter_list pl.isList ⟨s.heap.objs.size,[s.heap.objs.size,p],[s.heap.objs.size],its.toArray.size,_,_,(λi j=>ltS (ss.getD i default) (ss.getD j default)),rfl,
  Walks.list (A:=X.A.in1) (I.ok.hd hc) s.heap.objs.size p (QP hlt) its.toArray,⟨⟨_,QE _ rfl,rfl,rfl⟩,pl.isList.push _⟩,λb hb=>?_,by simpa using hn0,λi j vi vj s' Q' E' hi hj hQ=>?_,λv h' tk hP hk=>?_⟩)
 ·show b < (s.heap.push _).objs.size;rw [Heap.size_push];rcases Qi.mp hb with e | hb
  ·rw [e];exact VO _
  ·rw [Qo.mp hb];exact Vi hlt
 ·obtain⟨t,rfl⟩:=val i vi hi;obtain⟨t',rfl⟩:=val j vj hj;have hQ':Q' (.bool (decide ((ss.getD i default).cps.toList < (ss.getD j default).cps.toList))) s':=by
   rw [<-ltCps_eq];exact hQ
  exact(lt_str hQ':wpAny (model X.prog X.w) X.A.in1 (compareOp .Lt (.str (ss.getD i default) t) (.str (ss.getD j default) t')) Q' E' s')
 ·obtain⟨t,rfl⟩:=val _ v hP;obtain⟨b1,b2⟩:=gF (λi=>ss.getD i default) (its.toArray.size - 1);have hsz:its.toArray.size=ss.length:=by rw [Qu,hlen]
  have old:∀ b o,s.heap.get? b=some o->h'.get? b=some o:=λb o e=>hk b o (λhm=>by
   rw [Qo.mp hm] at e;exact Qs (QD e) (Um _)) (Qm _ e)
  have hin:argBest (λi j=>ltS (ss.getD i default) (ss.getD j default)) (its.toArray.size - 1) < ss.length:=by
   rw [Qu] at b1 ⊢;lia
  refine⟨.str _,H,I.kept (t':=tk) old,⟨t,rfl⟩,q _ ?_ λy hy=>?_⟩
  ·have e1:ss.getD (argBest (λi j=>ltS (ss.getD i default) (ss.getD j default)) (its.toArray.size - 1)) default=ss[argBest (λi j=>ltS (ss.getD i default) (ss.getD j default)) (its.toArray.size - 1)]:=by
    rw [List.getD,Qe hin];rfl
   rw [e1];exact List.getElem_mem _
  ·obtain⟨j,hj⟩:=Q1 hy;have hjl:j < ss.length:=(Qb.mp hj).1;have:=b2 j (by rw [hsz];lia);have ey:ss.getD j default=y:=by simp [List.getD,hj]
   simp only [ey] at this;exact this
theorem lg:∀{xs:List V} {us:List Value},us.length=xs.length->(∀(j:Nat) u x,us[j]?=some u->xs[j]?=some x->aW x u)->aS xs us
 | [],[],_,_=>.nil
 | [],_ :: _,h,_=>by cases h
 | _ :: _,[],h,_=>by cases h
 | x :: xs,u :: us,h,f=>.cons (f 0 u x rfl rfl) (lg (Nat.succ.inj h) λj u' x' h1 h2=>f (j+1) u' x' h1 h2)
theorem vU{P:Program}{w:World}{k:Key}{v:Value}(h:(aX P w).is k v=true):aW (kV k) v:=by
 rcases bF h with⟨i,t,rfl,rfl⟩ | ⟨x,t,rfl,rfl⟩
 ·exact⟨t,rfl⟩
 ·exact⟨t,rfl⟩
noncomputable def eqW(h:Heap)(d:PyData)(u:Value):Bool:=@decide (∃ e as,Reads h u e as/\e.canLay0=true/\PyData.eqv e d=true) (Classical.propDecidable _)
theorem jo{h:Heap}{d e:PyData}{u:Value}{as:List Addr}(r:Reads h u e as)(l:e.canLay0=true):eqW h d u=PyData.eqv e d:=by
 unfold eqW;rw [Ua,@Q4 _ (Classical.propDecidable _)];constructor
 ·rintro⟨e',as',r',l',q⟩;rw [SeqAt.Reads.unique e e' u as as' l r r'];exact q
 ·intro q;exact⟨e,as,r,l,q⟩
inductive vV(K:W.Frag)(neg:Bool)(x:V)(y:V)(H:Hp)(Q:VK):Prop
 | mk:∀ p xs d ds,(y=.ref p)->((SqL K H p xs\/SqT K H p xs))->(DtV K H x d)->(eE K H xs ds)->(SeqAt.shaped d=true)->((∀ e∈ds,SeqAt.shaped e=true))->(Q (.bl (if neg then !(ds.any λe=>PyData.eqv e d) else ds.any λe=>PyData.eqv e d)) H)->vV K neg x y H Q
def xZ(K:W.Frag)(neg:Bool):R2:=λx y H Q=>vV K neg x y H Q
theorem eE.get{K:W.Frag}{H:Hp}:∀{xs:List V} {ds:List PyData},eE K H xs ds->∀{us:List Value},aS xs us->∀ u∈us,∃ x d,aW x u/\DtV K H x d/\d∈ds
 | _,_,.nil,_,.nil,u,hu=>Qs hu (by simp)
 | _,_,.cons h t,_,.cons r rt,u,hu=>by
  rcases Qi.mp hu with e | hu
  ·rw [e];exact⟨_,_,r,h,by simp⟩
  ·obtain⟨x,d,h1,h2,h3⟩:=eE.get t rt u hu;exact⟨x,d,h1,h2,by simp [h3]⟩
theorem gG{pins:List (Addr × Obj)}{σ:St}{H:Hp}{s:Shared}{d:PyData}(I:Inv X pins σ H s):∀{xs:List V} {ds:List PyData},eE X.K H xs ds->(∀ e∈ds,SeqAt.shaped e=true)->∀{us:List Value},aS xs us->us.any (eqW s.heap d)=ds.any λe=>PyData.eqv e d
 | _,_,.nil,_,_,.nil=>rfl
 | _,_,.cons h t,f,_,.cons r rt=>by
  obtain⟨as,ra⟩:=h.reads I _ r;rw [Ve,Ve,jo ra (SeqAt.canLay_of_shaped (f _ (by simp))),gG I t (λe he=>f e (by simp [he])) rt]
theorem rG(hu:X.A.units+70 < cLine):OpR X (compareOp .In) (xZ X.K false):=by
 intro pins s σ H x y v u Q I rx ry h;obtain⟨p,xs,d,ds,rfl,hq,hd,hds,sd,sds,q⟩:=h;cases ry;obtain⟨bs,rb⟩:=hd.reads I v rx;have at1:∀{us:List Value},aS xs us->∀ u'∈us,SeqAt.EqAt X.A.in1 s u' v (eqW s.heap d u'):=λrv u' hu'=>by
  obtain⟨x',d',h1,h2,h3⟩:=hds.get rv u' hu';obtain⟨as,ra⟩:=h2.reads I u' h1;rw [jo ra (SeqAt.canLay_of_shaped (sds _ h3))];exact W.keq_at (A:=X.A) ra rb (sds _ h3) sd (by show X.A.units+1+64 < cLine;lia)
 rcases hq with hq | hq
 ·obtain⟨its,r,pl,hz⟩:=I.list hq;refine SeqAt.in_listAt (eqW s.heap d) pl.isList (λw hw=>at1 r w (by simpa using hw)) ⟨.bl _,H,I,rfl,?_⟩;rw [show its.toArray.any (eqW s.heap d)=its.any (eqW s.heap d) by simp,gG I hds sds r];exact q
 ·obtain⟨its,r,pl,hz⟩:=I.tuple hq;refine SeqAt.in_tupleAt (eqW s.heap d) pl (λw hw=>at1 r w (by simpa using hw)) ⟨.bl _,H,I,rfl,?_⟩;rw [show its.toArray.any (eqW s.heap d)=its.any (eqW s.heap d) by simp,gG I hds sds r];exact q
theorem km(hu:X.A.units+70 < cLine):OpR X (compareOp .NotIn) (xZ X.K true):=by
 intro pins s σ H x y v u Q I rx ry h;obtain⟨p,xs,d,ds,rfl,hq,hd,hds,sd,sds,q⟩:=h;cases ry;obtain⟨bs,rb⟩:=hd.reads I v rx;have at1:∀{us:List Value},aS xs us->∀ u'∈us,SeqAt.EqAt X.A.in1 s u' v (eqW s.heap d u'):=λrv u' hu'=>by
  obtain⟨x',d',h1,h2,h3⟩:=hds.get rv u' hu';obtain⟨as,ra⟩:=h2.reads I u' h1;rw [jo ra (SeqAt.canLay_of_shaped (sds _ h3))];exact W.keq_at (A:=X.A) ra rb (sds _ h3) sd (by show X.A.units+1+64 < cLine;lia)
 rcases hq with hq | hq
 ·obtain⟨its,r,pl,hz⟩:=I.list hq;refine SeqAt.notIn_listAt (eqW s.heap d) pl.isList (λw hw=>at1 r w (by simpa using hw)) ⟨.bl _,H,I,rfl,?_⟩;rw [show its.toArray.any (eqW s.heap d)=its.any (eqW s.heap d) by simp,gG I hds sds r];exact q
 ·obtain⟨its,r,pl,hz⟩:=I.tuple hq;refine SeqAt.notIn_tupleAt (eqW s.heap d) pl (λw hw=>at1 r w (by simpa using hw)) ⟨.bl _,H,I,rfl,?_⟩;rw [show its.toArray.any (eqW s.heap d)=its.any (eqW s.heap d) by simp,gG I hds sds r];exact q
end
theorem bO.units70{k:Nat}{A:Around}(r:bO k A):A.units+70 < cLine:=by have:=r.un;lia
theorem Inv.freeze{X:Cx}{pins:List (Addr × Obj)}{σ:St}{H:Hp}{s:Shared}{a:Addr}{o:Obj}{u:HO}(I:Inv X pins σ H s)(ha:H a=some u)(hn:(∀ x,u≠.own x)/\(∀ xs,u≠.tup xs)/\(∀ o' v,u≠.frz o' v)/\∀ ps,u≠.tbl ps)(ho:s.heap.get? a=some o) :
  Inv X pins σ (upd H a (.frz o u)) s:=by
 obtain⟨n1,n2,n3,n4⟩:=hn;refine⟨I.ok,I.os,I.bare,⟨I.base.keep,I.base.slot,λb w e n hx=>?_,I.base.there,λb xs e=>?_,λb w v e=>?_,λb ps e=>?_⟩,I.loc,I.cell,?_,λx c e=>?_,λp h=>?_,?_,I.len⟩
 ·have q:=I.base.free b w e n hx;rw [af (λz=>by rw [z,ha] at q;cases q)];exact q
 ·have q:=I.base.tups b xs e;rw [af (λz=>by rw [z,ha] at q;exact n2 xs (Qt q))];exact q
 ·have q:=I.base.frzs b w v e;rw [af (λz=>by rw [z,ha] at q;exact n3 w v (Qt q))];exact q
 ·obtain⟨m,q⟩:=I.base.tbls b ps e;exact⟨m,by rw [af (λz=>by rw [z,ha] at q;exact n4 _ (Qt q))];exact q⟩
 ·have q:=I.free;rw [af (λz=>by rw [z,ha] at q;cases q)];exact q
 ·have q:=I.freeC x c e;rw [af (λz=>by rw [z,ha] at q;cases q)];exact q
 ·obtain⟨h1,h2,h3⟩:=I.pin p h;exact⟨h1,by rw [af (λz=>by rw [z,ha] at h2;cases h2)];exact h2,h3⟩
 ·have own:∀ c y,H c=some (.own y)->(upd H a (.frz o u)) c=some (.own y):=λc y q=>by
   rw [af (λz=>by rw [z,ha] at q;exact n1 y (Qt q))];exact q
  have tup:∀ c xs,H c=some (.tup xs)->(upd H a (.frz o u)) c=some (.tup xs):=λc xs q=>by
   rw [af (λz=>by rw [z,ha] at q;exact n2 xs (Qt q))];exact q
  intro b w e;by_cases hb:b=a
  ·subst hb;rw [ae] at e;cases e;exact⟨ho,(I.hok b u ha).stay (λ_ _ _ q=>q) (λc q=>own c _ q) tup⟩
  ·rw [af hb] at e;exact(I.hok b w e).stay (λ_ _ _ q=>q) (λc q=>own c _ q) tup
end L2
namespace L2
open PySem PySem.Spec PyProof.Rows
def Nx(n i:Nat)(P:Prop):Prop:=∃ m',m' < n - i/\m'=n - (i+1)/\i+1<=n/\P
theorem Nx.mk{n i:Nat}{P:Prop}(h:i < n)(p:P):Nx n i P:=⟨n - (i+1),by lia,rfl,h,p⟩
theorem cJ{tt:TT}{te:TE}{σ:St}{Fin:List V->Hp->Prop}{K:W.Frag}{a:Addr}{xs:List V}{H1:Hp}(Pv:Nat->List V->Hp->Prop)(h0:Pv 0 [] H1)(hl:∀ i ys H,i<=xs.length->Pv i ys H->SqL K H a xs)
  (hs:∀ i x ys H,xs[i]?=some x->i < xs.length->Pv i ys H->tt (some x :: σ) H λb H3=>if b=true then te (some x :: σ) H3 λy H4=>ys.length < sizeLine/\Nx xs.length i (Pv (i+1) (ys++[y]) H4) else Nx xs.length i (Pv (i+1) ys H3))
  (hd:∀ ys H,Pv xs.length ys H->Fin ys H):jj tt te σ Fin (Itl K a) H1:=by
 refine⟨λi m ys H=>m=xs.length - i/\i<=xs.length/\Pv i ys H,⟨_,rfl,Uh _,h0⟩,?_⟩;rintro i m ys H ⟨rfl,hi,p⟩;have q:=hl i ys H hi p;by_cases hlt:i < xs.length
 ·refine .inr ⟨⟨xs,xs[i],q,by simp [hlt]⟩,λv H2 y=>?_⟩;obtain⟨e,y⟩:=y;subst e;exact hs i v ys _ (y xs q) hlt p
 ·have e:i=xs.length:=by lia
  subst e;exact .inl ⟨⟨xs,q,Qk _⟩,hd ys H p⟩
end L2
namespace L2
open PySem PySem.Spec PyProof.Rows
section
variable{X:Cx} {K:W.Frag}
theorem mn(h:X.K=K):IxR X (xS K):=h ▸ aN
theorem bD(h:X.K=K):IxR X (xT K):=h ▸ ar
theorem jW(h:X.K=K):eh X (.builtin "len") (λxs H Q=>∃ p ys,xs=[.ref p]/\(SqL K H p ys\/SqT K H p ys)/\Q (.int ys.length) H):=h ▸ aJ
end
end L2
namespace L2
open PySem PySem.Spec PyProof.Rows
theorem fU(l:Addr)(items:Array Value)(n:Nat)(x:Value)(e:Value->Bool)(j:Nat)(hj:j < items.size)(hit:e items[j]=true)(hs1:items.size<=sizeLine) :
  ∀(k i:Nat),j - i=k->i<=j->(∀(m:Nat) (hm:m < items.size),i<=m->m < j->e items[m]=false) ->
   Meets (Builtin.«list.remove.loop» { pos:=[Value.ref l,x,rawInt ↑i] }) λA R s =>
    s.heap.get? l=some { cls:=Value.type "list",data:=Data.seq items n }/\(∀ y∈items,SeqAt.EqAt A.in1 s y x (e y)) /\
     R (Except.ok (Flow.ret Value.none)) { s with heap:=s.heap.update l (Obj.mapSeq λxs=>xs.eraseIdxIfInBounds j) }
 | 0,i,hk,hij,hno=>by
  intro prog w A R s h;obtain⟨hl,he,h⟩:=h;have hij':i=j:=by lia
  subst hij';refine Qa (Qa (Qa (Ut hl (Qd (Qd ?_)))));have hi:items[((i:Nat):Int).toNat]?=some items[i]:=by simp [hj]
  show wpAny _ _ (match items[((i:Nat):Int).toNat]? with
   | none=>_
   | some x_1=>_) _ _ _
  rw [hi];refine Qa (he items[i] (Array.getElem_mem hj) prog w _ _ ?_);rw [hit];refine wpAny_ite_true rfl (Qa ?_);exact wpAny_updateSeq hl rfl (Qd h) hs1 (QQ (MeetsSeq.size_erased items i) (Nat.le_succ_of_le hs1))
 | k+1,i,hk,hij,hno=>by
  intro prog w A R s h;obtain⟨hl,he,h⟩:=h;have hlt:i < items.size:=by lia
  refine Qa (Qa (Qa (Ut hl (Qd (Qd ?_)))));have hi:items[((i:Nat):Int).toNat]?=some items[i]:=by simp [hlt]
  show wpAny _ _ (match items[((i:Nat):Int).toNat]? with
   | none=>_
   | some x_1=>_) _ _ _
  rw [hi];refine Qa (he items[i] (Array.getElem_mem hlt) prog w _ _ ?_);rw [hno i hlt (Qk i) (by lia)];refine Uu rfl (Qd ?_);have hc:((i:Nat):Int)+1=((i+1:Nat):Int):=by lia
  show _/\codeAny (model prog w) A (Code.builtin "list.remove.loop" { pos:=[Value.ref l,x,rawInt (((i:Nat):Int)+1)] }) R _;rw [hc];refine⟨plainId_quiet MeetsSeq.plain_remove_loop _,codeAny_builtin MeetsSeq.entry_remove_loop ?_⟩;rw [Around.under_plainId MeetsSeq.plain_remove_loop];exact fU l items n x e j hj hit hs1 k (i+1) (by lia) (by lia) (λm hm h1 h2=>hno m hm (by lia) h2) prog w A R _ ⟨hl,he,h⟩
theorem jX(l:Addr)(items:Array Value)(n:Nat)(x:Value)(e:Value->Bool)(j:Nat)(hj:j < items.size)(hit:e items[j]=true)(hs1:items.size<=sizeLine)
  (hno:∀(m:Nat) (hm:m < items.size),m < j->e items[m]=false) :
  Meets (Builtin.«list.remove» { pos:=[Value.ref l,x] }) λA R s =>
    s.heap.get? l=some { cls:=Value.type "list",data:=Data.seq items n }/\(∀ y∈items,SeqAt.EqAt A.in1 s y x (e y)) /\
     R (Except.ok (Flow.ret Value.none)) { s with heap:=s.heap.update l (Obj.mapSeq λxs=>xs.eraseIdxIfInBounds j) }:=by
 intro prog w A R s h;refine Qa (Qa (wpAny_ite_true rfl (Qd (Qd (Qd ?_)))));refine⟨plainId_quiet MeetsSeq.plain_remove_loop _,codeAny_builtin MeetsSeq.entry_remove_loop ?_⟩;rw [Around.under_plainId MeetsSeq.plain_remove_loop];exact fU l items n x e j hj hit hs1 (j - 0) 0 rfl (Uh j) (λm hm _ h2=>hno m hm h2) prog w A R s h
section
variable{X:Cx}
inductive mo(K:W.Frag)(x:V)(vs:List V)(H:Hp)(Q:VK):Prop
 | mk:∀ l xs y d ds j,(x=.ref l)->(vs=[y])->(H l=some (.lst xs))->(DtV K H y d)->(eE K H xs ds)->(SeqAt.shaped d=true)->((∀ e∈ds,SeqAt.shaped e=true))->((ds[j]?.map λe=>e.eqv d)=some true)->((∀ m,m < j->(ds[m]?.map λe=>e.eqv d)=some false))->(Q .non (upd H l (.lst (xs.eraseIdx j))))->mo K x vs H Q
def uv(K:W.Frag):V->List V->Hp->VK->Prop:=λx vs H Q=>mo K x vs H Q
theorem eE.at{K:W.Frag}{H:Hp}:∀{xs:List V} {ds:List PyData},eE K H xs ds->∀{us:List Value},aS xs us->∀{j:Nat} {u:Value},us[j]?=some u->∃ x d,aW x u/\DtV K H x d/\xs[j]?=some x/\ds[j]?=some d
 | _,_,.nil,_,.nil,j,u,h=>by simp at h
 | _,_,.cons h1 h2,_,.cons r1 r2,0,u,h=>by
  simp at h;subst h;exact⟨_,_,r1,h1,rfl,rfl⟩
 | _,_,.cons h1 h2,_,.cons r1 r2,j+1,u,h=>by
  obtain⟨x,d,a,b,c,e⟩:=eE.at h2 r2 (j:=j) (u:=u) (by simpa using h);exact⟨x,d,a,b,by simpa using c,by simpa using e⟩
theorem eE.len{K:W.Frag}{H:Hp}:∀{xs:List V} {ds:List PyData},eE K H xs ds->xs.length=ds.length
 | _,_,.nil=>rfl
 | _,_,.cons _ t=>QW (·+1) (eE.len t)
theorem h9(hu:X.A.units+70 < cLine):MtM X "list.remove" (uv X.K):=by
 intro pins s σ H x vs v us Q I rx rv h;obtain⟨l,xs,y,d,ds,j,rfl,rfl,hH,hd,hds,sd,sds,hit,hno,q⟩:=h;cases rx;obtain⟨u,rfl,ru⟩:=rv.one;obtain⟨bs,rb⟩:=hd.reads I u ru;obtain⟨z,its,n,r,hl,e⟩:=I.lstM hH;have at1:∀ u'∈its,SeqAt.EqAt X.A.in1 s u' u (eqW s.heap d u'):=λu' hu'=>by
  obtain⟨x',d',h1,h2,h3⟩:=hds.get r u' hu';obtain⟨as,ra⟩:=h2.reads I u' h1;rw [jo ra (SeqAt.canLay_of_shaped (sds _ h3))];exact W.keq_at (A:=X.A) ra rb (sds _ h3) sd (by show X.A.units+1+64 < cLine;lia)
 have hdl:ds.length=its.length:=by rw [<-hds.len];exact r.length
 have val:∀(m:Nat) (hm:m < its.length) (b:Bool),(ds[m]?.map λe=>e.eqv d)=some b->eqW s.heap d its[m]=b:=λm hm b hb=>by
  obtain⟨x',d',h1,h2,_,h4⟩:=hds.at r (Qe hm);obtain⟨as,ra⟩:=h2.reads I _ h1;rw [jo ra (SeqAt.canLay_of_shaped (sds _ (QC h4)))];rw [h4] at hb;exact Qt hb
 have hj:j < its.length:=by
  rw [<-hdl];cases z:ds[j]? with
  | none=>rw [z] at hit;cases hit
  | some _=>exact(Qb.mp z).1
 refine call_meets F.slot_list_remove ⟨_,e,rfl⟩ F.entry_list_remove (F.args_list_remove_2 _ _)
  (jX l its.toArray n u (eqW s.heap d) j (by simpa using hj) (by simpa using val j hj true hit) (by rw [Qu];lia) (λm hm h2=>by
   have hm':m < its.length:=by simpa using hm
   simpa using val m hm' false (hno m h2))) ⟨e,λy hy=>at1 y (by simpa using hy),?_⟩
 refine⟨.non,_,I.lset (its':=its.eraseIdx j) hH e ?_ (r.eraseIdx j) ?_,rfl,q⟩
 ·show its.toArray.eraseIdxIfInBounds j=(its.eraseIdx j).toArray;rw [List.eraseIdxIfInBounds_toArray]
 ·have:=g8 xs j;lia
theorem eU:OpR X (binaryOp .Mult) (λx y H Q=>∃ i n,x=.str i/\y=.int n/\MulOk i n/\Q (.str (PySem.Txt.mul i n)) H):=by
 intro pins s σ H x y v u Q I rx ry h;obtain⟨i,n,rfl,rfl,ok,q⟩:=h;obtain⟨t,rfl⟩:=rx;obtain⟨t',rfl⟩:=ry;exact SB.mul ok λt2 k=>⟨.str _,H,I.tok k,⟨t2,rfl⟩,q⟩
end
end L2
namespace L2
open PySem PySem.Spec PyProof.Rows
def lh:Expr->Bool
 | .Starred _ _=>false
 | _=>true
theorem uy{e:Expr}{es:List Expr}{env:Env}(h:lh e=true):starEach (e :: es) env=(false,eval e env) :: starEach es env:=by
 cases e <;> first | rfl | cases h
theorem aa{X:Cx}{e:Expr}{es:List Expr}{te:TE}{t:TA}(h:lh e=true)(ha:PE X e te)(hr:PA X es t):PA X (e :: es) (vI te t):=uj ha hr (uy h)
end L2
namespace Srt
open PySem.W PyProof.Rows
def ev{α:Type}(lt:Nat->Nat->Bool):KasT α->α
 | .ret a=>a
 | .ask i j k=>ev lt (k (lt i j))
theorem fA{α β:Type}(lt:Nat->Nat->Bool):∀(t:KasT α) (f:α->KasT β),ev lt (t.bind f)=ev lt (f (ev lt t))
 | .ret a,f=>by rw [KasT.bind.eq_1];rfl
 | .ask i j k,f=>by
  rw [KasT.bind.eq_2];exact fA lt (k (lt i j)) f
def g(p:Array Nat)(i:Nat):Nat:=p.getD i 0
theorem zI{p:Array Nat}{i x:Nat}(h:p[i]?=some x):g p i=x:=by
 unfold g;rw [U1,h];rfl
theorem rH{p q:Array Nat}{i j:Nat}(h:p[i]?=q[j]?):g p i=g q j:=by
 unfold g;rw [U1,U1,h]
structure Tot(lt:Nat->Nat->Bool)(n:Nat):Prop where
 irr:∀ a,lt a a=false
 tr:∀ a b c,lt a b=true->lt b c=true->lt a c=true
 tot:∀ a b,a < n->b < n->a≠b->lt a b=true\/lt b a=true
def Pm(n:Nat)(p:Array Nat):Prop:=p.toList.Perm (List.range n)
theorem Pm.size{n:Nat}{p:Array Nat}(h:Pm n p):p.size=n:=by
 have:=h.length_eq;rwa [Q0,List.length_range] at this
theorem Pm.get{n:Nat}{p:Array Nat}(h:Pm n p){i:Nat}(hi:i < n):p[i]?=some (g p i):=by
 have hi':i < p.size:=by rw [h.size];exact hi
 have e:p[i]?=some p[i]:=Array.getElem?_eq_getElem hi';rw [e,zI e]
theorem Pm.lt{n:Nat}{p:Array Nat}(h:Pm n p){i:Nat}(hi:i < n):g p i < n:=by
 have e:=h.get hi;have:g p i∈p.toList:=by
  rw [<-Uz] at e;exact QC e
 exact U4.mp (h.mem_iff.mp this)
theorem Pm.inj{n:Nat}{p:Array Nat}(h:Pm n p){i j:Nat}(hi:i < n)(hj:j < n)(hij:i≠j):g p i≠g p j:=by
 intro e;have nd:p.toList.Nodup:=h.nodup_iff.mpr List.nodup_range;have e1:=h.get hi;have e2:=h.get hj;rw [<-Uz] at e1 e2;obtain⟨h1,q1⟩:=Qb.mp e1;obtain⟨h2,q2⟩:=Qb.mp e2;exact hij ((Vm nd).mp (q1.trans (e.trans q2.symm)))
theorem Pm.of{n:Nat}{p q:Array Nat}(h:Pm n p)(k:q.Perm p):Pm n q:=(Array.Perm.toList k).trans h
variable{lt:Nat->Nat->Bool} {n:Nat}
def S(lt:Nat->Nat->Bool)(p:Array Nat)(k:Nat):Prop:=∀ i j,i < j->j < k->lt (g p i) (g p j)=true
def De(lt:Nat->Nat->Bool)(p:Array Nat)(k:Nat):Prop:=∀ i j,i < j->j < k->lt (g p j) (g p i)=true
theorem Tot.other(o:Tot lt n){a b:Nat}(ha:a < n)(hb:b < n)(hab:a≠b)(h:lt a b=false):lt b a=true:=by
 rcases o.tot a b ha hb hab with z | z
 ·rw [h] at z;cases z
 ·exact z
theorem S.snoc(o:Tot lt n){p:Array Nat}{k:Nat}(h:S lt p k)(hk:1<=k)(e:lt (g p (k - 1)) (g p k)=true):S lt p (k+1):=λi j hij hj=>by
 by_cases hjk:j < k
 ·exact h i j hij hjk
 ·have:j=k:=by lia
  subst this;by_cases hi:i=j - 1
  ·rw [hi];exact e
  ·exact o.tr _ _ _ (h i (j - 1) (by lia) (by lia)) e
theorem De.snoc(o:Tot lt n){p:Array Nat}{k:Nat}(h:De lt p k)(hk:1<=k)(e:lt (g p k) (g p (k - 1))=true):De lt p (k+1):=λi j hij hj=>by
 by_cases hjk:j < k
 ·exact h i j hij hjk
 ·have:j=k:=by lia
  subst this;by_cases hi:i=j - 1
  ·rw [hi];exact e
  ·exact o.tr _ _ _ e (h i (j - 1) (by lia) (by lia))
theorem nW(o:Tot lt n){p:Array Nat}(hp:Pm n p):∀(f k:Nat),S lt p k->1<=k->k+f<=n->∃ m,ev lt (kas_asc p f k)=m/\S lt p m/\k<=m/\m<=k+f/\(m < k+f->lt (g p m) (g p (m - 1))=true)
 | 0,k,h,_,_=>⟨k,by rw [kas_asc.eq_1];rfl,h,Qk _,Qk _,λz=>by lia⟩
 | f+1,k,h,hk,hn=>by
  have e:ev lt (kas_asc p (f+1) k)=ev lt (if lt (g p k) (g p (k - 1))=true then KasT.ret k else kas_asc p f (k+1)):=by
   rw [kas_asc.eq_2];rfl
  rw [e];cases c:lt (g p k) (g p (k - 1)) with
  | true=>rw [Qn rfl];exact⟨k,rfl,h,Qk _,by lia,λ_=>c⟩
  | false =>
   rw [Qf Qj];have c':=o.other (hp.lt (i:=k) (by lia)) (hp.lt (i:=k - 1) (by lia)) (hp.inj (by lia) (by lia) (by lia)) c;obtain⟨m,h1,h2,h3,h4,h5⟩:=nW o hp f (k+1) (h.snoc o hk c') (by lia) (by lia);exact⟨m,h1,h2,by lia,by lia,λz=>h5 (by lia)⟩
theorem o4(o:Tot lt n){p:Array Nat}(hp:Pm n p):∀(f k:Nat),De lt p k->1<=k->k+f<=n->∃ m,ev lt (kas_desc f p k 0)=(p,m,0)/\De lt p m/\k<=m/\m<=k+f
 | 0,k,h,_,_=>⟨k,by rw [kas_desc.eq_1];rfl,h,Qk _,Qk _⟩
 | f+1,k,h,hk,hn=>by
  have e:ev lt (kas_desc (f+1) p k 0)=ev lt (if lt (g p k) (g p (k - 1))=true then kas_desc f p (k+1) 0 else (if lt (g p (k - 1)) (g p k)=true then KasT.ret (p,k,0) else kas_desc f p (k+1) 1)):=by
   rw [kas_desc.eq_2];show ev lt (if lt (g p k) (g p (k - 1))=true then (if 0 > 0 then _ else _) else _)=_;cases lt (g p k) (g p (k - 1)) with
   | true=>rfl
   | false=>rfl
  rw [e];cases c:lt (g p k) (g p (k - 1)) with
  | true =>
   rw [Qn rfl];obtain⟨m,h1,h2,h3,h4⟩:=o4 o hp f (k+1) (h.snoc o hk c) (by lia) (by lia);exact⟨m,h1,h2,by lia,by lia⟩
  | false =>
   have c':=o.other (hp.lt (i:=k) (by lia)) (hp.lt (i:=k - 1) (by lia)) (hp.inj (by lia) (by lia) (by lia)) c;rw [Qf Qj,Qn c'];exact⟨k,rfl,h,Qk _,by lia⟩
theorem x6{p:Array Nat}(hp:Pm n p){k:Nat}(hk:k<=n)(h:De lt p k):S lt (kas_rev p 0 k) k:=λi j hij hj=>by
 have hs:k<=p.size:=by rw [hp.size];exact hk
 have a1:g (kas_rev p 0 k) i=g p (0+k - 1 - i):=rH (by unfold kas_rev;rw [getElem?_mirror_all hs,Qn ⟨by lia,by lia⟩]);have a2:g (kas_rev p 0 k) j=g p (0+k - 1 - j):=rH (by unfold kas_rev;rw [getElem?_mirror_all hs,Qn ⟨by lia,by lia⟩]);rw [a1,a2];exact h _ _ (by lia) (by lia)
theorem vW{p:Array Nat}(hp:Pm n p)(k:Nat):Pm n (kas_rev p 0 k):=hp.of (mirror_perm _ _ _ _)
theorem rJ(o:Tot lt n){p:Array Nat}(hp:Pm n p)(hn:1<=n):∃ m q,ev lt (kas_count n p)=(m,q)/\Pm n q/\S lt q m/\1<=m/\m<=n:=by
 obtain⟨m,h1,h2,h3,h4,h5⟩:=nW o hp (n - 1) 1 (λi j hij hj=>by lia) (Qk _) (by lia);unfold kas_count;rw [fA,h1];by_cases c1:m=n
 ·have:(m == n)=true:=U3.mpr c1;simp only [this,if_true];exact⟨m,p,rfl,hp,h2,h3,by lia⟩
 ·have:(m == n)=false:=by simpa using c1
  simp only [this,Ui,if_false];by_cases c2:m > 1
  ·rw [Qn c2];have c3:lt (g p 0) (g p (m - 1))=true:=h2 0 (m - 1) (by lia) (by lia);show ∃ m' q,ev lt (if lt (g p 0) (g p (m - 1))=true then _ else _)=_/\_;rw [c3,Qn rfl];exact⟨m,p,rfl,hp,h2,h3,by lia⟩
  ·rw [Qf c2];have em:m=1:=by lia
   subst em;have c4:=h5 (by lia);have d2:De lt p 2:=λi j hij hj=>by
    have e1:i=0:=by lia
    have e2:j=1:=by lia
    subst e1 e2;exact c4
   obtain⟨k,k1,k2,k3,k4⟩:=o4 o hp (n - (1+1)) (1+1) d2 (by lia) (by lia);rw [kas_descPart.eq_1,fA,k1];show ∃ m' q,ev lt (if 0 > 0 then _ else kas_tail3 k n p)=_/\_;rw [Qf (Um 0)];unfold kas_tail3;obtain⟨m',m1,m2,m3,m4,_⟩:=nW o (vW hp k) (n - k) k (x6 hp (by lia) k2) (by lia) (by lia);rw [fA,m1];exact⟨m',_,rfl,vW hp k,m2,by lia,by lia⟩
theorem jp(o:Tot lt n){p:Array Nat}(hp:Pm n p){k:Nat}(hk:k < n)(hS:S lt p k):∀(f l r:Nat),r - l<=f->l<=r->r<=k->(∀ i,i < l->lt (g p i) (g p k)=true)->(∀ i,r<=i->i < k->lt (g p k) (g p i)=true) ->
  ∃ m,ev lt (kas_place p k f l r)=m/\m<=k/\(∀ i,i < m->lt (g p i) (g p k)=true)/\(∀ i,m<=i->i < k->lt (g p k) (g p i)=true)
 | 0,l,r,hf,hl,hr,h1,h2=>⟨l,by rw [kas_place.eq_def];rfl,by lia,h1,λi hi hk=>h2 i (by lia) hk⟩
 | f+1,l,r,hf,hl,hr,h1,h2=>by
  rw [kas_place.eq_def];by_cases c:l>=r
  ·simp only [c,if_true];exact⟨l,rfl,by lia,h1,λi hi hk=>h2 i (by lia) hk⟩
  ·simp only [c,if_false];show ∃ m,ev lt (if lt (g p k) (g p ((l+r) / 2))=true then kas_place p k f l ((l+r) / 2) else kas_place p k f ((l+r) / 2+1) r)=m/\_;have hm1:l<=(l+r) / 2:=by lia
   have hm2:(l+r) / 2 < r:=by lia
   generalize (l+r) / 2=d at hm1 hm2;cases e:lt (g p k) (g p d) with
   | true =>
    rw [Qn rfl];refine jp o hp hk hS f l d (by lia) (by lia) (by lia) h1 λi hi hik=>?_;by_cases hid:i=d
    ·rw [hid];exact e
    ·exact o.tr _ _ _ e (hS d i (by lia) hik)
   | false =>
    rw [Qf Qj];have e':=o.other (hp.lt hk) (hp.lt (i:=d) (by lia)) (hp.inj hk (by lia) (by lia)) e;refine jp o hp hk hS f (d+1) r (by lia) (by lia) hr (λi hi=>?_) h2;by_cases hid:i=d
    ·rw [hid];exact e'
    ·exact o.tr _ _ _ (hS i d (by lia) (by lia)) e'
theorem rK(o:Tot lt n):∀(f:Nat) (p:Array Nat) (k:Nat),Pm n p->S lt p k->k+f=n->∃ q,ev lt (kas_bin f p k)=q/\Pm n q/\S lt q n
 | 0,p,k,hp,hS,hk=>⟨p,by rw [kas_bin.eq_1];rfl,hp,by rw [<-hk];exact hS⟩
 | f+1,p,k,hp,hS,hk=>by
  rw [kas_bin.eq_2,fA];obtain⟨l,h1,h2,h3,h4⟩:=jp o hp (k:=k) (by lia) hS k 0 k (by lia) (by lia) (Qk _) (λi hi=>by lia) (λi hi hik=>by lia);rw [h1];refine rK o f _ (k+1) (hp.of (bubble_perm _ _ _)) (λi j hij hj=>?_) (by lia);have hs:k < p.size:=by rw [hp.size];lia
  have val:∀ x,x<=k->g (bubble p k (k - l)) x=if x=l then g p k else if l < x then g p (x - 1) else g p x:=λx hx=>by
   have:=getElem?_bubble hs (k - l) (by lia) x;rw [show k - (k - l)=l by lia] at this;by_cases c1:x=l
   ·rw [Qn c1] at this ⊢;exact rH this
   ·rw [Qf c1] at this ⊢;by_cases c2:l < x
    ·rw [Qn ⟨c2,hx⟩] at this;rw [Qn c2];exact rH this
    ·rw [Qf (λz=>c2 z.1)] at this;rw [Qf c2];exact rH this
  rw [val i (by lia),val j (by lia)];by_cases c1:i=l
  ·rw [Qn c1,Qf (by lia),Qn (by lia)];exact h4 (j - 1) (by lia) (by lia)
  ·rw [Qf c1];by_cases c2:l < i
   ·rw [Qn c2,Qf (by lia),Qn (by lia)];exact hS (i - 1) (j - 1) (by lia) (by lia)
   ·rw [Qf c2];by_cases c3:j=l
    ·rw [Qn c3];exact h3 i (by lia)
    ·rw [Qf c3];by_cases c4:l < j
     ·rw [Qn c4];by_cases c5:i=j - 1
      ·omega
      ·exact hS i (j - 1) (by lia) (by lia)
     ·rw [Qf c4];exact hS i j hij (by lia)
theorem uz(o:Tot lt n)(hn:1<=n):∃ q,ev lt (kas_sort n)=q/\Pm n q/\S lt q n:=by
 unfold kas_sort;rw [fA];obtain⟨m,q,h1,h2,h3,h4,h5⟩:=rJ o (p:=(List.range n).toArray) (by show List.Perm _ _;exact List.Perm.refl _) hn;rw [h1];by_cases c:m < n
 ·show ∃ q',ev lt (if m < n then kas_bin (n - max m 1) q (max m 1) else KasT.ret q)=q'/\_;rw [Qn c,show max m 1=m by lia];exact rK o (n - m) q m h2 h3 (by lia)
 ·show ∃ q',ev lt (if m < n then kas_bin (n - max m 1) q (max m 1) else KasT.ret q)=q'/\_;rw [Qf c];exact⟨q,rfl,h2,by rw [show n=m by lia];exact h3⟩
end Srt
namespace Srt
open PySem.W PyProof.Rows
def Ax{α:Type}(n:Nat)(R:α->Prop):KasT α->Prop
 | .ret a=>R a
 | .ask i j k=>i < n/\j < n/\∀ b,Ax n R (k b)
theorem Ax.bind{α β:Type}{n:Nat}{R:α->Prop}{R':β->Prop}:∀{t:KasT α} {f:α->KasT β},Ax n R t->(∀ a,R a->Ax n R' (f a))->Ax n R' (t.bind f)
 | .ret a,f,h,k=>by rw [KasT.bind.eq_1];exact k a h
 | .ask i j t,f,h,k=>by
  rw [KasT.bind.eq_2];exact⟨h.1,h.2.1,λb=>Ax.bind (h.2.2 b) k⟩
def B(n:Nat)(p:Array Nat):Prop:=∀ x∈p.toList,x < n
theorem B.of{n:Nat}{p q:Array Nat}(h:B n p)(k:q.Perm p):B n q:=λx hx=>h x ((Array.Perm.toList k).mem_iff.mp hx)
theorem B.get{n:Nat}{p:Array Nat}(h:B n p)(h0:0 < n)(i:Nat):p.getD i 0 < n:=by
 rw [U1];cases e:p[i]? with
 | none=>exact h0
 | some x =>
  rw [<-Uz] at e;exact h x (QC e)
variable{n:Nat}
theorem nX(h0:0 < n){p:Array Nat}(hp:B n p):∀(f k:Nat),Ax n (λ_=>True) (kas_asc p f k)
 | 0,k=>by rw [kas_asc.eq_1];trivial
 | f+1,k=>by
  rw [kas_asc.eq_2];refine⟨hp.get h0 _,hp.get h0 _,λb=>?_⟩;cases b with
  | true=>trivial
  | false=>exact nX h0 hp f (k+1)
theorem iR(h0:0 < n):∀(f:Nat) (p:Array Nat) (k q:Nat),B n p->Ax n (λr:Array Nat × Nat × Nat=>B n r.1) (kas_desc f p k q)
 | 0,p,k,q,hp=>by rw [kas_desc.eq_1];exact hp
 | f+1,p,k,q,hp=>by
  rw [kas_desc.eq_2];refine⟨hp.get h0 _,hp.get h0 _,λb=>?_⟩;cases b with
  | true =>
   show Ax n _ (if q > 0 then kas_desc f (kas_rev p (k - (q+1)) k) (k+1) 0 else kas_desc f p (k+1) 0);split
   ·exact iR h0 f _ _ _ (hp.of (mirror_perm _ _ _ _))
   ·exact iR h0 f _ _ _ hp
  | false =>
   refine⟨hp.get h0 _,hp.get h0 _,λc=>?_⟩;cases c with
   | true=>exact hp
   | false=>exact iR h0 f _ _ _ hp
theorem o5(h0:0 < n){p:Array Nat}(hp:B n p)(k m:Nat):Ax n (λr:Nat × Array Nat=>B n r.2) (kas_tail3 k m p):=by
 unfold kas_tail3;exact(nX h0 (hp.of (mirror_perm _ _ _ _)) _ _).bind λa _=>hp.of (mirror_perm _ _ _ _)
theorem mq(h0:0 < n){p:Array Nat}(hp:B n p)(k m:Nat):Ax n (λr:Nat × Array Nat=>B n r.2) (kas_descPart k m p):=by
 rw [kas_descPart.eq_1];refine(iR h0 _ _ _ _ hp).bind λr hr=>?_;split
 ·exact o5 h0 (hr.of (mirror_perm _ _ _ _)) _ _
 ·exact o5 h0 hr _ _
theorem rL(h0:0 < n){p:Array Nat}(hp:B n p)(m:Nat):Ax n (λr:Nat × Array Nat=>B n r.2) (kas_count m p):=by
 unfold kas_count;refine(nX h0 hp _ _).bind λa _=>?_;split
 ·exact hp
 ·split
  ·refine⟨hp.get h0 _,hp.get h0 _,λb=>?_⟩;cases b with
   | true=>exact hp
   | false=>exact mq h0 (hp.of (mirror_perm _ _ _ _)) _ _
  ·exact mq h0 hp _ _
theorem jq(h0:0 < n){p:Array Nat}(hp:B n p)(k:Nat):∀(f l r:Nat),Ax n (λ_=>True) (kas_place p k f l r)
 | 0,l,r=>by rw [kas_place.eq_def];trivial
 | f+1,l,r=>by
  rw [kas_place.eq_def];by_cases c:l>=r
  ·simp only [c,if_true];trivial
  ·simp only [c,if_false];refine⟨hp.get h0 _,hp.get h0 _,λb=>?_⟩;cases b with
   | true=>exact jq h0 hp k f _ _
   | false=>exact jq h0 hp k f _ _
theorem rM(h0:0 < n):∀(f:Nat) (p:Array Nat) (k:Nat),B n p->Ax n (λ_=>True) (kas_bin f p k)
 | 0,p,k,hp=>by rw [kas_bin.eq_1];trivial
 | f+1,p,k,hp=>by
  rw [kas_bin.eq_2];exact(jq h0 hp k _ _ _).bind λl _=>rM h0 f _ _ (hp.of (bubble_perm _ _ _))
theorem uA(h0:0 < n):Ax n (λ_=>True) (kas_sort n):=by
 unfold kas_sort;refine(rL h0 (p:=(List.range n).toArray) (λx hx=>U4.mp (by simpa using hx)) n).bind λr hr=>?_;split
 ·exact rM h0 _ _ _ hr
 ·trivial
theorem vX{α:Type}{n:Nat}{lt:Nat->Nat->Bool}{cmp:Nat->Nat->(Bool->PySem.Shared->Prop)->PySem.Shared->Prop}{s:PySem.Shared}(hc:∀ i j C,i < n->j < n->C (lt i j) s->cmp i j C s) :
  ∀{t:KasT α} {R:α->Prop} {Q:α->PySem.Shared->Prop},Ax n R t->Q (ev lt t) s->KasT.kasWp cmp t Q s
 | .ret a,R,Q,_,q=>by rw [KasT.kasWp.eq_1];exact q
 | .ask i j k,R,Q,h,q=>by
  rw [KasT.kasWp.eq_2];exact hc i j _ h.1 h.2.1 (vX hc (h.2.2 _) q)
end Srt
namespace Srt
open PySem PySem.W PyProof.Rows
def midHeap(h:Heap)(a:Addr)(vs:List Value):Heap:=((h.update a (Obj.mapSeq λ_=>#[])).push (seqObj "tuple" vs.toArray 0)).push (seqObj "list" #[] 0)
theorem jY{prog:Program}{w:World}{A:Around}{E:Value->Shared->Prop}{s:Shared}{a:Addr}{vs:List Value}{n:Nat}{P:PySem.Fin->Shared->Prop}
  (ho:s.heap.get? a=some (seqObj "list" vs.toArray n)) (h64:vs.length < 64)
  (h1:vs.length < 2->P (Fin.done (Flow.ret Value.none)) { s with heap:=sortedHeap s.heap a vs vs.toArray })
  (h2:2<=vs.length->wpAny (model prog w) A (keyKind' vs.toArray) (λκ s'=>s'={ s with heap:=midHeap s.heap a vs } /\
   KasT.kasWp (kas_ask prog w A κ vs) (kas_sort vs.length) (λp s''=>s''={ s with heap:=midHeap s.heap a vs }/\P (Fin.done (Flow.ret Value.none)) { s with heap:=sortedHeap s.heap a vs (p.toList.map λi=>vs.getD i Value.none).toArray }) { s with heap:=midHeap s.heap a vs }) E { s with heap:=midHeap s.heap a vs }) :
  wpAny (model prog w) A (Builtin.«list.sort» { pos:=[Value.ref a] }) P E s:=by
 rw [list_sort_plain a];have ha:=QD ho;have hline:sizeLine>=1000:=by decide
 refine Qa (listItems_at ho rfl (Qa (listUpdate_at ho rfl ?_ (by rw [Qu];lia) (by simp))));obtain⟨e1,ho1⟩:∃ e1,(s.heap.update a (Obj.mapSeq λ_=>#[])).get? a=some (seqObj "list" #[] e1):=⟨_,get?_update_seq ho λ_=>#[]⟩;refine Qa (seqEpoch_at ho1 rfl (Qa (wpAny_newTuple (Qa (Vn (Uf ?_) (by simp))))));have ho6:(midHeap s.heap a vs).get? a=some (seqObj "list" #[] e1):=by
  unfold midHeap;rw [VD _ _ _ (by rw [size_push',U9];exact QP (Vi ha)),VD _ _ _ (by rw [U9];exact QP ha)];exact ho1
 have hsz:vs.toArray.size=vs.length:=Qu;have fin:∀(st':SortSt),failedOf st'=none->(arrOf st').size<=1000->P (Fin.done (Flow.ret Value.none)) { s with heap:=sortedHeap s.heap a vs (Array.map (λx=>x.snd) (arrOf st')) } ->
   wpAny (model prog w) A (do
    let d <-seqEpoch a
    Builtin.List.listUpdate (Value.ref a) λ_=>Array.map (λx=>x.snd) (arrOf st')
    match failedOf st' with
     | some e=>do
      rule "list.sort.comparison-raised"
      let r <-throw e
      (λ(_:Unit)=>if (d != e1)=true then do
       rule "list.sort.modified"
       let r <-raiseErrorWords "ValueError" "list modified during sort"
       (λ(_:Unit)=>ret Value.none) r
       else (λ(_:Unit)=>ret Value.none) ()) r
     | _=>(λ(_:Unit)=>if (d != e1)=true then do
       rule "list.sort.modified"
       let r <-raiseErrorWords "ValueError" "list modified during sort"
       (λ(_:Unit)=>ret Value.none) r
       else (λ(_:Unit)=>ret Value.none) ()) ()) P E { s with heap:=midHeap s.heap a vs }:=λst' hf hz hP=>by
  refine Qa (seqEpoch_at ho6 rfl (Qa (listUpdate_at ho6 rfl ?_ (by simp) (by rw [Array.size_map];lia))));rw [hf];show wpAny _ _ (if (e1 != e1)=true then _ else _) _ _ _;rw [Qf (by simp)];exact Qd hP
 show wpAny _ _ _ P E { s with heap:=midHeap s.heap a vs };by_cases c:vs.toArray.size < 2
 ·simp only [Qn c];refine Qa (Qd (Qa ?_));rw [StateT.run_pure];have e:Array.map (λx=>x.snd) (arrOf (SortSt.mk' general' (vs.toArray.zip vs.toArray) #[] 7 none))=vs.toArray:=by
   show Array.map (λx=>x.snd) (vs.toArray.zip vs.toArray)=_;apply Array.ext';simp;rw [List.map_snd_zip];exact Qk _
  refine Qd (fin (SortSt.mk' general' (vs.toArray.zip vs.toArray) #[] 7 none) rfl ?_ ?_)
  ·show(vs.toArray.zip vs.toArray).size<=1000;simp;lia
  ·rw [e];exact h1 (by lia)
 ·simp only [Qf c];refine Qa ?_;refine Uk (h2 (by lia)) ?_ ?_
  ·rintro κ s' ⟨rfl,q⟩;refine Qa ?_;refine Uk (kat_run (E:=E) (ks:=vs) (Q:=λst' s'=>s'={ s with heap:=midHeap s.heap a vs }/\failedOf st'=none/\(arrOf st').size<=1000/\P (Fin.done (Flow.ret Value.none)) { s with heap:=sortedHeap s.heap a vs (Array.map (λx=>x.snd) (arrOf st')) })
    rfl (by lia) h64 (G:=λp s''=>s''={ s with heap:=midHeap s.heap a vs }/\P (Fin.done (Flow.ret Value.none)) { s with heap:=sortedHeap s.heap a vs (p.toList.map λi=>vs.getD i Value.none).toArray }) (λp st' s' hp ha hf hg=>?_) q) ?_ ?_
   ·obtain⟨rfl,hP⟩:=hg;refine⟨rfl,hf,?_,?_⟩
    ·rw [ha,Array.size_map,hp];lia
    ·rw [kat_snds rfl ha];exact hP
   ·rintro r s' ⟨rfl,hf,hz,hP⟩;exact fin r.snd hf hz hP
   ·intro e s' q;exact q
  ·intro e s' q;exact q
end Srt
namespace L2
open PySem PySem.Spec PyProof.Rows
def ltV:V->V->Bool
 | .str a,.str b=>ltS a b
 | .int a,.int b=>decide (a < b)
 | _,_=>false
def dD:List V->List V->Bool
 | x :: xs,y :: ys=>if x=y then dD xs ys else ltV x y
 | _,_=>false
inductive Kin:List V->List V->Prop
 | nil:Kin [] []
 | str {a b:Str} {xs ys:List V}:Kin xs ys->Kin (.str a :: xs) (.str b :: ys)
 | int {a b:Int} {xs ys:List V}:Kin xs ys->Kin (.int a :: xs) (.int b :: ys)
theorem mt:∀ xs:List V,dD xs xs=false
 | []=>rfl
 | x :: xs=>by rw [dD,Qn rfl];exact mt xs
theorem li:∀{a b c:List V},Kin a b->Kin b c->dD a b=true->dD b c=true->dD a c=true
 | _,_,_,.nil,.nil,h,_=>h
 | _,_,_,@Kin.str x y xs ys k1,@Kin.str _ z _ zs k2,h1,h2=>by
  rw [dD] at h1 h2 ⊢;by_cases e1:V.str x=V.str y
  ·rw [Qn e1] at h1;by_cases e2:V.str y=V.str z
   ·rw [Qn e2] at h2;rw [Qn (e1.trans e2)];exact li k1 k2 h1 h2
   ·rw [Qf e2] at h2;rw [Qf (λq=>e2 (e1.symm.trans q)),e1];exact h2
  ·rw [Qf e1] at h1;have h1:ltS x y=true:=h1;by_cases e2:V.str y=V.str z
   ·rw [Qf (λq=>e1 (q.trans e2.symm)),<-e2];exact h1
   ·rw [Qf e2] at h2;have h2:ltS y z=true:=h2;have h3:=lf _ _ _ h1 h2;rw [Qf (λq=>by rw [V.str.inj q,iP] at h3;cases h3)];exact h3
 | _,_,_,@Kin.int x y xs ys k1,@Kin.int _ z _ zs k2,h1,h2=>by
  rw [dD] at h1 h2 ⊢;by_cases e1:V.int x=V.int y
  ·rw [Qn e1] at h1;by_cases e2:V.int y=V.int z
   ·rw [Qn e2] at h2;rw [Qn (e1.trans e2)];exact li k1 k2 h1 h2
   ·rw [Qf e2] at h2;rw [Qf (λq=>e2 (e1.symm.trans q)),e1];exact h2
  ·rw [Qf e1] at h1;have h1:x < y:=QI h1;by_cases e2:V.int y=V.int z
   ·rw [Qf (λq=>e1 (q.trans e2.symm)),<-e2];exact Qh h1
   ·rw [Qf e2] at h2;have h2:y < z:=QI h2;rw [Qf (λq=>by have:=V.int.inj q;lia)];exact Qh (by lia)
theorem jr:∀{a b:List V},Kin a b->a≠b->dD a b=true\/dD b a=true
 | _,_,.nil,h=>Qs rfl h
 | _,_,@Kin.str x y xs ys k,h=>by
  rw [dD,dD];by_cases e:V.str x=V.str y
  ·rw [Qn e,Qn e.symm];exact jr k λq=>h (by rw [e,q])
  ·rw [Qf e,Qf (λq=>e q.symm)];rcases iQ x y with z | z | z
   ·exact .inl z
   ·exact Qs (QW V.str z) e
   ·exact .inr z
 | _,_,@Kin.int x y xs ys k,h=>by
  rw [dD,dD];by_cases e:V.int x=V.int y
  ·rw [Qn e,Qn e.symm];exact jr k λq=>h (by rw [e,q])
  ·rw [Qf e,Qf (λq=>e q.symm)];have:x≠y:=λq=>e (QW V.int q);by_cases hx:x < y
   ·exact .inl (Qh hx)
   ·exact .inr (Qh (by lia))
section
variable{prog:Program} {w:World} {A:Around} {E:Value->Shared->Prop} {s:Shared}
theorem uB{b:Bool}{x y:Str}{t u:Tok}{Q:Bool->Shared->Prop}(q:Q (ltS x y) s):wpAny (model prog w) A (oneLt' b (.str x t) (.str y u)) Q E s:=by
 have q':Q (decide (x.cps.toList < y.cps.toList)) s:=by rw [<-ltCps_eq];exact q
 cases b with
 | true=>exact oneLt_str q'
 | false=>exact W.kat_one _ _ (lt_str (by exact q'))
theorem uC{b:Bool}{x y:Int}{t u:Tok}{Q:Bool->Shared->Prop}(q:Q (decide (x < y)) s):wpAny (model prog w) A (oneLt' b (.int x t) (.int y u)) Q E s:=by
 cases b with
 | true=>exact oneLt_int q
 | false=>exact W.kat_one _ _ (lt_int (by exact q))
theorem nY(hu:A.in1.units+64 < cLine){b:Bool}{Q:Bool->Shared->Prop}:∀{xs ys:List V},Kin xs ys->∀{us ws:List Value},aS xs us->aS ys ws->∀ i,Q (dD xs ys) s->W.KatLex prog w A.in1 b false Q (us.zip ws) i s
 | _,_,.nil,_,_,.nil,.nil,i,q=>by
  show W.KatLex prog w A.in1 b false Q [] i s;rw [W.KatLex.eq_1];exact q
 | _,_,@Kin.str x y xs ys k,_,_,.cons r1 t1,.cons r2 t2,i,q=>by
  obtain⟨t,rfl⟩:=r1;obtain⟨u,rfl⟩:=r2;rw [dD] at q;rw [Vw,W.KatLex.eq_2];refine eqBool_str ?_;by_cases e:x=y
  ·subst e;rw [Qn rfl] at q;rw [UA,Qn rfl];exact nY hu k t1 t2 (i+1) q
  ·rw [Qf (λz=>e (V.str.inj z))] at q;have eb:(x == y)=false:=by
    cases z:(x == y) with
    | false=>rfl
    | true=>exact Qs (QY z) e
   rw [eb,Qf Qj];exact uB q
 | _,_,@Kin.int x y xs ys k,_,_,.cons r1 t1,.cons r2 t2,i,q=>by
  obtain⟨t,rfl⟩:=r1;obtain⟨u,rfl⟩:=r2;rw [dD] at q;rw [Vw,W.KatLex.eq_2];refine W.keq_at (A:=A) (.int x t) (.int y u) (by simp [SeqAt.shaped,PyData.canLay0,PyData.depth]) (by simp [SeqAt.shaped,PyData.canLay0,PyData.depth]) hu prog w _ _ ?_;by_cases e:x=y
  ·subst e;rw [Qn rfl] at q;have eb:(PyData.int x).eqv (PyData.int x)=true:=by simp [PyData.eqv]
   rw [eb,Qn rfl];exact nY hu k t1 t2 (i+1) q
  ·rw [Qf (λz=>e (V.int.inj z))] at q;have eb:(PyData.int x).eqv (PyData.int y)=false:=by simp [PyData.eqv,e]
   rw [eb,Qf Qj];exact uC q
end
end L2
namespace Srt
open PySem PySem.W PyProof.Rows
theorem mv{prog:Program}{w:World}{A:Around}{κ:SortKind}{vs:List Value}{α:Type}:∀{t:KasT α} {Q Q':α->Shared->Prop} {s:Shared},KasT.kasWp (kas_ask prog w A κ vs) t Q s->(∀ a s',Q a s'->Q' a s')->KasT.kasWp (kas_ask prog w A κ vs) t Q' s
 | .ret a,Q,Q',s,h,k=>by rw [KasT.kasWp.eq_1] at h ⊢;exact k _ _ h
 | .ask i j f,Q,Q',s,h,k=>by
  rw [KasT.kasWp.eq_2] at h ⊢;exact Uk h (λb s' q=>mv q k) (λ_ _ q=>q)
def startHeap(h:Heap)(vs:List Value):Heap:=((h.push (seqObj "list" #[] 0)).update h.objs.size (Obj.mapSeq λx=>x++vs.toArray)).push (seqObj "list" vs.toArray 0)
theorem qj{h:Heap}{vs:List Value}{b:Addr}{o:Obj}(e:h.get? b=some o):(startHeap h vs).get? b=some o:=by
 have hb:=QD e;unfold startHeap;refine Qm _ ?_;rw [Heap.get?_update_ne _ _ _ _ (QP hb)];exact Qm _ e
theorem o6{h:Heap}{vs:List Value}{b:Addr}{o:Obj}(e:h.get? b=some o):(midHeap (startHeap h vs) (h.objs.size+1) vs).get? b=some o:=by
 have hb:=QD e;unfold midHeap;refine Qm _ (Qm _ ?_);rw [Heap.get?_update_ne _ _ _ _ (QP (Vi hb))];exact qj e
theorem nZ{prog:Program}{w:World}{A:Around}{E:Value->Shared->Prop}{s:Shared}{l:Addr}{vs:List Value}{Q:Value->Shared->Prop}(hl:s.heap.IsList l vs.toArray)(h64:vs.length < 64)
  (h1:vs.length < 2->Q (.ref (s.heap.objs.size+1)) { s with heap:=sortedAll s.heap vs vs.toArray })
  (h2:2<=vs.length->wpAny (model prog w) A.in1.in1 (keyKind' vs.toArray) (λκ s'=>s'={ s with heap:=midHeap (startHeap s.heap vs) (s.heap.objs.size+1) vs } /\
   KasT.kasWp (kas_ask prog w A.in1.in1 κ vs) (kas_sort vs.length) (λp s''=>s''={ s with heap:=midHeap (startHeap s.heap vs) (s.heap.objs.size+1) vs }/\Q (.ref (s.heap.objs.size+1)) { s with heap:=sortedAll s.heap vs (p.toList.map λi=>vs.getD i Value.none).toArray }) { s with heap:=midHeap (startHeap s.heap vs) (s.heap.objs.size+1) vs }) E { s with heap:=midHeap (startHeap s.heap vs) (s.heap.objs.size+1) vs }) :
  wpAny (model prog w) A (call (Value.builtin "sorted") [Value.ref l]) Q E s:=by
 have hline:vs.length<=sizeLine:=by have:sizeLine>=1000:=(by decide);lia
 have hsz:((s.heap.push (seqObj "list" #[] 0)).update s.heap.objs.size (Obj.mapSeq λx=>x++vs.toArray)).objs.size=s.heap.objs.size+1:=by
  rw [U9,size_push']
 have hoL:(startHeap s.heap vs).get? (s.heap.objs.size+1)=some (seqObj "list" vs.toArray 0):=by
  rw [<-hsz];exact QE _ rfl
 refine Calls.call_function_entry kind_sorted plain_sorted entry_sorted (args_sorted1 (Value.ref l)) (Qa (Qd (Qa (collect_list hl (Qa (Vn ?_ hline)) hline))));show wpAny (model prog w) A.in1 (do
   let _ <-holding [Value.ref ((s.heap.push (seqObj "list" #[] 0)).update s.heap.objs.size (Obj.mapSeq λx=>x++vs.toArray)).objs.size] (call (Value.builtin "list.sort") [Value.ref ((s.heap.push (seqObj "list" #[] 0)).update s.heap.objs.size (Obj.mapSeq λx=>x++vs.toArray)).objs.size] [])
   ret (Value.ref ((s.heap.push (seqObj "list" #[] 0)).update s.heap.objs.size (Obj.mapSeq λx=>x++vs.toArray)).objs.size)) _ E { s with heap:=startHeap s.heap vs }
 rw [hsz];refine Qa (Uf (UL slot_list_sort ⟨seqObj "list" vs.toArray 0,hoL,rfl⟩ entry_list_sort ?_ (args_list_sort (Value.ref (s.heap.objs.size+1)))));refine jY (s:={ s with heap:=startHeap s.heap vs }) hoL h64 (λhs=>⟨Value.none,rfl,Qd ⟨_,rfl,h1 hs⟩⟩) λhs=>?_;refine Uk (h2 hs) ?_ (λe s' q=>q);rintro κ s' ⟨rfl,q⟩;exact⟨rfl,mv q λp s'' z=>⟨z.1,Value.none,rfl,Qd ⟨_,rfl,z.2⟩⟩⟩
end Srt
namespace L2
open PySem PySem.Spec PyProof.Rows Srt
theorem ko:∀{as:List Addr} {us:List Value},aS (as.map V.ref) us->us=as.map Value.ref
 | [],[],_=>rfl
 | [],_ :: _,h=>nomatch h
 | _ :: _,[],h=>nomatch h
 | a :: as,u :: us,.cons r t=>by
  cases (show u=Value.ref a from r);rw [ko t];rfl
theorem gH:∀(as:List Addr),aS (as.map V.ref) (as.map Value.ref)
 | []=>.nil
 | a :: as=>.cons rfl (gH as)
theorem f9{α β:Type}{F:α->β->Prop}{l:List α}{m:List β}(h:Paired F l m)(d:α)(e:β):∀(q:List Nat),(∀ i∈q,i < m.length)->Paired F (q.map λi=>l.getD i d) (q.map λi=>m.getD i e)
 | [],_=>.nil
 | i :: q,k=>by
  have hi:=k i (by simp);refine .cons ?_ (f9 h d e q λj hj=>k j (by simp [hj]));have:∀{l:List α} {m:List β},Paired F l m->∀ i,i < m.length->F (l.getD i d) (m.getD i e):=λ{l m} h=>by
   induction h with
   | nil=>intro i hi;simp at hi
   | cons r _ ih =>
    intro i hi;cases i with
    | zero=>exact r
    | succ i=>simpa using ih i (by simpa using hi)
  exact this h i hi
theorem lj:∀{xs ys:List V},Kin xs ys->xs.length=ys.length
 | _,_,.nil=>rfl
 | _,_,.str k=>QW (·+1) (lj k)
 | _,_,.int k=>QW (·+1) (lj k)
theorem mw{h:Heap}:∀{as:List Addr} {vss:List (List V)},Paired (λ(a:Addr) (v:List V)=>∃ its,aS v its/\IsTup h a its.toArray) as vss->(∀ v∈vss,∃ x t,v=V.str x :: t) ->
  ∃ fs,W.KatTups h (as.map Value.ref) fs/\fs.length=vss.length/\∀ v∈fs,∃ x t,v=Value.str x t
 | _,_,.nil,_=>⟨[],by show W.KatTups h [] [];rw [W.KatTups.eq_1];trivial,rfl,λv hv=>Qs hv (by simp)⟩
 | a :: as,v :: vss,.cons r t,k=>by
  obtain⟨fs,h1,h2,h3⟩:=mw t λv hv=>k v (by simp [hv]);obtain⟨x,tl,rfl⟩:=k v (by simp);obtain⟨its,hv,o,e1,e2,n,e3⟩:=r;cases hv with
  | @cons _ u _ us r1 r2 =>
   obtain⟨tk,rfl⟩:=r1;refine⟨Value.str x tk :: fs,?_,QW (·+1) h2,λv hv=>?_⟩
   ·show W.KatTups h (Value.ref a :: as.map Value.ref) (Value.str x tk :: fs);rw [W.KatTups.eq_2];exact⟨⟨a,o,_,n,rfl,e1,e2,e3,by simp⟩,h1⟩
   ·rcases Qi.mp hv with e | hv
    ·exact⟨x,tk,e⟩
    ·exact h3 v hv
theorem jt{β:Type}(m:List β)(e:β):(List.range m.length).map (λi=>m.getD i e)=m:=by
 apply List.ext_getElem
 ·simp
 ·intro i h1 h2;simp at h1 ⊢;simp [h2]
seal PySem.wpAny PyProof.Rows.sortedAll Srt.midHeap Srt.startHeap
section
variable{X:Cx}
theorem ic(hu:X.A.units+70 < cLine):eh X (.builtin "sorted") (λxs H Q=>∃ p as vss,xs=[.ref p]/\SqL X.K H p (as.map V.ref)/\Paired (λ(a:Addr) (v:List V)=>SqT X.K H a v) as vss/\(∀ v∈vss,∃ x t,v=.str x :: t) /\
  (∀ v∈vss,∀ z∈vss,Kin v z)/\vss.Nodup/\vss.length < 64/\∀ l as' vss',H l=none->(∀ F:Addr->List V->Prop,Paired F as vss->Paired F as' vss')->vss'.Perm vss->vss'.Pairwise (λa b=>dD a b=true)->Q (.ref l) (upd H l (.lst (as'.map V.ref)))):=by
 intro pins s σ H xs us Q I r h;obtain⟨p,as,vss,rfl,hq,hp,hs1,hk,hnd,h64,q⟩:=h;obtain⟨u,rfl,rx⟩:=fO r;cases rx;obtain⟨its,rv,pl,hz⟩:=I.list hq;have ei:=ko rv;subst ei;have hal:as.length=vss.length:=by
  clear q hk hnd h64 hs1 rv pl hz hq r
  induction hp with
  | nil=>rfl
  | cons _ _ ih=>exact QW (·+1) ih
 have hvl:(as.map Value.ref).length=vss.length:=by rw [Qc];exact hal
 have fin:∀(js:List Nat),js.Perm (List.range vss.length)->(js.map λi=>vss.getD i []).Pairwise (λa b=>dD a b=true) ->
   EP X pins σ Q (.ref (s.heap.objs.size+1)) { s with heap:=sortedAll s.heap (as.map Value.ref) (js.map λi=>(as.map Value.ref).getD i Value.none).toArray }:=λjs hj hw=>by
  have hjl:js.length=vss.length:=by have:=hj.length_eq;rwa [List.length_range] at this
  have hjm:∀ i∈js,i < vss.length:=λi hi=>U4.mp (hj.mem_iff.mp hi);obtain⟨e,he⟩:=sortedAll_at s.heap (as.map Value.ref) (js.map λi=>(as.map Value.ref).getD i Value.none).toArray;have e2:(js.map λi=>(as.map Value.ref).getD i Value.none)=(js.map λi=>as.getD i 0).map Value.ref:=by
   rw [UK];apply UI;intro i hi;have hi':i < as.length:=by rw [hal];exact hjm i hi
   show(as.map Value.ref).getD i Value.none=Value.ref (as.getD i 0);rw [Q7,Q7,Qq,Qe hi'];rfl
  refine⟨.ref (s.heap.objs.size+1),upd H (s.heap.objs.size+1) (.lst ((js.map λi=>as.getD i 0).map V.ref)),I.laid (t':=s.toks) (λb o z=>sortedAll_old z) (Uc _) ⟨?_,_,e,gH _,?_⟩,rfl,
   q _ (js.map λi=>as.getD i 0) (js.map λi=>vss.getD i []) (I.hok.fresh (Uc _)) (λF hF=>f9 hF _ _ js hjm) ?_ hw⟩
  ·rw [Qc,Qc,hjl,<-hal];rw [Qc] at hz;exact hz
  ·rw [e2] at he;rw [e2];exact he
  ·refine List.Perm.trans (hj.map _) ?_;rw [jt]
 refine nZ pl.isList (by rw [hvl];exact h64) (λhs=>?_) (λhs=>?_)
 ·have:=fin (List.range vss.length) (List.Perm.refl _) (by
   rw [jt];rw [hvl] at hs
   match vss,hs with
   | [],_=>exact .nil
   | [v],_=>exact VP _ _
   | _ :: _ :: _,hs=>simp at hs;lia)
  rw [<-hvl,jt] at this;exact this
 ·rw [hvl] at hs;have tupAt:∀ i,i < vss.length->∃ a its',(as.map Value.ref).getD i Value.none=.ref a/\aS (vss.getD i []) its'/\IsTup (midHeap (startHeap s.heap (as.map Value.ref)) (s.heap.objs.size+1) (as.map Value.ref)) a its'.toArray:=λi hi=>by
   have h1:=f9 hp 0 [] [i] (λj hj=>by rw [Qo.mp hj];exact hi);cases h1 with
   | cons r1 _ =>
    obtain⟨its',hv,⟨o,e1,e2,n,e3⟩,_⟩:=I.tuple r1;refine⟨_,its',?_,hv,o,o6 e1,e2,n,e3⟩;have hi':i < as.length:=by rw [hal];exact hi
    show(as.map Value.ref).getD i Value.none=Value.ref (as.getD i 0);rw [Q7,Qq,Q7,Qe hi'];rfl
  have hpm:Paired (λ(a:Addr) (v:List V)=>∃ its,aS v its/\IsTup (midHeap (startHeap s.heap (as.map Value.ref)) (s.heap.objs.size+1) (as.map Value.ref)) a its.toArray) as vss :=
   Paired.mapP hp λa v z=>by
    obtain⟨its',hv,⟨o,e1,e2,n,e3⟩,_⟩:=I.tuple z;exact⟨its',hv,o,o6 e1,e2,n,e3⟩
  obtain⟨fs,f1,f2,f3⟩:=mw hpm hs1;have gd:∀ i,i < vss.length->vss.getD i []∈vss:=λi hi=>by
   rw [Q7,Qe hi];exact List.getElem_mem hi
  have tt:Tot (λi j=>dD (vss.getD i []) (vss.getD j [])) vss.length:=by
   refine⟨λa=>mt _,λa b c h1 h2=>?_,λa b ha hb hab=>?_⟩
   ·have inr:∀ i j,dD (vss.getD i []) (vss.getD j [])=true->i < vss.length/\j < vss.length:=λi j e=>by
     by_cases hi:i < vss.length
     ·by_cases hj:j < vss.length
      ·exact⟨hi,hj⟩
      ·have:vss.getD j []=[]:=by rw [Q7,Vz.mpr (by lia)];rfl
       rw [this] at e;cases hv:vss.getD i [] with
       | nil=>rw [hv] at e;cases e
       | cons _ _=>rw [hv] at e;cases e
     ·have:vss.getD i []=[]:=by rw [Q7,Vz.mpr (by lia)];rfl
      rw [this] at e;cases e
    obtain⟨ha,hb⟩:=inr _ _ h1;obtain⟨_,hc⟩:=inr _ _ h2;exact li (hk _ (gd a ha) _ (gd b hb)) (hk _ (gd b hb) _ (gd c hc)) h1 h2
   ·refine jr (hk _ (gd a ha) _ (gd b hb)) λe=>hab ?_;rw [Q7,Q7,Qe ha,Qe hb] at e;exact(Vm hnd).mp e
  obtain⟨q0,e0,pm,S0⟩:=uz tt (by lia);refine W.kat_kind (T:=.type "str") f1 (by lia) (λv hv=>?_) (by decide) ?_
  ·obtain⟨x,t,rfl⟩:=f3 v hv;exact λA Q E s _ q=>Qd q
  ·refine⟨rfl,?_⟩;rw [hvl];refine vX (lt:=λi j=>dD (vss.getD i []) (vss.getD j [])) (n:=vss.length) (λi j C hi hj hC=>?_) (uA (by lia)) ?_
   ·obtain⟨a,ia,ea,va,o1,x1,x2,n1,x3⟩:=tupAt i hi;obtain⟨b,ib,eb,vb,o2,y1,y2,n2,y3⟩:=tupAt j hj;unfold W.kas_ask;rw [ea,eb];have kn:=hk _ (gd i hi) _ (gd j hj);refine W.kat_lt x1 x3 y1 y3 ?_;have el:decide (ia.toArray.size < ib.toArray.size)=false:=by
     have h1:=va.length;have h2:=vb.length;have h3:=lj kn;rw [Qu,Qu];exact Qp (by lia)
    rw [el];exact nY (A:=X.A.in1) (by show X.A.units+1+1+64 < cLine;lia) kn va vb 0 hC
   ·rw [e0];refine⟨rfl,fin q0.toList pm ?_⟩;rw [Uj];intro i j hi hj hij;rw [Qc,Q0,pm.size] at hi hj;have g1:∀ i,i < vss.length->∀ h',(q0.toList.map λi=>vss.getD i [])[i]'h'=vss.getD (g q0 i) []:=λi hi h'=>by
     rw [List.getElem_map];have:=pm.get hi;rw [<-Uz] at this;obtain⟨h1,e1⟩:=Qb.mp this;rw [e1]
    rw [g1 i hi,g1 j hj];exact S0 i j hij hj
end
end L2
namespace G1
variable{α:Type} [DecidableEq α]
structure Ord(lt:α->α->Bool):Prop where
 irr:∀ a,lt a a=false
 tr:∀ a b c,lt a b=true->lt b c=true->lt a c=true
 tot:∀ a b,lt a b=true\/a=b\/lt b a=true
def lex(lt:α->α->Bool):List α->List α->Bool
 | [],_=>false
 | _ :: _,[]=>false
 | x :: xs,y :: ys=>if x=y then lex lt xs ys else lt x y
def sl(lt:α->α->Bool)(p q:List α):Prop:=p.length < q.length\/(p.length=q.length/\lex lt p q=true)
variable{lt:α->α->Bool}
theorem lex_irr(o:Ord lt):∀ p:List α,lex lt p p=false
 | []=>rfl
 | x :: xs=>by rw [lex,Qn rfl,lex_irr o xs]
theorem rN(o:Ord lt):∀ p q r:List α,lex lt p q=true->lex lt q r=true->lex lt p r=true
 | [],_,_,h,_=>by cases h
 | _ :: _,[],_,h,_=>by cases h
 | _ :: _,_ :: _,[],_,h=>by cases h
 | x :: xs,y :: ys,z :: zs,h1,h2=>by
  rw [lex] at h1 h2 ⊢;by_cases e1:x=y
  ·subst e1;rw [Qn rfl] at h1;by_cases e2:x=z
   ·rw [Qn e2] at h2 ⊢;exact rN o _ _ _ h1 h2
   ·rw [Qf e2] at h2 ⊢;exact h2
  ·rw [Qf e1] at h1;by_cases e2:y=z
   ·subst e2;rw [Qf e1];exact h1
   ·rw [Qf e2] at h2;have h3:=o.tr _ _ _ h1 h2;have e3:¬ x=z:=λe=>by subst e;rw [o.irr] at h3;cases h3
    rw [Qf e3];exact h3
theorem o7(o:Ord lt):∀ p q:List α,p.length=q.length->lex lt p q=true\/p=q\/lex lt q p=true
 | [],[],_=>.inr (.inl rfl)
 | [],_ :: _,h=>by cases h
 | _ :: _,[],h=>by cases h
 | x :: xs,y :: ys,h=>by
  rw [lex,lex];by_cases e:x=y
  ·subst e;rw [Qn rfl,Qn rfl];rcases o7 o xs ys (Nat.succ.inj h) with h | h | h
   ·exact .inl h
   ·exact .inr (.inl (by rw [h]))
   ·exact .inr (.inr h)
  ·rw [Qf e,Qf λz=>e z.symm];rcases o.tot x y with h | h | h
   ·exact .inl h
   ·exact Qs h e
   ·exact .inr (.inr h)
theorem ie(o:Ord lt)(p:List α):¬ sl lt p p:=by
 rintro(h | ⟨_,h⟩)
 ·exact Qs h (Um _)
 ·rw [lex_irr o] at h;cases h
theorem sl_tr(o:Ord lt){p q r:List α}(h1:sl lt p q)(h2:sl lt q r):sl lt p r:=by
 rcases h1 with h1 | ⟨e1,h1⟩ <;> rcases h2 with h2 | ⟨e2,h2⟩
 ·exact .inl (by lia)
 ·exact .inl (by lia)
 ·exact .inl (by lia)
 ·exact .inr ⟨by lia,rN o _ _ _ h1 h2⟩
theorem ju(o:Ord lt)(p q:List α):sl lt p q\/p=q\/sl lt q p:=by
 rcases Nat.lt_trichotomy p.length q.length with h | h | h
 ·exact .inl (.inl h)
 ·rcases o7 o p q h with h' | h' | h'
  ·exact .inl (.inr ⟨h,h'⟩)
  ·exact .inr (.inl h')
  ·exact .inr (.inr (.inr ⟨h.symm,h'⟩))
 ·exact .inr (.inr (.inl h))
theorem o8(o:Ord lt){p q:List α}(h:sl lt p q):¬ sl lt q p:=λh'=>ie o p (sl_tr o h h')
theorem rO(o:Ord lt){p q r:List α}(h1:¬ sl lt q p)(h2:¬ sl lt r q):¬ sl lt r p:=λh=>by
 rcases ju o p q with a | a | a
 ·exact h2 (sl_tr o h a)
 ·subst a;exact h2 h
 ·exact h1 a
theorem my:∀(p q:List α) (x y:α),p.length=q.length->lex lt p q=true->lex lt (p++[x]) (q++[y])=true
 | [],_,_,_,_,h=>by cases h
 | _ :: _,[],_,_,_,h=>by cases h
 | a :: p,b :: q,x,y,e,h=>by
  show lex lt (a :: (p++[x])) (b :: (q++[y]))=true;rw [lex] at h ⊢;by_cases z:a=b
  ·rw [Qn z] at h ⊢;exact my p q x y (Nat.succ.inj e) h
  ·rw [Qf z] at h ⊢;exact h
theorem fV(o:Ord lt):∀(p:List α) (x y:α),lt x y=true->lex lt (p++[x]) (p++[y])=true
 | [],x,y,h=>by
  show lex lt [x] [y]=true;rw [lex,Qf (λe=>by subst e;rw [o.irr] at h;cases h)];exact h
 | a :: p,x,y,h=>by
  show lex lt (a :: (p++[x])) (a :: (p++[y]))=true;rw [lex,Qn rfl];exact fV o p x y h
theorem o9{p q:List α}(x y:α)(h:sl lt p q):sl lt (p++[x]) (q++[y]):=by
 rcases h with h | ⟨e,h⟩
 ·exact .inl (by simp only [Ql,Qz];lia)
 ·exact .inr ⟨by simp only [Ql,Qz];lia,my p q x y e h⟩
theorem ll(o:Ord lt)(p:List α){x y:α}(h:lt x y=true):sl lt (p++[x]) (p++[y]):=.inr ⟨by simp,fV o p x y h⟩
theorem rP(o:Ord lt){p q:List α}(x:α)(h:¬ sl lt q p):¬ sl lt (q++[x]) (p++[x]):=by
 rcases ju o p q with a | a | a
 ·exact o8 o (o9 x x a)
 ·subst a;exact ie o _
 ·exact Qs a h
inductive Rd(nb:α->List α)(s:α):α->List α->Prop
 | one:Rd nb s s [s]
 | snoc {n c:α} {p:List α}:Rd nb s n p->c∈nb n->Rd nb s c (p++[c])
inductive Cd(nb:α->List α)(c:α):α->List α->Prop
 | one:Cd nb c c [c]
 | cons {u z:α} {p:List α}:z∈nb u->Cd nb c z p->Cd nb c u (u :: p)
theorem Cd.snoc{nb:α->List α}{n c u:α}{p:List α}(h:Cd nb n u p)(e:c∈nb n):Cd nb c u (p++[c]):=by
 induction h with
 | one=>exact .cons e .one
 | cons z _ ih=>exact .cons z ih
theorem Rd.cons{nb:α->List α}{s u c:α}{p:List α}(h:Rd nb u c p)(e:u∈nb s):Rd nb s c (s :: p):=by
 induction h with
 | one=>exact(Rd.one (nb:=nb) (s:=s)).snoc e
 | snoc _ z ih=>exact ih.snoc z
theorem Rd.cd{nb:α->List α}{s c:α}{p:List α}(h:Rd nb s c p):Cd nb c s p:=by
 induction h with
 | one=>exact .one
 | snoc _ e ih=>exact ih.snoc e
theorem Cd.rd{nb:α->List α}{s c:α}{p:List α}(h:Cd nb c s p):Rd nb s c p:=by
 induction h with
 | one=>exact .one
 | cons e _ ih=>exact ih.cons e
theorem Rd.pos{nb:α->List α}{s c:α}{p:List α}(h:Rd nb s c p):0 < p.length:=by
 cases h <;> simp
theorem Rd.last{nb:α->List α}{s c:α}{p:List α}(h:Rd nb s c p):∃ q,p=q++[c]:=by
 cases h with
 | one=>exact⟨[],rfl⟩
 | snoc _ _=>exact⟨_,rfl⟩
def Best(lt:α->α->Bool)(nb:α->List α)(s c:α)(p:List α):Prop:=Rd nb s c p/\∀ q,Rd nb s c q->¬ sl lt q p
theorem Best.uniq(o:Ord lt){nb:α->List α}{s c:α}{p q:List α}(hp:Best lt nb s c p)(hq:Best lt nb s c q):p=q:=by
 rcases ju o p q with a | a | a
 ·exact Qs a (hq.2 p hp.1)
 ·exact a
 ·exact Qs a (hp.2 q hq.1)
theorem Best.self(o:Ord lt)(nb:α->List α)(s:α):Best lt nb s s [s]:=by
 refine⟨.one,λq h=>?_⟩;rintro(l | ⟨e,l⟩)
 ·have:=h.pos;simp only [Qz] at l;lia
 ·cases h with
  | one=>rw [lex_irr o] at l;cases l
  | snoc h' _=>have:=h'.pos;simp only [Ql,Qz] at e;lia
structure ga(lt:α->α->Bool)(nb:α->List α)(s:α)(L:List (α × List α))(i:Nat):Prop where
 first:L[0]?=some (s,[s])
 nd:(L.map (·.1)).Nodup
 road:∀ e∈L,Rd nb s e.1 e.2
 inc:L.Pairwise λa b=>sl lt a.2 b.2
 seen:∀(j:Nat) e,j < i->L[j]?=some e->∀ c∈nb e.1,∃ rc,(c,rc)∈L/\¬ sl lt (e.2++[c]) rc
 made:∀ e∈L,e.2=[s]\/∃(j:Nat) (d:α × List α),j < i/\L[j]?=some d/\e.2=d.2++[e.1]
structure Mid(lt:α->α->Bool)(nb:α->List α)(s:α)(L:List (α × List α))(i:Nat)(m:α)(r:List α)(done:List α):Prop where
 first:L[0]?=some (s,[s])
 nd:(L.map (·.1)).Nodup
 road:∀ e∈L,Rd nb s e.1 e.2
 inc:L.Pairwise λa b=>sl lt a.2 b.2
 cur:L[i]?=some (m,r)
 seen:∀(j:Nat) e,j < i->L[j]?=some e->∀ c∈nb e.1,∃ rc,(c,rc)∈L/\¬ sl lt (e.2++[c]) rc
 now:∀ c∈done,∃ rc,(c,rc)∈L/\¬ sl lt (r++[c]) rc
 made:∀ e∈L,e.2=[s]\/(∃(j:Nat) (d:α × List α),j < i/\L[j]?=some d/\e.2=d.2++[e.1])\/(e.1∈done/\e.2=r++[e.1])
theorem ga.start(o:Ord lt)(nb:α->List α)(s:α):ga lt nb s [(s,[s])] 0:=by
 refine⟨rfl,by simp,?_,by simp,λj e h=>Qs h (Nat.not_lt_zero _),?_⟩
 ·intro e he;simp at he;subst he;exact .one
 ·intro e he;simp at he;subst he;exact .inl rfl
theorem ga.mid{nb:α->List α}{s:α}{L:List (α × List α)}{i:Nat}{m:α}{r:List α}(h:ga lt nb s L i)(c:L[i]?=some (m,r)):Mid lt nb s L i m r [] :=
 ⟨h.first,h.nd,h.road,h.inc,c,h.seen,λc hc=>Qs hc (by simp),λe he=>(h.made e he).imp id .inl⟩
theorem rQ{L:List (α × List α)}{R:α × List α->α × List α->Prop}(h:L.Pairwise R){i j:Nat}{a b:α × List α}(hij:i < j)(ha:L[i]?=some a)(hb:L[j]?=some b):R a b:=by
 obtain⟨h1,e1⟩:=Qb.mp ha;obtain⟨h2,e2⟩:=Qb.mp hb;have:=Uj.mp h i j h1 h2 hij;rw [e1,e2] at this;exact this
theorem Mid.ahead(o:Ord lt){nb:α->List α}{s:α}{L:List (α × List α)}{i:Nat}{m:α}{r done:List α}(h:Mid lt nb s L i m r done){c:α}(hs:∀ d∈done,lt c d=false){e:α × List α}(he:e∈L)(hc:¬ (e.1=c/\c∈done)):sl lt e.2 (r++[c]):=by
 have hr:Rd nb s m r:=h.road _ (QC h.cur);rcases h.made e he with a | ⟨j,d,hj,hd,a⟩ | ⟨hm,a⟩
 ·rw [a];have:=hr.pos;exact .inl (by simp only [Ql,Qz];lia)
 ·rw [a];exact o9 _ _ (rQ h.inc hj hd h.cur)
 ·rw [a];rcases o.tot e.1 c with z | z | z
  ·exact ll o r z
  ·exact Qs ⟨z,z ▸ hm⟩ hc
  ·rw [hs _ hm] at z;cases z
theorem Mid.skip(o:Ord lt){nb:α->List α}{s:α}{L:List (α × List α)}{i:Nat}{m:α}{r done:List α}(h:Mid lt nb s L i m r done){c:α}(hs:∀ d∈done,lt c d=false)(hc:c∈L.map (·.1)):Mid lt nb s L i m r (done++[c]):=by
 refine⟨h.first,h.nd,h.road,h.inc,h.cur,h.seen,λx hx=>?_,λe he=>?_⟩
 ·rcases Qr.mp hx with hx | hx
  ·exact h.now x hx
  ·have hx:x=c:=by simpa using hx
   subst hx;obtain⟨e,he,rfl⟩:=Qg.mp hc;by_cases hd:e.1∈done
   ·exact h.now _ hd
   ·exact⟨e.2,he,o8 o (h.ahead o hs he λz=>hd z.2)⟩
 ·rcases h.made e he with a | a | ⟨a,b⟩
  ·exact .inl a
  ·exact .inr (.inl a)
  ·exact .inr (.inr ⟨QU _ a,b⟩)
theorem Mid.add(o:Ord lt){nb:α->List α}{s:α}{L:List (α × List α)}{i:Nat}{m:α}{r done:List α}(h:Mid lt nb s L i m r done){c:α}(hs:∀ d∈done,lt c d=false)(hn:c∈nb m)(hc:¬ c∈L.map (·.1)):Mid lt nb s (L++[(c,r++[c])]) i m r (done++[c]):=by
 have hr:Rd nb s m r:=h.road _ (QC h.cur);have old:∀{j:Nat} {e:α × List α},L[j]?=some e->(L++[(c,r++[c])])[j]?=some e:=λ{j e} he=>by
  rw [Q8 (Qb.mp he).1];exact he
 have back:∀{j:Nat} {e:α × List α},j < i->(L++[(c,r++[c])])[j]?=some e->L[j]?=some e:=λ{j e} hj he=>by
  have:j < L.length:=Nat.lt_trans hj (Qb.mp h.cur).1;rwa [Q8 this] at he
 have nin:∀ e∈L,¬ e.1=c:=λe he z=>hc (z ▸ QH he);refine⟨old h.first,?_,?_,?_,old h.cur,?_,?_,?_⟩
 ·rw [Qx,List.nodup_append];refine⟨h.nd,by simp,?_⟩;intro a ha b hb;have:b=c:=by simpa using hb
  subst this;intro z;subst z;exact hc ha
 ·intro e he;rcases Qr.mp he with he | he
  ·exact h.road e he
  ·have:e=(c,r++[c]):=by simpa using he
   subst this;exact hr.snoc hn
 ·rw [Ub];refine⟨h.inc,by simp,?_⟩;intro a ha b hb;have:b=(c,r++[c]):=by simpa using hb
  subst this;exact h.ahead o hs ha λz=>nin a ha z.1
 ·intro j e hj he x hx;obtain⟨rc,h1,h2⟩:=h.seen j e hj (back hj he) x hx;exact⟨rc,QU _ h1,h2⟩
 ·intro x hx;rcases Qr.mp hx with hx | hx
  ·obtain⟨rc,h1,h2⟩:=h.now x hx;exact⟨rc,QU _ h1,h2⟩
  ·have hx:x=c:=by simpa using hx
   subst hx;exact⟨r++[x],Qy _ (by simp),ie o _⟩
 ·intro e he;rcases Qr.mp he with he | he
  ·rcases h.made e he with a | ⟨j,d,hj,hd,a⟩ | ⟨a,b⟩
   ·exact .inl a
   ·exact .inr (.inl ⟨j,d,hj,old hd,a⟩)
   ·exact .inr (.inr ⟨QU _ a,b⟩)
  ·have:e=(c,r++[c]):=by simpa using he
   subst this;exact .inr (.inr ⟨Qy _ (by simp),rfl⟩)
theorem Mid.next{nb:α->List α}{s:α}{L:List (α × List α)}{i:Nat}{m:α}{r done:List α}(h:Mid lt nb s L i m r done)(all:∀ c∈nb m,c∈done):ga lt nb s L (i+1):=by
 refine⟨h.first,h.nd,h.road,h.inc,λj e hj he c hc=>?_,λe he=>?_⟩
 ·by_cases hji:j=i
  ·subst hji;rw [h.cur] at he;cases he;exact h.now c (all c hc)
  ·exact h.seen j e (by lia) he c hc
 ·rcases h.made e he with a | ⟨j,d,hj,hd,a⟩ | ⟨_,b⟩
  ·exact .inl a
  ·exact .inr ⟨j,d,by lia,hd,a⟩
  ·exact .inr ⟨i,(m,r),by lia,h.cur,b⟩
theorem Mid.len{nb:α->List α}{s:α}{L:List (α × List α)}{i:Nat}{m:α}{r done:List α}(h:Mid lt nb s L i m r done):∀(n k:Nat) (e:α × List α),k<=n->L[k]?=some e->e.2.length<=k+1
 | n,k,e,hk,he=>by
  have step:∀(j:Nat) (d:α × List α),L[j]?=some d->e.2=d.2++[e.1]->e.2.length<=k+1:=λj d hd z=>by
   have hl:e.2.length=d.2.length+1:=by rw [z];simp
   have jk:j < k:=by
    rcases Nat.lt_trichotomy j k with q | q | q
    ·exact q
    ·subst q;rw [he] at hd;cases hd;lia
    ·have q':=rQ h.inc q he hd;rcases q' with q' | ⟨q',_⟩ <;> omega
   cases n with
   | zero=>omega
   | succ n =>
    have:=Mid.len h n j d (by lia) hd;lia
  rcases h.made e (QC he) with a | ⟨j,d,_,hd,a⟩ | ⟨_,a⟩
  ·rw [a];simp
  ·exact step j d hd a
  ·exact step i (m,r) h.cur a
theorem ga.all(o:Ord lt){nb:α->List α}{s:α}{L:List (α × List α)}(h:ga lt nb s L L.length){c:α}{q:List α}(hq:Rd nb s c q):∃ rc,(c,rc)∈L/\¬ sl lt q rc:=by
 induction hq with
 | one=>exact⟨[s],QC h.first,ie o _⟩
 | @snoc n c p hp hc ih =>
  obtain⟨rn,h1,h2⟩:=ih;obtain⟨j,hj⟩:=Q1 h1;obtain⟨rc,h3,h4⟩:=h.seen j _ (Qb.mp hj).1 hj c hc;exact⟨rc,h3,rO o h4 (rP o c h2)⟩
theorem uD{L:List (α × List α)}(nd:(L.map (·.1)).Nodup){c:α}{a b:List α}(ha:(c,a)∈L)(hb:(c,b)∈L):a=b:=by
 induction L with
 | nil=>cases ha
 | cons e L ih =>
  obtain⟨h1,h2⟩:=QN.mp (show(e.1 :: L.map (·.1)).Nodup from nd);rcases Qi.mp ha with a1 | a1 <;> rcases Qi.mp hb with b1 | b1
  ·rw [<-a1] at b1;cases b1;rfl
  ·rw [<-a1] at h1;exact Qs (QH (f:=(·.1)) b1) h1
  ·rw [<-b1] at h1;exact Qs (QH (f:=(·.1)) a1) h1
  ·exact ih h2 a1 b1
theorem ga.best(o:Ord lt){nb:α->List α}{s:α}{L:List (α × List α)}(h:ga lt nb s L L.length){c:α}{r:List α}(hr:(c,r)∈L):Best lt nb s c r:=by
 refine⟨h.road _ hr,λq hq=>?_⟩;obtain⟨rc,h1,h2⟩:=h.all o hq;rw [uD h.nd hr h1];exact h2
structure eJ(nb:α->List α)(w:α)(B:List (α × Nat)):Prop where
 nd:(B.map (·.1)).Nodup
 zero:(w,0)∈B
 zero':∀ x,(x,0)∈B->x=w
 down:∀ x d,(x,d+1)∈B->∃ y∈nb x,(y,d)∈B
 up:∀ x y d,(y,d)∈B->y∈nb x->∃ d',(x,d')∈B/\d'<=d+1
theorem gJ{L:List (α × Nat)}(nd:(L.map (·.1)).Nodup){c:α}{a b:Nat}(ha:(c,a)∈L)(hb:(c,b)∈L):a=b:=by
 induction L with
 | nil=>cases ha
 | cons e L ih =>
  obtain⟨h1,h2⟩:=QN.mp (show(e.1 :: L.map (·.1)).Nodup from nd);rcases Qi.mp ha with a1 | a1 <;> rcases Qi.mp hb with b1 | b1
  ·rw [<-a1] at b1;cases b1;rfl
  ·rw [<-a1] at h1;exact Qs (QH (f:=(·.1)) b1) h1
  ·rw [<-b1] at h1;exact Qs (QH (f:=(·.1)) a1) h1
  ·exact ih h2 a1 b1
theorem eJ.low{nb:α->List α}{w:α}{B:List (α × Nat)}(h:eJ nb w B){x:α}{q:List α}(hq:Cd nb w x q):∃ d,(x,d)∈B/\d+1<=q.length:=by
 induction hq with
 | one=>exact⟨0,h.zero,by simp⟩
 | cons e _ ih =>
  obtain⟨d,h1,h2⟩:=ih;obtain⟨d',h3,h4⟩:=h.up _ _ _ h1 e;exact⟨d',h3,by simp only [QL];lia⟩
theorem eJ.road{nb:α->List α}{w:α}{B:List (α × Nat)}(h:eJ nb w B):∀(d:Nat) (x:α),(x,d)∈B->∃ q,Cd nb w x q/\q.length=d+1
 | 0,x,hx=>⟨[w],by rw [h.zero' x hx];exact .one,rfl⟩
 | d+1,x,hx=>by
  obtain⟨y,hy,hd⟩:=h.down x d hx;obtain⟨q,hq,hl⟩:=eJ.road h d y hd;exact⟨x :: q,.cons hy hq,by simp only [QL];lia⟩
theorem eJ.best_len{nb:α->List α}{w:α}{B:List (α × Nat)}(h:eJ nb w B){y:α}{d:Nat}(hy:(y,d)∈B){t:List α}(ht:Best lt nb y w t):t.length=d+1:=by
 obtain⟨q,hq,hl⟩:=h.road d y hy;obtain⟨d',h1,h2⟩:=h.low ht.1.cd;rw [gJ h.nd h1 hy] at h2;have:¬ q.length < t.length:=λz=>ht.2 q hq.rd (.inl z);lia
theorem eJ.step(o:Ord lt){nb:α->List α}{w:α}{B:List (α × Nat)}(h:eJ nb w B){u y:α}{d:Nat}(hu:(u,d+1)∈B)(hy:y∈nb u)(hyd:(y,d)∈B)
  (least:∀ z∈nb u,(z,d)∈B->lt z y=false) {t:List α} (ht:Best lt nb y w t):Best lt nb u w (u :: t):=by
 refine⟨ht.1.cons hy,λq hq=>?_⟩;have hl:=h.best_len hyd ht;have uw:¬ u=w:=λe=>by subst e;have:=gJ h.nd hu h.zero;lia
 cases hq.cd with
 | one=>exact Qs rfl uw
 | @cons _ z q' hz hq' =>
  obtain⟨dz,h1,h2⟩:=h.low hq';obtain⟨d',h3,h4⟩:=h.up _ _ _ h1 hz;have e1:=gJ h.nd h3 hu;rintro(l | ⟨e,l⟩)
  ·simp only [QL] at l;lia
  ·simp only [QL] at e;have e2:dz=d:=by lia
   subst e2;rw [lex,Qn rfl] at l;by_cases zy:z=y
   ·subst zy;exact ht.2 q' hq'.rd (.inr ⟨by lia,l⟩)
   ·cases ht.1.cd with
    | one =>
     cases hq' with
     | one=>exact zy rfl
     | cons _ _ =>
      rw [lex,Qf zy] at l;rw [least _ hz h1] at l;cases l
    | cons _ _ =>
     cases hq' with
     | one =>
      rw [lex,Qf zy] at l;rw [least _ hz h1] at l;cases l
     | cons _ _ =>
      rw [lex,Qf zy] at l;rw [least _ hz h1] at l;cases l
structure Lev(ps:List (α × α))(s:α)(B:List (α × Nat))(F:List α)(t:Nat):Prop where
 nd:(B.map (·.1)).Nodup
 zero:(s,0)∈B
 zero':∀ x,(x,0)∈B->x=s
 le:∀ e∈B,e.2<=t
 fresh:∀ x,(x,t)∈B ↔ x∈F
 down:∀ x d,(x,d+1)∈B->∃ y,(y,x)∈ps/\(y,d)∈B
 up:∀ x y d,(y,d)∈B->d < t->(y,x)∈ps->∃ d',(x,d')∈B/\d'<=d+1
structure jv(ps:List (α × α))(s:α)(B:List (α × Nat))(F:List α)(t:Nat)(done:List (α × α))(G:List α):Prop where
 nd:(B.map (·.1)).Nodup
 zero:(s,0)∈B
 zero':∀ x,(x,0)∈B->x=s
 le:∀ e∈B,e.2<=t+1
 fresh:∀ x,(x,t)∈B ↔ x∈F
 later:∀ x,(x,t+1)∈B ↔ x∈G
 down:∀ x d,(x,d+1)∈B->∃ y,(y,x)∈ps/\(y,d)∈B
 up:∀ x y d,(y,d)∈B->d < t->(y,x)∈ps->∃ d',(x,d')∈B/\d'<=d+1
 now:∀ p∈done,p.1∈F->∃ d',(p.2,d')∈B/\d'<=t+1
theorem Lev.start(ps:List (α × α))(s:α):Lev ps s [(s,0)] [s] 0:=by
 refine⟨by simp,by simp,λx h=>by simpa using h,λe h=>?_,λx=>by simp,λx d h=>by simp at h,λx y d _ h=>Qs h (Nat.not_lt_zero _)⟩;have:e=(s,0):=by simpa using h
 subst this;exact Qk _
theorem Lev.mid{ps:List (α × α)}{s:α}{B:List (α × Nat)}{F:List α}{t:Nat}(h:Lev ps s B F t):jv ps s B F t [] [] :=
 ⟨h.nd,h.zero,h.zero',λe he=>Nat.le_succ_of_le (h.le e he),h.fresh,λx=>⟨λhx=>by have:=h.le _ hx;simp only at this;lia,λhx=>Qs hx (by simp)⟩,h.down,h.up,λp hp=>Qs hp (by simp)⟩
theorem jv.skip{ps:List (α × α)}{s:α}{B:List (α × Nat)}{F:List α}{t:Nat}{done:List (α × α)}{G:List α}(h:jv ps s B F t done G){p:α × α}(hp:¬ p.1∈F\/p.2∈B.map (·.1)):jv ps s B F t (done++[p]) G:=by
 refine⟨h.nd,h.zero,h.zero',h.le,h.fresh,h.later,h.down,h.up,λq hq hF=>?_⟩;rcases Qr.mp hq with hq | hq
 ·exact h.now q hq hF
 ·have:q=p:=by simpa using hq
  subst this;rcases hp with hp | hp
  ·exact Qs hF hp
  ·obtain⟨e,he,z⟩:=Qg.mp hp;exact⟨e.2,by rw [<-z];exact he,h.le e he⟩
theorem jv.add{ps:List (α × α)}{s:α}{B:List (α × Nat)}{F:List α}{t:Nat}{done:List (α × α)}{G:List α}(h:jv ps s B F t done G){p:α × α}(hps:p∈ps)(hF:p.1∈F)(hn:¬ p.2∈B.map (·.1)) :
  jv ps s (B++[(p.2,t+1)]) F t (done++[p]) (G++[p.2]):=by
 have old:∀{e:α × Nat},e∈B->e∈B++[(p.2,t+1)]:=λhe=>QU _ he;have cases':∀{x:α} {d:Nat},(x,d)∈B++[(p.2,t+1)]->(x,d)∈B\/(x=p.2/\d=t+1):=λ{x d} hx=>by
  rcases Qr.mp hx with hx | hx
  ·exact .inl hx
  ·have:(x,d)=(p.2,t+1):=by simpa using hx
   cases this;exact .inr ⟨rfl,rfl⟩
 refine⟨?_,old h.zero,λx hx=>?_,λe he=>?_,λx=>?_,λx=>?_,λx d hx=>?_,λx y d hy hd hxy=>?_,λq hq hqF=>?_⟩
 ·rw [Qx,List.nodup_append];refine⟨h.nd,by simp,?_⟩;intro a ha b hb;have:b=p.2:=by simpa using hb
  subst this;intro z;subst z;exact hn ha
 ·rcases cases' hx with hx | ⟨_,hx⟩
  ·exact h.zero' x hx
  ·omega
 ·obtain⟨x,d⟩:=e;rcases cases' he with he | ⟨_,he⟩
  ·exact h.le _ he
  ·simp only;lia
 ·rw [<-h.fresh x];constructor
  ·intro hx;rcases cases' hx with hx | ⟨_,hx⟩
   ·exact hx
   ·omega
  ·exact old
 ·constructor
  ·intro hx;rcases cases' hx with hx | ⟨hx,_⟩
   ·exact QU _ ((h.later x).mp hx)
   ·rw [hx];exact Qy _ (by simp)
  ·intro hx;rcases Qr.mp hx with hx | hx
   ·exact old ((h.later x).mpr hx)
   ·have:x=p.2:=by simpa using hx
    subst this;exact Qy _ (by simp)
 ·rcases cases' hx with hx | ⟨hx,hd⟩
  ·obtain⟨y,h1,h2⟩:=h.down x d hx;exact⟨y,h1,old h2⟩
  ·have e:d=t:=by lia
   rw [hx,e];exact⟨p.1,hps,old ((h.fresh _).mpr hF)⟩
 ·rcases cases' hy with hy | ⟨_,hy⟩
  ·obtain⟨d',h1,h2⟩:=h.up x y d hy hd hxy;exact⟨d',old h1,h2⟩
  ·omega
 ·rcases Qr.mp hq with hq | hq
  ·obtain⟨d',h1,h2⟩:=h.now q hq hqF;exact⟨d',old h1,h2⟩
  ·have:q=p:=by simpa using hq
   subst this;exact⟨t+1,Qy _ (by simp),Qk _⟩
theorem jv.next{ps:List (α × α)}{s:α}{B:List (α × Nat)}{F:List α}{t:Nat}{G:List α}(h:jv ps s B F t ps G):Lev ps s B G (t+1):=by
 refine⟨h.nd,h.zero,h.zero',h.le,h.later,h.down,λx y d hy hd hxy=>?_⟩;by_cases e:d=t
 ·subst e;exact h.now (y,x) hxy ((h.fresh y).mp hy)
 ·exact h.up x y d hy (by lia) hxy
theorem Lev.reach{ps:List (α × α)}{s:α}{B:List (α × Nat)}{t:Nat}(h:Lev ps s B [] t){nb:α->List α}(hnb:∀ x y,(x,y)∈ps ↔ y∈nb x)(c:α):c∈B.map (·.1) ↔ ∃ p,Rd nb s c p:=by
 have lt':∀ e∈B,e.2 < t:=λe he=>by
  have h1:=h.le e he;have h2:e.2≠t:=λz=>by
   have:=(h.fresh e.1).mp (by rw [<-z];exact he);cases this
  omega
 constructor
 ·intro hc;obtain⟨⟨x,d⟩,he,rfl⟩:=Qg.mp hc;have:∀(d:Nat) (x:α),(x,d)∈B->∃ p,Rd nb s x p:=by
   intro d
   induction d with
   | zero=>intro x hx;rw [h.zero' x hx];exact⟨_,.one⟩
   | succ d ih =>
    intro x hx;obtain⟨y,h1,h2⟩:=h.down x d hx;obtain⟨p,hp⟩:=ih y h2;exact⟨_,hp.snoc ((hnb y x).mp h1)⟩
  exact this d x he
 ·rintro⟨p,hp⟩
  induction hp with
  | one=>exact QH (f:=(·.1)) h.zero
  | @snoc n c p _ hc ih =>
   obtain⟨⟨x,d⟩,he,rfl⟩:=Qg.mp ih;obtain⟨d',h1,_⟩:=h.up c x d he (lt' _ he) ((hnb x c).mpr hc);exact QH (f:=(·.1)) h1
theorem Lev.steps{ps:List (α × α)}{s:α}{B:List (α × Nat)}{t:Nat}(h:Lev ps s B [] t){nb:α->List α}(hnb:∀ x y,(y,x)∈ps ↔ y∈nb x):eJ nb s B:=by
 have lt':∀ e∈B,e.2 < t:=λe he=>by
  have h1:=h.le e he;have h2:e.2≠t:=λz=>by
   have:=(h.fresh e.1).mp (by rw [<-z];exact he);cases this
  omega
 refine⟨h.nd,h.zero,h.zero',λx d hx=>?_,λx y d hy hxy=>?_⟩
 ·obtain⟨y,h1,h2⟩:=h.down x d hx;exact⟨y,(hnb x y).mp h1,h2⟩
 ·exact h.up x y d hy (lt' _ hy) ((hnb x y).mpr hxy)
theorem bT{l m:List α}(nd:l.Nodup)(h:∀ x∈l,x∈m):l.length<=m.length:=by
 induction l generalizing m with
 | nil=>exact Uh _
 | cons a l ih =>
  obtain⟨h1,h2⟩:=QN.mp nd;have ha:a∈m:=h a (by simp);have:=ih (m:=m.erase a) h2 λx hx=>by
   have hne:x≠a:=λe=>h1 (e ▸ hx);exact(List.mem_erase_of_ne hne).mpr (h x (by simp [hx]))
  rw [List.length_erase_of_mem ha] at this;have:0 < m.length:=List.length_pos_of_mem ha;simp only [QL];lia
end G1
namespace G1
open PySem L2
theorem ordS:Ord ltS:=⟨iP,lf,iQ⟩
abbrev Row:=Str × Addr × List Str
def az(ss:List Str):List V:=ss.map V.str
theorem ba(ss:List Str):(az ss).length=ss.length:=Qc _
theorem cr(ss:List Str)(x:Str):az (ss++[x])=az ss++[.str x]:=by unfold az;rw [Qx];rfl
theorem cM(xs:List Str):(az xs).all fP=true:=by
 unfold az;rw [List.all_map,U8];intro x _;rfl
theorem dW(xs:List Str)(n:Str):inV (.str n) (az xs)=decide (n∈xs):=by
 unfold inV az;rw [List.any_map,Ua,U7,Q4];constructor
 ·rintro⟨x,hx,e⟩;have e':(x == n)=true:=e;have e2:x=n:=QY e';exact e2 ▸ hx
 ·intro h;exact⟨n,h,show(n == n)=true from UA _⟩
theorem eK{xs:List Str}{i:Nat}{v:V}(h:(az xs)[i]?=some v):∃ x,v=.str x/\xs[i]?=some x:=by
 unfold az at h;rw [Qq] at h;cases e:xs[i]? with
 | none=>rw [e] at h;cases h
 | some x=>rw [e] at h;exact⟨x,(Qt h).symm,rfl⟩
theorem uE{xs:List Str}{i:Nat}{x:Str}(h:xs[i]?=some x):atI (az xs) (i:Int)=some (.str x) :=
 cn (by unfold az;rw [Qq,h];rfl)
def ekv(E:List Row):List (Key × V):=E.map λe=>((Sum.inr e.1:Key),V.ref e.2.1)
theorem ln(E:List Row):(ekv E).length=E.length:=Qc _
def nbE(E:List Row)(x:Str):List Str:=((E.find? λe=>decide (e.1=x)).map (·.2.2)).getD []
theorem lu:∀(E:List Row) (x:Str),bL (ekv E) (Sum.inr x:Key)=(E.find? λe=>decide (e.1=x)).map λe=>V.ref e.2.1
 | [],_=>rfl
 | e :: E,x=>by
  have ih:=lu E x;show bL (((Sum.inr e.1:Key),V.ref e.2.1) :: ekv E) (Sum.inr x)=_;rw [UR];by_cases h:e.1=x
  ·rw [dJ (p:=((Sum.inr e.1:Key),V.ref e.2.1)) (by rw [h]),Qh h];rfl
  ·rw [cD (p:=((Sum.inr e.1:Key),V.ref e.2.1)) (λz=>h (Sum.inr.inj z)),Qp h];exact ih
theorem kq{E:List Row}{x:Str}(h:¬ x∈E.map (·.1)):(E.find? λe=>decide (e.1=x))=none:=by
 rw [List.find?_eq_none];intro e he z;exact h (Qg.mpr ⟨e,he,QI z⟩)
theorem ig:∀{E:List Row},(E.map (·.1)).Nodup->∀{e:Row},e∈E->(E.find? λd=>decide (d.1=e.1))=some e
 | [],_,e,h=>Qs h (by simp)
 | d :: E,nd,e,h=>by
  obtain⟨h1,h2⟩:=QN.mp (show(d.1 :: E.map (·.1)).Nodup from nd);rw [UR];rcases Qi.mp h with q | q
  ·rw [q];simp
  ·have ne:¬ d.1=e.1:=λz=>h1 (by rw [z];exact QH (f:=(·.1)) q);rw [Qp ne];exact ig h2 q
theorem cS{E:List Row}{x:Str}(h:¬ x∈E.map (·.1)):bL (ekv E) (Sum.inr x:Key)=none:=by rw [lu,kq h];rfl
theorem bU{E:List Row}(nd:(E.map (·.1)).Nodup){e:Row}(h:e∈E):bL (ekv E) (Sum.inr e.1:Key)=some (.ref e.2.1):=by rw [lu,ig nd h];rfl
theorem ck{E:List Row}{x:Str}(h:¬ x∈E.map (·.1)):nbE E x=[]:=by unfold nbE;rw [kq h];rfl
theorem bo{E:List Row}(nd:(E.map (·.1)).Nodup){e:Row}(h:e∈E):nbE E e.1=e.2.2:=by unfold nbE;rw [ig nd h];rfl
theorem mz(E:List Row)(e:Row):ekv (E++[e])=ekv E++[((Sum.inr e.1:Key),V.ref e.2.1)]:=by unfold ekv;rw [Qx];rfl
structure gK(H:Hp)(d:Addr)(E:List Row):Prop where
 hd:H d=some (.dK (ekv E))
 ha:∀ e∈E,H e.2.1=some (.lst (az e.2.2))
 nd:(E.map (·.1)).Nodup
theorem gK.same{H H':Hp}{d:Addr}{E:List Row}(h:gK H d E)(s:aw H H'):gK H' d E:=⟨s _ _ h.hd,λe he=>s _ _ (h.ha e he),h.nd⟩
end G1
namespace G1
open PySem L2
def lr(rows:List Row):List (Str × List Str):=rows.map λe=>(e.1,e.2.2)
theorem dN(rows:List Row):(lr rows).map (·.1)=rows.map (λe:Row=>e.1):=by unfold lr;rw [UK];rfl
theorem wM(rows:List Row):(lr rows).length=rows.length:=Qc _
theorem wN{rows:List Row}{i:Nat}{e:Row}(h:rows[i]?=some e):(lr rows)[i]?=some (e.1,e.2.2):=by unfold lr;rw [Qq,h];rfl
theorem uF(rows:List Row)(e:Row):lr (rows++[e])=lr rows++[(e.1,e.2.2)]:=by unfold lr;rw [Qx];rfl
structure RS(H0 H:Hp)(rd wl:Addr)(rows:List Row)(wait:List Str):Prop where
 same:aw H0 H
 hr:H rd=some (.dK (ekv rows))
 hw:H wl=some (.lst (az wait))
 ha:∀ e∈rows,H e.2.1=some (.lst (az e.2.2))
 hn:∀ e∈rows,H0 e.2.1=none/\e.2.1≠wl
 nr:H0 rd=none
 nw:H0 wl=none
 ne:rd≠wl
theorem RS.new{H0 H:Hp}{rd wl:Addr}{rows:List Row}{wait:List Str}(h:RS H0 H rd wl rows wait){p:Addr}(hp:H p=none)(o:HO):RS H0 (upd H p o) rd wl rows wait :=
 ⟨h.same.put (h.same.free hp) o,by rw [af (ao h.hr hp)];exact h.hr,by rw [af (ao h.hw hp)];exact h.hw,λe he=>by rw [af (ao (h.ha e he) hp)];exact h.ha e he,h.hn,h.nr,h.nw,h.ne⟩
theorem RS.row_ne{H0 H:Hp}{rd wl:Addr}{rows:List Row}{wait:List Str}(h:RS H0 H rd wl rows wait){e:Row}(he:e∈rows):e.2.1≠rd:=be (h.ha e he) h.hr (by intro z;cases z)
theorem RS.setw{H0 H:Hp}{rd wl:Addr}{rows:List Row}{wait:List Str}(h:RS H0 H rd wl rows wait)(w':List Str):RS H0 (upd H wl (.lst (az w'))) rd wl rows w' :=
 ⟨h.same.put h.nw _,by rw [af h.ne];exact h.hr,ae,λe he=>by rw [af (h.hn e he).2];exact h.ha e he,h.hn,h.nr,h.nw,h.ne⟩
theorem RS.put{H0 H:Hp}{rd wl:Addr}{rows:List Row}{wait:List Str}(h:RS H0 H rd wl rows wait){c:Str}{q:Addr}{r:List Str}(hq:H q=some (.lst (az r)))(hq0:H0 q=none)(hqw:q≠wl)(hc:¬ c∈rows.map (λe:Row=>e.1)) :
  RS H0 (upd H rd (.dK (cR (ekv rows) (Sum.inr c:Key) (.ref q)))) rd wl (rows++[(c,q,r)]) wait:=by
 have qr:q≠rd:=be hq h.hr (by intro z;cases z);refine⟨h.same.put h.nr _,by rw [ae,eu _ (cS hc),mz],by rw [af h.ne.symm];exact h.hw,λe he=>?_,λe he=>?_,h.nr,h.nw,h.ne⟩
 ·rcases Qr.mp he with he | he
  ·rw [af (h.row_ne he)];exact h.ha e he
  ·have:e=(c,q,r):=by simpa using he
   rw [this,af qr];exact hq
 ·rcases Qr.mp he with he | he
  ·exact h.hn e he
  ·have:e=(c,q,r):=by simpa using he
   rw [this];exact⟨hq0,hqw⟩
structure wO(H:Hp)(d:Addr)(E:List Row)(s:Str)(U:List Str):Prop where
 at':gK H d E
 few:∀ e∈E,e.2.2.length < 64
 hs:s∈U
 hU:∀ x,∀ y∈nbE E x,y∈U
 hl:U.length<=100
inductive mB(vs:List V)(H:Hp)(Q:VK):Prop
 | mk:∀(d:Addr) (E:List Row) (s:Str) (U:List Str),(vs=[.ref d,.str s])->(wO H d E s U)->(∀(rd:Addr) (rows:List Row) (H':Hp),aw H H'->H rd=none->H' rd=some (.dK (ekv rows))->(∀ e∈rows,H' e.2.1=some (.lst (az e.2.2)))->(∀ e∈rows,H e.2.1=none)->rows.length<=U.length->ga ltS (nbE E) s (lr rows) (lr rows).length->Q (.ref rd) H')->mB vs H Q
def lw:Sp:=λvs H Q _=>mB vs H Q
inductive pc(vs:List V)(H:Hp)(Q:VK):Prop
 | mk:∀(d:Addr) (E:List Row) (s c:Str) (U:List Str),(vs=[.ref d,.str s,.str c])->(wO H d E s U)->((∀(a:Addr) (r:List Str) (H':Hp),aw H H'->H' a=some (.lst (az r))->Best ltS (nbE E) s c r->Q (.ref a) H'))->(∀ H',aw H H'->(∀ p,¬ Rd (nbE E) s c p)->Q .non H')->pc vs H Q
def rR:Sp:=λvs H Q _=>pc vs H Q
theorem jw{nb:Str->List Str}{s:Str}{rows:List Row}(wk:ga ltS nb s (lr rows) (lr rows).length)(x:Str):x∈rows.map (λe:Row=>e.1) ↔ ∃ p,Rd nb s x p:=by
 constructor
 ·intro h;obtain⟨e,he,rfl⟩:=Qg.mp h;exact⟨e.2.2,wk.road (e.1,e.2.2) (QH (f:=λe:Row=>(e.1,e.2.2)) he)⟩
 ·rintro⟨p,hp⟩;obtain⟨rc,h1,_⟩:=wk.all ordS hp;have:=QH (f:=λe:Str × List Str=>e.1) h1;rw [dN] at this;exact this
end G1
namespace GH
open PySem L2 G1
inductive Up(par:List (Option Nat)):Nat->List Nat->Prop
 | top {j:Nat}:par[j]?=some none->Up par j [j]
 | next {j i:Nat} {l:List Nat}:par[j]?=some (some i)->Up par i l->Up par j (j :: l)
theorem Up.uniq{par:List (Option Nat)}{j:Nat}{l l':List Nat}(h:Up par j l)(h':Up par j l'):l=l':=by
 induction h generalizing l' with
 | top e=>cases h' with
  | top _=>rfl
  | next e' _=>rw [e] at e';cases e'
 | next e _ ih=>cases h' with
  | top e'=>rw [e] at e';cases e'
  | next e' t=>rw [e] at e';cases e';rw [ih t]
theorem Up.head{par:List (Option Nat)}{j:Nat}{l:List Nat}(h:Up par j l):∃ t,l=j :: t:=by
 cases h with
 | top _=>exact⟨_,rfl⟩
 | next _ _=>exact⟨_,rfl⟩
theorem Up.self{par:List (Option Nat)}{j:Nat}{l:List Nat}(h:Up par j l):j∈l:=by
 obtain⟨t,rfl⟩:=h.head;exact QJ
theorem Up.lt{par:List (Option Nat)}{j:Nat}{l:List Nat}(h:Up par j l):∀ x∈l,x < par.length:=by
 induction h with
 | top e=>intro x hx;rw [Qo.mp hx];exact(Qb.mp e).1
 | next e _ ih =>
  intro x hx;rcases Qi.mp hx with rfl | hx
  ·exact(Qb.mp e).1
  ·exact ih x hx
theorem Up.sub{par:List (Option Nat)}{j:Nat}{l:List Nat}(h:Up par j l){x:Nat}(hx:x∈l):∃ l1 l2,l=l1++l2/\Up par x l2/\¬ x∈l1:=by
 induction h with
 | top e=>rw [Qo.mp hx];exact⟨[],_,rfl,.top e,by simp⟩
 | @next j i l e t ih =>
  by_cases hj:x=j
  ·subst hj;exact⟨[],_,rfl,.next e t,by simp⟩
  ·rcases Qi.mp hx with hx | hx
   ·exact Qs hx hj
   ·obtain⟨l1,l2,rfl,h2,h3⟩:=ih hx;exact⟨j :: l1,l2,rfl,h2,by simp [hj,h3]⟩
theorem Up.nodup{par:List (Option Nat)}{j:Nat}{l:List Nat}(h:Up par j l):l.Nodup:=by
 induction h with
 | top e=>simp
 | @next j i l e t ih =>
  refine QN.mpr ⟨λhj=>?_,ih⟩;obtain⟨l1,l2,hl,h2,_⟩:=t.sub hj;have:=(Up.next e t).uniq h2;have:=QW List.length this;rw [hl] at this;simp only [QL,Ql] at this;lia
theorem Up.len{par:List (Option Nat)}{j:Nat}{l:List Nat}(h:Up par j l):l.length<=par.length:=by
 have:=bT (m:=List.range par.length) h.nodup λx hx=>U4.mpr (h.lt x hx);rwa [List.length_range] at this
theorem Up.grow{par:List (Option Nat)}{j:Nat}{l:List Nat}(h:Up par j l)(o:Option Nat):Up (par++[o]) j l:=by
 induction h with
 | top e=>exact .top (by rw [Q8 (Qb.mp e).1];exact e)
 | next e _ ih=>exact .next (by rw [Q8 (Qb.mp e).1];exact e) ih
theorem Up.away{par:List (Option Nat)}{j:Nat}{l:List Nat}(h:Up par j l){p:Nat}(hp:¬ p∈l)(o:Option Nat):Up (par.set p o) j l:=by
 induction h with
 | @top j e=>exact .top (by rw [UC (λz=>hp (by simp [z]))];exact e)
 | @next j i l e _ ih=>exact .next (by rw [UC (λz=>hp (by simp [z]))];exact e) (ih λz=>hp (by simp [z]))
theorem Up.moved{par:List (Option Nat)}{j:Nat}{l1 l2:List Nat}{p q:Nat}{lq:List Nat}(h:Up par j (l1++l2))(h2:Up par p l2)(h1:¬ p∈l1)(hq:Up par q lq)(hn:¬ p∈lq):Up (par.set p (some q)) j (l1++p :: lq):=by
 induction l1 generalizing j with
 | nil =>
  have e:j=p:=by
   obtain⟨t,ht⟩:=h.head;obtain⟨t',ht'⟩:=h2.head;rw [List.nil_append,ht'] at ht;exact(List.cons.inj ht).1.symm
  subst e;have hlt:j < par.length:=h.lt j h.self;exact .next (by rw [Vk hlt]) (hq.away hn _)
 | cons x l1 ih =>
  have hx:j=x:=by
   obtain⟨t,ht⟩:=h.head;exact(List.cons.inj ht).1.symm
  subst hx;have hne:p≠j:=λz=>h1 (by simp [z]);have hn1:¬ p∈l1:=λz=>h1 (by simp [z]);rw [VR] at h ⊢;generalize hg:l1++l2=g at h;cases h with
  | top e =>
   obtain⟨t',ht'⟩:=h2.head;rw [ht'] at hg;exact Qs hg (by simp)
  | next e t =>
   subst hg;exact .next (by rw [UC hne];exact e) (ih t hn1)
theorem Up.put{par:List (Option Nat)}{p q:Nat}{lq:List Nat}(hp:∃ l,Up par p l)(hq:Up par q lq)(hn:¬ p∈lq){j:Nat}{l:List Nat}(h:Up par j l):∃ l',Up (par.set p (some q)) j l':=by
 by_cases hj:p∈l
 ·obtain⟨l1,l2,rfl,h2,h1⟩:=h.sub hj;exact⟨_,h.moved h2 h1 hq hn⟩
 ·exact⟨_,h.away hj _⟩
open Classical in
noncomputable def upL(par:List (Option Nat))(j:Nat):List Nat:=if h:∃ l,Up par j l then h.choose else []
theorem Up.upL{par:List (Option Nat)}{j:Nat}{l:List Nat}(h:Up par j l):upL par j=l:=by
 unfold GH.upL;rw [dif_pos ⟨l,h⟩];exact(Exists.choose_spec (⟨l,h⟩:∃ l,Up par j l)).uniq h
def cz(cut:List Bool):List Nat->List Nat
 | []=>[]
 | x :: l=>if cut[x]?=some true then [x] else x :: cz cut l
theorem ku(cut:List Bool):∀ l,∃ t,l=cz cut l++t
 | []=>⟨[],rfl⟩
 | x :: l=>by
  obtain⟨t,ht⟩:=ku cut l;rw [cz];split
  ·exact⟨l,rfl⟩
  ·exact⟨t,by rw [VR,<-ht]⟩
theorem qk(cut:List Bool)(l:List Nat):(cz cut l).length<=l.length:=by
 obtain⟨t,ht⟩:=ku cut l;have:=QW List.length ht;rw [Ql] at this;lia
def nbP(ps:List (Str × Str))(x:Str):List Str:=(ps.filter λp=>decide (p.1=x)).map λp=>p.2
theorem bY(ps:List (Str × Str))(x y:Str):(x,y)∈ps ↔ y∈nbP ps x:=by
 unfold nbP;constructor
 ·intro h;exact Qg.mpr ⟨(x,y),QX.mpr ⟨h,Qh rfl⟩,rfl⟩
 ·intro h;obtain⟨⟨a,b⟩,h1,h2⟩:=Qg.mp h;obtain⟨h3,h4⟩:=QX.mp h1;have h4:a=x:=QI h4;have h2:b=y:=h2;subst h4 h2;exact h3
def Rch(ps:List (Str × Str))(x y:Str):Prop:=∃ p,Rd (nbP ps) x y p
theorem Rch.refl(ps:List (Str × Str))(x:Str):Rch ps x x:=⟨_,.one⟩
theorem Rch.step{ps:List (Str × Str)}{x y z:Str}(h:Rch ps x y)(e:(y,z)∈ps):Rch ps x z:=let ⟨_,p⟩:=h;⟨_,p.snoc ((bY _ _ _).mp e)⟩
theorem Rch.trans{ps:List (Str × Str)}{x y z:Str}(h1:Rch ps x y)(h2:Rch ps y z):Rch ps x z:=by
 obtain⟨p,hp⟩:=h2
 induction hp with
 | one=>exact h1
 | snoc _ e ih=>exact ih.step ((bY _ _ _).mpr e)
theorem Rch.mono{ps qs:List (Str × Str)}(h:∀ e∈ps,e∈qs){x y:Str}(r:Rch ps x y):Rch qs x y:=by
 obtain⟨p,hp⟩:=r
 induction hp with
 | one=>exact .refl _ _
 | snoc _ e ih=>exact ih.step (h _ ((bY _ _ _).mpr e))
theorem Lev.rch{ps:List (Str × Str)}{s:Str}{B:List (Str × Nat)}{t:Nat}(h:Lev ps s B [] t)(c:Str):c∈B.map (·.1) ↔ Rch ps s c:=h.reach (bY ps) c
theorem Rch.more{ps:List (Str × Str)}{a b x y:Str}(h:Rch (ps++[(a,b)]) x y):Rch ps x y\/(Rch ps x a/\Rch ps b y):=by
 obtain⟨p,hp⟩:=h
 induction hp with
 | one=>exact .inl (.refl _ _)
 | @snoc n c p _ e ih =>
  have e:=(bY _ _ _).mpr e;rcases Qr.mp e with e | e
  ·rcases ih with ih | ⟨h1,h2⟩
   ·exact .inl (ih.step e)
   ·exact .inr ⟨h1,h2.step e⟩
  ·have e:=Qo.mp e;have en:n=a:=QW Prod.fst e;have ec:c=b:=QW Prod.snd e;subst en ec;rcases ih with ih | ⟨h1,h2⟩
   ·exact .inr ⟨ih,.refl _ _⟩
   ·exact .inr ⟨h1,.refl _ _⟩
abbrev aD:=Str × Str × Str × Int
structure Ho where
 par:List (Option Nat)
 cut:List Bool
 links:List (Str × Str)
 rules:List aD
inductive aA
 | add (p:Int)
 | move (p q:Int)
 | cutm (b:Bool) (p:Int)
 | join (a c:Str)
 | leave (a c:Str)
 | put (w a r:Str) (p:Int)
 | lift (w a r:Str) (p:Int)
 | ask (a r:Str) (p:Int)
 | who (r:Str) (p:Int)
inductive Ans
 | num (n:Nat)
 | yes (b:Bool)
 | txt (s:Str)
def inR(h:Ho)(p:Int):Prop:=0<=p/\p < h.par.length
instance (h:Ho) (p:Int):Decidable (inR h p):=inferInstanceAs (Decidable (_/\_))
open Classical in
noncomputable def step(h:Ho):aA->Ho × Ans
 | .add p=>if inR h p then ({ h with par:=h.par++[some p.toNat],cut:=h.cut++[false] },.num h.par.length) else (h,.txt "no place")
 | .move p q=>if inR h p/\inR h q then (if p.toNat∈upL h.par q.toNat then (h,.txt "ring") else ({ h with par:=h.par.set p.toNat (some q.toNat) },.yes true)) else (h,.txt "no place")
 | .cutm b p=>if inR h p then ({ h with cut:=h.cut.set p.toNat b },.yes ((h.cut[p.toNat]?.getD false) != b)) else (h,.txt "no place")
 | .join a c=>if Rch h.links c a then (h,.txt "ring") else if (a,c)∈h.links then (h,.yes false) else ({ h with links:=h.links++[(a,c)] },.yes true)
 | .leave a c=>if (a,c)∈h.links then ({ h with links:=h.links.erase (a,c) },.yes true) else (h,.yes false)
 | .put w a r p=>if inR h p then (if (w,a,r,p)∈h.rules then (h,.yes false) else ({ h with rules:=h.rules++[(w,a,r,p)] },.yes true)) else (h,.txt "no place")
 | .lift w a r p=>if (w,a,r,p)∈h.rules then ({ h with rules:=h.rules.erase (w,a,r,p) },.yes true) else (h,.yes false)
 | .ask _ _ _=>(h,.yes true)
 | .who _ _=>(h,.yes true)
open Classical in
theorem cT(h:Ho)(p:Int):step h (.add p)=if inR h p then ({ h with par:=h.par++[some p.toNat],cut:=h.cut++[false] },.num h.par.length) else (h,.txt "no place"):=rfl
theorem cu(h:Ho)(p q:Int):step h (.move p q)=if inR h p/\inR h q then (if p.toNat∈upL h.par q.toNat then (h,.txt "ring") else ({ h with par:=h.par.set p.toNat (some q.toNat) },.yes true)) else (h,.txt "no place"):=rfl
theorem cV(h:Ho)(b:Bool)(p:Int):step h (.cutm b p)=if inR h p then ({ h with cut:=h.cut.set p.toNat b },.yes ((h.cut[p.toNat]?.getD false) != b)) else (h,.txt "no place"):=rfl
open Classical in
theorem cN(h:Ho)(a c:Str):step h (.join a c)=if Rch h.links c a then (h,.txt "ring") else if (a,c)∈h.links then (h,.yes false) else ({ h with links:=h.links++[(a,c)] },.yes true):=rfl
theorem bZ(h:Ho)(a c:Str):step h (.leave a c)=if (a,c)∈h.links then ({ h with links:=h.links.erase (a,c) },.yes true) else (h,.yes false):=rfl
theorem dn(h:Ho)(w a r:Str)(p:Int):step h (.put w a r p)=if inR h p then (if (w,a,r,p)∈h.rules then (h,.yes false) else ({ h with rules:=h.rules++[(w,a,r,p)] },.yes true)) else (h,.txt "no place"):=rfl
theorem cw(h:Ho)(w a r:Str)(p:Int):step h (.lift w a r p)=if (w,a,r,p)∈h.rules then ({ h with rules:=h.rules.erase (w,a,r,p) },.yes true) else (h,.yes false):=rfl
def bb:Ho:=⟨[none],[false],[],[]⟩
noncomputable def run(h:Ho):List aA->Ho
 | []=>h
 | d :: ds=>run (step h d).1 ds
theorem dO(h:Ho)(ds:List aA)(d:aA):run h (ds++[d])=(step (run h ds) d).1:=by
 induction ds generalizing h with
 | nil=>rfl
 | cons e ds ih=>exact ih _
structure cA(h:Ho):Prop where
 len:h.cut.length=h.par.length
 root:h.par[0]?=some none
 ups:∀ j,j < h.par.length->∃ l,Up h.par j l
 one:∀ j,0 < j->j < h.par.length->∃ i,i < h.par.length/\h.par[j]?=some (some i)
 lnd:h.links.Nodup
 rnd:h.rules.Nodup
 acy:∀ x y,(x,y)∈h.links->¬ Rch h.links y x
 rin:∀ r∈h.rules,inR h r.2.2.2
theorem cA.pos{h:Ho}(k:cA h):0 < h.par.length:=(Qb.mp k.root).1
theorem cA.new:cA bb:=by
 refine⟨rfl,rfl,λj hj=>?_,λj h1 h2=>?_,UP,UP,λx y h=>?_,λr hr=>?_⟩
 ·have:j=0:=by have:j < 1:=hj;lia
  subst this;exact⟨[0],.top rfl⟩
 ·have:j < 1:=h2;lia
 ·exact Qs h (by simp [bb])
 ·exact Qs hr (by simp [bb])
theorem inR.nat{h:Ho}{p:Int}(k:inR h p):∃ n:Nat,p=(n:Int)/\n < h.par.length/\p.toNat=n:=by
 have:=k.1;have:=k.2;exact⟨p.toNat,by lia,by lia,rfl⟩
theorem cA.step{h:Ho}(k:cA h)(d:aA):cA (step h d).1:=by
 cases d with
 | add p =>
  rw [cT];by_cases c:inR h p
  ·rw [Qn c];obtain⟨n,rfl,hn,e⟩:=c.nat;refine⟨?_,?_,λj hj=>?_,λj h1 h2=>?_,k.lnd,k.rnd,k.acy,λr hr=>?_⟩
   ·show(h.cut++[false]).length=(h.par++[some _]).length;rw [Ql,Ql,k.len];rfl
   ·show(h.par++[some _])[0]?=some none;rw [Q8 k.pos];exact k.root
   ·have hj:j < (h.par++[some ((n:Int).toNat)]).length:=hj;show ∃ l,Up (h.par++[some ((n:Int).toNat)]) j l;by_cases hlt:j < h.par.length
    ·obtain⟨l,hl⟩:=k.ups j hlt;exact⟨l,hl.grow _⟩
    ·have ej:j=h.par.length:=by rw [Ql,Qz] at hj;lia
     obtain⟨l,hl⟩:=k.ups n hn;rw [e];exact⟨j :: l,.next (by rw [ej];simp) (hl.grow _)⟩
   ·have h2:j < (h.par++[some ((n:Int).toNat)]).length:=h2;show ∃ i,i < (h.par++[some ((n:Int).toNat)]).length/\(h.par++[some ((n:Int).toNat)])[j]?=some (some i);rw [Ql,Qz] at h2 ⊢;by_cases hlt:j < h.par.length
    ·obtain⟨i,hi,ei⟩:=k.one j h1 hlt;exact⟨i,by lia,by rw [Q8 hlt];exact ei⟩
    ·have ej:j=h.par.length:=by lia
     exact⟨n,by lia,by rw [ej];simp⟩
   ·obtain⟨h1,h2⟩:=k.rin r hr;refine⟨h1,?_⟩;show _ < (((h.par++[some ((n:Int).toNat)]).length:Nat):Int);rw [Ql,Qz];lia
  ·rw [Qf c];exact k
 | move p q =>
  rw [cu];by_cases c:inR h p/\inR h q
  ·rw [Qn c];obtain⟨n,rfl,hn,e⟩:=c.1.nat;obtain⟨m,rfl,hm,e'⟩:=c.2.nat;by_cases c2:(n:Int).toNat∈upL h.par (m:Int).toNat
   ·rw [Qn c2];exact k
   ·rw [Qf c2];rw [e,e'] at c2 ⊢;obtain⟨lm,hlm⟩:=k.ups m hm;rw [hlm.upL] at c2;have n0:n≠0:=λz=>by
     subst z;have:∀{j:Nat} {l:List Nat},Up h.par j l->0∈l:=λ{j l} u=>by
      induction u with
      | @top j e =>
       by_cases hj:j=0
       ·simp [hj]
       ·obtain⟨i,_,ei⟩:=k.one j (by lia) (Qb.mp e).1;rw [e] at ei;cases ei
      | next _ _ ih=>exact QA _ ih
     exact c2 (this hlm)
    refine⟨?_,?_,λj hj=>?_,λj h1 h2=>?_,k.lnd,k.rnd,k.acy,λr hr=>?_⟩
    ·show h.cut.length=(h.par.set n (some m)).length;rw [UX];exact k.len
    ·show(h.par.set n (some m))[0]?=some none;rw [UC n0];exact k.root
    ·have hj:j < (h.par.set n (some m)).length:=hj;rw [UX] at hj;obtain⟨l,hl⟩:=k.ups j hj;exact Up.put (k.ups n hn) hlm c2 hl
    ·have h2:j < (h.par.set n (some m)).length:=h2;show ∃ i,i < (h.par.set n (some m)).length/\(h.par.set n (some m))[j]?=some (some i);rw [UX] at h2 ⊢;by_cases hjn:n=j
     ·subst hjn;exact⟨m,hm,by rw [Vk hn]⟩
     ·rw [UC hjn];exact k.one j h1 h2
    ·obtain⟨h1,h2⟩:=k.rin r hr;refine⟨h1,?_⟩;show _ < (((h.par.set n (some m)).length:Nat):Int);rw [UX];exact h2
  ·rw [Qf c];exact k
 | cutm b p =>
  rw [cV];split
  ·exact⟨by show(h.cut.set _ _).length=_;rw [UX];exact k.len,k.root,k.ups,k.one,k.lnd,k.rnd,k.acy,k.rin⟩
  ·exact k
 | join a c =>
  rw [cN];split
  ·exact k
  ·rename_i nr
   split
   ·exact k
   ·rename_i nl
    refine⟨k.len,k.root,k.ups,k.one,dj k.lnd nl,k.rnd,λx y hxy r=>?_,k.rin⟩;have hxy:(x,y)∈h.links++[(a,c)]:=hxy;have r:Rch (h.links++[(a,c)]) y x:=r;rcases Qr.mp hxy with hxy | hxy
    ·rcases r.more with r | ⟨r1,r2⟩
     ·exact k.acy x y hxy r
     ·exact nr ((r2.step hxy).trans r1)
    ·have e:=Qo.mp hxy;have e1:x=a:=QW Prod.fst e;have e2:y=c:=QW Prod.snd e;subst e1 e2;rcases r.more with r | ⟨r1,r2⟩
     ·exact nr r
     ·exact nr r2
 | leave a c =>
  rw [bZ];split
  ·refine⟨k.len,k.root,k.ups,k.one,k.lnd.erase _,k.rnd,λx y hxy r=>?_,k.rin⟩;exact k.acy x y (Uy hxy) (r.mono λe he=>Uy he)
  ·exact k
 | put w a r p =>
  rw [dn];split
  ·rename_i hp
   split
   ·exact k
   ·rename_i nr
    refine⟨k.len,k.root,k.ups,k.one,k.lnd,dj k.rnd nr,k.acy,λe he=>?_⟩;rcases Qr.mp he with he | he
    ·exact k.rin e he
    ·rw [Qo.mp he];exact hp
  ·exact k
 | lift w a r p =>
  rw [cw];split
  ·exact⟨k.len,k.root,k.ups,k.one,k.lnd,k.rnd.erase _,k.acy,λe he=>k.rin e (Uy he)⟩
  ·exact k
 | ask a r p=>exact k
 | who r p=>exact k
theorem cA.run{h:Ho}(k:cA h):∀ ds,cA (run h ds)
 | []=>k
 | d :: ds=>cA.run (k.step d) ds
def Sz(h:Ho)(n:Nat):Prop:=h.par.length<=n+1/\h.links.length<=n/\h.rules.length<=n
theorem Sz.step{h:Ho}{n:Nat}(k:Sz h n)(d:aA):Sz (step h d).1 (n+1):=by
 obtain⟨k1,k2,k3⟩:=k;have same:Sz h (n+1):=⟨by lia,by lia,by lia⟩;have er:∀{α:Type} [BEq α] (l:List α) (x:α),(l.erase x).length<=l.length:=λl x=>List.length_erase_le;cases d with
 | add p =>
  rw [cT];split
  ·exact⟨by show(h.par++[_]).length<=_;rw [Ql,Qz];lia,by show h.links.length<=_;lia,by show h.rules.length<=_;lia⟩
  ·exact same
 | move p q =>
  rw [cu];split
  ·split
   ·exact same
   ·exact⟨by show(h.par.set _ _).length<=_;rw [UX];lia,by show h.links.length<=_;lia,by show h.rules.length<=_;lia⟩
  ·exact same
 | cutm b p =>
  rw [cV];split
  ·exact same
  ·exact same
 | join a c =>
  rw [cN];split
  ·exact same
  ·split
   ·exact same
   ·exact⟨by show h.par.length<=_;lia,by show(h.links++[_]).length<=_;rw [Ql,Qz];lia,by show h.rules.length<=_;lia⟩
 | leave a c =>
  rw [bZ];split
  ·exact⟨by show h.par.length<=_;lia,by show(h.links.erase _).length<=_;have:=er h.links (a,c);lia,by show h.rules.length<=_;lia⟩
  ·exact same
 | put w a r p =>
  rw [dn];split
  ·split
   ·exact same
   ·exact⟨by show h.par.length<=_;lia,by show h.links.length<=_;lia,by show(h.rules++[_]).length<=_;rw [Ql,Qz];lia⟩
  ·exact same
 | lift w a r p =>
  rw [cw];split
  ·exact⟨by show h.par.length<=_;lia,by show h.links.length<=_;lia,by show(h.rules.erase _).length<=_;have:=er h.rules (w,a,r,p);lia⟩
  ·exact same
 | ask a r p=>exact same
 | who r p=>exact same
theorem Sz.run{h:Ho}{n:Nat}(k:Sz h n):∀ ds:List aA,Sz (run h ds) (n+ds.length)
 | []=>k
 | d :: ds=>by
  have:=Sz.run (k.step d) ds;rw [QL,show n+(ds.length+1)=n+1+ds.length by lia];exact this
theorem Sz.new:Sz bb 0:=⟨Qk _,Qk _,Qk _⟩
end GH
namespace GH
open PySem L2 G1
def oV:Option Nat->V
 | none=>.non
 | some n=>.int n
def cx(ps:List (Option Nat)):List V:=ps.map oV
def a8(xs:List Nat):List V:=xs.map λn:Nat=>V.int n
def blV(cs:List Bool):List V:=cs.map V.bl
theorem dX{ps:List (Option Nat)}{j:Nat}{o:Option Nat}(h:ps[j]?=some o):atI (cx ps) (j:Int)=some (oV o) :=
 cn (by unfold cx;rw [Qq,h];rfl)
theorem n8{cs:List Bool}{j:Nat}{b:Bool}(h:cs[j]?=some b):atI (blV cs) (j:Int)=some (.bl b) :=
 cn (by unfold blV;rw [Qq,h];rfl)
theorem uG{xs:List Nat}{j n:Nat}(h:xs[j]?=some n):atI (a8 xs) (j:Int)=some (.int n) :=
 cn (by unfold a8;rw [Qq,h];rfl)
theorem cO(xs:List Nat)(n:Nat):a8 (xs++[n])=a8 xs++[.int n]:=by unfold a8;rw [Qx];rfl
theorem kz(xs:List (Option Nat))(n:Option Nat):cx (xs++[n])=cx xs++[oV n]:=by unfold cx;rw [Qx];rfl
theorem mC(xs:List Bool)(n:Bool):blV (xs++[n])=blV xs++[.bl n]:=by unfold blV;rw [Qx];rfl
theorem dP(xs:List Nat):(a8 xs).length=xs.length:=by unfold a8;rw [Qc]
theorem bC(xs:List (Option Nat)):(cx xs).length=xs.length:=by unfold cx;rw [Qc]
theorem iS(xs:List Bool):(blV xs).length=xs.length:=by unfold blV;rw [Qc]
theorem mD(xs:List (Option Nat))(j:Nat)(n:Option Nat):cx (xs.set j n)=(cx xs).set j (oV n):=by unfold cx;rw [List.map_set]
theorem pd(xs:List Bool)(j:Nat)(n:Bool):blV (xs.set j n)=(blV xs).set j (.bl n):=by unfold blV;rw [List.map_set]
theorem ql(xs:List Nat):(a8 xs).all fP=true:=by
 unfold a8;rw [List.all_map,U8];intro x _;rfl
theorem uH(xs:List Nat)(n:Nat):inV (.int n) (a8 xs)=decide (n∈xs):=by
 unfold inV a8;rw [List.any_map,Ua,U7,Q4];constructor
 ·rintro⟨x,hx,e⟩;have e':((x:Int) == (n:Int))=true:=e;have e2:(x:Int)=(n:Int):=U3.mp e';have e3:x=n:=by lia
  exact e3 ▸ hx
 ·intro h;exact⟨n,h,show((n:Int) == (n:Int))=true from UA _⟩
theorem br{α β:Type}{F:α->β->Prop}:∀{l:List α} {m:List β} {i:Nat} {a:α},Paired F l m->l[i]?=some a->∃ b,m[i]?=some b/\F a b
 | _,_,_,_,.nil,h=>by simp at h
 | _,_,0,_,.cons r _,h=>by simp at h;subst h;exact⟨_,rfl,r⟩
 | _,_,i+1,a,.cons _ t,h=>by
  obtain⟨b,h1,h2⟩:=br (i:=i) (a:=a) t (by simpa using h);exact⟨b,by simpa using h1,h2⟩
theorem fc{α β:Type}{F:α->β->Prop}:∀{l:List α} {m:List β} {i:Nat} {b:β},Paired F l m->m[i]?=some b->∃ a,l[i]?=some a/\F a b
 | _,_,_,_,.nil,h=>by simp at h
 | _,_,0,_,.cons r _,h=>by simp at h;subst h;exact⟨_,rfl,r⟩
 | _,_,i+1,a,.cons _ t,h=>by
  obtain⟨b,h1,h2⟩:=fc (i:=i) (b:=a) t (by simpa using h);exact⟨b,by simpa using h1,h2⟩
theorem aL{α β:Type}{F:α->β->Prop}:∀{l:List α} {m:List β},Paired F l m->l.length=m.length
 | _,_,.nil=>rfl
 | _,_,.cons _ t=>QW (·+1) (aL t)
theorem bW{α β:Type}{F:α->β->Prop}:∀{l:List α} {m:List β} {a:α} {b:β},Paired F l m->F a b->Paired F (l++[a]) (m++[b])
 | _,_,_,_,.nil,h=>.cons h .nil
 | _,_,_,_,.cons r t,h=>.cons r (bW t h)
theorem eV{α β:Type}{F:α->β->Prop}:∀{l:List α} {m:List β} (j:Nat),Paired F l m->Paired F (l.eraseIdx j) (m.eraseIdx j)
 | _,_,_,.nil=>.nil
 | _,_,0,.cons _ t=>t
 | _,_,j+1,.cons r t=>.cons r (eV j t)
def a6{α:Type}(c:α->List V)(H:Hp)(p:Addr)(xs:List α):Prop :=
 ∃ as:List Addr,H p=some (.lst (as.map V.ref))/\Paired (λ(a:Addr) (x:α)=>H a=some (.tup (c x))) as xs
theorem a6.same{α:Type}{c:α->List V}{H H':Hp}{p:Addr}{xs:List α}(h:a6 c H p xs)(s:aw H H'):a6 c H' p xs :=
 let ⟨as,h1,h2⟩:=h
 ⟨as,s _ _ h1,Paired.mapP h2 λa q z=>s _ _ z⟩
theorem a6.away{α:Type}{c:α->List V}{H:Hp}{p q:Addr}{xs:List α}{o:HO}{ys:List V}(h:a6 c H p xs)(hq:H q=some (.lst ys))(n:p≠q):a6 c (upd H q o) p xs :=
 let ⟨as,h1,h2⟩:=h
 ⟨as,by rw [af n];exact h1,Paired.mapP h2 λa x z=>by rw [af (be z hq (by intro e;cases e))];exact z⟩
def bN(p:Str × Str):List V:=[.str p.1,.str p.2]
def bp(r:aD):List V:=[.str r.1,.str r.2.1,.str r.2.2.1,.int r.2.2.2]
def Tx(s:Str):Prop:=PyData.strOk s=true
def cb(p:Str × Str):PyData:=.tuple [.str p.1,.str p.2]
def bV(r:aD):PyData:=.tuple [.str r.1,.str r.2.1,.str r.2.2.1,.int r.2.2.2]
theorem eW{α:Type}{c:α->List V}{dd:α->PyData}(K:W.Frag){H:Hp}(f:∀ a x,H a=some (.tup (c x))->DtV K H (.ref a) (dd x)):∀{as:List Addr} {xs:List α},Paired (λ(a:Addr) (x:α)=>H a=some (.tup (c x))) as xs->eE K H (as.map V.ref) (xs.map dd)
 | _,_,.nil=>.nil
 | _,_,.cons r t=>.cons (f _ _ r) (eW K f t)
theorem fE(K:W.Frag){H:Hp}{a:Addr}{x:Str × Str}(h:H a=some (.tup (bN x))):DtV K H (.ref a) (cb x):=.tup (SqT.of h) (.cons (.str _) (.cons (.str _) .nil))
theorem dE(K:W.Frag){H:Hp}{a:Addr}{x:aD}(h:H a=some (.tup (bp x))):DtV K H (.ref a) (bV x):=.tup (SqT.of h) (.cons (.str _) (.cons (.str _) (.cons (.str _) (.cons (.int _) .nil))))
theorem jx(x y:Str × Str):(cb x).eqv (cb y)=decide (x=y):=by
 obtain⟨a,b⟩:=x;obtain⟨c,d⟩:=y;rw [Ua,Q4];unfold cb;simp [PyData.eqv,PyData.eqvAll]
theorem jy(x y:aD):(bV x).eqv (bV y)=decide (x=y):=by
 obtain⟨a,b,e,i⟩:=x;obtain⟨c,d,f,j⟩:=y;rw [Ua,Q4];unfold bV;simp [PyData.eqv,PyData.eqvAll]
theorem dY{x:Str × Str}(h1:Tx x.1)(h2:Tx x.2):SeqAt.shaped (cb x)=true:=by
 unfold SeqAt.shaped cb;simp [PyData.canLay0,PyData.canLayAll0,PyData.depth,PyData.depthAll];exact⟨h1,h2⟩
theorem dq{x:aD}(h1:Tx x.1)(h2:Tx x.2.1)(h3:Tx x.2.2.1):SeqAt.shaped (bV x)=true:=by
 unfold SeqAt.shaped bV;simp [PyData.canLay0,PyData.canLayAll0,PyData.depth,PyData.depthAll];exact⟨h1,h2,h3⟩
theorem kA(xs:List (Str × Str))(x:Str × Str):((xs.map cb).any λe=>e.eqv (cb x))=decide (x∈xs):=by
 rw [List.any_map,Ua,U7,Q4];constructor
 ·rintro⟨y,hy,e⟩;have e':(cb y).eqv (cb x)=true:=e;rw [jx] at e';exact QI e' ▸ hy
 ·intro h;exact⟨x,h,show(cb x).eqv (cb x)=true by rw [jx];exact Qh rfl⟩
theorem ii(xs:List aD)(x:aD):((xs.map bV).any λe=>e.eqv (bV x))=decide (x∈xs):=by
 rw [List.any_map,Ua,U7,Q4];constructor
 ·rintro⟨y,hy,e⟩;have e':(bV y).eqv (bV x)=true:=e;rw [jy] at e';exact QI e' ▸ hy
 ·intro h;exact⟨x,h,show(bV x).eqv (bV x)=true by rw [jy];exact Qh rfl⟩
theorem mE{α:Type} [DecidableEq α] [BEq α] [LawfulBEq α]:∀{xs:List α} {x:α},x∈xs->∃ j,xs[j]?=some x/\(∀ m,m < j->∃ y,xs[m]?=some y/\y≠x)/\xs.erase x=xs.eraseIdx j
 | [],x,h=>Qs h (by simp)
 | y :: xs,x,h=>by
  by_cases e:y=x
  ·subst e;exact⟨0,rfl,λm hm=>Qs hm (Nat.not_lt_zero _),by simp⟩
  ·have h':x∈xs:=by
    rcases Qi.mp h with z | z
    ·exact Qs z.symm e
    ·exact z
   obtain⟨j,h1,h2,h3⟩:=mE h';refine⟨j+1,by simpa using h1,λm hm=>?_,?_⟩
   ·cases m with
    | zero=>exact⟨y,rfl,e⟩
    | succ m =>
     obtain⟨z,hz,hne⟩:=h2 m (by lia);exact⟨z,by simpa using hz,hne⟩
   ·rw [Vq (by simpa using e),h3];rfl
def aA.vals:aA->List V
 | .add p=>[.str "add",.int p]
 | .move p q=>[.str "move",.int p,.int q]
 | .cutm b p=>[.str (if b then "cut" else "mend"),.int p]
 | .join a c=>[.str "join",.str a,.str c]
 | .leave a c=>[.str "leave",.str a,.str c]
 | .put w a r p=>[.str w,.str a,.str r,.int p]
 | .lift w a r p=>[.str "lift",.str w,.str a,.str r,.int p]
 | .ask a r p=>[.str "ask",.str a,.str r,.int p]
 | .who r p=>[.str "who",.str r,.int p]
def cW(w:Str):Prop:=w="give"\/w="bar"
def aA.ok:aA->Prop
 | .join a c=>Tx a/\Tx c
 | .leave a c=>Tx a/\Tx c
 | .put w a r _=>cW w/\Tx a/\Tx r
 | .lift w a r _=>cW w/\Tx a/\Tx r
 | .ask a r _=>Tx a/\Tx r
 | .who r _=>Tx r
 | _=>True
def aA.asks:aA->Bool
 | .ask _ _ _=>true
 | .who _ _=>true
 | _=>false
theorem cW.tx{w:Str}(h:cW w):Tx w:=by
 rcases h with rfl | rfl
 ·show PyData.strOk _=true;decide +kernel
 ·show PyData.strOk _=true;decide +kernel
structure cG(h:Ho):Prop where
 l:∀ e∈h.links,Tx e.1/\Tx e.2
 r:∀ e∈h.rules,cW e.1/\Tx e.2.1/\Tx e.2.2.1
theorem cG.new:cG bb:=⟨λe he=>Qs he (by simp [bb]),λe he=>Qs he (by simp [bb])⟩
theorem cG.step{h:Ho}(k:cG h){d:aA}(hd:d.ok):cG (step h d).1:=by
 cases d with
 | add p=>rw [cT];split <;> exact⟨k.l,k.r⟩
 | move p q =>
  rw [cu];split
  ·split <;> exact⟨k.l,k.r⟩
  ·exact k
 | cutm b p=>rw [cV];split <;> exact⟨k.l,k.r⟩
 | join a c =>
  rw [cN];split
  ·exact k
  ·split
   ·exact k
   ·refine⟨λe he=>?_,k.r⟩;rcases Qr.mp he with he | he
    ·exact k.l e he
    ·rw [Qo.mp he];exact hd
 | leave a c =>
  rw [bZ];split
  ·exact⟨λe he=>k.l e (Uy he),k.r⟩
  ·exact k
 | put w a r p =>
  rw [dn];split
  ·split
   ·exact k
   ·refine⟨k.l,λe he=>?_⟩;rcases Qr.mp he with he | he
    ·exact k.r e he
    ·rw [Qo.mp he];exact hd
  ·exact k
 | lift w a r p =>
  rw [cw];split
  ·exact⟨k.l,λe he=>k.r e (Uy he)⟩
  ·exact k
 | ask a r p=>exact k
 | who r p=>exact k
theorem cG.run{h:Ho}(k:cG h):∀{ds:List aA},(∀ d∈ds,d.ok)->cG (run h ds)
 | [],_=>k
 | d :: ds,hd=>cG.run (k.step (hd d (by simp))) λe he=>hd e (by simp [he])
def ly:Ans->V
 | .num n=>.int (n:Nat)
 | .yes b=>.bl b
 | .txt s=>.str s
def Sb(S:List Addr)(H H':Hp):Prop:=∀ b o,H b=some o->¬ b∈S->H' b=some o
theorem Sb.refl(S:List Addr)(H:Hp):Sb S H H:=λ_ _ h _=>h
theorem Sb.of{S:List Addr}{H H':Hp}(s:aw H H'):Sb S H H':=λb o h _=>s b o h
theorem Sb.trans{S:List Addr}{H H1 H2:Hp}(h:Sb S H H1)(k:Sb S H1 H2):Sb S H H2:=λb o q n=>k b o (h b o q n) n
theorem Sb.put{S:List Addr}{H H1:Hp}{p:Addr}(s:Sb S H H1)(h:p∈S)(o:HO):Sb S H (upd H1 p o):=λb u q n=>by
 have hb:b≠p:=λz=>n (by rw [z];exact h);rw [af hb];exact s b u q n
theorem Sb.new{S:List Addr}{H H1:Hp}{p:Addr}(s:Sb S H H1)(h:H p=none)(o:HO):Sb S H (upd H1 p o):=λb u q n=>by
 rw [af (ao q h)];exact s b u q n
theorem Sb.same{S:List Addr}{H0 H H':Hp}(s:Sb S H H')(k:aw H0 H)(n:∀ a∈S,H0 a=none):aw H0 H':=λb o q=>s b o (k b o q) λz=>by
 have:=n b z;rw [q] at this;cases this
def mkv(a1 a2 a3 a4:Addr):List (Key × V):=[((Sum.inr "parents":Key),V.ref a1),((Sum.inr "cuts":Key),V.ref a2),((Sum.inr "links":Key),V.ref a3),((Sum.inr "rules":Key),V.ref a4)]
structure MAt(H:Hp)(m a1 a2 a3 a4:Addr)(h:Ho):Prop where
 hm:H m=some (.dK (mkv a1 a2 a3 a4))
 h1:H a1=some (.lst (cx h.par))
 h2:H a2=some (.lst (blV h.cut))
 h3:a6 bN H a3 h.links
 h4:a6 bp H a4 h.rules
 n12:a1≠a2
 n13:a1≠a3
 n14:a1≠a4
 n23:a2≠a3
 n24:a2≠a4
 n34:a3≠a4
section
variable{H H':Hp} {m a1 a2 a3 a4:Addr} {h:Ho}
theorem MAt.same(k:MAt H m a1 a2 a3 a4 h)(s:aw H H'):MAt H' m a1 a2 a3 a4 h :=
 ⟨s _ _ k.hm,s _ _ k.h1,s _ _ k.h2,k.h3.same s,k.h4.same s,k.n12,k.n13,k.n14,k.n23,k.n24,k.n34⟩
theorem MAt.l3(k:MAt H m a1 a2 a3 a4 h):∃ ys,H a3=some (.lst ys):=let ⟨_,e,_⟩:=k.h3;⟨_,e⟩
theorem MAt.l4(k:MAt H m a1 a2 a3 a4 h):∃ ys,H a4=some (.lst ys):=let ⟨_,e,_⟩:=k.h4;⟨_,e⟩
theorem MAt.set1(k:MAt H m a1 a2 a3 a4 h){xs:List V}{ps:List (Option Nat)}(e:xs=cx ps):MAt (upd H a1 (.lst xs)) m a1 a2 a3 a4 { h with par:=ps }:=by
 subst e;exact⟨by rw [af (be k.hm k.h1 (by intro z;cases z))];exact k.hm,ae,by rw [af k.n12.symm];exact k.h2,k.h3.away k.h1 k.n13.symm,k.h4.away k.h1 k.n14.symm,k.n12,k.n13,k.n14,k.n23,k.n24,k.n34⟩
theorem MAt.set2(k:MAt H m a1 a2 a3 a4 h){xs:List V}{cs:List Bool}(e:xs=blV cs):MAt (upd H a2 (.lst xs)) m a1 a2 a3 a4 { h with cut:=cs }:=by
 subst e;exact⟨by rw [af (be k.hm k.h2 (by intro z;cases z))];exact k.hm,by rw [af k.n12];exact k.h1,ae,k.h3.away k.h2 k.n23.symm,k.h4.away k.h2 k.n24.symm,k.n12,k.n13,k.n14,k.n23,k.n24,k.n34⟩
theorem MAt.set3(k:MAt H m a1 a2 a3 a4 h){as:List Addr}{ps:List (Str × Str)}(p:Paired (λ(a:Addr) (x:Str × Str)=>H a=some (.tup (bN x))) as ps){vs:List V}(ev:vs=as.map V.ref):MAt (upd H a3 (.lst vs)) m a1 a2 a3 a4 { h with links:=ps }:=by
 subst ev;obtain⟨ys,e⟩:=k.l3;exact⟨by rw [af (be k.hm e (by intro z;cases z))];exact k.hm,by rw [af k.n13];exact k.h1,by rw [af k.n23];exact k.h2,
  ⟨as,ae,Paired.mapP p λa q z=>by rw [af (be z e (by intro z;cases z))];exact z⟩,k.h4.away e k.n34.symm,k.n12,k.n13,k.n14,k.n23,k.n24,k.n34⟩
theorem MAt.set4(k:MAt H m a1 a2 a3 a4 h){as:List Addr}{ps:List aD}(p:Paired (λ(a:Addr) (x:aD)=>H a=some (.tup (bp x))) as ps){vs:List V}(ev:vs=as.map V.ref):MAt (upd H a4 (.lst vs)) m a1 a2 a3 a4 { h with rules:=ps }:=by
 subst ev;obtain⟨ys,e⟩:=k.l4;exact⟨by rw [af (be k.hm e (by intro z;cases z))];exact k.hm,by rw [af k.n14];exact k.h1,by rw [af k.n24];exact k.h2,k.h3.away e k.n34,
  ⟨as,ae,Paired.mapP p λa q z=>by rw [af (be z e (by intro z;cases z))];exact z⟩,k.n12,k.n13,k.n14,k.n23,k.n24,k.n34⟩
theorem MAt.g1(k:MAt H m a1 a2 a3 a4 h):bG H m (.str "parents") (some (.ref a1)):=bG.k (k:=(Sum.inr "parents":Key)) k.hm
theorem MAt.g2(k:MAt H m a1 a2 a3 a4 h):bG H m (.str "cuts") (some (.ref a2)):=bG.k (k:=(Sum.inr "cuts":Key)) k.hm
theorem MAt.g3(k:MAt H m a1 a2 a3 a4 h):bG H m (.str "links") (some (.ref a3)):=bG.k (k:=(Sum.inr "links":Key)) k.hm
theorem MAt.g4(k:MAt H m a1 a2 a3 a4 h):bG H m (.str "rules") (some (.ref a4)):=bG.k (k:=(Sum.inr "rules":Key)) k.hm
end
def bkv(B:List (Str × Nat)):List (Key × V):=B.map λe=>((Sum.inr e.1:Key),V.int (e.2:Nat))
theorem uI(B:List (Str × Nat)):(bkv B).length=B.length:=Qc _
theorem rT(B:List (Str × Nat))(e:Str × Nat):bkv (B++[e])=bkv B++[((Sum.inr e.1:Key),V.int (e.2:Nat))]:=by unfold bkv;rw [Qx];rfl
theorem eL:∀{B:List (Str × Nat)} {x:Str},¬ x∈B.map (·.1)->bL (bkv B) (Sum.inr x:Key)=none
 | [],_,_=>rfl
 | e :: B,x,h=>by
  show bL (((Sum.inr e.1:Key),V.int (e.2:Nat)) :: bkv B) (Sum.inr x)=none;rw [cD (p:=((Sum.inr e.1:Key),V.int (e.2:Nat))) (λz=>h (by simp [Sum.inr.inj z]))];exact eL λm=>h (by simp only [Uo,Qi];exact .inr m)
theorem eM:∀{B:List (Str × Nat)},(B.map (·.1)).Nodup->∀{x:Str} {n:Nat},(x,n)∈B->bL (bkv B) (Sum.inr x:Key)=some (.int n)
 | [],_,_,_,h=>Qs h (by simp)
 | e :: B,nd,x,n,h=>by
  obtain⟨h1,h2⟩:=QN.mp (show(e.1 :: B.map (·.1)).Nodup from nd);show bL (((Sum.inr e.1:Key),V.int (e.2:Nat)) :: bkv B) (Sum.inr x)=_;rcases Qi.mp h with q | q
  ·rw [<-q];exact dJ (p:=((Sum.inr x:Key),V.int (n:Nat))) rfl
  ·rw [cD (p:=((Sum.inr e.1:Key),V.int (e.2:Nat))) (λz=>h1 (by rw [Sum.inr.inj z];exact QH (f:=(·.1)) q))];exact eM h2 q
theorem uJ{ps:List (Str × Str)}{s:Str}{B:List (Str × Nat)}{F:List Str}{t:Nat}(h:Lev ps s B F t):B.length<=ps.length+1:=by
 have:=bT (m:=s :: ps.map (·.2)) h.nd λx hx=>by
  obtain⟨⟨y,d⟩,he,rfl⟩:=Qg.mp hx;cases d with
  | zero=>rw [h.zero' y he];simp
  | succ d =>
   obtain⟨z,h1,_⟩:=h.down y d he;exact QA _ (QH (f:=(·.2)) h1)
 simpa using this
theorem pe{ps:List (Str × Str)}{s:Str}{B:List (Str × Nat)}{F G:List Str}{t:Nat}{done:List (Str × Str)}(h:jv ps s B F t done G):B.length<=ps.length+1:=by
 have:=bT (m:=s :: ps.map (·.2)) h.nd λx hx=>by
  obtain⟨⟨y,d⟩,he,rfl⟩:=Qg.mp hx;cases d with
  | zero=>rw [h.zero' y he];simp
  | succ d =>
   obtain⟨z,h1,_⟩:=h.down y d he;exact QA _ (QH (f:=(·.2)) h1)
 simpa using this
inductive rV(vs:List V)(H:Hp)(Q:VK):Prop
 | mk:∀(m a1 a2 a3 a4:Addr) (h:Ho) (t:Addr) (d:aA),(vs=[.ref m,.ref t])->(MAt H m a1 a2 a3 a4 h)->(cA h)->(cG h)->(Sz h 90)->(H t=some (.tup d.vals))->(d.ok)->(d.asks=false)->(∀ H',Sb [a1,a2,a3,a4] H H'->MAt H' m a1 a2 a3 a4 (step h d).1->Q (ly (step h d).2) H')->rV vs H Q
def rW:Sp:=λvs H Q _=>rV vs H Q
inductive mF(K:W.Frag)(vs:List V)(H:Hp)(Q:VK):Prop
 | mk:∀(a:Addr) (ps:List (Option Nat)) (j:Nat) (l:List Nat),(vs=[.ref a,.int j])->(SqL K H a (cx ps))->(Up ps j l)->(ps.length<=200)->(∀(r:Addr),H r=none->Q (.ref r) (upd H r (.lst (a8 l))))->mF K vs H Q
def pf(K:W.Frag):Sp:=λvs H Q _=>mF K vs H Q
def vY:Sp:=λvs H Q _=>vs=[]/\∀(m a1 a2 a3 a4:Addr) (H':Hp),aw H H'->H m=none->H a1=none->H a2=none->H a3=none->H a4=none->MAt H' m a1 a2 a3 a4 bb->Q (.ref m) H'
inductive kB(vs:List V)(H:Hp)(Q:VK):Prop
 | mk:∀(p:Addr) (ps:List (Str × Str)) (s:Str),(vs=[.ref p,.str s])->(a6 bN H p ps)->(ps.length<=100)->(∀(d:Addr) (B:List (Str × Nat)) (t:Nat) (H':Hp),aw H H'->H d=none->H' d=some (.dK (bkv B))->B.length<=101->Lev ps s B [] t->Q (.ref d) H')->kB vs H Q
def gL:Sp:=λvs H Q _=>kB vs H Q
end GH
namespace GH
open PySem L2 G1
def b7:List Str:=["ann","an","",PySem.Txt.mul "east" 10++"a",PySem.Txt.mul "east" 10++"b","owl","A b"]
theorem ph:MulOk "east" 10:=⟨by decide,λ_ _=>by decide +kernel,λ_ _=>by decide +kernel⟩
theorem rX:(PySem.Txt.mul "east" 10).length+("a":Str).length<=sizeLine:=by decide +kernel
theorem rY:(PySem.Txt.mul "east" 10).length+("b":Str).length<=sizeLine:=by decide +kernel
def lz:Sp:=λvs H Q _=>vs=[]/\∀ a,H a=none->Q (.ref a) (upd H a (.lst (az b7)))
inductive jz(vs:List V)(H:Hp)(Q:VK):Prop
 | mk:∀(c k n:Int),(vs=[.int c,.int k,.int n])->(0 < n)->(∀ z H',aw H H'->Q (.int z) H')->jz vs H Q
def kC:Sp:=λvs H Q _=>jz vs H Q
end GH
namespace GH
open PySem L2 G1
theorem db(z:Int){m:Int}(h:0 < m):0<=z % m/\z % m < m:=⟨Int.emod_nonneg z (by lia),Int.emod_lt_of_pos z h⟩
theorem lA{ns:List Int}{k:Int}(h0:0<=k)(h:k < (ns.length:Int)):∃ v:Int,atI (ns.map V.int) k=some (.int v):=by
 have hk:k.toNat < ns.length:=by lia
 have ek:k=((k.toNat:Nat):Int):=by lia
 have q:atI (ns.map V.int) ((k.toNat:Nat):Int)=some (.int ns[k.toNat]):=cn (by rw [Qq,Qe hk] <;> rfl);rw [<-ek] at q;exact⟨_,q⟩
theorem fF{ns:List Str}{k:Int}(h0:0<=k)(h:k < (ns.length:Int)):∃ v:Str,v∈ns/\atI (az ns) k=some (.str v):=by
 have hk:k.toNat < ns.length:=by lia
 have ek:k=((k.toNat:Nat):Int):=by lia
 have q:atI (az ns) ((k.toNat:Nat):Int)=some (.str ns[k.toNat]):=uE (Qe hk);rw [<-ek] at q;exact⟨_,List.getElem_mem hk,q⟩
end GH
namespace GH
open PySem L2 G1
def fG:List Str:=["see",PySem.Txt.mul "see" 12++"n","owl","see"]
theorem rZ:MulOk "see" 12:=⟨by decide,λ_ _=>by decide +kernel,λ_ _=>by decide +kernel⟩
theorem r6:(PySem.Txt.mul "see" 12).length+("n":Str).length<=sizeLine:=by decide +kernel
def aA.small:aA->Prop
 | .join a c=>a∈b7/\c∈b7
 | .leave a c=>a∈b7/\c∈b7
 | .put w a r _=>cW w/\a∈b7/\r∈fG
 | .lift w a r _=>cW w/\a∈b7/\r∈fG
 | .ask a r _=>a∈b7/\r∈fG
 | .who _ _=>False
 | _=>True
theorem lB{ss:List Str}(h:(ss.all λx=>PyData.strOk x)=true):∀ x∈ss,Tx x:=λx hx=>U8.mp h x hx
theorem tx7:∀ x∈b7,Tx x:=lB (by decide +kernel)
theorem tx4:∀ x∈fG,Tx x:=lB (by decide +kernel)
theorem aA.small.ok{d:aA}(h:d.small):d.ok:=by
 cases d with
 | join a c=>exact⟨tx7 _ h.1,tx7 _ h.2⟩
 | leave a c=>exact⟨tx7 _ h.1,tx7 _ h.2⟩
 | put w a r p=>exact⟨h.1,tx7 _ h.2.1,tx4 _ h.2.2⟩
 | lift w a r p=>exact⟨h.1,tx7 _ h.2.1,tx4 _ h.2.2⟩
 | ask a r p=>exact⟨tx7 _ h.1,tx4 _ h.2⟩
 | who r p=>exact Qs h id
 | _=>exact trivial
inductive kD(vs:List V)(H:Hp)(Q:VK):Prop
 | mk:∀(c k n:Int),(vs=[.int c,.int k,.int n])->(0 < n)->(∀(t:Addr) (d:aA) (H':Hp),aw H H'->H t=none->H' t=some (.tup d.vals)->d.small->Q (.ref t) H')->kD vs H Q
def mG:Sp:=λvs H Q _=>kD vs H Q
end GH
namespace GH
open PySem L2 G1
def aA.isPl:aA->Bool
 | .add _=>true
 | .move _ _=>true
 | .cutm _ _=>true
 | _=>false
def aA.pls:aA->List Int
 | .add p=>[p]
 | .move p q=>[p,q]
 | .cutm _ p=>[p]
 | _=>[]
theorem uK{d:aA}(h:d.isPl=true):eZ d.vals (some 1) none=d.pls.map V.int:=by
 cases d <;> first | rfl | cases h
theorem r9{d:aA}(h:d.isPl=true):¬ (HT.sIx d.vals.length 0 (some 1)=0/\HT.sIx d.vals.length d.vals.length none=d.vals.length):=by
 have f2:¬ (HT.sIx 2 0 (some 1)=0/\HT.sIx 2 2 none=2):=by decide
 have f3:¬ (HT.sIx 3 0 (some 1)=0/\HT.sIx 3 3 none=3):=by decide
 cases d <;> first | exact f2 | exact f3 | cases h
theorem qm{h:Ho}{d:aA}(hd:d.isPl=true){x:Int}(hx:x∈d.pls)(n:¬ inR h x):step h d=(h,.txt "no place"):=by
 cases d with
 | add p=>rw [cT,Qf (by rw [<-Qo.mp hx];exact n)]
 | move p q =>
  rw [cu,Qf];rintro⟨h1,h2⟩;rcases Qi.mp hx with e | e
  ·exact n (e ▸ h1)
  ·exact n (Qo.mp e ▸ h2)
 | cutm b p=>rw [cV,Qf (by rw [<-Qo.mp hx];exact n)]
 | _=>cases hd
inductive pi(vs:List V)(H:Hp)(Q:VK):Prop
 | mk:∀(m a1 a2 a3 a4:Addr) (h:Ho) (t:Addr) (d:aA),(vs=[.ref m,.ref t])->(MAt H m a1 a2 a3 a4 h)->(cA h)->(Sz h 90)->(H t=some (.tup d.vals))->(d.isPl=true)->(∀ H',Sb [a1,a2,a3,a4] H H'->MAt H' m a1 a2 a3 a4 (step h d).1->Q (ly (step h d).2) H')->pi vs H Q
def sf:Sp:=λvs H Q _=>pi vs H Q
end GH
namespace GH
open PySem L2 G1
theorem cg{c:Prop} [Decidable c] {A B:Prop} (h:c) (a:A):if decide c=true then A else B:=by rw [Qn (Qh h)];exact a
theorem a9{c:Prop} [Decidable c] {A B:Prop} (h:¬ c) (b:B):if decide c=true then A else B:=by rw [Qf (by rw [Qp h];exact Qj)];exact b
theorem sne{a b:Str}(h:a≠b):¬ V.str a=V.str b:=λz=>h (V.str.inj z)
theorem lC{n j:Nat}(h:j < n):ixN n (j:Int)=some j:=by
 unfold ixN;simp [h] <;> omega
end GH
namespace GH
open PySem L2 G1
def aA.isNa:aA->Bool
 | .join _ _=>true
 | .leave _ _=>true
 | .put _ _ _ _=>true
 | .lift _ _ _ _=>true
 | _=>false
inductive pj(vs:List V)(H:Hp)(Q:VK):Prop
 | mk:∀(m a1 a2 a3 a4:Addr) (h:Ho) (t:Addr) (d:aA),(vs=[.ref m,.ref t])->(MAt H m a1 a2 a3 a4 h)->(cA h)->(cG h)->(Sz h 90)->(H t=some (.tup d.vals))->(d.ok)->(d.isNa=true)->(∀ H',Sb [a1,a2,a3,a4] H H'->MAt H' m a1 a2 a3 a4 (step h d).1->Q (ly (step h d).2) H')->pj vs H Q
def sg:Sp:=λvs H Q _=>pj vs H Q
theorem fH{α β:Type}(f:α->β):∀(xs:List α) (j:Nat),(xs.map f).eraseIdx j=(xs.eraseIdx j).map f
 | [],j=>by simp
 | x :: xs,0=>rfl
 | x :: xs,j+1=>by
  show f x :: (xs.map f).eraseIdx j=f x :: (xs.eraseIdx j).map f;rw [fH f xs j]
theorem n9{α:Type} [DecidableEq α] [BEq α] [LawfulBEq α] {dd:α->PyData} (hq:∀ x y,(dd x).eqv (dd y)=decide (x=y)) {xs:List α} {x:α} (h:x∈xs):∃ j,(((xs.map dd)[j]?).map λe=>e.eqv (dd x))=some true/\(∀ m,m < j->(((xs.map dd)[m]?).map λe=>e.eqv (dd x))=some false)/\xs.erase x=xs.eraseIdx j:=by
 obtain⟨j,h1,h2,h3⟩:=mE h;refine⟨j,?_,λm hm=>?_,h3⟩
 ·rw [Qq,h1];show some ((dd x).eqv (dd x))=_;rw [hq];exact QW some (Qh rfl)
 ·obtain⟨y,hy,hne⟩:=h2 m hm;rw [Qq,hy];show some ((dd y).eqv (dd x))=_;rw [hq];exact QW some (Qp hne)
theorem cG.pairs{h:Ho}(k:cG h):∀ e∈h.links.map cb,SeqAt.shaped e=true:=λe he=>by
 obtain⟨x,hx,rfl⟩:=Qg.mp he;exact dY (k.l x hx).1 (k.l x hx).2
theorem cG.ruls{h:Ho}(k:cG h):∀ e∈h.rules.map bV,SeqAt.shaped e=true:=λe he=>by
 obtain⟨x,hx,rfl⟩:=Qg.mp he;exact dq (k.r x hx).1.tx (k.r x hx).2.1 (k.r x hx).2.2
theorem pk:¬ (HT.sIx 3 0 (some 1)=0/\HT.sIx 3 3 none=3):=by decide
theorem vZ:¬ (HT.sIx 5 0 (some 1)=0/\HT.sIx 5 5 none=5):=by decide
end GH
namespace GH
open PySem L2 G1
def aA.word:aA->Str
 | .add _=>"add"
 | .move _ _=>"move"
 | .cutm b _=>if b then "cut" else "mend"
 | .join _ _=>"join"
 | .leave _ _=>"leave"
 | .put w _ _ _=>w
 | .lift _ _ _ _=>"lift"
 | .ask _ _ _=>"ask"
 | .who _ _=>"who"
theorem eO(d:aA):atI d.vals 0=some (.str d.word):=by cases d <;> rfl
theorem x8:∀ x∈(["join","leave","lift","ask","who","give","bar"]:List Str),decide (x∈(["add","move","cut","mend"]:List Str))=false:=by decide +kernel
theorem sh:∀ x∈(["add","move","cut","mend"]:List Str),decide (x∈(["add","move","cut","mend"]:List Str))=true:=by decide +kernel
theorem wP:∀ x∈(["add","move","cut","mend","join","leave","lift","who","give","bar"]:List Str),decide (x="ask")=false:=by decide +kernel
theorem uL{d:aA}(h:d.ok):decide (d.word∈(["add","move","cut","mend"]:List Str))=d.isPl:=by
 cases d with
 | put w a r p=>rcases h.1 with e | e <;> (show decide (w∈(["add","move","cut","mend"]:List Str))=false;rw [e];exact x8 _ (by simp))
 | cutm b p=>cases b <;> exact sh _ (by simp [aA.word])
 | add p=>exact sh _ (by simp [aA.word])
 | move p q=>exact sh _ (by simp [aA.word])
 | _=>exact x8 _ (by simp [aA.word])
def aA.isAsk:aA->Bool
 | .ask _ _ _=>true
 | _=>false
theorem mH{d:aA}(h:d.ok):decide (d.word="ask")=d.isAsk:=by
 cases d with
 | put w a r p=>rcases h.1 with e | e <;> (show decide (w="ask")=false;rw [e];exact wP _ (by simp))
 | ask a r p=>exact Qh rfl
 | cutm b p=>cases b <;> exact wP _ (by simp [aA.word])
 | _=>exact wP _ (by simp [aA.word])
theorem Sz.mono{h:Ho}{n k:Nat}(z:Sz h n)(l:n<=k):Sz h k:=⟨by have:=z.1;lia,by have:=z.2.1;lia,by have:=z.2.2;lia⟩
theorem a6.sb{α:Type}{c:α->List V}{H H':Hp}{p:Addr}{xs:List α}{S:List Addr}(h:a6 c H p xs)(s:Sb S H H')(hp:¬ p∈S)(hS:∀ a∈S,∃ ys,H a=some (.lst ys)):a6 c H' p xs :=
 let ⟨as,h1,h2⟩:=h
 ⟨as,s _ _ h1 hp,Paired.mapP h2 λa x z=>s _ _ z λhm=>by
  obtain⟨ys,e⟩:=hS a hm;rw [z] at e;cases e⟩
theorem MAt.lsts{H:Hp}{m a1 a2 a3 a4:Addr}{h:Ho}(k:MAt H m a1 a2 a3 a4 h):∀ a∈[a1,a2,a3,a4],∃ ys,H a=some (.lst ys):=by
 intro a ha;rcases Qi.mp ha with e | ha
 ·rw [e];exact⟨_,k.h1⟩
 rcases Qi.mp ha with e | ha
 ·rw [e];exact⟨_,k.h2⟩
 rcases Qi.mp ha with e | ha
 ·rw [e];exact k.l3
 rw [Qo.mp ha];exact k.l4
theorem MAt.notin{H:Hp}{m a1 a2 a3 a4:Addr}{h:Ho}(k:MAt H m a1 a2 a3 a4 h){p:Addr}(hp:H p=none):¬ p∈[a1,a2,a3,a4]:=λhm=>by
 obtain⟨ys,e⟩:=k.lsts p hm;rw [hp] at e;cases e
theorem MAt.tup{H:Hp}{m a1 a2 a3 a4:Addr}{h:Ho}(k:MAt H m a1 a2 a3 a4 h){p:Addr}{xs:List V}(hp:H p=some (.tup xs)):¬ p∈[a1,a2,a3,a4]:=λhm=>by
 obtain⟨ys,e⟩:=k.lsts p hm;rw [hp] at e;cases e
inductive mI(vs:List V)(H:Hp)(Q:VK):Prop
 | mk:∀(c:Addr) (ns:List Int) (m a1 a2 a3 a4:Addr),(vs=[.ref c,.ref m])->(H c=some (.lst (ns.map V.int)))->(ns.length<=63)->(MAt H m a1 a2 a3 a4 bb)->(¬ c∈[a1,a2,a3,a4])->(∀(p:Addr) (ds:List aA) (H':Hp),Sb [a1,a2,a3,a4] H H'->H p=none->a6 aA.vals H' p ds->(∀ d∈ds,d.small)->ds.length=ns.length->MAt H' m a1 a2 a3 a4 (run bb ds)->Q (.ref p) H')->mI vs H Q
def pq:Sp:=λvs H Q _=>mI vs H Q
end GH
namespace GH
open PySem L2 G1
theorem MAt.other{H:Hp}{m a1 a2 a3 a4:Addr}{h:Ho}(k:MAt H m a1 a2 a3 a4 h){p:Addr}{ys:List V}{o:HO}(hp:H p=some (.lst ys))(hn:¬ p∈[a1,a2,a3,a4]):MAt (upd H p o) m a1 a2 a3 a4 h:=by
 simp only [Qi,UM,or_false,not_or] at hn;obtain⟨h1,h2,h3,h4⟩:=hn;exact⟨by rw [af (be k.hm hp (by intro z;cases z))];exact k.hm,by rw [af (Ne.symm h1)];exact k.h1,by rw [af (Ne.symm h2)];exact k.h2,k.h3.away hp (Ne.symm h3),k.h4.away hp (Ne.symm h4),k.n12,k.n13,k.n14,k.n23,k.n24,k.n34⟩
theorem uM{d:aA}(h:d.ok):(!decide (V.str d.word=V.str "ask"))=!d.isAsk:=by
 rw [<-mH h];congr 1
 rw [Ua,Q4,Q4];exact⟨λz=>V.str.inj z,λz=>QW V.str z⟩
end GH
namespace GH
open PySem L2 G1
open Classical in
noncomputable def aC(h:Ho)(a r:Str)(p:Nat):List aD:=h.rules.filter λe=>decide (e.2.2.2=(p:Int)) && (decide (e.2.2.1=r) && decide (Rch h.links a e.2.1))
def cY(a:Str)(l:List aD):List aD:=if a∈l.map (λe:aD=>e.2.1) then l.filter (λe=>decide (e.2.1=a)) else l
def dr(l:List aD):List aD:=if ("bar":Str)∈l.map (λe:aD=>e.1) then l.filter (λe=>decide (e.1="bar")) else l
noncomputable def dA(h:Ho)(a r:Str)(p:Nat):List aD:=dr (cY a (aC h a r p))
noncomputable def bq(h:Ho)(a r:Str):List Nat->List aD × List Nat
 | []=>([],[])
 | p :: l=>if aC h a r p=[] then ((bq h a r l).1,p :: (bq h a r l).2) else (dA h a r p,[p])
noncomputable def bh(h:Ho)(p:Nat):List Nat:=cz h.cut (upL h.par p)
inductive ce(h:Ho)(a r:Str)(p:Nat):Str->List Str->List Nat->Option aD->Prop
 | none:(bq h a r (bh h p)).1=[]->ce h a r p "none" [] (bq h a r (bh h p)).2 none
 | some {e:aD} {road:List Str}:e∈(bq h a r (bh h p)).1->Best ltS (nbP h.links) a e.2.1 road ->
   (∀ e'∈(bq h a r (bh h p)).1,∀ road',Best ltS (nbP h.links) a e'.2.1 road'->¬ sl ltS road' road) ->
   ce h a r p (if e.1="bar" then "barred" else "given") road (bq h a r (bh h p)).2 (some e)
def cy(h:Ho):List Str:=h.links.map (λe:Str × Str=>e.1)++(h.links.map (λe:Str × Str=>e.2)++h.rules.map (λe:aD=>e.2.1))
def jA(h:Ho)(r:Str)(p:Nat)(l:List Str):Prop:=dM l/\l.Nodup/\(∀ x,x∈l ↔ x∈cy h/\∃ road places rule,ce h x r p "given" road places rule)/\∀ x∈cy h,∃ w road places rule,ce h x r p w road places rule
def gb(H:Hp)(v:V):Option aD->Prop
 | none=>v=.non
 | some e=>∃ b,v=.ref b/\H b=some (.tup (bp e))
def si(H:Hp)(h:Ho)(v:V):aA->Prop
 | .ask a r p=>(inR h p/\∃(t ro pl:Addr) (w:Str) (road:List Str) (places:List Nat) (rule:Option aD) (rv:V),v=.ref t/\H t=some (.tup [.str w,.ref ro,.ref pl,rv])/\H ro=some (.lst (az road))/\H pl=some (.lst (a8 places)) /\
   gb H rv rule/\ce h a r p.toNat w road places rule)\/(¬ inR h p/\v=.str "no place")
 | .who r p=>(inR h p/\∃(l:Addr) (ns:List Str),v=.ref l/\H l=some (.lst (az ns))/\jA h r p.toNat ns)\/(¬ inR h p/\v=.str "no place")
 | d=>v=ly (step h d).2
def aA.names:aA->List Str
 | .join a c=>[a,c]
 | .leave a c=>[a,c]
 | .put _ a _ _=>[a]
 | .lift _ a _ _=>[a]
 | .ask a _ _=>[a]
 | _=>[]
def ltP(a b:Str × Str):Prop:=dD (bN a) (bN b)=true
theorem qo{a b:Str × Str}(h:bN a=bN b):a=b:=by
 obtain⟨a1,a2⟩:=a;obtain⟨b1,b2⟩:=b;unfold bN at h;simp only [List.cons.injEq,V.str.injEq,and_true] at h;rw [h.1,h.2]
theorem sj(a b:Str × Str):Kin (bN a) (bN b):=.str (.str .nil)
theorem qp{a b:aD}(h:bp a=bp b):a=b:=by
 obtain⟨a1,a2,a3,a4⟩:=a;obtain⟨b1,b2,b3,b4⟩:=b;unfold bp at h;simp only [List.cons.injEq,V.str.injEq,V.int.injEq,and_true] at h;rw [h.1,h.2.1,h.2.2.1,h.2.2.2]
def fN(k:Nat)(d:PyData):Prop:=d.canLay0=true/\d.depth<=k
theorem fN.shaped{k:Nat}{d:PyData}(h:fN k d)(hk:k<=64):SeqAt.shaped d=true:=by
 unfold SeqAt.shaped;rw [h.1];simp;exact QQ h.2 hk
theorem jB{k:Nat}:∀{ds:List PyData},(∀ d∈ds,fN k d)->PyData.canLayAll0 ds=true/\PyData.depthAll ds<=k
 | [],_=>⟨rfl,Uh _⟩
 | d :: ds,h=>by
  obtain⟨h1,h2⟩:=jB (ds:=ds) λe he=>h e (by simp [he]);obtain⟨k1,k2⟩:=h d (by simp);refine⟨?_,?_⟩
  ·show(PyData.canLay0 d && PyData.canLayAll0 ds)=true;rw [k1,h1];rfl
  ·show max (PyData.depth d) (PyData.depthAll ds)<=k;lia
theorem kE{k:Nat}{ds:List PyData}(h:∀ d∈ds,fN k d):fN (k+1) (.list ds):=by
 obtain⟨h1,h2⟩:=jB h;exact⟨h1,by show PyData.depthAll ds+1<=k+1;lia⟩
theorem sk{k:Nat}{ds:List PyData}(h:∀ d∈ds,fN k d):fN (k+1) (.tuple ds):=by
 obtain⟨h1,h2⟩:=jB h;exact⟨h1,by show PyData.depthAll ds+1<=k+1;lia⟩
theorem gM{s:Str}(h:Tx s):fN 0 (.str s):=⟨by simp [PyData.canLay0];exact h,by simp [PyData.depth]⟩
theorem mJ(i:Int):fN 0 (.int i):=⟨by simp [PyData.canLay0],by simp [PyData.depth]⟩
end GH
namespace GH
open PySem L2 G1
inductive mK(vs:List V)(H:Hp)(Q:VK):Prop
 | mk:∀(i:Int),(vs=[.int i])->(Q (.bl true) H)->mK vs H Q
def lD:Sp:=λvs H Q _=>mK vs H Q
end GH
namespace GH
open PySem L2 G1
theorem qq(ns:List Int)(h:ns.length<=63):∃ ms:List Int,eZ (ns.map V.int) none (some 150)=ms.map V.int/\ms.length<=63:=by
 refine⟨(ns.drop (HT.sIx (ns.map V.int).length 0 none)).take (HT.sIx (ns.map V.int).length (ns.map V.int).length (some 150) - HT.sIx (ns.map V.int).length 0 none),?_,?_⟩
 ·unfold eZ;rw [<-List.map_drop,<-Vo]
 ·rw [Q9,VQ];lia
end GH
namespace GH
open PySem L2 G1
theorem uN{α:Type}{c:α->List V}{dd:α->PyData}(K:W.Frag){H:Hp}(f:∀ a x,H a=some (.tup (c x))->DtV K H (.ref a) (dd x)){p:Addr}{xs:List α}(h:a6 c H p xs):DtV K H (.ref p) (.list (xs.map dd)) :=
 let ⟨as,h1,h2⟩:=h
 .lst (SqL.of h1) (eW K f h2)
theorem jC{α:Type}{dd:α->PyData}{k:Nat}{xs:List α}(h:∀ x∈xs,fN k (dd x)):fN (k+1) (.list (xs.map dd)):=kE λd hd=>by
 obtain⟨x,hx,rfl⟩:=Qg.mp hd;exact h x hx
theorem qt{x:aD}(h1:Tx x.1)(h2:Tx x.2.1)(h3:Tx x.2.2.1):fN 1 (bV x):=sk λe he=>by
 simp only [Qi,UM,or_false] at he;rcases he with rfl | rfl | rfl | rfl
 ·exact gM h1
 ·exact gM h2
 ·exact gM h3
 ·exact mJ _
def lE:List V->Str × Str
 | [.str a,.str b]=>(a,b)
 | _=>("","")
theorem oa(ls:List (Str × Str)):(ls.map bN).map lE=ls:=by
 rw [UK]
 conv=>rhs;rw [<-List.map_id ls]
 exact UI λx _=>rfl
theorem lF{ls:List (Str × Str)}{vss:List (List V)}(p:vss.Perm (ls.map bN))(w:vss.Pairwise (λa b=>dD a b=true)):∃ ms:List (Str × Str),vss=ms.map bN/\ms.Perm ls/\ms.Pairwise ltP:=by
 have e:(vss.map lE).map bN=vss:=by
  rw [UK]
  conv=>rhs;rw [<-List.map_id vss]
  refine UI λx hx=>?_;obtain⟨y,_,rfl⟩:=Qg.mp (p.mem_iff.mp hx);rfl
 refine⟨vss.map lE,e.symm,?_,?_⟩
 ·have:=p.map lE;rwa [oa] at this
 ·rw [<-e] at w;have:=List.pairwise_map.mp w;exact this
theorem Sz.acts{h:Ho}{n:Nat}(k:Sz h n):∀ ds:List aA,Sz (GH.run h ds) (n+(ds.filter λd=>!d.asks).length)
 | []=>k
 | d :: ds=>by
  have:=Sz.acts (h:=(GH.step h d).1) (n:=n+(if d.asks then 0 else 1)) (by
   cases e:d.asks with
   | true =>
    have:(GH.step h d).1=h:=by cases d <;> first | rfl | cases e
    rw [this];exact k
   | false=>exact k.step d) ds
  cases e:d.asks with
  | true =>
   rw [e] at this;simp only [QS,e] at this ⊢;exact this
  | false =>
   rw [e] at this;simp only [QS,e,Bool.not_false,if_true,QL] at this ⊢;rw [show n+((ds.filter λd=>!d.asks).length+1)=n+1+(ds.filter λd=>!d.asks).length by lia];exact this
end GH
namespace GH
open PySem L2 G1
theorem v8{α:Type}{c:α->List V}(K:W.Frag){H:Hp}:∀{as:List Addr} {xs:List α},Paired (λ(a:Addr) (x:α)=>H a=some (.tup (c x))) as xs->Paired (λ(a:Addr) (v:List V)=>SqT K H a v) as (xs.map c)
 | _,_,.nil=>.nil
 | _,_,.cons r t=>.cons (SqT.of r) (v8 K t)
end GH
namespace GH
open PySem L2 G1
theorem oh{h:Ho}{d:aA}{e:Str × Str}(k:e∈(step h d).1.links):e∈h.links\/d=.join e.1 e.2:=by
 cases d with
 | add p=>rw [cT] at k;split at k <;> exact .inl k
 | move p q =>
  rw [cu] at k;split at k
  ·split at k <;> exact .inl k
  ·exact .inl k
 | cutm b p=>rw [cV] at k;split at k <;> exact .inl k
 | join a c =>
  rw [cN] at k;split at k
  ·exact .inl k
  ·split at k
   ·exact .inl k
   ·rcases Qr.mp k with k | k
    ·exact .inl k
    ·rw [Qo.mp k];exact .inr rfl
 | leave a c =>
  rw [bZ] at k;split at k
  ·exact .inl (Uy k)
  ·exact .inl k
 | put w a r p =>
  rw [dn] at k;split at k
  ·split at k <;> exact .inl k
  ·exact .inl k
 | lift w a r p=>rw [cw] at k;split at k <;> exact .inl k
 | ask a r p=>exact .inl k
 | who r p=>exact .inl k
theorem oj{h:Ho}{d:aA}{e:aD}(k:e∈(step h d).1.rules):e∈h.rules\/d=.put e.1 e.2.1 e.2.2.1 e.2.2.2:=by
 cases d with
 | add p=>rw [cT] at k;split at k <;> exact .inl k
 | move p q =>
  rw [cu] at k;split at k
  ·split at k <;> exact .inl k
  ·exact .inl k
 | cutm b p=>rw [cV] at k;split at k <;> exact .inl k
 | join a c =>
  rw [cN] at k;split at k
  ·exact .inl k
  ·split at k <;> exact .inl k
 | leave a c=>rw [bZ] at k;split at k <;> exact .inl k
 | put w a r p =>
  rw [dn] at k;split at k
  ·split at k
   ·exact .inl k
   ·rcases Qr.mp k with k | k
    ·exact .inl k
    ·rw [Qo.mp k];exact .inr rfl
  ·exact .inl k
 | lift w a r p =>
  rw [cw] at k;split at k
  ·exact .inl (Uy k)
  ·exact .inl k
 | ask a r p=>exact .inl k
 | who r p=>exact .inl k
theorem jD{e:Str × Str}:∀{h:Ho} {ds:List aA},e∈(run h ds).links->e∈h.links\/aA.join e.1 e.2∈ds
 | h,[],k=>.inl k
 | h,d :: ds,k=>by
  rcases jD (h:=(step h d).1) (ds:=ds) k with k | k
  ·rcases oh k with k | k
   ·exact .inl k
   ·exact .inr (by rw [k];simp)
  ·exact .inr (by simp [k])
theorem kF{e:Str × Str}{ds:List aA}(k:e∈(run bb ds).links):aA.join e.1 e.2∈ds:=by
 rcases jD k with k | k
 ·exact Qs k (by simp [bb])
 ·exact k
theorem jE{e:aD}:∀{h:Ho} {ds:List aA},e∈(run h ds).rules->e∈h.rules\/aA.put e.1 e.2.1 e.2.2.1 e.2.2.2∈ds
 | h,[],k=>.inl k
 | h,d :: ds,k=>by
  rcases jE (h:=(step h d).1) (ds:=ds) k with k | k
  ·rcases oj k with k | k
   ·exact .inl k
   ·exact .inr (by rw [k];simp)
  ·exact .inr (by simp [k])
theorem qu{e:aD}{ds:List aA}(k:e∈(run bb ds).rules):aA.put e.1 e.2.1 e.2.2.1 e.2.2.2∈ds:=by
 rcases jE k with k | k
 ·exact Qs k (by simp [bb])
 ·exact k
end GH
namespace GH
open PySem L2 G1
theorem fe(xs:List V)(i:Nat):eZ xs none (some (i:Int))=xs.take i:=by
 unfold eZ;have e1:HT.sIx xs.length xs.length (some (i:Int))=min i xs.length:=HT.sIx_nat _ _ _;have e2:HT.sIx xs.length 0 none=0:=rfl;rw [e1,e2,List.drop_zero,Nat.sub_zero];by_cases h:i<=xs.length
 ·rw [Nat.min_eq_left h]
 ·rw [Nat.min_eq_right (by lia),UJ (Qk _),UJ (by lia)]
end GH
namespace GH
open PySem L2 G1
def jF(H:Hp)(v:V)(w:Str)(road:List Str)(places:List Nat)(rule:Option aD):Prop :=
 ∃(t ro pl:Addr) (rv:V),v=.ref t/\H t=some (.tup [.str w,.ref ro,.ref pl,rv])/\H ro=some (.lst (az road))/\H pl=some (.lst (a8 places))/\gb H rv rule
theorem gb.same{H H':Hp}{v:V}:∀{o:Option aD},gb H v o->aw H H'->gb H' v o
 | none,h,_=>h
 | some e,⟨b,h1,h2⟩,s=>⟨b,h1,s _ _ h2⟩
theorem jF.same{H H':Hp}{v:V}{w:Str}{road:List Str}{places:List Nat}{rule:Option aD}(h:jF H v w road places rule)(s:aw H H'):jF H' v w road places rule :=
 let ⟨t,ro,pl,rv,h1,h2,h3,h4,h5⟩:=h
 ⟨t,ro,pl,rv,h1,s _ _ h2,s _ _ h3,s _ _ h4,h5.same s⟩
inductive v9(K:W.Frag)(vs:List V)(H:Hp)(Q:VK):Prop
 | mk:∀(a:Addr) (ns:List Int) (k:Int),(vs=[.ref a,.int k])->(SqL K H a (ns.map V.int))->(0<=k)->(∀ z,Q (.int z) H)->v9 K vs H Q
def x9(K:W.Frag):Sp:=λvs H Q _=>v9 K vs H Q
inductive kG(vs:List V)(H:Hp)(Q:VK):Prop
 | mk:∀(b:Addr) (e:aD),(vs=[.ref b])->(H b=some (.tup (bp e)))->(cW e.1)->(∀ H',aw H H'->Q (.bl true) H')->kG vs H Q
def mL:Sp:=λvs H Q _=>kG vs H Q
inductive iD(vs:List V)(H:Hp)(Q:VK):Prop
 | mk:∀(v:V) (w:Str) (road:List Str) (places:List Nat) (rule:Option aD),(vs=[v])->(jF H v w road places rule)->((∀ e,rule=some e->cW e.1))->(∀ H',aw H H'->Q (.bl true) H')->iD vs H Q
def jG:Sp:=λvs H Q _=>iD vs H Q
inductive pz(vs:List V)(H:Hp)(Q:VK):Prop
 | mk:∀(m a1 a2 a3 a4:Addr) (h:Ho) (j:Nat),(vs=[.ref m,.int j])->(MAt H m a1 a2 a3 a4 h)->(cA h)->(Sz h 90)->(j < h.par.length)->(∀ r,H r=none->Q (.ref r) (upd H r (.lst (a8 (bh h j)))))->pz vs H Q
def sq:Sp:=λvs H Q _=>pz vs H Q
theorem wQ:¬ (HT.sIx 4 0 none=0/\HT.sIx 4 4 (some 3)=4):=by decide
end GH
namespace L2
open PySem PySem.Spec PyProof.Rows
inductive ya(h:Heap)(a:Addr)(T:Addr)(C:Addr):Prop
 | mk:∀ oe vs a0 oT ts,(h.get? a=some oe)->((oe.cls=.ref C/\vs[0]?=some a0))->(oe.data=.fields vs)->(vs[1]?=some (.ref T))->(T≠a)->(h.get? T=some oT)->(oT.data=.fields ts)->(ts[3]?=some .none)->ya h a T C
def Trc(h:Heap)(a T C:Addr):Prop:=ya h a T C
inductive yb(P:Program)(w:World)(outer:List Env)(H:Hp)(s:Shared)(E:XK)(e:Value)(s':Shared):Prop
 | mk:∀ a T C H',(e=.ref a)->(s'.os=s.os)->(AllBare s'.gens)->(Un (frs outer) [] H H' s.heap s'.heap)->(HOk P w H' s'.heap)->(Trc s'.heap a T C)->(H' a=none)->(H' T=none)->(s.heap.get? a=none)->(s.heap.get? T=none)->(E (.ref C) none H')->yb P w outer H s E e s'
def CXo(P:Program)(w:World):CXT:=λouter H s E e s'=>yb P w outer H s E e s'
structure Stn(l:List Env)(a T C:Addr)(h h':Heap):Prop where
 keep:∀ b o,h.get? b=some o->b ∉ frs l->b≠a->b≠T->h'.get? b=some o
 slot:∀ b o,h.get? b=some o->b∈frs l->∃ sl,h'.get? b=some { o with slots:=sl }
 trc:∃ T',Trc h' a T' C/\(T'=T\/h.get? T'=none)
theorem sr{P:Program}{w:World}{H:Hp}{h:Heap}{a:Addr}{o:HO}(x:bB P w H h a o):∃ ob,h.get? a=some ob:=by
 cases o with
 | lst xs=>obtain⟨_,_,_,_,e⟩:=x;exact⟨_,e⟩
 | tup xs=>obtain⟨_,_,_,ob,e,_⟩:=x;exact⟨_,e⟩
 | dK kvs=>obtain⟨_,_,_,_,o,_,_,e,_⟩:=x;exact⟨_,e⟩
 | dT kvs=>obtain⟨_,_,_,_,o,_,_,e,_⟩:=x;exact⟨_,e⟩
 | set S n=>obtain⟨o,_,_,_,e,_⟩:=x;exact⟨_,e⟩
 | ins C dx fs=>obtain⟨_,_,_,e,_⟩:=x;exact⟨_,e⟩
 | own y=>exact x
 | xd fs=>obtain⟨_,⟨_,_,_,e,_⟩,_⟩:=x;exact⟨_,e⟩
 | rng lo hi=>obtain⟨_,_,_,e⟩:=x;exact⟨_,e⟩
 | frz ob u=>obtain⟨e,_⟩:=x;exact⟨_,e⟩
 | tbl ps=>exact⟨_,(show h.get? a=some _ from x)⟩
 | met f y=>exact⟨_,(show h.get? a=some _ from x)⟩
 | ext φ=>exact x.2.1
theorem HOk.none_of{P:Program}{w:World}{H:Hp}{h:Heap}{a:Addr}(x:HOk P w H h)(e:h.get? a=none):H a=none:=by
 cases q:H a with
 | none=>rfl
 | some o =>
  obtain⟨ob,e'⟩:=sr (x a o q);rw [e] at e';cases e'
section
variable{P:Program} {w:World} {l:List Env} {a T C:Addr} {h h' h0 base:Heap} {H H0:Hp} {fs:List Addr}
theorem Stn.hok(st:Stn l a T C h h')(ok:HOk P w H h)(fr:∀ b∈frs l,H b=none)(ha:H a=none)(hT:H T=none):HOk P w H h':=λb o e=>by
 refine(ok b o e).stay (λc u hc q=>st.keep c u q ?_ ?_ ?_) (λ_ q=>q) λ_ _ q=>q;all_goals
  have hs:∃ v,H c=some v:=by
   rcases hc with rfl | hc
   ·exact⟨_,e⟩
   ·exact⟨_,hc⟩
  obtain⟨v,hv⟩:=hs
 ·intro z;rw [fr c z] at hv;cases hv
 ·rintro rfl;rw [ha] at hv;cases hv
 ·rintro rfl;rw [hT] at hv;cases hv
theorem Stn.un(st:Stn l a T C h h')(u:Un fs [] H0 H h0 h)(ha:h0.get? a=none)(hT:h0.get? T=none)(hl:∀ b∈frs l,b∈fs\/h0.get? b=none):Un fs [] H0 H h0 h' where
 keep:=λb o e n hb hx=>st.keep b o (u.keep b o e n hb hx) (λz=>(hl b z).elim hb λq=>by rw [e] at q;cases q) (λz=>by rw [z,ha] at e;cases e) λz=>by rw [z,hT] at e;cases e
 slot:=λb o e n hb hx=>by
  obtain⟨sl,e1⟩:=u.slot b o e n hb hx;by_cases z:b∈frs l
  ·obtain⟨sl',e2⟩:=st.slot b _ e1 z;exact⟨sl',e2⟩
  ·exact⟨sl,st.keep b _ e1 z (λz=>by rw [z,ha] at e;cases e) λz=>by rw [z,hT] at e;cases e⟩
 free:=u.free
 there:=λb o e hx=>by
  obtain⟨o',e1⟩:=u.there b o e hx;by_cases z:b∈frs l
  ·obtain⟨sl',e2⟩:=st.slot b _ e1 z;exact⟨_,e2⟩
  ·exact⟨_,st.keep b _ e1 z (λz=>by rw [z,ha] at e;cases e) λz=>by rw [z,hT] at e;cases e⟩
 tups:=u.tups
 frzs:=u.frzs
 tbls:=u.tbls
theorem gc{as:List Addr}:∀{k:List Env},h.FunFrames base k->(∀ b∈frs k,b∈as)->h.FunFrames (W.hideAll h as) k
 | [],_,_=>trivial
 | env :: r,hf,hin=>by
  obtain⟨hk,⟨L,o,e1,_,e2,e3⟩,hr⟩:=hf;have hL:L∈frs (env :: r):=by unfold frs;rw [Vb,e1];exact QJ
  refine⟨hk,⟨L,o,e1,W.hideAll_none _ (hin L hL),e2,e3⟩,gc hr λb hb=>hin b ?_⟩;unfold frs;rw [Vb,e1];exact QA _ hb
theorem Trc.fly(t:Trc h a T C)(hf:h.FunFrames base l):∃ a0,Heap.FlyingW (W.hideAll h (a :: T :: frs l)) l a (.ref C) a0 h:=by
 obtain⟨oe,vs,a0,oT,ts,h1,h2,h3,h4,h5,h6,h7,h8⟩:=t;exact⟨a0,λb o q=>W.of_hideAll _ q,W.hideAll_none _ QJ,gc hf λb hb=>QA _ (QA _ hb),
  oe,vs,T,oT,ts,h1,h2,h3,h4,W.hideAll_none _ (QA _ QJ),h5,h6,h7,h8⟩
theorem su{k:List Env}{a0:Value}(hf:h.FunFrames base l)(x:Heap.FlyingW (W.hideAll h (a :: T :: frs l)) k a (.ref C) a0 h')(u:h.UpToSlots h'):Stn l a T C h h' where
 keep:=λb o e n1 n2 n3=>x.1 b o (W.hideAll_get _ e λz=>by
  rcases Qi.mp z with q | z
  ·exact n2 q
  ·rcases Qi.mp z with q | z
   ·exact n3 q
   ·exact n1 z)
 slot:=λb o e hb=>by
  obtain⟨_,o',e',nf⟩:=hf.mem hb;rw [e] at e';cases e';exact u b o e nf
 trc:=by
  obtain⟨_,_,_,oe,vs,T',oT,ts,h1,h2,h3,h4,h4',h5,h6,h7,h8⟩:=x;refine⟨T',⟨oe,vs,a0,oT,ts,h1,h2,h3,h4,h5,h6,h7,h8⟩,?_⟩;by_cases hT:T'=T
  ·exact .inl hT
  ·refine .inr ?_;cases q:h.get? T' with
   | none=>rfl
   | some o =>
    by_cases hl:T'∈frs l
    ·obtain⟨_,o',e',nf⟩:=hf.mem hl;obtain⟨sl,e2⟩:=u T' o' e' nf;rw [h6] at e2;cases e2;exact(nf ts h7).elim
    ·rw [W.hideAll_get _ q λz=>?_] at h4'
     ·cases h4'
     ·rcases Qi.mp z with z | z
      ·exact h5 z
      ·rcases Qi.mp z with z | z
       ·exact hT z
       ·exact hl z
end
section
variable{P:Program} {w:World} {K:W.Frag} {mg:Str->Option Value} {base:Heap} {N:List Str} {qual:Str} {scope:Scope} {f:Addr} {cd:Value} {A:Around} {outer:List Env} {s:Shared} {H:Hp} {E:XK}
theorem cH:dy (CXo P w) (ja (CXo P w) P w K mg base N qual scope f cd A outer s H E) E:=by
 intro pins σ H1 s1 e s2 I hx;obtain⟨a,T,C,H2,rfl,os,bare,un,hok,trc,na,nT,fa,fT,q⟩:=hx;have I2:=I.call' (s':=s2) (ch:=[]) os un hok bare (λb z=>nomatch z);have hf:=I2.stack;obtain⟨a0,fly⟩:=trc.fly hf;have old:∀ b,s1.heap.get? b=none->s.heap.get? b=none:=λb hb=>by
  cases q:s.heap.get? b with
  | none=>rfl
  | some o =>
   obtain⟨o',e'⟩:=I.base.there b o q (λz=>nomatch z);rw [hb] at e';cases e'
 refine wpAny_leaves_onW (env:=envOfC qual scope s.heap.objs.size f cd) (outer:=outer) I.ok.frames rfl fly λh' x u=>?_;have st:=su hf x u;obtain⟨T',t',ht⟩:=st.trc;refine⟨a,T',C,H2,rfl,I2.os,I2.bare,st.un I2.base (old a fa) (old T fT) (λb hb=>?_),st.hok I2.hok I2.stkFree na nT,t',na,?_,old a fa,?_,q⟩
 ·rcases Qi.mp (I2.stkSub b hb) with z | z
  ·exact .inr (by rw [z];exact U5 (Qk _))
  ·exact .inl z
 ·rcases ht with rfl | z
  ·exact nT
  ·exact I2.hok.none_of z
 ·rcases ht with rfl | z
  ·exact old _ fT
  ·cases q:s.heap.get? T' with
   | none=>rfl
   | some o =>
    obtain⟨o',e'⟩:=I2.base.there T' o q (λz=>nomatch z);have e':s2.heap.get? T'=some o':=e';rw [z] at e';cases e'
theorem om{pins:List (Addr × Obj)}{σ:St}{H1:Hp}{s1:Shared}{h':Heap}{e C:Addr}{vs:List Value}(I:Inv (ja (CXo P w) P w K mg base N qual scope f cd A outer s H E) pins σ H1 s1)
  (m:Heap.MadeExcOf s1.heap h' e (.ref C) vs) (q:E (.ref C) none H1):(ja (CXo P w) P w K mg base N qual scope f cd A outer s H E).xe (.ref e) { s1 with heap:=h' }:=by
 have hf:=I.stack;have old:∀ b,s1.heap.get? b=none->s.heap.get? b=none:=λb hb=>by
  cases q:s.heap.get? b with
  | none=>rfl
  | some o =>
   obtain⟨o',e'⟩:=I.base.there b o q (λz=>nomatch z);rw [hb] at e';cases e'
 refine wpAny_leaves_madeW (base:=W.hideAll s1.heap (frs (envOfC qual scope s.heap.objs.size f cd :: outer))) (h:=s1.heap) (env:=envOfC qual scope s.heap.objs.size f cd) (outer:=outer) I.ok.frames rfl
  (λb o q=>W.of_hideAll _ q) (gc hf λb hb=>hb) m λh2 t x ht nt u=>?_
 have st:Stn (envOfC qual scope s.heap.objs.size f cd :: outer) e e C s1.heap h2:=by
  refine⟨λb o q n1 _ _=>x.1 b o (W.hideAll_get _ q n1),λb o q hb=>?_,?_⟩
  ·obtain⟨_,o',e',nf⟩:=hf.mem hb;rw [q] at e';cases e';exact u b o (m.keeps b o q) nf
  ·obtain⟨_,_,_,oe,vs,T',oT,ts,h1,h2,h3,h4,h4',h5,h6,h7,h8⟩:=x;refine⟨T',⟨oe,vs,_,oT,ts,h1,h2,h3,h4,h5,h6,h7,h8⟩,.inr ?_⟩;cases q:s1.heap.get? T' with
   | none=>rfl
   | some o =>
    by_cases hl:T'∈frs (envOfC qual scope s.heap.objs.size f cd :: outer)
    ·obtain⟨_,o',e',nf⟩:=hf.mem hl;obtain⟨sl,e2⟩:=u T' o' (m.keeps T' o' e') nf;rw [h6] at e2;cases e2;exact(nf ts h7).elim
    ·rw [W.hideAll_get _ q hl] at h4';cases h4'
 obtain⟨T',t',ht'⟩:=st.trc;have gone:s1.heap.get? T'=none:=by
  rcases ht' with rfl | z
  ·exact m.new
  ·exact z
 refine⟨e,T',C,H1,rfl,I.os,I.bare,st.un I.base (old e m.new) (old e m.new) (λb hb=>?_),st.hok I.hok I.stkFree (I.hok.none_of m.new) (I.hok.none_of m.new),t',I.hok.none_of m.new,I.hok.none_of gone,old e m.new,old T' gone,q⟩;rcases Qi.mp (I.stkSub b hb) with z | z
 ·exact .inr (by rw [z];exact U5 (Qk _))
 ·exact .inl z
end
abbrev bmV:List Value:=[.type "ValueError",.type "Exception",.type "BaseException",.type "object"]
structure ExC(K:W.Frag)(C:Addr):Prop where
 exc:W.excIn K C bmV "ValueError.__new__"=true
theorem ExC.obj{K:W.Frag}{C:Addr}{h:Heap}(c:ExC K C)(KX:K.In h):∃ bm N nm qn bs hd sn sub ab col dd k0 k1 k2 k3 k5 mN,h.get? C=some (excClassObj nm qn C N bs bm hd sn sub ab col dd k0 k1 k2 k3 k5 "ValueError.__new__") /\
  h.Ns N mN/\mN "__init__"=none/\OwnTail h bmV bm/\W.clsIn K C=some { name:=nm,bases:=bs,mro:=.ref C :: bm,ns:=N,qualname:=qn,hasDict:=hd,slotNames:=sn,subclasses:=sub,abstract:=ab,collection:=col,hasDel:=false }:=by
 have e:=c.exc;unfold W.excIn at e;split at e
 ·rename_i dd cd sl lk
  split at e
  ·rename_i C2 bm k0 k1 k2 k3 nw k5 em es
   simp only [QO,U3,VE] at e;obtain⟨⟨⟨⟨⟨e1,e2⟩,e3⟩,e4⟩,e5⟩,e6⟩:=e;obtain⟨nm,bs,mro,ns,qn,hd,sn,sub,ab,col,dl⟩:=cd;dsimp only at em e3 e5 e6;subst e1 e2 em e3;obtain⟨sll⟩:=sl;have es':sll=[k0,k1,k2,k3,some (.builtin "ValueError.__new__"),k5]:=es;subst es';exact⟨bm,ns,nm,qn,bs,hd,sn,sub,ab,col,dd,k0,k1,k2,k3,k5,h.nsMap ns,KX _ _ lk,.of_isNs (W.isNs_of_in KX e5),W.nsMap_none_of_in KX e5 e6,W.tail_of_in KX e4,by unfold W.clsIn;rw [lk]⟩
  ·cases e
 ·cases e
theorem sv{M:Model}{A:Around}{E:Value->Shared->Prop}{s:Shared}{K:W.Frag}{C C2 e:Addr}{oe:Obj}{Q:Bool->Shared->Prop}(KX:K.In s.heap)(c2:ExC K C2)(hm:W.mroIn K C (.ref C2)=some false)
  (he:s.heap.get? e=some oe) (hcls:oe.cls=.ref C) (hq:Q false s):wpAny M A (excMatches (.ref e) (.ref C2)) Q E s:=by
 obtain⟨bm,N,nm,qn,bs,hd,sn,sub,ab,col,dd,k0,k1,k2,k3,k5,mN,hC,hN,hi,ht,_⟩:=c2.obj KX;have hb:(Value.ref C2 :: bm).contains (.type "BaseException")=true:=by rw [List.contains_cons,ht.hasType (X:="BaseException") (b:=true) (by decide),Bool.or_true]
 have f:=tc_notTuple;have L:=W.looks_mroIn (M:=M) KX hm;obtain⟨h,g,d,t,os⟩:=s;unfold excMatches
 repeat (first | (with_reducible refine wpAny_loadPart_at he ?_;rw [hcls]) | with_reducible refine wpAny_loadPart_at hC ?_ | (with_reducible refine wpAny_isSubtype_exc hC ?_;rw [hb]) | wp_step)
 refine L _ _ _ _ (λ_ _ q=>q) ?_
 repeat wp_step
 exact hq
theorem pA{M:Model}{A:Around}{E:Value->Shared->Prop}{s:Shared}{K:W.Frag}{C e:Addr}{oe:Obj}{Q:Bool->Shared->Prop}(KX:K.In s.heap)(c:ExC K C)
  (he:s.heap.get? e=some oe) (hcls:oe.cls=.ref C) (hq:Q true s):wpAny M A (excMatches (.ref e) (.ref C)) Q E s:=by
 obtain⟨bm,N,nm,qn,bs,hd,sn,sub,ab,col,dd,k0,k1,k2,k3,k5,mN,hC,hN,hi,ht,_⟩:=c.obj KX;exact wpAny_excMatches_sub_self hC he hcls (ht.hasType (X:="BaseException") (b:=true) (by decide)) hq
theorem jH{X:Cx}{E:XK}{C:Addr}{x m:Str}{j:Nat}{p1 np cpos pos:Pos}(c:ExC X.K C)(hg:Gl X x)(hm:X.mg x=some (.ref C))(hc:X.A.handled=none)
  (hp:∀{pins:List (Addr × Obj)} {σ:St} {H1:Hp} {s1:Shared} {h':Heap} {e:Addr} {vs:List Value},Inv X pins σ H1 s1->Heap.MadeExcOf s1.heap h' e (.ref C) vs->E (.ref C) none H1->X.xe (.ref e) { s1 with heap:=h' })
  (hd:(x == ("__debug__":Str))=false:=by decide) :
  PS X (.Raise (some (.Call (.Name x np) [.Constant (.str m) j p1] [] cpos)) none pos) (λ_ _ H=>E (.ref C) none H):=by
 intro pins s σ H D I h;obtain⟨bm,N,nm,qn,bs,hdi,sn,sub,ab,col,dd,k0,k1,k2,k3,k5,mN,hC,hN,hi,ht,_⟩:=c.obj I.kIn;refine wpAny_Raise_call_subT (C:=C) (nm:=nm) (q:=qn) (N:=N) (bs:=bs) (bm:=bm) (hdct:=hdi) (sn:=sn) (sub:=sub) (ab:=ab) (col:=col) (dd:=dd) (k0:=k0) (k1:=k1) (k2:=k2) (k3:=k3) (k5:=k5) (mN:=mN)
  PySem.F.excBase_ValueError (ht.hasType (X:="BaseException") (b:=true) (by decide)) hc rfl hi (ft I hg hm ⟨rfl,?_⟩ hd)
 have tr:backTo cpos (starEach [Expr.Constant (Const.str m) j p1] X.env)=[(false,eval (.Constant (.str m) j p1) X.env)]:=rfl;rw [tr];refine Calls.evalArgs_plain (Calls.spliced_cons (Calls.Constant_str (k:=j) (pos:=p1) (Calls.spliced_nil ?_)));exact⟨rfl,(by show 1<=sizeLine;decide),hC,hN,ht,λh' e me=>hp (I.tok _) me h⟩
end L2
namespace L2
open PySem PySem.Spec PyProof.Rows
abbrev Cx.tr(X:Cx)(pn:List (Addr × Obj))(E:Value->Shared->Prop):Cx:={ X with pn:=pn,xe:=E }
theorem Cx.Ok.tr{X:Cx}(ok:X.Ok)(pn:List (Addr × Obj))(E:Value->Shared->Prop):(X.tr pn E).Ok :=
 ⟨ok.mod,ok.kind,ok.glob,ok.blt,ok.above,ok.inj,ok.has,ok.cab,ok.hd,ok.frames,ok.stk,ok.exf,ok.bs,ok.bsz,ok.noex,ok.exfs,ok.funs,ok.frf⟩
theorem Cx.Ok.untr{X:Cx}{pn:List (Addr × Obj)}{E:Value->Shared->Prop}(ok:(X.tr pn E).Ok):X.Ok :=
 ⟨ok.mod,ok.kind,ok.glob,ok.blt,ok.above,ok.inj,ok.has,ok.cab,ok.hd,ok.frames,ok.stk,ok.exf,ok.bs,ok.bsz,ok.noex,ok.exfs,ok.funs,ok.frf⟩
section
variable{X:Cx} {pins p0:List (Addr × Obj)} {σ:St} {H:Hp} {s:Shared} {E:Value->Shared->Prop}
theorem Inv.tr(I:Inv X pins σ H s)(E:Value->Shared->Prop):Inv (X.tr (X.pn++pins) E) [] σ H s :=
 ⟨I.ok.tr _ E,I.os,I.bare,I.base,I.loc,I.cell,I.free,I.freeC,λp hp=>I.pin p (by rw [Uv] at hp;exact hp),I.hok,I.len⟩
theorem Inv.untr(I:Inv (X.tr (X.pn++pins) E) p0 σ H s):Inv X pins σ H s :=
 ⟨I.ok.untr,I.os,I.bare,I.base,I.loc,I.cell,I.free,I.freeC,λp hp=>I.pin p (QU _ hp),I.hok,I.len⟩
theorem SP.untr{D:gk}{f:Flow}{s':Shared}(h:SP (X.tr (X.pn++pins) E) p0 D f s'):SP X pins D f s':=by
 cases f with
 | next=>obtain⟨σ',H',I,q⟩:=h;exact⟨σ',H',I.untr,q⟩
 | brk=>obtain⟨σ',H',I,q⟩:=h;exact⟨σ',H',I.untr,q⟩
 | cont=>obtain⟨σ',H',I,q⟩:=h;exact⟨σ',H',I.untr,q⟩
 | ret u=>obtain⟨v,σ',H',I,r,q⟩:=h;exact⟨v,σ',H',I.untr,r,q⟩
end
inductive wa(X:Cx)(pins:List (Addr × Obj))(EX:XK)(e:Value)(s':Shared):Prop
 | mk:∀ a T C H' σ',(e=.ref a)->(Inv X pins σ' H' s')->(Trc s'.heap a T C)->(H' a=none)->(H' T=none)->(X.s₀.heap.get? a=none)->(X.s₀.heap.get? T=none)->((∀ p∈X.pn++pins,p.1≠a/\p.1≠T))->(EX (.ref C) none H')->wa X pins EX e s'
def wR(X:Cx)(pins:List (Addr × Obj))(EX:XK):Value->Shared->Prop:=λe s'=>wa X pins EX e s'
theorem yc{X:Cx}{pins:List (Addr × Obj)}{EX:XK}(hex:X.ex=[]):dy (CXo X.prog X.w) (X.tr (X.pn++pins) (wR X pins EX)) EX:=by
 intro p0 σ H1 s1 e s2 I hx;obtain⟨a,T,C,H2,rfl,os,bare,un,hok,trc,na,nT,fa,fT,q⟩:=hx;have I2:=I.call' (s':=s2) (ch:=[]) os un hok bare (λb z=>nomatch z);have old:∀ b,s1.heap.get? b=none->X.s₀.heap.get? b=none:=λb hb=>by
  cases q:X.s₀.heap.get? b with
  | none=>rfl
  | some o =>
   obtain⟨o',e'⟩:=I.base.there b o q (λz=>by rw [show(X.tr (X.pn++pins) (wR X pins EX)).ex=X.ex from rfl,hex] at z;exact nomatch z);rw [hb] at e';cases e'
 refine⟨a,T,C,H2,σ,rfl,I2.untr,trc,na,nT,old a fa,old T fT,λp hp=>?_,q⟩;have hp:=(I.pin p (QU _ hp)).1;exact⟨λz=>(by rw [z,fa] at hp;cases hp),λz=>(by rw [z,fT] at hp;cases hp)⟩
section
variable{X:Cx} {pins:List (Addr × Obj)} {σ:St} {H:Hp} {s:Shared} {a T C:Addr} {h':Heap}
theorem Stn.any{l:List Env}{h:Heap}{b:Addr}{o:Obj}(st:Stn l a T C h h')(t:Trc h a T C)(e:h.get? b=some o)(nf:∀ vs,o.data≠.fields vs):∃ sl,h'.get? b=some { o with slots:=sl }:=by
 obtain⟨oe,vs,a0,oT,ts,h1,h2,h3,h4,h5,h6,h7,h8⟩:=t;by_cases z:b∈frs l
 ·exact st.slot b o e z
 ·exact⟨o.slots,st.keep b o e z (λq=>by rw [q,h1] at e;cases e;exact nf vs h3) λq=>by rw [q,h6] at e;cases e;exact nf ts h7⟩
theorem Stn.inv(st:Stn X.stack a T C s.heap h')(I:Inv X pins σ H s)(t:Trc s.heap a T C)(na:H a=none)(nT:H T=none)(fa:X.s₀.heap.get? a=none)(fT:X.s₀.heap.get? T=none)
  (np:∀ p∈X.pn++pins,p.1≠a/\p.1≠T) (hex:X.ex=[]):Inv X pins σ H { s with heap:=h' }:=by
 have b0:Un X.fs [] X.H₀ H X.s₀.heap s.heap:=by
  have b:=I.base;rw [hex] at b;exact b
 have cellK:∀ c v,s.heap.IsCell c v->h'.IsCell c v:=λc v ⟨o,ho,hd⟩=>by
  obtain⟨sl,e⟩:=st.any t ho (λvs q=>by rw [hd] at q;cases q);exact⟨_,e,hd⟩
 refine⟨I.ok,I.os,I.bare,?_,?_,λx c e=>?_,I.free,I.freeC,λp hp=>?_,st.hok I.hok I.stkFree na nT,I.len⟩
 ·rw [hex];refine st.un b0 fa fT λb hb=>?_;rcases Qi.mp (I.stkSub b hb) with z | z
  ·exact .inr (by rw [z];exact U5 I.ok.above)
  ·exact .inl z
 ·obtain⟨m,⟨o,es,ep,ho,hd,r⟩,hl⟩:=I.loc;obtain⟨sl,e⟩:=st.any t ho (λvs q=>by rw [hd] at q;cases q);refine⟨m,⟨_,es,ep,e,hd,r⟩,λi x v e1 e2 e3=>?_⟩;obtain⟨u,ru,lk⟩:=hl i x v e1 e2 e3;refine⟨u,ru,?_⟩;rcases lk with lk | ⟨k,c,e,z⟩
  ·exact .inl lk
  ·exact .inr ⟨k,c,e,cellK c _ z⟩
 ·obtain⟨v,z⟩:=I.cell x c e;exact⟨v,cellK c v z⟩
 ·obtain⟨e,n,ne,nf,d⟩:=I.pin p hp;refine⟨st.keep p.1 p.2 e (λz=>?_) (np p hp).1 (np p hp).2,n,ne,nf,d⟩;rcases Qi.mp (I.stkSub _ z) with z | z
  ·exact ne z
  ·exact nf z
end
section
variable{X:Cx} {C1 C2:Addr} {x1 x2 m1 m2:Str} {e0:Expr} {p0 np1 np2 q1 q2 r1 r2 hp1 hp2 pos:Pos} {j1 j2:Nat} {te:XK->TE}
def EX2(C1 C2:Addr)(m1 m2:Str)(R:VK):XK:=λc _ H'=>(c=.ref C1/\R (.str m1) H')\/(c=.ref C2/\R (.str m2) H')
theorem on{pins:List (Addr × Obj)}{σ:St}{H:Hp}{s:Shared}{A:Around}{E:Value->Shared->Prop}{x:Str}{u:Value}{pos:Pos}{Q:Value->Shared->Prop}(I:Inv X pins σ H s)(hg:Gl X x)(hm:X.mg x=some u)(h:Q u s)
  (hd:(x == ("__debug__":Str))=false):wpAny (model X.prog X.w) A (eval (.Name x pos) X.env) Q E s :=
 Calls.Name_function_global I.ok.kind hg (Calls.loadGlobal_global (by rw [I.ok.glob];exact I.mod.glob.keeps I.bk) hm h) hd
theorem pB(hex:X.ex=[])(hst:X.stack=X.env :: X.outer)(hfr:X.env.frame=some X.env.locals)(c1:ExC X.K C1)(c2:ExC X.K C2)(g1:Gl X x1)(n1:X.mg x1=some (.ref C1))(g2:Gl X x2)(n2:X.mg x2=some (.ref C2))
  (hms:W.mroIn X.K C2 (.ref C1)=some false) (he:∀ pn xe E,dy (CXo X.prog X.w) (X.tr pn xe) E->PE (X.tr pn xe) e0 (te E))
  (d1:(x1 == ("__debug__":Str))=false:=by decide) (d2:(x2 == ("__debug__":Str))=false:=by decide) :
  PS X (.Try [.Return (some e0) p0] [.ExceptHandler (some (.Name x1 np1)) none [.Return (some (.Constant (.str m1) j1 q1)) r1] hp1,.ExceptHandler (some (.Name x2 np2)) none [.Return (some (.Constant (.str m2) j2 q2)) r2] hp2] [] [] pos)
   (λD σ H=>te (EX2 C1 C2 m1 m2 D.rt) σ H D.rt):=by
 intro pins s σ H D I h;refine wpAny_Try_except ?_;have body:PS (X.tr (X.pn++pins) (wR X pins (EX2 C1 C2 m1 m2 D.rt))) (.Return (some e0) p0) (xH (te (EX2 C1 C2 m1 m2 D.rt))):=av (he _ _ _ (yc hex));have b2:=aj body [] s σ H D (I.tr _) h;refine Uk b2 (λf s1 q=>?_) (λe s1 q=>?_)
 ·cases f with
  | next =>
   obtain⟨σ',H',J,q⟩:=q;exact Vr ⟨σ',H',J.untr,q⟩
  | brk=>exact SP.untr q
  | cont=>exact SP.untr q
  | ret u=>exact SP.untr q
 ·obtain⟨a,T,C,H',σ',rfl,I1,t,na,nT,fa,fT,np,q⟩:=q;obtain⟨a0,fly⟩:=t.fly I1.stack;rw [hst] at fly;refine wpAny_looks_onW (by rw [I.ok.frames,hst]) hfr fly λh4 held u4=>?_;refine wpAny_landsW held λh5 fly5 u5=>?_;have fs:s1.heap.FunFrames X.base (X.env :: X.outer):=by
   have z:=I1.stack;rw [hst] at z;exact z
  have stn:∀{h6:Heap},Heap.FlyingW (W.hideAll s1.heap (a :: T :: frs (X.env :: X.outer))) (X.env :: X.outer) a (.ref C) a0 h6->s1.heap.UpToSlots h6->Inv X pins σ' H' { s1 with heap:=h6 }:=λ{h6} f6 u6=>by
   have st:=su fs f6 u6;rw [<-hst] at st;exact st.inv I1 t na nT fa fT np hex
  have I5:=stn fly5 (u4.trans u5);obtain⟨ob,hob,hoc⟩:=fly5.there;have fin:∀{m:Str} {j:Nat} {p r:Pos} {R:Flow->Shared->Prop} {E:Value->Shared->Prop} {A:Around},D.rt (.str m) H'->(∀ u s',SP X pins D (.ret u) s'->R (.ret u) s') ->
    wpAny (model X.prog X.w) A (setFlight (.ref a) none) (λ_ s2=>wpAny (model X.prog X.w) A (execs [.Return (some (.Constant (.str m) j p)) r] X.env) R E s2) E { s1 with heap:=h5 }:=λ{m j p r R E A} hq hR=>by
   refine lands_againW fly5 λh6 fly6 u6=>?_;have I6:=stn fly6 ((u4.trans u5).trans u6);exact wpAny_execs_cons (wpAny_Return_some (Calls.Constant_str (hR _ _ ⟨.str m,σ',H',I6.tok _,⟨_,rfl⟩,hq⟩)))
  rcases q with⟨ec,q⟩ | ⟨ec,q⟩
  ·obtain rfl:C=C1:=Value.ref.inj ec;refine wpAny_handleBy_cons (codeAny_handlers_test (on I5 g1 n1 ?_ d1)) (by intro z;cases z);exact pA I5.kIn c1 hob hoc (codeAny_handlers_suite (fin q λu s' z=>z))
  ·obtain rfl:C=C2:=Value.ref.inj ec;refine wpAny_handleBy_cons (codeAny_handlers_test (on I5 g1 n1 ?_ d1)) (by intro z;cases z);refine sv I5.kIn c1 hms hob hoc ?_;refine wpAny_handleBy_cons (codeAny_handlers_test (on I5 g2 n2 ?_ d2)) (by intro z;cases z);exact pA I5.kIn c2 hob hoc (codeAny_handlers_suite (fin q λu s' z=>z))
end
end L2
namespace L2
open PySem PySem.Spec PyProof.Rows
section
variable{prog:Program} {w:World} {κ:Type} [DecidableEq κ] {kd:KeyKind prog w κ} {A:Around} {E:Value->Shared->Prop} {s:Shared}
theorem lG{d:Addr}{ps:List (κ × Value)}{k:κ}{ky x:Value}{Q:Value->Shared->Prop}(ik:kd.is k ky=true)(dd:s.heap.DictOf kd d ps)(sz:ps.length<=sizeLine)
  (q1:∀ v,valueAt ps k=some v->Q v { s with toks:=s.toks+1 })
  (q2:valueAt ps k=none->∀ h',h'.DictOf kd d (ps++[(k,x)])->Heap.SameBut d s.heap h'->Q x { s with heap:=h',toks:=s.toks+1 }) :
  wpAny (model prog w) A (dictSetDefault d ky x) Q E s:=by
 obtain⟨ob,en,ep,e1,e2,e3,e4,e5,e6⟩:=dd;have hs:en.size<=sizeLine:=by
  have l1:=e5.length;rw [Q0] at l1;lia
 have ix:(en.findIdx? λe=>kd.is k e.key)=ps.findIdx? λkv=>decide (kv.1=k):=by
  rw [<-e5.findIdx k];obtain⟨l⟩:=en;simp
 unfold dictSetDefault
 try with_reducible refine Uf ?_
 refine Qa (kd.pyHash ik (Qa (wpAny_dictFind_of (s:={ s with toks:=s.toks+1 }) ik e1 e3 e4 ?_)));cases hi:en.findIdx? λe=>kd.is k e.key with
 | some i =>
  have hl:(en.toList.findIdx? λe=>kd.is k e.key)=some i:=by rw [<-hi];obtain⟨l⟩:=en;simp
  obtain⟨e,f1,f2,f3⟩:=e5.at hl;have f4:en[i]?=some e:=by rw [<-f1];obtain⟨l⟩:=en;simp
  refine Qa (U0 (s:={ s with toks:=s.toks+1 }) e1 e3 ?_);rw [f4];exact Qa (U2 (Qd (q1 _ f3)))
 | none =>
  have nin:k ∉ ps.map (·.1):=not_mem_of_findIdx_none (ix ▸ hi);have vn:valueAt ps k=none:=by
   rw [<-e5.find k];have z:(en.toList.find? λe=>kd.is k e.key)=none:=List.find?_eq_none.mpr λe he=>by
    have y:=Array.findIdx?_eq_none_iff.mp hi e (Array.mem_toList_iff.mp he);simpa using y
   rw [z];rfl
  refine Qa (U2 (Qa (wpAny_updateDictKeys (hz:=hs) (s:={ s with toks:=s.toks+1 }) e1 e3 (Qd (q2 vn _ ?_ (Heap.SameBut.update ..))))));refine⟨_,_,ep+1,Vl _ e1 (Obj.isFreed_of_dict (Obj.data_mapDictKeys e3 _)),e2.mapDictKeys _,Obj.data_mapDictKeys e3 _,e4.push ik _,?_,?_⟩
  ·have z:=e5.append ik (kd.hash k) x;obtain⟨l⟩:=en;simpa using z
  ·rw [Qx];exact dj e6 nin
theorem qv{d:Addr}{ps:List (κ × Value)}{k:κ}{ky:Value}(x:Value)(ik:kd.is k ky=true)(nS:(d == sysModules)=false) :
  MeetsIn prog w (Builtin.«dict.setdefault» ⟨[.ref d,ky,x],[]⟩) (λ_ R s=>s.heap.DictOf kd d ps/\ps.length<=sizeLine/\(∀ v,valueAt ps k=some v->R (.ok (.ret v)) { s with toks:=s.toks+1 }) /\
   (valueAt ps k=none->∀ h',h'.DictOf kd d (ps++[(k,x)])->Heap.SameBut d s.heap h'->R (.ok (.ret x)) { s with heap:=h',toks:=s.toks+1 })) :=
 .of_wp λA R s ⟨dd,sz,q1,q2⟩=>by
  unfold Builtin.«dict.setdefault» Builtin.Dict.keyAndDefault;refine Qa (Qa (wpAny_notOrdered_dict dd.typeIs ?_));show wpAny _ _ (pure (d,ky,some x)) _ _ s;refine Qd ?_;show wpAny _ _ (if (d == sysModules)=true then _ else (dictSetDefault d ky x >>= _)) _ _ s;rw [Qf (by rw [nS];exact Qj)];exact Qa (lG ik dd sz (λv e=>Qd ⟨v,rfl,q1 v e⟩) λe h' d' sb=>Qd ⟨x,rfl,q2 e h' d' sb⟩)
end
def yd(td ty tx:TE):TE:=λσ H Q=>td σ H λx H1=>∃ a,x=.ref a/\IsD H1 a/\ty σ H1 λy H2=>tx σ H2 λz H3=>∃ kvs k,H3 a=some (.dK kvs)/\y=kV k/\kvs.length < sizeLine /\
 (∀ v,bL kvs k=some v->Q v H3)/\(bL kvs k=none->Q z (upd H3 a (.dK (cR kvs k z))))
section
variable{X:Cx} {o e f:Expr} {apos cpos:Pos} {td ty tx:TE}
theorem pC(ho:PE X o td)(he:PE X e ty)(hf:PE X f tx)(m:M2 X o "setdefault" apos e f cpos):PE X (.Call (.Attribute o "setdefault" apos) [e,f] [] cpos) (yd td ty tx):=by
 intro pins s σ H Q I h;refine VB m.base m.few m.line US PySem.F.slot_dict_setdefault PySem.F.type_dict_setdefault (thn (ho pins s σ H _ I h) λu s1 ⟨x,H1,I1,rx,a,ex,d,q1⟩=>?_);subst ex;obtain rfl:u=Value.ref a:=rx;obtain⟨t1,t2,_⟩:=k8 I1 d;refine⟨t1,t2,?_⟩;rw [m.trees];refine Calls.callWith_builtin rfl (Calls.evalArgs_plain (Calls.spliced_cons (thn (he pins s1 σ H1 _ I1 q1) λiv s2 ⟨y,H2,I2,ry,q2⟩ =>
  Calls.spliced_cons (thn (hf pins s2 σ H2 _ I2 q2) λfv s3 ⟨z,H3,I3,rz,kvs,k,ea,ey,hl,q3,q4⟩=>Calls.spliced_nil ?_))))
 subst ey;obtain⟨hz,hd,vs,rel,dd⟩:=oX I3.hok ea;refine call_meetsIn PySem.F.slot_dict_setdefault dd.typeIs PySem.F.entry_dict_setdefault (PySem.F.args_dict_setdefault_3 _ _ _) (qv (kd:=aX X.prog X.w) fv (eA ry) hd) ⟨dd,by rw [<-rel.length];exact hz,λv e=>?_,λe h' d' sb=>?_⟩
 ·have rv:=rel.val k;rw [e] at rv;cases q:bL kvs k with
  | none=>rw [q] at rv;exact rv.elim
  | some v'=>rw [q] at rv;exact⟨v',H3,I3.tok _,rv,q3 v' q⟩
 ·have rv:=rel.val k;rw [e] at rv;cases q:bL kvs k with
  | some v'=>rw [q] at rv;exact rv.elim
  | none =>
   refine⟨z,upd H3 a (.dK (cR kvs k z)),gA I3 (by rw [ea];exact True.intro) sb (let ⟨q,_,_,hq,_⟩:=d';⟨q,hq⟩) (nU ?_ hd ?_ d'),rz,q4 q⟩
   ·have:=dU kvs k z;lia
   ·rw [eu z q];exact Paired.snoc rel ⟨rfl,rz⟩
end
section
variable{prog:Program} {w:World} {κ:Type} [DecidableEq κ] {kd:HeapKind prog w κ} {A:Around} {E:Value->Shared->Prop} {s:Shared} {d a:Addr} {k:κ} {xs:List (κ × Addr × Value)}
theorem pD{α β:Type}(f:α->β):∀(xs:List α) (j:Nat),(xs.map f).eraseIdx j=(xs.eraseIdx j).map f
 | [],_=>rfl
 | _ :: _,0=>rfl
 | x :: xs,j+1=>QW (f x :: ·) (pD f xs j)
def eP(xs:List (κ × Addr × Value))(k:κ):List (κ × Addr × Value):=xs.filter λx=>decide (x.1≠k)
theorem mM:∀{xs:List (κ × Addr × Value)} {j:Nat} {p:Addr × Value},(xs.map (·.1)).Nodup->xs[j]?=some (k,p)->xs.eraseIdx j=eP xs k
 | [],_,_,_,e=>by simp at e
 | x :: r,0,p,n,e=>by
  have e:x=(k,p):=by simpa using e
  obtain⟨n1,_⟩:=QN.mp (show(x.1 :: r.map (·.1)).Nodup from n);subst e;show r=_;unfold eP;rw [QS,Qf (by simp)];refine(List.filter_eq_self.mpr λy hy=>?_).symm;refine Qh λz=>n1 (Qg.mpr ⟨y,hy,z⟩)
 | x :: r,j+1,p,n,e=>by
  have e:r[j]?=some (k,p):=by simpa using e
  obtain⟨n1,n2⟩:=QN.mp (show(x.1 :: r.map (·.1)).Nodup from n);have ne:x.1≠k:=λz=>n1 (Qg.mpr ⟨_,QC e,z.symm⟩);show x :: r.eraseIdx j=_;rw [mM n2 e];unfold eP;rw [QS,Qn (Qh ne)]
theorem sw{Q:Fin->Shared->Prop}(hu:kd.room A)(ik:kd.is s.heap k a)(nS:(d == sysModules)=false)(dd:s.heap.DictOfH kd d xs)(sz:xs.length<=sizeLine){p:Addr × Value}(hp:atKey xs k=some p)
  (q:∀ h',h'.DictOfH kd d (eP xs k)->Heap.SameBut d s.heap h'->Q (.done (.ret p.2)) { s with heap:=h',toks:=s.toks+kd.draws k }) :
  wpAny (model prog w) A (Builtin.«dict.pop» ⟨[.ref d,.ref a],[]⟩) Q E s:=by
 have tI:=dd.typeIs;obtain⟨ob,en,ep,e1,e2,e3,e4,e5,e6⟩:=dd;have hs:en.size=xs.length:=size_of_entries e4;unfold Builtin.«dict.pop» Builtin.Dict.keyAndDefault;refine Qa (Qa (wpAny_notOrdered_dict tI ?_));show wpAny _ _ (pure (d,Value.ref a,none)) _ _ s;refine Qd ?_;have pos:0 < xs.length:=by
  cases xs with
  | nil=>simp [atKey] at hp
  | cons=>simp
 have kp:(keyPart (Value.ref a)).isSome=false:=rfl;simp only [kp,Ui,if_false];refine Qa (U0 e1 e3 (Qa (Qd ?_)));rw [Qf (by
  intro z;have z:en.size=0:=by simpa [Array.isEmpty] using z
  omega)]
 unfold Builtin.Dict.takeOut;refine Qa ?_
 try with_reducible refine Uf ?_
 refine Qa (kd.pyHash hu ik (Qa (wpAny_dictFind_heap (s:={ s with toks:=s.toks+kd.draws k }) hu ik e1 e3 e4 e5 e6 (λno=>?_) λj p' hj=>?_)))
 ·rw [atKey_none_of_get no] at hp;cases hp
 ·have ep':p'=p:=by
   rw [atKey_of_get e6 hj] at hp;exact Qt hp
  subst ep';refine Qa (U0 (s:={ s with toks:=s.toks+kd.draws k }) e1 e3 ?_);rw [entry_at e4 j,hj];refine Qa (wpAny_updateDictKeys (hz:=by lia) (s:={ s with toks:=s.toks+kd.draws k }) e1 e3 (Qd ?_));simp only [Option.isNone_some,Ui,if_false];refine Qa (wpAny_letGo (Qd (q _ ?_ (Heap.SameBut.update ..))));refine⟨_,_,ep+1,Vl _ e1 (Obj.isFreed_of_dict (Obj.data_mapDictKeys e3 _)),e2.mapDictKeys _,Obj.data_mapDictKeys e3 _,?_,λx hx=>?_,?_⟩
  ·rw [<-mM e6 hj];obtain⟨l⟩:=en;have e4':l=xs.map (entryOfKey kd):=e4;subst e4';simp [pD]
  ·exact kd.keeps (e5 x (QX.mp hx).1) e1 e3 (Heap.SameBut.update ..)
  ·exact(List.Nodup.sublist (List.Sublist.map _ Vu) e6)
end
end L2
namespace L2
open PySem PySem.Spec PyProof.Rows
section
variable{X:Cx} {pins:List (Addr × Obj)} {σ:St} {H:Hp} {s:Shared} {a:Addr} {o:HO}
theorem Inv.track2(I:Inv X pins σ H s)(hn:H a=none)(h0:X.s₀.heap.get? a=none)(hL:a≠X.env.locals)(hC:∀ x c,X.env.cells.lookup x=some c->c≠a)(hP:∀ p∈X.pn++pins,p.1≠a)
  (new:bB X.prog X.w (upd H a o) s.heap a o):Inv X pins σ (upd H a o) s:=by
 have nz:∀ b u,H b=some u->b≠a:=λb u e z=>by rw [z,hn] at e;cases e
 refine⟨I.ok,I.os,I.bare,⟨I.base.keep,I.base.slot,λb w e n hx=>?_,I.base.there,λb xs e=>?_,λb w v e=>?_,λb ps e=>?_⟩,I.loc,I.cell,?_,λx c e=>?_,λp h=>?_,λb u e=>?_,I.len⟩
 ·rw [af (λz=>by rw [z,h0] at e;cases e)];exact I.base.free b w e n hx
 ·have q:=I.base.tups b xs e;rw [af (nz b _ q)];exact q
 ·have q:=I.base.frzs b w v e;rw [af (nz b _ q)];exact q
 ·obtain⟨m,q⟩:=I.base.tbls b ps e;exact⟨m,by rw [af (nz b _ q)];exact q⟩
 ·rw [af (Ne.symm hL)];exact I.free
 ·rw [af (hC x c e)];exact I.freeC x c e
 ·obtain⟨h1,h2,h3⟩:=I.pin p h;exact⟨h1,by rw [af (hP p h)];exact h2,h3⟩
 ·by_cases hb:b=a
  ·subst hb;rw [ae] at e;cases e;exact new
  ·rw [af hb] at e;exact(I.hok b u e).stay (λ_ _ _ q=>q) (λc q=>by rw [af (nz c _ q)];exact q) λc xs q=>by rw [af (nz c _ q)];exact q
theorem Inv.thaw{ob:Obj}{u:HO}(I:Inv X pins σ H s)(ha:H a=some (.frz ob u))(h0:∀ o v,X.H₀ a≠some (.frz o v))(hu:Mut (some u)):Inv X pins σ (upd H a u) s:=by
 have own:∀ c y,H c=some (.own y)->c≠a:=λc y e z=>by rw [z,ha] at e;cases e
 have tup:∀ c y,H c=some (.tup y)->c≠a:=λc y e z=>by rw [z,ha] at e;cases e
 have non:∀ c,H c=none->c≠a:=λc e z=>by rw [z,ha] at e;cases e
 refine⟨I.ok,I.os,I.bare,⟨I.base.keep,I.base.slot,λb w e n hx=>?_,I.base.there,λb xs e=>?_,λb w v e=>?_,λb ps e=>?_⟩,I.loc,I.cell,?_,λx c e=>?_,λp h=>?_,λb v e=>?_,I.len⟩
 ·have q:=I.base.free b w e n hx;rw [af (non b q)];exact q
 ·have q:=I.base.tups b xs e;rw [af (tup b _ q)];exact q
 ·have q:=I.base.frzs b w v e;rw [af (λz=>h0 w v (by rw [<-z];exact e))];exact q
 ·obtain⟨m,q⟩:=I.base.tbls b ps e;exact⟨m,by rw [af (λz=>by rw [z,ha] at q;cases q)];exact q⟩
 ·rw [af (non _ I.free)];exact I.free
 ·rw [af (non _ (I.freeC x c e))];exact I.freeC x c e
 ·obtain⟨h1,h2,h3⟩:=I.pin p h;exact⟨h1,by rw [af (non _ h2)];exact h2,h3⟩
 ·by_cases hb:b=a
  ·subst hb;rw [ae] at e;cases e;obtain⟨_,q⟩:=(show bB X.prog X.w H s.heap b (.frz ob u) from I.hok b _ ha);exact q.stay (λ_ _ _ q=>q) (λc q=>by rw [af (own c _ q)];exact q) λc xs q=>by rw [af (tup c _ q)];exact q
  ·rw [af hb] at e;exact(I.hok b v e).stay (λ_ _ _ q=>q) (λc q=>by rw [af (own c _ q)];exact q) λc xs q=>by rw [af (tup c _ q)];exact q
inductive sD(X:Cx)(t:TS)(D:gk)(σ:St)(H:Hp):Prop
 | mk:∀ a ob u,(H a=some (.frz ob u))->((∀ o v,X.H₀ a≠some (.frz o v)))->(Mut (some u))->(t D σ (upd H a u))->sD X t D σ H
def ye(X:Cx)(t:TS):TS:=λD σ H=>sD X t D σ H
theorem mO{st:List Stmt}{t:TS}(h:PSs X st t):PSs X st (ye X t):=by
 intro pins s σ H D I q;obtain⟨a,ob,u,e,n,m,q⟩:=q;exact h pins s σ _ D (I.thaw e n m) q
end
section
variable{prog:Program} {w:World} {A:Around} {E:Value->Shared->Prop} {s:Shared} {it d:Addr} {i ep:Nat} {en:Array DictEntry}
def jZ(h:Heap)(d:Addr)(en:Array DictEntry)(ep:Nat):Prop:=∃ o,h.get? d=some o/\o.ExactDict/\o.data=.dict en ep
theorem jZ.typeIs(x:jZ s.heap d en ep):s.TypeIs (.ref d) "dict":=let ⟨o,h1,h2,_⟩:=x;⟨o,h1,h2.1⟩
theorem jZ.at{h h':Heap}(x:jZ h d en ep)(e:∀ o,h.get? d=some o->h'.get? d=some o):jZ h' d en ep:=let ⟨o,h1,r⟩:=x;⟨o,e _ h1,r⟩
theorem mP{Q:Option Value->Shared->Prop}(ki:s.heap.IsKeyIter it d i en.size ep)(dc:jZ s.heap d en ep)(lt:i < en.size)
  (q:∀ h',h'.IsKeyIter it d (i+1) en.size ep->Heap.SameBut it s.heap h'->Q (some en[i].key) { s with heap:=h' }):wpAny (model prog w) A (pyNext (.ref it)) Q E s:=by
 obtain⟨oi,i1,i2,i3⟩:=id ki;obtain⟨od,d1,d2,d3⟩:=id dc;have T:=ki.typeIs;have own:Builtin.Dict_items.ownsTuple "dict_keyiterator"=false:=by decide
 unfold pyNext;refine Qa (wpAny_attempt (wpAny_callSpecial?_slot (name:=Str.ofString "__next__") T F.slot_dict_keyiterator_next (UL F.slot_dict_keyiterator_next T F.entry_dict_keyiterator_next ?_ (F.args_dict_keyiterator_next_1 _))));refine Qa (Qd (Qa (Qa ?_)))
 first | refine Qa (UT T (Qd (Qa (wpAny_fieldsOf i1 i3 ?_)))) | refine Qa (Vc T (Qd (Qa (wpAny_fieldsOf i1 i3 ?_))))
 simp only [own,Ui,if_false];show wpAny _ _ (if (Value.ref d == Value.none)=true then _ else _) _ _ s;rw [Qf (show ¬ ((Value.ref d == Value.none)=true) from Qj)];refine Qa (Qd (Qa (U0 d1 d3 ?_)));rw [Qf (by simp)];refine Qa (Qd (Qa (wpAny_dictEpoch d1 d3 ?_)));rw [Qf (by simp)];refine Qd ?_;simp only [show ¬ ((i:Int) < 0) from by lia,if_false,Int.toNat_natCast,Array.getElem?_eq_getElem lt];refine Qa ?_
 first | refine Qa (UT T (Qd (Qa (wpAny_isOneOf_keyiter T ?_)))) | refine Qa (Vc T (Qd (Qa (wpAny_isOneOf_keyiter T ?_))))
 show wpAny _ _ (setField (.ref it) 1 (rawInt ((i:Int)+1)) >>= _) _ _ s;have nx:(s.heap.update it (Obj.mapFields (·.setIfInBounds 1 (rawInt ((i:Int)+1))))).IsKeyIter it d (i+1) en.size ep :=
  ⟨_,Vl _ i1 (Obj.isFreed_of_fields (Obj.data_mapFields i3 _)),(Obj.cls_mapFields ..).trans i2,by rw [Obj.data_mapFields i3];simp [rawInt]⟩
 refine Qa (wpAny_setField i1 i3 (by simp) (Qa (Uf ?_)));refine Qa (wpAny_isOneOf_keyiter (s:={ s with heap:=s.heap.update it (Obj.mapFields (·.setIfInBounds 1 (rawInt ((i:Int)+1)))) }) nx.typeIs ?_);show wpAny _ _ (pure en[i].key) _ _ _;exact Qd (Qd ⟨_,rfl,Qd (q _ nx (Heap.SameBut.update ..))⟩)
theorem mQ{Q:Option Value->Shared->Prop}(hh:A.handled=none)(ki:s.heap.IsKeyIter it d i en.size ep)(dc:jZ s.heap d en ep)(ge:en.size<=i)
  (q:∀ h',Heap.ExtBut it s.heap h'->Q none { s with heap:=h' }):wpAny (model prog w) A (pyNext (.ref it)) Q E s:=by
 obtain⟨oi,i1,i2,i3⟩:=id ki;obtain⟨od,d1,d2,d3⟩:=id dc;have T:=ki.typeIs;have own:Builtin.Dict_items.ownsTuple "dict_keyiterator"=false:=by decide
 unfold pyNext;refine Qa (wpAny_attempt (wpAny_callSpecial?_slot (name:=Str.ofString "__next__") T F.slot_dict_keyiterator_next (UL F.slot_dict_keyiterator_next T F.entry_dict_keyiterator_next ?_ (F.args_dict_keyiterator_next_1 _))));refine Qa (Qd (Qa (Qa ?_)))
 first | refine Qa (UT T (Qd (Qa (wpAny_fieldsOf i1 i3 ?_)))) | refine Qa (Vc T (Qd (Qa (wpAny_fieldsOf i1 i3 ?_))))
 simp only [own,Ui,if_false];show wpAny _ _ (if (Value.ref d == Value.none)=true then _ else _) _ _ s;rw [Qf (show ¬ ((Value.ref d == Value.none)=true) from Qj)];refine Qa (Qd (Qa (U0 d1 d3 ?_)));rw [Qf (by simp)];refine Qa (Qd (Qa (wpAny_dictEpoch d1 d3 ?_)));rw [Qf (by simp)];refine Qd ?_;simp only [show ¬ ((i:Int) < 0) from by lia,if_false,Int.toNat_natCast,Array.getElem?_eq_none ge];refine Qa ?_
 first | refine Qa (UT T (Qd ?_)) | refine Qa (Vc T (Qd ?_))
 show wpAny _ _ (setField (.ref it) 0 .none >>= _) _ _ s;refine Qa (wpAny_setField i1 i3 (by simp) ?_);show wpAny _ _ (newExc (.type "StopIteration") [] >>= _) _ _ _;refine Qa ?_;simp only [newExc,newTuple];refine Qa (UE (Qa (m:=firstArgMember _ _) (wpAny_of_eq (a:=Value.none) (by first | rfl | (simp only [firstArgMember];rfl)) (UE ?_ (by size_fits)))) (by size_fits));simp only [raiseNew];refine Qa (wpAny_handled ?_);rw [show A.in1.handled=none from hh];refine Qa (Qd (wpAny_throw ?_));refine Qa (wpAny_isInstance (T:="StopIteration") (b:=true) ⟨_,QE _ rfl,rfl⟩ isSubtype_stop (Qd (q _ ?_)));exact((Heap.SameBut.update ..).extBut.push _).push _
theorem kH{Q:Value->Shared->Prop}(nS:(d == sysModules)=false)(dc:jZ s.heap d en ep)
  (q:Q (.ref s.heap.objs.size) { s with heap:=s.heap.push { cls:=.type "dict_keyiterator",data:=.fields #[.ref d,.int 0 0,.int en.size 0,.int ep 0] } }):wpAny (model prog w) A (pyIter (.ref d)) Q E s:=by
 obtain⟨od,d1,d2,d3⟩:=id dc;have T:=dc.typeIs;refine wpAny_pyIter_slot T F.slot_dict_iter (UL F.slot_dict_iter T F.entry_dict_iter ?_ (F.args_dict_iter_1 _));unfold Builtin.«dict.__iter__» Builtin.Dict.dictSlotNone;refine Qa (Qa (wpAny_notOrdered_dict T ?_));show wpAny _ _ (pure (Value.ref d)) _ _ s;refine Qd ?_;show wpAny _ _ (Builtin.Dict.showsAll d >>= _) _ _ s;unfold Builtin.Dict.showsAll;rw [Qf (by rw [nS];exact Qj)];refine Qa (Qd (Qa (U0 d1 d3 (Qa (wpAny_dictEpoch d1 d3 ?_)))));refine Qa (UE (Qd ⟨_,rfl,"dict_keyiterator",_,⟨_,QE _ rfl,rfl⟩,F.slot_dict_keyiterator_next.lookup,?_⟩));simpa [rawInt] using q
theorem oo(hh:A.handled=none)(hne:d≠it):Walks prog w A it [it,d] [it] en.size (λi v=>∃ e,en[i]?=some e/\v=e.key) (λi h=>h.IsKeyIter it d i en.size ep/\jZ h d en ep) where
 sub:=λb hb=>by simp at hb;simp [hb]
 frame:=λ_ _ _ st hk=>⟨st.1.at λo e=>hk it (by simp) o e,st.2.at λo e=>hk d (by simp) o e⟩
 item:=λi s Q E hi st hQ=>mP st.1 st.2 hi λh' k' sb=>hQ _ h' s.toks ⟨en[i],by simp [hi],rfl⟩ ⟨k',st.2.at λo e=>(sb.2 d hne).trans e⟩ λb o hb e=>(sb.2 b λz=>hb (by simp [z])).trans e
 done:=λs Q E st hQ=>mQ hh st.1 st.2 (Qk _) λh' he'=>hQ h' s.toks λb o hb e=>he' b o (λh=>hb (by simp [h])) e
 self:=λ_ _ _ _ st hQ=>wpAny_pyIter_keyiter st.1 hQ
theorem sH(nS:(d == sysModules)=false):W.KdlSrc prog w "dict" d d en.size (λi v=>∃ e,en[i]?=some e/\v=e.key) (λh=>jZ h d en ep) where
 type:=λ_ hm=>hm.typeIs
 there:=λ_ hm=>⟨let ⟨_,e,_⟩:=hm;QD e,let ⟨_,e,_⟩:=hm;QD e⟩
 keep:=λ_ _ hm hk=>hm.at λo e=>hk d (.inl rfl) o e
 notList:=by decide
 notTuple:=by decide
 hint:=λ_ _ _ _ hm hq=>W.kdl_hint_dict hm.typeIs hq
 iter:=λs _ hh hm=>⟨_,_,(λ_ _ hq=>kH nS hm hq),oo hh (QP (let ⟨_,e,_⟩:=hm;QD e)),⟨⟨_,QE _ rfl,rfl,rfl⟩,hm.at λo e=>Qm _ e⟩⟩
end
end L2
namespace L2
open PySem PySem.Spec PyProof.Rows
theorem yf{α β:Type}{F:α->β->Prop}:∀{l:List α} {m:List β} {i:Nat} {a:α} {b:β},Paired F l m->l[i]?=some a->m[i]?=some b->F a b
 | _,_,_,_,_,.nil,h,_=>by simp at h
 | _,_,0,_,_,.cons r _,h1,h2=>by
  simp at h1 h2;subst h1 h2;exact r
 | _,_,i+1,_,_,.cons _ t,h1,h2=>yf (i:=i) t (by simpa using h1) (by simpa using h2)
abbrev lH(H:Hp)(kvs:List (List Key × V))(as:List Addr):Prop:=Paired (λ(p:List Key × V) (b:Addr)=>H b=some (.tup (p.1.map kV))) kvs as
section
variable{X:Cx} {pins:List (Addr × Obj)} {σ:St} {H:Hp} {s:Shared} {a:Addr}
theorem KT.addrs{kvs:List (List Key × V)}{xs:List (List Key × Addr × Value)}(r:KT H kvs xs):lH H kvs (xs.map λx=>x.2.1):=by
 induction r with
 | nil=>exact .nil
 | cons h t ih=>exact .cons h.2.1 ih
theorem KT.drop{kvs:List (List Key × V)}{xs:List (List Key × Addr × Value)}(r:KT H kvs xs)(k:List Key):KT H (et kvs k) (eP xs k):=by
 unfold et eP
 induction r with
 | nil=>exact .nil
 | @cons p q ps qs h t ih =>
  rw [QS,QS];by_cases e:p.1=k
  ·rw [Qf (by simp [e]),Qf (by simp [h.1.symm.trans e])];exact ih
  ·rw [Qn (Qh e),Qn (Qh (show q.1≠k from λz=>e (h.1.trans z)))];exact .cons h ih
theorem lI(hc:X.calm=true):eh X (.type "list") (λxs H Q=>∃ a kvs,xs=[V.ref a]/\Rd H a (.dT kvs)/\∀ l as,H l=none->lH H kvs as->Q (.ref l) (upd H l (.lst (as.map V.ref)))):=by
 intro pins s σ H xs us Q I r h;obtain⟨a,kvs,rfl,ha,q⟩:=h;obtain⟨u,rfl,rx⟩:=fO r;cases rx;obtain⟨hz,hS,ys,rel,od,es,ep,e1,e2,e3,e4,e5,e6⟩:=fR I.hok ha;have hlen:kvs.length=ys.length:=Paired.length rel;have hsz:es.size=ys.length:=size_of_entries e4;refine W.kdl_call (sH (en:=es) (ep:=ep) hS) (I.ok.hd hc) ⟨od,e1,e2,e3⟩ (by lia) λh' tk acc' c' hk hD hacc=>?_;refine⟨.ref s.heap.objs.size,upd H s.heap.objs.size (.lst ((ys.map λx=>x.2.1).map V.ref)),I.laid (t':=tk) hk (Qk _) ⟨?_,acc'.toList,c',lg ?_ λj u x h1 h2=>?_,by simpa using hD⟩,rfl,q _ _ (I.hok.fresh (Qk _)) (KT.addrs rel)⟩
 ·rw [Qc,Qc];lia
 ·rw [Qc,Qc,Q0,<-hsz];exact hacc.1
 ·obtain⟨e,z1,z2⟩:=hacc.2 j u (by rw [<-Uz];exact h1);rw [entry_at e4 j] at z1;rw [Qq,Qq] at h2;cases q:ys[j]? with
  | none=>rw [q] at z1;cases z1
  | some y =>
   rw [q] at z1 h2;have z1:entryOfKey (tupleKind (aX X.prog X.w)) y=e:=Qt z1;have h2:V.ref y.2.1=x:=Qt h2;rw [<-h2,z2,<-z1];rfl
def wS(td ty:TE):TE:=λσ H Q=>td σ H λx H1=>∃ a,x=.ref a/\IsD H1 a/\ty σ H1 λy H2=>∃ b kvs k v,H2 a=some (.dT kvs)/\y=.ref b/\H2 b=some (.tup (k.map kV))/\bL kvs k=some v/\Q v (upd H2 a (.dT (et kvs k)))
theorem sI{o e:Expr}{apos cpos:Pos}{td ty:TE}(hu:X.A.units+1 < cLine)(ho:PE X o td)(he:PE X e ty)(m:M1 X o "pop" apos e cpos):PE X (.Call (.Attribute o "pop" apos) [e] [] cpos) (wS td ty):=by
 intro pins s σ H Q I h;refine VB m.base m.few m.line US PySem.F.slot_dict_pop PySem.F.type_dict_pop (thn (ho pins s σ H _ I h) λu s1 ⟨x,H1,I1,rx,a,ex,d,q1⟩=>?_);subst ex;obtain rfl:u=Value.ref a:=rx;obtain⟨t1,t2,_⟩:=k8 I1 d;refine⟨t1,t2,?_⟩;rw [m.trees];refine Calls.callWith_builtin rfl (Calls.evalArgs_plain (Calls.spliced_cons (thn (he pins s1 σ H1 _ I1 q1) λiv s2 ⟨y,H2,I2,ry,b,kvs,k,v,ea,ey,eb,l,q2⟩=>Calls.spliced_nil ?_)));subst ey;obtain rfl:iv=Value.ref b:=ry;obtain⟨z,hd,xs,rel,dd⟩:=vP I2.hok ea;obtain⟨w',hw,rw'⟩:=eQ.some_of (v:=v) (o:=(atKey xs k).map (·.2)) (by rw [<-l];exact rel.val k);obtain⟨p,hp,hp2⟩:=Option.map_eq_some_iff.mp hw;have tI:=dd.typeIs;refine UL PySem.F.slot_dict_pop tI PySem.F.entry_dict_pop ?_ (PySem.F.args_dict_pop_2 _ _);refine sw (kd:=tupleKind (aX X.prog X.w)) (tupleKind_room_in1 hu) (fb I2.hok eb) hd dd (by rw [<-Paired.length rel];exact z) hp λh' dd' sb=>?_;obtain⟨q,es,ep,hq,h2,h3,h4,_,h5⟩:=dd';refine⟨_,rfl,v,upd H2 a (.dT (et kvs k)),gA I2 (by rw [ea];exact True.intro) sb ⟨q,hq⟩ ⟨QQ (rm kvs k) z,hd,_,(KT.drop rel k).keeps λc ys ec=>?_,q,es,ep,hq,h2,h3,h4,h5⟩,by rw [hp2];exact rw',q2⟩;rw [af (be ec ea (λz=>nomatch z))];exact ec
theorem sJ:MtR X "dict.items" (λx xs H Q=>∃ a kvs,x=.ref a/\xs=[]/\Rd H a (.dK kvs)/\∀ p,H p=none->Q (.ref p) (upd H p (.ext λh=>h.IsItemsView p a))):=by
 intro pins s σ H x xs v us Q I rx rv h;obtain⟨a,kvs,rfl,rfl,ha,q⟩:=h;cases rv;obtain rfl:v=Value.ref a:=rx;obtain⟨hz,hS,vs,rel,dd⟩:=fQ I.hok ha;refine call_meetsIn PySem.F.slot_dict_items dd.typeIs PySem.F.entry_dict_items (PySem.F.args_dict_items_1 _) (meets_dict_items (aX X.prog X.w) a hS) ⟨⟨vs,dd⟩,?_⟩;refine⟨.ref s.heap.objs.size,_,I.laid (a:=s.heap.objs.size) (o:=.ext λh=>h.IsItemsView s.heap.objs.size a) (t':=s.toks) (λ_ _ e=>Qm _ e) (Qk _) ⟨⟨_,QE _ rfl,rfl,rfl⟩,⟨_,QE _ rfl⟩,λh1 h2 z k=>?_⟩,rfl,q _ (I.hok.fresh (Qk _))⟩;obtain⟨o,e1,e2⟩:=z;exact⟨o,k o e1,e2⟩
def Iti(a:Addr)(o:Obj)(kvs:List (Key × V)):It :=
 ⟨λi H=>i < kvs.length/\H a=some (.frz o (.dK kvs)),λi H x H'=>∃ e p,kvs[i]?=some e/\H p=none/\x=.ref p/\H'=upd H p (.tup [kV e.1,e.2]),λi H=>kvs.length<=i/\H a=some (.frz o (.dK kvs))⟩
theorem oq{P:Program}{w:World}{K:W.Frag}{elts:List Expr}{kk:Nat}{pos:Pos}(a it:Addr){o:Obj}{es:Array DictEntry}{ep:Nat}(kvs:List (Key × V))(ho:o.data=.dict es ep) :
  p6 P w K (.Tuple elts kk pos) (Iti a o kvs) [it] it (λi h=>∃ ok ov,IsItemIter h it a i kvs.length ep ok ov) where
 mem:=by simp
 obj:=λi h st b hb=>by
  have e:b=it:=by simpa using hb
  subst e;obtain⟨ok,ov,e⟩:=st;exact⟨_,e,λv z=>by cases z⟩
 keep:=λi h h' st k=>let ⟨ok,ov,e⟩:=st;⟨ok,ov,k it (by simp) _ e⟩
 item:=by
  intro X hP hw hK hc i pins s σ H E I hf st hg;subst hP hw hK;obtain⟨ok,ov,st⟩:=st;obtain⟨hi,hH⟩:=hg;obtain⟨ho2,hz,hS,vs,rel,od,es',ep',e1,e2,e3,e4,e5,e6⟩:=I.hok a _ hH;rw [ho2] at e1;cases e1;rw [ho] at e3;cases e3;have hlen:kvs.length=vs.length:=rel.length;have hiv:i < vs.length:=by lia
  obtain⟨f0,f1,f2,f3,f4,f5⟩:=hf it (by simp);rw [hlen] at st;refine wpAny_pyNext_items_item (knd:=aX X.prog X.w) (kvs:=vs) (k:=vs[i].1) (v:=vs[i].2) st ⟨o,es,ho2,e2,ho,e4,e5,e6⟩ (Qe hiv) λkey h' hkey hout hT hsz hk=>?_;refine⟨_,rfl,wpAny_letOwnedTupleGo_items (s:={ s with heap:=h' }) hout λh2 hi2 sb=>?_⟩;have k2:∀ b o,b≠it->s.heap.get? b=some o->h2.get? b=some o:=λb o hb e=>(sb.2 b hb).trans (hk b o hb e);have I1:Inv X pins σ H { s with heap:=h2 }:=I.turned (t':=s.toks) k2 f0 f1 f3 f4 f5;have fr:H s.heap.objs.size=none:=I.hok.fresh (Qk _);have neT:s.heap.objs.size≠it:=Nat.ne_of_gt (QD st);have ek:(kvs.map (·.1))[i]?=some vs[i].1:=by rw [rel.keys,Qq,Qe hiv];rfl
  rw [Qq,Qe hi] at ek;have ek':kvs[i].1=vs[i].1:=Qt ek;have rv:aW kvs[i].2 vs[i].2:=(yf rel (Qe hi) (Qe hiv)).2;have fp:=I.fpOk (H':=H) (Qk s.heap.objs.size) fr;have I2:Inv X pins σ (upd H s.heap.objs.size (.tup [kV kvs[i].1,kvs[i].2])) { s with heap:=h2 }:=I1.track2 fr (U5 I.sz) fp.2.1 fp.2.2.2.2.1 fp.2.2.2.2.2
   ⟨by show 2<=sizeLine;decide,[key,vs[i].2],.cons (by rw [ek'];exact vU hkey) (.cons rv .nil),_,(sb.2 _ neT).trans hT,rfl,_,rfl⟩
  refine⟨.ref s.heap.objs.size,_,I2,rfl,⟨kvs[i],_,Qe hi,fr,rfl,rfl⟩,⟨_,_,by rw [hlen];exact hi2⟩,λb hb=>?_⟩;have e:b=it:=by simpa using hb
  subst e;rw [af (Ne.symm neT)];exact f0
 done:=by
  intro X hP hw hK hc i pins s σ H E I hf st hg;subst hP hw hK;obtain⟨ok,ov,st⟩:=st;obtain⟨hi,hH⟩:=hg;obtain⟨ho2,hz,hS,vs,rel,od,es',ep',e1,e2,e3,e4,e5,e6⟩:=I.hok a _ hH;rw [ho2] at e1;cases e1;rw [ho] at e3;cases e3;have hlen:kvs.length=vs.length:=rel.length;obtain⟨f0,f1,f2,f3,f4,f5⟩:=hf it (by simp);rw [hlen] at st;exact wpAny_pyNext_items_end (knd:=aX X.prog X.w) (kvs:=vs) (I.ok.hd hc) st ⟨o,es,ho2,e2,ho,e4,e5,e6⟩ (Vz.mpr (by lia)) λh' eb=>⟨rfl,I.turned (t':=s.toks) (λb o hb e=>eb b o hb e) f0 f1 f3 f4 f5⟩
 self:=λA i s Q E st h=>by
  obtain⟨ok,ov,e⟩:=st;exact W.kcp_self e h
inductive pE(R:It->Hp->Prop)(x:V)(H1:Hp):Prop
 | mk:∀ p a kvs,(x=.ref p)->(H1 p=some (.ext λh=>h.IsItemsView p a))->(H1 a=some (.dK kvs))->(∀ o,R (Iti a o kvs) (upd H1 a (.frz o (.dK kvs))))->pE R x H1
def wT(tl:TE):TI:=λσ H R=>tl σ H λx H1=>pE R x H1
theorem sK{l:Expr}{tl:TE}{elts:List Expr}{kk:Nat}{pos:Pos}(hl:PE X l tl):PI X (.Tuple elts kk pos) l (wT tl):=by
 intro pins s σ H R I h;refine thn (hl pins s σ H _ I h) λv s1 ⟨x,H1,I1,r1,q1⟩=>?_;obtain⟨p,a,kvs,e,hp,ha,q⟩:=q1;subst e;cases r1;obtain⟨hz,hS,vs,rel,od,es,ep,e1,e2,e3,e4,e5,e6⟩:=oX I1.hok ha;have hlen:kvs.length=vs.length:=rel.length;have vw:=(show _/\_ from I1.hok p _ hp).1;refine wpAny_pyIter_items (knd:=aX X.prog X.w) (kvs:=vs) (ep:=ep) vw ⟨od,es,e1,e2,e3,e4,e5,e6⟩ ?_;have I2:Inv X pins σ (upd H1 a (.frz od (.dK kvs))) s1:=I1.freeze ha ⟨λ_ z=>(by cases z),λ_ z=>(by cases z),λ_ _ z=>(by cases z),λ_ z=>(by cases z)⟩ e1;refine⟨s1.heap.objs.size,[s1.heap.objs.size],_,_,upd H1 a (.frz od (.dK kvs)),rfl,I2.kept (t':=s1.toks) λb o e=>Qm _ e,oq a _ kvs e3,⟨.none,.none,by rw [hlen];exact QE _ rfl⟩,λb hb=>?_,q od⟩;have e:b=s1.heap.objs.size:=by simpa using hb
 subst e;exact I2.fpOk (Qk _) (I2.hok.fresh (Qk _))
theorem qw{a:Addr}{o:Obj}{kvs:List (Key × V)}{g:TG}{tb:TS}{D:gk}{σ:St}{H:Hp}(Pv:Nat->St->Hp->Prop)(h0:Pv 0 σ H)(hl:∀ i σ H,i<=kvs.length->Pv i σ H->H a=some (.frz o (.dK kvs)))
  (hs:∀ i e p σ H,kvs[i]?=some e->H p=none->Pv i σ H->g (.ref p) σ (upd H p (.tup [kV e.1,e.2])) λσ2 H2=>tb { D with nx:=Pv (i+1),ct:=Pv (i+1),bk:=D.nx } σ2 H2) (hd:∀ σ H,Pv kvs.length σ H->D.nx σ H) :
  ∃ W:Nat->Nat->St->Hp->Prop,(∃ m,W 0 m σ H)/\∀ i m σ H,W i m σ H ->
   ((Iti a o kvs).stop i H/\D.nx σ H)\/((Iti a o kvs).go i H/\∃ N:St->Hp->Prop,(∀ σ' H',N σ' H'->∃ m',m' < m/\W (i+1) m' σ' H')/\∀ x H',(Iti a o kvs).yld i H x H'->g x σ H' λσ2 H2=>tb { D with nx:=N,ct:=N,bk:=D.nx } σ2 H2):=by
 refine⟨λi m σ H=>m=kvs.length - i/\i<=kvs.length/\Pv i σ H,⟨_,rfl,Uh _,h0⟩,?_⟩;rintro i m σ H ⟨rfl,hi,p⟩;have q:=hl i σ H hi p;by_cases hlt:i < kvs.length
 ·refine .inr ⟨⟨hlt,q⟩,Pv (i+1),λσ' H' p'=>⟨kvs.length - (i+1),by lia,rfl,hlt,p'⟩,λx H' y=>?_⟩;obtain⟨e,b,y1,y2,y3,y4⟩:=y;subst y3 y4;exact hs i e b σ H y1 y2 p
 ·have e:i=kvs.length:=by lia
  subst e;exact .inl ⟨⟨Qk _,q⟩,hd σ H p⟩
end
end L2
namespace GH
open PySem L2 G1 PyProof.Rows
theorem okX{P:Program}{w:World}{K:W.Frag}{mg:Str->Option Value}{base:Heap}{x qual:Str}{st:Stmt}{f:Addr}{fd:FuncData}{N ps:List Str}{k:Nat}{sp:Sp}(F:Fun K x qual st f fd)(S:aI N ps (am st))(len:∀ vs H Q E,sp vs H Q E->vs.length=ps.length)
  (hb:∀(cdv:Value) (A:Around) (outer:List Env) (s:Shared) (H:Hp) (vs:List V) (Q:VK) (E:XK),bO k (A.deeper (envOfC qual (am st) s.heap.objs.size f cdv))->sp vs H Q E ->
   ∃ t,PSs (ja (CXo P w) P w K mg base N qual (am st) f cdv A outer s H E) (aE st) t/\t { nx:=λ_ H'=>Q .non H',rt:=Q } (start N vs) H):aF P w K mg base (CXo P w) (k+1) f fd ps sp:=by
 obtain⟨oc,od,kV,doc,pm,an,cdv,ct,osl,rfl,lk,hcd⟩:=F.ex;exact q8 lk hcd S len λA outer s H vs Q E hr hsp=>hb cdv A outer s H vs Q E hr hsp
theorem gf{α β:Type}{F:α->β->Prop}:∀{l l':List α} {m m':List β},Paired F l m->Paired F l' m'->Paired F (l++l') (m++m')
 | _,_,_,_,.nil,h=>h
 | _,_,_,_,.cons r t,h=>.cons r (gf t h)
theorem jI{α:Type}{c:α->List V}{H:Hp}:∀{as:List Addr} {xs:List α},Paired (λ(a:Addr) (x:α)=>H a=some (.tup (c x))) as xs->Paired (λ(a:Addr) (v:List V)=>H a=some (.tup v)) as (xs.map c)
 | _,_,.nil=>.nil
 | _,_,.cons r t=>.cons r (jI t)
theorem gN{α:Type}{c:α->List V}{H:Hp}:∀{as:List Addr} {xs:List α},Paired (λ(a:Addr) (v:List V)=>H a=some (.tup v)) as (xs.map c)->Paired (λ(a:Addr) (x:α)=>H a=some (.tup (c x))) as xs
 | _,[],h=>by cases h;exact .nil
 | _,x :: xs,h=>by
  have h:Paired (λ(a:Addr) (v:List V)=>H a=some (.tup v)) _ (c x :: xs.map c):=h;cases h with
  | cons r t=>exact .cons r (gN t)
theorem sL{H:Hp}{a b:Addr}{x y:HO}(h:a≠b):upd (upd H a x) b y=upd (upd H b y) a x:=by
 funext c
 unfold upd;by_cases h1:c=a
 ·subst h1;rw [Qf h,Qn rfl,Qn rfl]
 ·rw [Qf h1,Qf h1]
def dB(r:aD):List Key:=[Sum.inr r.1,Sum.inr r.2.1,Sum.inr r.2.2.1,Sum.inl r.2.2.2]
theorem pF(r:aD):(dB r).map kV=bp r:=rfl
theorem fI{a b:aD}(h:dB a=dB b):a=b:=qp (by rw [<-pF,<-pF,h])
def rkv(rs:List aD):List (List Key × V):=rs.map λr=>(dB r,V.bl true)
theorem uO(rs:List aD):(rkv rs).length=rs.length:=Qc _
theorem lJ:∀{rs:List aD} {r:aD},r∈rs->bL (rkv rs) (dB r)=some (.bl true)
 | x :: rs,r,h=>by
  by_cases e:x=r
  ·exact dJ (p:=(dB x,V.bl true)) (by rw [e])
  ·refine(cD (p:=(dB x,V.bl true)) λz=>e (fI z)).trans (lJ ?_);rcases Qi.mp h with z | z
   ·exact Qs z.symm e
   ·exact z
theorem iT:∀{rs:List aD} {r:aD},¬ r∈rs->bL (rkv rs) (dB r)=none
 | [],_,_=>rfl
 | x :: rs,r,h=>(cD (p:=(dB x,V.bl true)) λz=>h (by rw [fI z];exact QJ)).trans (iT λz=>h (QA _ z))
theorem uP{rs:List aD}{r:aD}(h:¬ r∈rs):cR (rkv rs) (dB r) (.bl true)=rkv (rs++[r]):=by
 rw [eu _ (iT h)];unfold rkv;rw [Qx];rfl
theorem mR:∀{rs:List aD} {r:aD},rs.Nodup->et (rkv rs) (dB r)=rkv (rs.erase r)
 | [],_,_=>rfl
 | x :: rs,r,nd=>by
  obtain⟨n1,n2⟩:=QN.mp nd;have st:rkv (x :: rs)=(dB x,V.bl true) :: rkv rs:=rfl;rw [st];by_cases e:x=r
  ·subst e;rw [qi rfl,List.erase_cons_head];refine mm λz=>?_;obtain⟨y,hy,ey⟩:=Qg.mp z;obtain⟨u,hu,rfl⟩:=Qg.mp hy;exact n1 (by rw [<-fI ey];exact hu)
  ·rw [kg (λz=>e (fI z)),mR n2,Vq (by simpa using e)];rfl
def hfs(a1 a2 a3 a4:Addr):List (Str × V):=[("parents",.ref a1),("cuts",.ref a2),("links",.ref a3),("rules",.ref a4)]
def own(a1 a2 a3 a4:Addr)(E:List Row):List Addr:=a1 :: a2 :: a3 :: a4 :: E.map λe:Row=>e.2.1
structure PAt(H:Hp)(C x dx a1 a2 a3 a4:Addr)(h:Ho)(E:List Row):Prop where
 ins:H x=some (.ins C dx (hfs a1 a2 a3 a4))
 h1:H a1=some (.lst (cx h.par))
 h2:H a2=some (.lst (blV h.cut))
 h3:gK H a3 E
 h4:H a4=some (.dT (rkv h.rules))
 nb:∀ y,nbE E y=nbP h.links y
 nd:(own a1 a2 a3 a4 E).Nodup
section
variable{H H':Hp} {C x dx a1 a2 a3 a4:Addr} {h:Ho} {E:List Row}
theorem PAt.same(k:PAt H C x dx a1 a2 a3 a4 h E)(s:aw H H'):PAt H' C x dx a1 a2 a3 a4 h E:=⟨s _ _ k.ins,s _ _ k.h1,s _ _ k.h2,k.h3.same s,s _ _ k.h4,k.nb,k.nd⟩
theorem PAt.i1(k:PAt H C x dx a1 a2 a3 a4 h E):x≠a1:=be k.ins k.h1 (by intro z;cases z)
theorem PAt.i2(k:PAt H C x dx a1 a2 a3 a4 h E):x≠a2:=be k.ins k.h2 (by intro z;cases z)
theorem PAt.i3(k:PAt H C x dx a1 a2 a3 a4 h E):x≠a3:=be k.ins k.h3.hd (by intro z;cases z)
theorem PAt.i4(k:PAt H C x dx a1 a2 a3 a4 h E):x≠a4:=be k.ins k.h4 (by intro z;cases z)
theorem PAt.n12(k:PAt H C x dx a1 a2 a3 a4 h E):a1≠a2:=λz=>(QN.mp k.nd).1 (by rw [z];exact QJ)
theorem PAt.n13(k:PAt H C x dx a1 a2 a3 a4 h E):a1≠a3:=be k.h1 k.h3.hd (by intro z;cases z)
theorem PAt.n14(k:PAt H C x dx a1 a2 a3 a4 h E):a1≠a4:=be k.h1 k.h4 (by intro z;cases z)
theorem PAt.n23(k:PAt H C x dx a1 a2 a3 a4 h E):a2≠a3:=be k.h2 k.h3.hd (by intro z;cases z)
theorem PAt.n24(k:PAt H C x dx a1 a2 a3 a4 h E):a2≠a4:=be k.h2 k.h4 (by intro z;cases z)
theorem PAt.n34(k:PAt H C x dx a1 a2 a3 a4 h E):a3≠a4:=be k.h3.hd k.h4 (by intro z;cases z)
theorem PAt.e1(k:PAt H C x dx a1 a2 a3 a4 h E){e:Row}(he:e∈E):e.2.1≠a1:=λz=>(QN.mp k.nd).1 (QA _ (QA _ (QA _ (Qg.mpr ⟨e,he,z⟩))))
theorem PAt.e2(k:PAt H C x dx a1 a2 a3 a4 h E){e:Row}(he:e∈E):e.2.1≠a2:=λz=>(QN.mp (QN.mp k.nd).2).1 (QA _ (QA _ (Qg.mpr ⟨e,he,z⟩)))
theorem PAt.e3(k:PAt H C x dx a1 a2 a3 a4 h E){e:Row}(he:e∈E):e.2.1≠a3:=be (k.h3.ha e he) k.h3.hd (by intro z;cases z)
theorem PAt.e4(k:PAt H C x dx a1 a2 a3 a4 h E){e:Row}(he:e∈E):e.2.1≠a4:=be (k.h3.ha e he) k.h4 (by intro z;cases z)
theorem PAt.ei(k:PAt H C x dx a1 a2 a3 a4 h E){e:Row}(he:e∈E):e.2.1≠x:=be (k.h3.ha e he) k.ins (by intro z;cases z)
theorem PAt.set1(k:PAt H C x dx a1 a2 a3 a4 h E){xs:List V}{ps:List (Option Nat)}(e:xs=cx ps):PAt (upd H a1 (.lst xs)) C x dx a1 a2 a3 a4 { h with par:=ps } E:=by
 subst e;exact⟨by rw [af k.i1];exact k.ins,ae,by rw [af k.n12.symm];exact k.h2,⟨by rw [af k.n13.symm];exact k.h3.hd,λe he=>by rw [af (k.e1 he)];exact k.h3.ha e he,k.h3.nd⟩,by rw [af k.n14.symm];exact k.h4,k.nb,k.nd⟩
theorem PAt.set2(k:PAt H C x dx a1 a2 a3 a4 h E){xs:List V}{cs:List Bool}(e:xs=blV cs):PAt (upd H a2 (.lst xs)) C x dx a1 a2 a3 a4 { h with cut:=cs } E:=by
 subst e;exact⟨by rw [af k.i2];exact k.ins,by rw [af k.n12];exact k.h1,ae,⟨by rw [af k.n23.symm];exact k.h3.hd,λe he=>by rw [af (k.e2 he)];exact k.h3.ha e he,k.h3.nd⟩,by rw [af k.n24.symm];exact k.h4,k.nb,k.nd⟩
theorem PAt.set4(k:PAt H C x dx a1 a2 a3 a4 h E){kv:List (List Key × V)}{rs:List aD}(e:kv=rkv rs):PAt (upd H a4 (.dT kv)) C x dx a1 a2 a3 a4 { h with rules:=rs } E:=by
 subst e;exact⟨by rw [af k.i4];exact k.ins,by rw [af k.n14];exact k.h1,by rw [af k.n24];exact k.h2,⟨by rw [af k.n34];exact k.h3.hd,λe he=>by rw [af (k.e4 he)];exact k.h3.ha e he,k.h3.nd⟩,ae,k.nb,k.nd⟩
end
theorem uQ(x y:Str):(PyData.str x).eqv (PyData.str y)=decide (x=y):=by
 by_cases e:x=y
 ·subst e;rw [Qh rfl];simp [PyData.eqv]
 ·rw [Qp e];simp [PyData.eqv,e]
theorem jJ{x:Str}(h:Tx x):SeqAt.shaped (.str x)=true:=by
 unfold Tx at h;simp [SeqAt.shaped,PyData.canLay0,PyData.depth,h]
theorem fg(K:W.Frag)(H:Hp):∀ ss:List Str,eE K H (az ss) (ss.map PyData.str)
 | []=>.nil
 | s :: ss=>.cons (.str s) (fg K H ss)
def de(E:List Row)(m:Str)(ss:List Str):List Row:=E.map λe=>if e.1=m then (e.1,e.2.1,ss) else e
theorem eX(E:List Row)(m:Str)(ss:List Str):(de E m ss).map (λe:Row=>e.1)=E.map (λe:Row=>e.1):=by
 unfold de;rw [UK];refine UI λe _=>?_;show(if e.1=m then (e.1,e.2.1,ss) else e).1=e.1;split <;> rfl
theorem jK(E:List Row)(m:Str)(ss:List Str):(de E m ss).map (λe:Row=>e.2.1)=E.map (λe:Row=>e.2.1):=by
 unfold de;rw [UK];refine UI λe _=>?_;show(if e.1=m then (e.1,e.2.1,ss) else e).2.1=e.2.1;split <;> rfl
theorem or(E:List Row)(m:Str)(ss:List Str):ekv (de E m ss)=ekv E:=by
 unfold de ekv;rw [UK];refine UI λe _=>?_;show((Sum.inr (if e.1=m then (e.1,e.2.1,ss) else e).1:Key),V.ref (if e.1=m then (e.1,e.2.1,ss) else e).2.1)=_;split <;> rfl
theorem qx{E:List Row}{m:Str}{ss:List Str}(nd:(E.map (λe:Row=>e.1)).Nodup)(hm:m∈E.map (λe:Row=>e.1))(y:Str):nbE (de E m ss) y=if y=m then ss else nbE E y:=by
 have nd':((de E m ss).map (λe:Row=>e.1)).Nodup:=by rw [eX];exact nd
 by_cases hy:y∈E.map (λe:Row=>e.1)
 ·obtain⟨e,he,rfl⟩:=Qg.mp hy;have he':(if e.1=m then (e.1,e.2.1,ss) else e)∈de E m ss:=Qg.mpr ⟨e,he,rfl⟩;by_cases z:e.1=m
  ·rw [Qn z] at he' ⊢;exact bo nd' he'
  ·rw [Qf z] at he' ⊢;rw [bo nd' he',bo nd he]
 ·rw [ck (by rw [eX];exact hy),Qf (λz=>hy (by rw [z];exact hm)),ck hy]
theorem mS(ls:List (Str × Str))(a c y:Str):nbP (ls++[(a,c)]) y=if y=a then nbP ls a++[c] else nbP ls y:=by
 unfold nbP;rw [Ug,Qx];by_cases e:y=a
 ·subst e;rw [Qn rfl,QS,Qn (Qh rfl)];rfl
 ·rw [Qf e,QS,Qf (by simpa using λz:a=y=>e z.symm)];simp
theorem kI:∀(ls:List (Str × Str)) (a c y:Str),nbP (ls.erase (a,c)) y=if y=a then (nbP ls a).erase c else nbP ls y
 | [],a,c,y=>by
  show([]:List Str)=if y=a then ([]:List Str).erase c else [];split <;> rfl
 | (u,v) :: ls,a,c,y=>by
  have cons:∀(r:List (Str × Str)) (p q z:Str),nbP ((p,q) :: r) z=if p=z then q :: nbP r z else nbP r z:=λr p q z=>by
   unfold nbP;rw [QS];by_cases e:p=z
   ·rw [Qn (Qh e),Qn e];rfl
   ·rw [Qf (by simpa using e),Qf e]
  by_cases h:(u,v)=(a,c)
  ·have hu:u=a:=QW Prod.fst h;have hv:v=c:=QW Prod.snd h;subst hu hv;rw [List.erase_cons_head,cons,cons];by_cases e:y=u
   ·subst e;rw [Qn rfl,Qn rfl,List.erase_cons_head]
   ·rw [Qf e,Qf (λz=>e z.symm)]
  ·rw [Vq (by simpa using h),cons,cons,cons,kI ls a c y];by_cases e:y=a
   ·subst e;rw [Qn rfl,Qn rfl];by_cases e2:u=y
    ·subst e2;rw [Qn rfl,Qn rfl,Vq (by simpa using λz:v=c=>h (by rw [z]))]
    ·rw [Qf e2,Qf e2]
   ·rw [Qf e,Qf e]
theorem ij{ls:List (Str × Str)}(nd:ls.Nodup)(y:Str):(nbP ls y).Nodup:=by
 unfold nbP;have h:=nd.sublist (Vu (p:=λp:Str × Str=>decide (p.1=y)));have all:∀ p∈ls.filter λp:Str × Str=>decide (p.1=y),p.1=y:=λp hp=>QI (QX.mp hp).2;generalize ls.filter (λp:Str × Str=>decide (p.1=y))=fl at h all
 induction fl with
 | nil=>exact UP
 | cons p fl ih =>
  obtain⟨n1,n2⟩:=QN.mp h;refine QN.mpr ⟨λz=>?_,ih n2 λq hq=>all q (QA _ hq)⟩;obtain⟨q,hq,e⟩:=Qg.mp z;have e1:=all p QJ;have e2:=all q (QA _ hq);refine n1 ?_;have:p=q:=Prod.ext (e1.trans e2.symm) e.symm;rw [this];exact hq
section
variable{H:Hp} {C x dx a1 a2 a3 a4:Addr} {h:Ho} {E:List Row}
theorem PAt.row(k:PAt H C x dx a1 a2 a3 a4 h E){e:Row}(he:e∈E){vs:List V}{ss:List Str}(ev:vs=az ss){ls:List (Str × Str)}(hb:∀ y,(if y=e.1 then ss else nbP h.links y)=nbP ls y) :
  PAt (upd H e.2.1 (.lst vs)) C x dx a1 a2 a3 a4 { h with links:=ls } (de E e.1 ss):=by
 subst ev;have hm:e.1∈E.map (λe:Row=>e.1):=Qg.mpr ⟨e,he,rfl⟩;refine⟨by rw [af (k.ei he).symm];exact k.ins,by rw [af (k.e1 he).symm];exact k.h1,by rw [af (k.e2 he).symm];exact k.h2,⟨by rw [af (k.e3 he).symm,or];exact k.h3.hd,λe' he'=>?_,?_⟩,by rw [af (k.e4 he).symm];exact k.h4,λy=>?_,?_⟩
 ·obtain⟨e0,h0,rfl⟩:=Qg.mp he';by_cases z:e0.1=e.1
  ·rw [Qn z];have ee:e0=e:=by
    obtain⟨i,hi⟩:=Q1 h0;obtain⟨j,hj⟩:=Q1 he;have hij:i=j:=iX (N:=E.map (λe:Row=>e.1)) (x:=e.1) k.h3.nd (by rw [Qq,hi];exact QW some z) (by rw [Qq,hj];rfl);subst hij;rw [hi] at hj;exact Qt hj
   subst ee;exact ae
  ·rw [Qf z];have ne:e0.2.1≠e.2.1:=λq=>by
    have nd5:(E.map (λe:Row=>e.2.1)).Nodup:=(QN.mp (QN.mp (QN.mp (QN.mp k.nd).2).2).2).2;obtain⟨i,hi⟩:=Q1 h0;obtain⟨j,hj⟩:=Q1 he;have hij:i=j:=by
     obtain⟨l1,e1⟩:=Qb.mp hi;obtain⟨l2,e2⟩:=Qb.mp hj;have hh:=(Vm nd5 (i:=i) (j:=j) (h₀:=by rw [Qc];exact l1) (h₁:=by rw [Qc];exact l2)).mp (by rw [List.getElem_map,List.getElem_map,e1,e2];exact q);exact hh
    subst hij;rw [hi] at hj;exact z (by rw [Qt hj])
   rw [af ne];exact k.h3.ha e0 h0
 ·rw [show(de E e.1 ss).map (·.1)=_ from eX E e.1 ss];exact k.h3.nd
 ·rw [qx k.h3.nd hm,<-hb y,k.nb y]
 ·show(a1 :: a2 :: a3 :: a4 :: (de E e.1 ss).map λe:Row=>e.2.1).Nodup;rw [jK];exact k.nd
theorem PAt.rowNew(k:PAt H C x dx a1 a2 a3 a4 h E){m:Str}(hm:¬ m∈E.map (λe:Row=>e.1)){z:Addr}{ss:List Str}(hz:H z=some (.lst (az ss)))(nz:¬ z∈own a1 a2 a3 a4 E){ls:List (Str × Str)}(hb:∀ y,(if y=m then ss else nbP h.links y)=nbP ls y) :
  PAt (upd H a3 (.dK (ekv (E++[(m,z,ss)])))) C x dx a1 a2 a3 a4 { h with links:=ls } (E++[(m,z,ss)]):=by
 have z3:z≠a3:=be hz k.h3.hd (by intro q;cases q);have nd':((E++[(m,z,ss)]).map (λe:Row=>e.1)).Nodup:=by
  rw [Qx];exact dj k.h3.nd hm
 refine⟨by rw [af k.i3];exact k.ins,by rw [af k.n13];exact k.h1,by rw [af k.n23];exact k.h2,⟨ae,λe he=>?_,nd'⟩,by rw [af k.n34.symm];exact k.h4,λy=>?_,?_⟩
 ·rcases Qr.mp he with he | he
  ·rw [af (k.e3 he)];exact k.h3.ha e he
  ·rw [Qo.mp he];show upd H a3 _ z=_;rw [af z3];exact hz
 ·rw [<-hb y];by_cases e:y=m
  ·subst e;rw [Qn rfl];exact bo nd' (e:=(y,z,ss)) (Qy _ QJ)
  ·rw [Qf e,<-k.nb y];by_cases hy:y∈E.map (λe:Row=>e.1)
   ·obtain⟨e0,h0,rfl⟩:=Qg.mp hy;rw [bo nd' (QU _ h0),bo k.h3.nd h0]
   ·rw [ck hy];refine ck λq=>?_;rw [Qx] at q;rcases Qr.mp q with q | q
    ·exact hy q
    ·exact e (Qo.mp q)
 ·have es:own a1 a2 a3 a4 (E++[(m,z,ss)])=own a1 a2 a3 a4 E++[z]:=by
   unfold own;rw [Qx];rfl
  rw [es];exact dj k.nd nz
theorem PAt.notown(k:PAt H C x dx a1 a2 a3 a4 h E){p:Addr}(hp:H p=none):¬ p∈own a1 a2 a3 a4 E:=λhm=>by
 have no:∀{q:Addr} {o:HO},H q=some o->p=q->False:=λe z=>by rw [<-z,hp] at e;cases e
 rcases Qi.mp hm with z | hm
 ·exact no k.h1 z
 rcases Qi.mp hm with z | hm
 ·exact no k.h2 z
 rcases Qi.mp hm with z | hm
 ·exact no k.h3.hd z
 rcases Qi.mp hm with z | hm
 ·exact no k.h4 z
 obtain⟨e,he,z⟩:=Qg.mp hm;exact no (k.h3.ha e he) z.symm
theorem PAt.nottup(k:PAt H C x dx a1 a2 a3 a4 h E){p:Addr}{ys:List V}(hp:H p=some (.tup ys)):¬ p∈own a1 a2 a3 a4 E:=λhm=>by
 have no:∀{q:Addr} {o:HO},H q=some o->o≠.tup ys->p=q->False:=λe n z=>by rw [<-z,hp] at e;exact n (Qt e).symm
 rcases Qi.mp hm with z | hm
 ·exact no k.h1 (by intro z;cases z) z
 rcases Qi.mp hm with z | hm
 ·exact no k.h2 (by intro z;cases z) z
 rcases Qi.mp hm with z | hm
 ·exact no k.h3.hd (by intro z;cases z) z
 rcases Qi.mp hm with z | hm
 ·exact no k.h4 (by intro z;cases z) z
 obtain⟨e,he,z⟩:=Qg.mp hm;exact no (k.h3.ha e he) (by intro z;cases z) z.symm
end
theorem PAt.off{H:Hp}{C x dx a1 a2 a3 a4:Addr}{h:Ho}{E:List Row}(k:PAt H C x dx a1 a2 a3 a4 h E){r:Addr}{ys:List V}{o:HO}(hr:H r=some (.lst ys))(n:¬ r∈own a1 a2 a3 a4 E):PAt (upd H r o) C x dx a1 a2 a3 a4 h E:=by
 simp only [own,Qi,not_or] at n;obtain⟨m1,m2,m3,m4,m5⟩:=n;exact⟨by rw [af (be k.ins hr (by intro z;cases z))];exact k.ins,by rw [af (Ne.symm m1)];exact k.h1,by rw [af (Ne.symm m2)];exact k.h2,
  ⟨by rw [af (Ne.symm m3)];exact k.h3.hd,λe he=>by rw [af (λz=>m5 (Qg.mpr ⟨e,he,z⟩))];exact k.h3.ha e he,k.h3.nd⟩,by rw [af (Ne.symm m4)];exact k.h4,k.nb,k.nd⟩
def pairsOf(E:List Row):List (Str × Str):=E.flatMap λe=>e.2.2.map λc=>(e.1,c)
theorem lK(E:List Row)(e:Row):pairsOf (E++[e])=pairsOf E++e.2.2.map λc=>(e.1,c):=by
 unfold pairsOf;rw [List.flatMap_append];simp
theorem mT{E:List Row}(nd:(E.map (λe:Row=>e.1)).Nodup)(m c:Str):(m,c)∈pairsOf E ↔ c∈nbE E m:=by
 unfold pairsOf;rw [List.mem_flatMap];constructor
 ·rintro⟨e,he,h⟩;obtain⟨c',hc,e2⟩:=Qg.mp h;have h1:e.1=m:=(Prod.mk.inj e2).1;have h2:c'=c:=(Prod.mk.inj e2).2;subst h1 h2;rw [bo nd he];exact hc
 ·intro h;by_cases hm:m∈E.map (λe:Row=>e.1)
  ·obtain⟨e,he,rfl⟩:=Qg.mp hm;rw [bo nd he] at h;exact⟨e,he,Qg.mpr ⟨c,h,rfl⟩⟩
  ·rw [ck hm] at h;exact Qs h (by simp)
theorem fW:∀{E:List Row},(E.map (λe:Row=>e.1)).Nodup->(∀ e∈E,e.2.2.Nodup)->(pairsOf E).Nodup
 | [],_,_=>UP
 | e :: E,nd,hn=>by
  obtain⟨n1,n2⟩:=QN.mp (show(e.1 :: E.map (λe:Row=>e.1)).Nodup from nd);have st:pairsOf (e :: E)=(e.2.2.map λc=>(e.1,c))++pairsOf E:=rfl;rw [st,List.nodup_append];refine⟨?_,fW n2 λe' he'=>hn e' (QA _ he'),λa ha b hb z=>?_⟩
  ·refine List.Pairwise.map _ (λa b hab=>?_) (hn e QJ);exact λz=>hab (QW Prod.snd z)
  ·obtain⟨c,_,rfl⟩:=Qg.mp ha;subst z;obtain⟨e',he',h'⟩:=List.mem_flatMap.mp hb;obtain⟨c',_,z⟩:=Qg.mp h';have z1:e'.1=e.1:=(Prod.mk.inj z).1;exact n1 (by rw [<-z1];exact Qg.mpr ⟨e',he',rfl⟩)
theorem PAt.perm{H:Hp}{C x dx a1 a2 a3 a4:Addr}{h:Ho}{E:List Row}(k:PAt H C x dx a1 a2 a3 a4 h E)(hO:cA h):(pairsOf E).Perm h.links:=by
 refine(List.perm_ext_iff_of_nodup (fW k.h3.nd λe he=>?_) hO.lnd).mpr λp=>?_
 ·have e1:e.2.2=nbP h.links e.1:=by rw [<-k.nb e.1,bo k.h3.nd he]
  rw [e1];exact ij hO.lnd _
 ·obtain⟨m,c⟩:=p;rw [mT k.h3.nd,k.nb m];exact(bY _ _ _).symm
theorem gh{H:Hp}:∀{rs:List aD} {as:List Addr},lH H (rkv rs) as->Paired (λ(a:Addr) (r:aD)=>H a=some (.tup (bp r))) as rs
 | [],_,h=>by cases h;exact .nil
 | r :: rs,_,h=>by
  have h:Paired (λ(p:List Key × V) (b:Addr)=>H b=some (.tup (p.1.map kV))) ((dB r,V.bl true) :: rkv rs) _:=h;cases h with
  | cons r1 t=>exact .cons r1 (gh t)
theorem lL{ds:List aA}{U:List Str}(h:∀ d∈ds,∀ y∈d.names,y∈U):∀ e∈(run bb ds).links,e.1∈U/\e.2∈U:=λe he =>
 ⟨h _ (kF he) _ (by simp [aA.names]),h _ (kF he) _ (by simp [aA.names])⟩
def Out(CN CR:Addr)(an:Ans)(Q:VK)(E:XK)(H:Hp):Prop:=match an with
 | .txt s=>(s="no place"->E (.ref CN) none H)/\(s="ring"->E (.ref CR) none H)
 | a=>Q (ly a) H
def iJ(H:Hp)(E0 E':List Row)(U:List Str):Prop:=∀ e∈E',(e.2.1∈E0.map (λe:Row=>e.2.1)\/H e.2.1=none)/\e.1∈U
def Res(CN CR C x dx a1 a2 a3 a4:Addr)(H:Hp)(E0:List Row)(U:List Str)(r:Ho × Ans)(Q:VK)(E:XK):Prop :=
 ∀(H':Hp) (E':List Row),Sb (own a1 a2 a3 a4 E0) H H'->PAt H' C x dx a1 a2 a3 a4 r.1 E'->iJ H E0 E' U->Out CN CR r.2 Q E H'
def Few(h:Ho)(E:List Row)(U:List Str):Prop:=U.length<=12/\(∀ e∈h.links,e.1∈U/\e.2∈U)/\∀ e∈E,e.1∈U
theorem mV{H:Hp}{E0:List Row}{U:List Str}{m:Str}{ss:List Str}(hU:∀ e∈E0,e.1∈U):iJ H E0 (de E0 m ss) U:=λe he=>by
 have h1:=QH (f:=λe:Row=>e.2.1) he;rw [jK] at h1;have h2:=QH (f:=λe:Row=>e.1) he;rw [eX] at h2;obtain⟨e0,h0,e2⟩:=Qg.mp h2;exact⟨.inl h1,by rw [<-e2];exact hU e0 h0⟩
theorem Res.shift{CN CR C x dx a1 a2 a3 a4:Addr}{H H2:Hp}{E0:List Row}{U:List Str}{r:Ho × Ans}{Q:VK}{E:XK}(s:aw H H2)(q:Res CN CR C x dx a1 a2 a3 a4 H E0 U r Q E):Res CN CR C x dx a1 a2 a3 a4 H2 E0 U r Q E :=
 λH' E' sb k kp=>q H' E' ((Sb.of s).trans sb) k λe he=>⟨(kp e he).1.imp id λz=>s.free z,(kp e he).2⟩
theorem Res.yes{CN CR C x dx a1 a2 a3 a4:Addr}{H:Hp}{E0:List Row}{U:List Str}{r:Ho × Ans}{Q:VK}{E E':XK}(b:∃ b,r.2=.yes b)(q:Res CN CR C x dx a1 a2 a3 a4 H E0 U r Q E):Res CN CR C x dx a1 a2 a3 a4 H E0 U r Q E' :=
 λH' E2 sb k kp=>by
  have o:=q H' E2 sb k kp;obtain⟨b,e⟩:=b;rw [e] at o ⊢;exact o
theorem qy(h:Ho)(a c:Str):∃ b,(step h (.leave a c)).2=.yes b:=by
 rw [bZ];split <;> exact⟨_,rfl⟩
theorem sM(h:Ho)(w a r:Str)(p:Int):∃ b,(step h (.lift w a r p)).2=.yes b:=by
 rw [cw];split <;> exact⟨_,rfl⟩
inductive pG(CN:Addr)(CR:Addr)(C:Addr)(arg:List V->Hp->aA->Prop)(vs:List V)(H:Hp)(Q:VK)(E:XK):Prop
 | mk:∀(x dx a1 a2 a3 a4:Addr) (h:Ho) (E0:List Row) (us:List V) (d:aA) (U:List Str),(vs=.ref x :: us)->(PAt H C x dx a1 a2 a3 a4 h E0)->(cA h)->(cG h)->(Sz h 90)->(Few h E0 U)->((∀ y∈d.names,y∈U))->(d.ok)->(arg us H d)->(Res CN CR C x dx a1 a2 a3 a4 H E0 U (step h d) Q E)->pG CN CR C arg vs H Q E
def cK(CN CR C:Addr)(arg:List V->Hp->aA->Prop):Sp:=λvs H Q E=>pG CN CR C arg vs H Q E
def aYi:List V->Hp->aA->Prop:=λus _ d=>∃ p,us=[.int p]/\d=.add p
def aZ9:List V->Hp->aA->Prop:=λus _ d=>∃ p q,us=[.int p,.int q]/\d=.move p q
def aYb:List V->Hp->aA->Prop:=λus _ d=>∃ p b,us=[.int p,.bl b]/\d=.cutm b p
def aZ6:List V->Hp->aA->Prop:=λus _ d=>∃ a c,us=[.str a,.str c]/\d=.join a c
def aZ8:List V->Hp->aA->Prop:=λus _ d=>∃ a c,us=[.str a,.str c]/\d=.leave a c
def aYk:List V->Hp->aA->Prop:=λus H d=>∃ t w a r p,us=[.ref t]/\H t=some (.tup (bp (w,a,r,p)))/\d=.put w a r p
def aYl:List V->Hp->aA->Prop:=λus H d=>∃ t w a r p,us=[.ref t]/\H t=some (.tup (bp (w,a,r,p)))/\d=.lift w a r p
def aZ1:List V->Hp->aA->Prop:=λus H d=>∃ t,us=[.ref t]/\H t=some (.tup d.vals)/\d.asks=false
inductive sN(CN:Addr)(C:Addr)(vs:List V)(H:Hp)(Q:VK)(E:XK):Prop
 | mk:∀(x dx a1 a2 a3 a4:Addr) (h:Ho) (E0:List Row) (p:Int),(vs=[.ref x,.int p])->(PAt H C x dx a1 a2 a3 a4 h E0)->((inR h p->Q .non H))->((¬ inR h p->E (.ref CN) none H))->sN CN C vs H Q E
def jL(CN C:Addr):Sp:=λvs H Q E=>sN CN C vs H Q E
def d6:Sp:=λ_ _ _ _=>False
theorem dF{P:Program}{w:World}{K:W.Frag}{mg:Str->Option Value}{base:Heap}{CX:CXT}{k:Nat}{f:Addr}{fd:FuncData}{ps:List Str}:aF P w K mg base CX k f fd ps d6 :=
 ⟨λ_ _ _ _ h=>h.elim,λ_ _ _ _ _ _ _ _ _ _ _ _ _ h=>h.elim⟩
inductive pH(K:W.Frag)(vs:List V)(H:Hp)(Q:VK):Prop
 | mk:∀(a:Addr) (ps:List (Option Nat)) (j o:Nat) (l:List Nat),(vs=[.ref a,.int j,.int o])->(SqL K H a (cx ps))->(Up ps j l)->(Q (.bl (decide (o∈l))) H)->pH K vs H Q
def sO(K:W.Frag):Sp:=λvs H Q _=>pH K vs H Q
inductive pI(C:Addr)(vs:List V)(H:Hp)(Q:VK):Prop
 | mk:∀(x dx:Addr),(vs=[.ref x])->(H x=some (.ins C dx []))->(∀(a1 a2 a3 a4:Addr) (H':Hp),Sb [x] H H'->H a1=none->H a2=none->H a3=none->H a4=none->PAt H' C x dx a1 a2 a3 a4 bb []->Q .non H')->pI C vs H Q
def sQ(C:Addr):Sp:=λvs H Q _=>pI C vs H Q
inductive sR(C:Addr)(vs:List V)(H:Hp)(Q:VK):Prop
 | mk:∀(x dx a1 a2 a3 a4:Addr) (h:Ho) (E0:List Row),(vs=[.ref x])->(PAt H C x dx a1 a2 a3 a4 h E0)->(cA h)->(Sz h 63)->(∀(l:Addr) (ls:List (Str × Str)) (H':Hp),aw H H'->H l=none->a6 bN H' l ls->ls.Perm h.links->ls.Pairwise ltP->Q (.ref l) H')->sR C vs H Q
def wb(C:Addr):Sp:=λvs H Q _=>sR C vs H Q
inductive pJ(C:Addr)(vs:List V)(H:Hp)(Q:VK):Prop
 | mk:∀(x dx a1 a2 a3 a4:Addr) (h:Ho) (E0:List Row) (t:Addr) (d:aA) (U:List Str),(vs=[.ref x,.ref t])->(PAt H C x dx a1 a2 a3 a4 h E0)->(cA h)->(cG h)->(Sz h 90)->(Few h E0 U)->((∀ y∈d.names,y∈U))->(H t=some (.tup d.vals))->(d.ok)->(d.asks=false)->(∀(H':Hp) (E':List Row),Sb (own a1 a2 a3 a4 E0) H H'->PAt H' C x dx a1 a2 a3 a4 (step h d).1 E'->iJ H E0 E' U->Q (ly (step h d).2) H')->pJ C vs H Q
def wU(C:Addr):Sp:=λvs H Q _=>pJ C vs H Q
end GH
namespace GH
open PySem L2 G1
def swp(q:Str × Str):Str × Str:=(q.2,q.1)
theorem uR{ps:List (Str × Str)}(x y:Str):(y,x)∈ps.map swp ↔ (x,y)∈ps:=by
 constructor
 ·intro h;obtain⟨⟨a,b⟩,hq,e⟩:=Qg.mp h;have e':(b,a)=(y,x):=e;cases e';exact hq
 ·intro h;exact Qg.mpr ⟨(x,y),h,rfl⟩
theorem gO{nb:Str->List Str}{w:Str}{B:List (Str × Nat)}(h:eJ nb w B):∀(d:Nat) (x:Str),(x,d)∈B->∀ k,k<=d->∃ y,(y,k)∈B
 | 0,x,hx,k,hk=>⟨x,by rw [show k=0 by lia];exact hx⟩
 | d+1,x,hx,k,hk=>by
  by_cases e:k=d+1
  ·rw [e];exact⟨x,hx⟩
  ·obtain⟨y,_,hy⟩:=h.down x d hx;exact gO h d y hy k (by lia)
theorem qz{nb:Str->List Str}{w:Str}{B:List (Str × Nat)}(h:eJ nb w B){x:Str}{d:Nat}(hx:(x,d)∈B):d+1<=B.length:=by
 have:=bT (l:=List.range (d+1)) (m:=B.map (·.2)) List.nodup_range λk hk=>by
  obtain⟨y,hy⟩:=gO h d x hx k (by have:=U4.mp hk;lia);exact QH (f:=(·.2)) hy
 simpa using this
def thm(ps:List (Str × Str))(u:Str):List Str:=(ps.filter λq=>decide (q.1=u)).map (·.2)
theorem lM{ps:List (Str × Str)}{u x:Str}:x∈thm ps u ↔ (u,x)∈ps:=by
 unfold thm;rw [Qg];constructor
 ·rintro⟨⟨a,b⟩,h,rfl⟩;obtain⟨h1,h2⟩:=QX.mp h;have:a=u:=QI h2;rw [<-this];exact h1
 ·intro h;exact⟨(u,x),QX.mpr ⟨h,Qh rfl⟩,rfl⟩
theorem pK(ps:List (Str × Str))(u:Str):(thm ps u).length<=ps.length:=by
 unfold thm;rw [Qc];exact Q2 _ _
theorem sS{ps:List (Str × Str)}{u x1 x2:Str}{j:Nat}(h:ps[j]?=some (x1,x2)):thm (ps.take (j+1)) u=thm (ps.take j) u++(if x1=u then [x2] else []):=by
 unfold thm;rw [Q3,h,Ug,Qx];congr 1
 show([(x1,x2)].filter λq=>decide (q.1=u)).map (·.2)=_;by_cases e:x1=u
 ·rw [Qn e];simp [e]
 ·rw [Qf e];simp [e]
theorem qA{B:List (Str × Nat)}(nd:(B.map (·.1)).Nodup)(x:Str)(d:Nat):∃ z:Int,(bL (bkv B) (Sum.inr x:Key)).getD (.int (-1))=.int z/\(z=(d:Int) ↔ (x,d)∈B):=by
 by_cases h:x∈B.map (·.1)
 ·obtain⟨⟨y,n⟩,hy,rfl⟩:=Qg.mp h;refine⟨(n:Int),by rw [eM nd hy];rfl,?_⟩;constructor
  ·intro e;have:n=d:=by lia
   rw [<-this];exact hy
  ·intro e;have:=gJ nd e hy;lia
 ·refine⟨-1,by rw [eL h];rfl,?_⟩;constructor
  ·intro e;lia
  ·intro e;exact Qs (QH (f:=(·.1)) e) h
inductive mW(vs:List V)(H:Hp)(Q:VK):Prop
 | mk:∀(p:Addr) (ps:List (Str × Str)) (s w:Str),(vs=[.ref p,.str s,.str w])->(a6 bN H p ps)->(ps.length<=90)->(Rch ps s w)->(∀(a:Addr) (r:List Str) (H':Hp),aw H H'->H' a=some (.lst (az r))->Best ltS (nbP ps) s w r->r.length<=300->Q (.ref a) H')->mW vs H Q
def pL:Sp:=λvs H Q _=>mW vs H Q
end GH
namespace GH
open PySem L2 G1
section
variable{α:Type} {c:α->List V} {tt:TT} {te:TE} {σ:St} {Fin:List V->Hp->Prop} {K:W.Frag} {p:Addr} {as:List Addr} {xs:List α} {H:Hp}
theorem fh{as:List Addr}{j:Nat}{y:V}(hy:(as.map V.ref)[j]?=some y):∃ a,y=.ref a/\as[j]?=some a:=by
 rw [Qq] at hy;cases z:as[j]? with
 | none=>rw [z] at hy;cases hy
 | some a=>rw [z] at hy;exact⟨a,(Qt hy).symm,rfl⟩
theorem cP(f:α->Bool)(hp:H p=some (.lst (as.map V.ref)))(pr:Paired (λ(a:Addr) (x:α)=>H a=some (.tup (c x))) as xs)(hlen:xs.length<=1000)
  (ht:∀(a:Addr) (x:α) (Q:Bool->Hp->Prop),H a=some (.tup (c x))->x∈xs->Q (f x) H->tt (some (.ref a) :: σ) H Q)
  (he:∀(a:Addr) (Q:VK),Q (.ref a) H->te (some (.ref a) :: σ) H Q)
  (fin:∀ bs,Paired (λ(a:Addr) (x:α)=>H a=some (.tup (c x))) bs (xs.filter f)->Fin (bs.map V.ref) H):jj tt te σ Fin (Itl K p) H:=by
 refine cJ (K:=K) (xs:=as.map V.ref) (λj ys H1=>H1=H/\∃ bs,ys=bs.map V.ref/\Paired (λ(a:Addr) (x:α)=>H a=some (.tup (c x))) bs ((xs.take j).filter f)) ⟨rfl,[],rfl,.nil⟩ (λj ys H1 _ z=>by rw [z.1];exact SqL.of hp) ?_ ?_
 ·rintro j y ys H1 hy hj ⟨rfl,bs,rfl,hb⟩;obtain⟨a,rfl,ha⟩:=fh hy;obtain⟨x,hx,hta⟩:=br pr ha;have tk:(xs.take (j+1)).filter f=(xs.take j).filter f++[x].filter f:=by rw [Q3,hx,Ug];rfl
  refine ht a x _ hta (QC hx) ?_;cases e:f x with
  | true =>
   refine bM (he a _ ⟨?_,Nx.mk hj ⟨rfl,bs++[a],by rw [Qx];rfl,?_⟩⟩)
   ·rw [Qc,aL hb];have h1:=Q2 f (xs.take j);rw [Q9] at h1;exact aB (by lia)
   ·rw [tk,QS,e];exact bW hb hta
  | false =>
   refine bt (Nx.mk hj ⟨rfl,bs,rfl,?_⟩);rw [tk,QS,e];simpa using hb
 ·rintro ys H1 ⟨rfl,bs,rfl,hb⟩;rw [Qc,aL pr,Q5] at hb;exact fin bs hb
theorem fJ(g:α->Str)(hp:H p=some (.lst (as.map V.ref)))(pr:Paired (λ(a:Addr) (x:α)=>H a=some (.tup (c x))) as xs)(hlen:xs.length<=1000)
  (he:∀(a:Addr) (x:α) (Q:VK),H a=some (.tup (c x))->Q (.str (g x)) H->te (some (.ref a) :: σ) H Q)
  (fin:Fin (az (xs.map g)) H):jj (λ_ H Q=>Q true H) te σ Fin (Itl K p) H:=by
 refine cJ (K:=K) (xs:=as.map V.ref) (λj ys H1=>H1=H/\ys=az ((xs.take j).map g)) ⟨rfl,rfl⟩ (λj ys H1 _ z=>by rw [z.1];exact SqL.of hp) ?_ ?_
 ·rintro j y ys H1 hy hj ⟨rfl,rfl⟩;obtain⟨a,rfl,ha⟩:=fh hy;obtain⟨x,hx,hta⟩:=br pr ha;refine bM (he a x _ hta ⟨?_,Nx.mk hj ⟨rfl,?_⟩⟩)
  ·rw [ba,Qc,Q9];exact aB (by lia)
  ·rw [Q3,hx,Qx];exact(cr _ _).symm
 ·rintro ys H1 ⟨rfl,rfl⟩;rw [Qc,aL pr,Q5];exact fin
end
theorem il{h:Ho}{a r:Str}:∀{ways:List Nat} {k p:Nat},(∀ i q,i < k->ways[i]?=some q->aC h a r q=[])->ways[k]?=some p->aC h a r p≠[]->bq h a r ways=(dA h a r p,ways.take (k+1))
 | [],k,p,_,hk,_=>by simp at hk
 | x :: ways,0,p,_,hk,hne=>by
  have e:x=p:=by simpa using hk
  subst e;rw [bq,Qf hne];simp
 | x :: ways,k+1,p,hb,hk,hne=>by
  have h0:=hb 0 x (by lia) rfl;rw [bq,Qn h0,il (k:=k) (p:=p) (λi q hi hq=>hb (i+1) q (by lia) (by simpa using hq)) (by simpa using hk) hne];simp
theorem fi{h:Ho}{a r:Str}:∀{ways:List Nat},(∀(i q:Nat),ways[i]?=some q->aC h a r q=[])->bq h a r ways=([],ways)
 | [],_=>rfl
 | x :: ways,hb=>by
  rw [bq,Qn (hb 0 x rfl),fi λi q hq=>hb (i+1) q (by simpa using hq)]
theorem dH{l:List aD}{e:aD}(h:e∈dr l):e∈l:=by
 unfold dr at h;split at h
 ·exact(QX.mp h).1
 ·exact h
theorem im{a:Str}{l:List aD}{e:aD}(h:e∈cY a l):e∈l:=by
 unfold cY at h;split at h
 ·exact(QX.mp h).1
 ·exact h
theorem jM{h:Ho}{a r:Str}:∀{ways:List Nat},(∃ t,ways=(bq h a r ways).2++t)/\(∀ e∈(bq h a r ways).1,e∈h.rules/\Rch h.links a e.2.1)
 | []=>⟨⟨[],rfl⟩,λe he=>Qs he (by simp [bq])⟩
 | x :: ways=>by
  obtain⟨⟨t,ht⟩,h2⟩:=jM (h:=h) (a:=a) (r:=r) (ways:=ways);rw [bq];split
  ·exact⟨⟨t,by show x :: ways=x :: (bq h a r ways).2++t;rw [VR,<-ht]⟩,h2⟩
  ·refine⟨⟨ways,rfl⟩,λe he=>?_⟩;have he:e∈dA h a r x:=he;have h3:e∈aC h a r x:=im (dH he);unfold aC at h3;obtain⟨h4,h5⟩:=QX.mp h3;simp only [QO,Vg] at h5;exact⟨h4,h5.2.2⟩
inductive mX(vs:List V)(H:Hp)(Q:VK):Prop
 | mk:∀(m a1 a2 a3 a4:Addr) (h:Ho) (a r:Str) (j:Nat),(vs=[.ref m,.str a,.str r,.int j])->(MAt H m a1 a2 a3 a4 h)->(cA h)->(Sz h 90)->(j < h.par.length)->(∀(t b1 b2:Addr) (H':Hp),aw H H'->H' t=some (.tup [.ref b1,.ref b2])->a6 bp H' b1 (bq h a r (bh h j)).1->H' b2=some (.lst (a8 (bq h a r (bh h j)).2))->Q (.ref t) H')->mX vs H Q
def lN:Sp:=λvs H Q _=>mX vs H Q
theorem kJ{h:Ho}(k:cA h){j:Nat}(hj:j < h.par.length):(bh h j).length<=h.par.length:=by
 obtain⟨l,hl⟩:=k.ups j hj;unfold bh;rw [hl.upL];exact QQ (qk _ _) hl.len
end GH
namespace GH
open PySem L2 G1
theorem zJ(x y:Int):decide (V.int x=V.int y)=decide (x=y):=by
 rw [Ua,Q4,Q4];exact⟨λz=>V.int.inj z,λz=>QW V.int z⟩
theorem j0(x y:Str):decide (V.str x=V.str y)=decide (x=y):=by
 rw [Ua,Q4,Q4];exact⟨λz=>V.str.inj z,λz=>QW V.str z⟩
open Classical in
theorem wV{ps:List (Str × Str)}{s:Str}{B:List (Str × Nat)}{t:Nat}(lv:Lev ps s B [] t)(x:Str):(bL (bkv B) (Sum.inr x:Key)).isSome=decide (Rch ps s x):=by
 by_cases h:Rch ps s x
 ·obtain⟨⟨y,n⟩,hy,rfl⟩:=Qg.mp ((Lev.rch lv x).mpr h);rw [eM lv.nd hy,Qh h];rfl
 ·rw [eL λz=>h ((Lev.rch lv x).mp z),Qp h];rfl
open Classical in
theorem mY(h:Ho)(a r:Str)(p:Nat){f:aD->Bool}(hf:∀ e,f e=(decide (e.2.2.1=r) && decide (Rch h.links a e.2.1))):(h.rules.filter λe=>decide (e.2.2.2=(p:Int))).filter f=aC h a r p:=by
 unfold aC;rw [List.filter_filter];apply List.filter_congr;intro e _;rw [hf,Bool.and_comm]
end GH
namespace L2
open PySem PyProof.Rows
def yg(A:Around)(s:Shared)(x y:Value)(b:Bool):Prop:=∀(prog:Program) (w:World) (E:Value->Shared->Prop) (Q:Value->Shared->Prop),Q (.bool b) s->wpAny (model prog w) A (richCompare .Lt x y) Q E s
inductive Lex(A:Around)(s:Shared):List Value->List Value->Bool->Prop
 | nil:Lex A s [] [] false
 | short {y:Value} {ys:List Value}:Lex A s [] (y :: ys) true
 | long {x:Value} {xs:List Value}:Lex A s (x :: xs) [] false
 | eq {x y:Value} {xs ys:List Value} {b:Bool}:SeqAt.EqAt A s x y true->Lex A s xs ys b->Lex A s (x :: xs) (y :: ys) b
 | lt {x y:Value} {xs ys:List Value} {b:Bool}:SeqAt.EqAt A s x y false->yg A s x y b->Lex A s (x :: xs) (y :: ys) b
theorem ot(l b:Addr)(xs ys:List Value)(n n2:Nat)(dd dd2:Option Addr)(sl sl2:Array (Option Value))(r:Bool) :
  Meets (Builtin.«tuple.__lt__» { pos:=[Value.ref l,Value.ref b] }) λA R s =>
    s.heap.get? l=some { cls:=Value.type "tuple",dict:=dd,data:=Data.seq xs.toArray n,slots:=sl } /\
     s.heap.get? b=some { cls:=Value.type "tuple",dict:=dd2,data:=Data.seq ys.toArray n2,slots:=sl2 }/\Lex A.in1 s xs ys r/\R (Except.ok (Flow.ret (Value.bool r))) s:=by
 refine Meets.of_wp λprog w A R s h=>?_;obtain⟨hl,hb,hx,h⟩:=h;refine Qa ?_;unfold slotArgs;refine Uu rfl (Uu rfl (Qd ?_));refine Qa ?_;unfold isInstance;refine Qa ?_;refine Qa (wpAny_loadPart' hb (Qd ?_));refine wpAny_of_eq AutoSeq1.sub_tuple_tuple ?_;refine Uu rfl ?_;refine Qa ?_;unfold Builtin.Tuple.tupleItemsOf;refine Qa ?_;unfold seqItems?;refine Qa (Ut hl (Qd (Qd ?_)));refine Qa (Qa (Qa (Ut hb (Qd (Qd ?_)))));refine Qa ?_;refine wpAny_forIn_list _ (λrest acc s'=>acc.1=none/\s'=s/\∃ vs ws,rest=vs.zip ws/\Lex A.in1 s vs ws r/\vs.length+ys.length=ws.length+xs.length) _ ?_ ?_ _ _ ?_
 ·rintro⟨x,y⟩ rest acc s' ⟨ha,rfl,vs,ws,hz,hx',hl'⟩
  match vs,ws,hz with
  | v :: vs,u :: ws,hz =>
   rw [Vw] at hz;obtain⟨h1,h2⟩:=List.cons.inj hz;obtain⟨rfl,rfl⟩:=Prod.mk.inj h1;refine Qa ?_;cases hx' with
   | eq he hr =>
    refine he _ _ _ _ ?_;refine Uu rfl (Qd ?_);exact⟨rfl,rfl,vs,ws,h2,hr,by simpa using (by simp only [QL] at hl';lia:vs.length+ys.length=ws.length+xs.length)⟩
   | lt he hlt =>
    refine he _ _ _ _ ?_;refine wpAny_ite_true rfl ?_;refine Qa (U2 (Qa (hlt _ _ _ _ (Qa (Qd (Qd ?_))))));exact Qd ⟨_,rfl,h⟩
 ·rintro acc s' ⟨ha,rfl,vs,ws,hz,hx',hl'⟩;have er:r=decide (xs.toArray.size < ys.toArray.size):=by
   rw [Qu,Qu];cases hx' with
   | nil=>exact(Qp (by simp at hl';lia)).symm
   | short=>exact(Qh (by simp at hl';lia)).symm
   | long=>exact(Qp (by simp at hl';lia)).symm
   | eq _ _=>cases hz
   | lt _ _=>cases hz
  rw [er] at h;obtain⟨o,u⟩:=acc;have ha:o=none:=ha;subst ha;exact Qd ⟨_,rfl,h⟩
 ·exact⟨rfl,rfl,xs,ys,by simp,hx,by lia⟩
theorem lO(l b:Addr)(n n2:Nat)(dd dd2:Option Addr)(sl sl2:Array (Option Value))(r:Bool):∀(vs ws p1 p2:List Value),p1.length=p2.length ->
  Meets (Builtin.«list.__eq__.loop» { pos:=[Value.ref l,Value.ref b,rawInt (p1.length:Int),rawInt 0] }) λA R s =>
    s.heap.get? l=some { cls:=Value.type "list",dict:=dd,data:=Data.seq (p1++vs).toArray n,slots:=sl } /\
     s.heap.get? b=some { cls:=Value.type "list",dict:=dd2,data:=Data.seq (p2++ws).toArray n2,slots:=sl2 }/\Lex A.in1 s vs ws r/\R (Except.ok (Flow.ret (Value.bool r))) s:=by
 intro vs
 induction vs with
 | nil =>
  intro ws p1 p2 hp prog w A R s h;obtain⟨hl,hb,hx,h⟩:=h;refine Qa (Qa (Qa (Ut hl (Qd (Qd ?_)))));refine Qa (Qa (Qa (Ut hb (Qd (Qd ?_)))));have e1:(p1++([]:List Value)).toArray[((p1.length:Nat):Int).toNat]?=none:=by simp
  rw [e1];refine Qa (Qa (Qa (Ut hl (Qd (Qd ?_)))));refine Qa (Qa (Qa (Ut hb (Qd (Qd ?_)))));have er:r=decide ((p1++([]:List Value)).toArray.size < (p2++ws).toArray.size):=by
   cases hx with
   | nil=>exact(Qp (by simp;lia)).symm
   | short=>exact(Qh (by simp;lia)).symm
  rw [er] at h;exact Qd h
 | cons x vs ih =>
  intro ws p1 p2 hp prog w A R s h;obtain⟨hl,hb,hx,h⟩:=h;refine Qa (Qa (Qa (Ut hl (Qd (Qd ?_)))));refine Qa (Qa (Qa (Ut hb (Qd (Qd ?_)))));have e1:(p1++(x :: vs)).toArray[((p1.length:Nat):Int).toNat]?=some x:=by simp
  rw [e1];cases ws with
  | nil =>
   have e2:(p2++([]:List Value)).toArray[((p1.length:Nat):Int).toNat]?=none:=by simp;lia
   rw [e2];refine Qa (Qa (Qa (Ut hl (Qd (Qd ?_)))));refine Qa (Qa (Qa (Ut hb (Qd (Qd ?_)))));have er:r=decide ((p1++(x :: vs)).toArray.size < (p2++([]:List Value)).toArray.size):=by
    cases hx with
    | long=>exact(Qp (by simp;lia)).symm
   rw [er] at h;exact Qd h
  | cons y ws =>
   have e2:(p2++(y :: ws)).toArray[((p1.length:Nat):Int).toNat]?=some y:=by rw [hp];simp
   rw [e2];refine Qa ?_;cases hx with
   | eq he hr =>
    refine he _ _ _ _ ?_;refine wpAny_ite_true rfl (Qd ?_);have hc:((p1.length:Nat):Int)+1=(((p1++[x]).length:Nat):Int):=by simp
    show _/\codeAny (model prog w) A (Code.builtin "list.__eq__.loop" { pos:=[Value.ref l,Value.ref b,rawInt (((p1.length:Nat):Int)+1),rawInt 0] }) R _;rw [hc];refine⟨plainId_quiet MeetsSeq3.plain_eq_loop _,codeAny_builtin MeetsSeq3.entry_eq_loop ?_⟩;rw [Around.under_plainId MeetsSeq3.plain_eq_loop];exact ih ws (p1++[x]) (p2++[y]) (by simp [hp]) prog w A R _ ⟨by rw [QV];exact hl,by rw [QV];exact hb,hr,h⟩
   | lt he hlt =>
    refine he _ _ _ _ ?_;refine Uu rfl ?_;refine Qa (Qa (Qa (Ut hl (Qd (Qd ?_)))));refine Qa (Qa (Qa (Ut hb (Qd (Qd ?_)))));rw [e1,e2];refine Qa (hlt _ _ _ _ (Qd h))
theorem qB(l b:Addr)(xs ys:List Value)(n n2:Nat)(dd dd2:Option Addr)(sl sl2:Array (Option Value))(r:Bool) :
  Meets (Builtin.«list.__lt__» { pos:=[Value.ref l,Value.ref b] }) λA R s =>
    s.heap.get? l=some { cls:=Value.type "list",dict:=dd,data:=Data.seq xs.toArray n,slots:=sl } /\
     s.heap.get? b=some { cls:=Value.type "list",dict:=dd2,data:=Data.seq ys.toArray n2,slots:=sl2 }/\Lex A.in1 s xs ys r/\R (Except.ok (Flow.ret (Value.bool r))) s:=by
 intro prog w A R s h;obtain⟨hl,hb,hx,h⟩:=h;refine Qa ?_;unfold slotArgs;refine Uu rfl (Uu rfl (Qd ?_));refine Qa ?_;unfold isInstance;refine Qa ?_;refine Qa (wpAny_loadPart' hb (Qd ?_));refine wpAny_of_eq AutoSeq1.sub_list_list ?_;refine Uu rfl ?_;refine Uu rfl (Qd ?_);refine⟨plainId_quiet MeetsSeq3.plain_eq_loop _,codeAny_builtin MeetsSeq3.entry_eq_loop ?_⟩;rw [Around.under_plainId MeetsSeq3.plain_eq_loop];exact lO l b n n2 dd dd2 sl sl2 r xs ys [] [] rfl prog w A R _ ⟨hl,hb,hx,h⟩
end L2
namespace L2
open PySem PySem.Spec PyProof.Rows
def gP(c:Addr)(qual:Str):HO:=.ext λh=>h.CodeRec (.ref c) qual
def mZ(f c cc:Addr)(qual:Str)(params:Arguments)(body:Expr)(scope:Scope)(xr:Str)(pm:Value):HO :=
 .ext λh=>∃ ctv,h.get? f=some (W.kla_obj "<lambda>" qual params body scope [(xr,cc)] pm c ctv)
def m6(P:Program)(w:World)(K:W.Frag)(mg:Str->Option Value)(base:Heap)(N:List Str)(qual:Str)(scope:Scope)(f:Addr)(cd:Value)(cl:List (Str × Addr))(A:Around)(outer:List Env)(s:Shared)(H:Hp):Cx where
 prog:=P
 w:=w
 K:=K
 mg:=mg
 base:=base
 A:=A.deeper (W.envX qual scope s.heap.objs.size f cd cl)
 N:=N
 s₀:=s
 H₀:=H
 env:=W.envX qual scope s.heap.objs.size f cd cl
 outer:=outer
 stack:=W.envX qual scope s.heap.objs.size f cd cl :: outer
 ex:=[]
 calm:=true
 fn:=λ_=>false
 pn:=[]
 xe:=λ_ _=>False
structure m7(x xr:Str)(sc:Scope):Prop where
 kind:sc.kind=.function
 co:sc.isCoroutine=false
 gen:sc.isGenerator=false
 par:sc.names.lookup x=some .local
 fre:sc.names.lookup xr=some .free
 nocell:∀ y∈sc.names,y.2≠.cell
 one:∀ q∈sc.names,q.2=.free->q.1=xr
 ne:x≠xr
theorem uS{P:Program}{w:World}{K:W.Frag}{mg:Str->Option Value}{base:Heap}{k:Nat}{A:Around}{outer:List Env}{s:Shared}{H:Hp}{Q:VK}{x xr qual:Str}{params:Arguments}{body:Expr}{scope:Scope}{pm:Value}
  {f c cc:Addr} {u ur:Value} {v vr:V} {tb:TE} (S:m7 x xr scope) (hr:bO k A) (e0:i9 P w K mg base A outer s H) (hf:H f=some (mZ f c cc qual params body scope xr pm)) (hc:H c=some (gP c qual))
  (hcell:s.heap.IsCell cc (some ur)) (hcf:H cc=none) (rv:aW v u) (rr:aW vr ur)
  (hbind:∀ ctv,bindArgs (W.kla_fn "<lambda>" qual params body scope [(xr,cc)] pm (.ref c) ctv) ⟨[u],[]⟩=pure [(x,u)])
  (hb:PE (m6 P w K mg base [x,xr] qual scope f (.ref c) [(xr,cc)] A outer s H) body tb) (q:tb [some v,some vr] H Q) :
  codeAny (model P w) A (.call (.ref f) ⟨[u],[]⟩) (λr s'=>match r with | .ok (.ret u)=>CE outer P w H s Q u s' | _=>False) s:=by
 obtain⟨⟨ctv,ho⟩,_,_⟩:=e0.hok f _ hf;obtain⟨hcd,_,_⟩:=e0.hok c _ hc;have lim:s.heap.NoLimit:=e0.mod.nolimit.keeps λb o e=>(e0.bs b o e).1;refine W.kla_callFunE hr.depth ho rfl S.co S.gen rfl hcd ?_;rw [hbind];refine Qd (wpAny_newFunctionEnv S.nocell (λy hy=>?_) (λh₁ hns hsb=>?_) S.kind)
 ·have:y=(x,u):=by simpa using hy
  subst this;exact S.par
 have hk₁:∀ b o,s.heap.get? b=some o->h₁.get? b=some o:=λb o e=>hsb.extBut b o (QP (QD e)) (Qm _ e);refine⟨lim.keeps hk₁,?_⟩;show codeAny _ _ (.expr body (W.envX qual scope s.heap.objs.size f (.ref c) [(xr,cc)])) _ _;have noA:∀ b:Addr,b ∉ (m6 P w K mg base [x,xr] qual scope f (.ref c) [(xr,cc)] A outer s H).ex:=λb z=>Qs (show b∈([]:List Addr) from z) (by simp);have lkc:∀ y d,([(xr,cc)]:List (Str × Addr)).lookup y=some d->y=xr/\d=cc:=λy d e=>by
  rw [UN] at e;cases h:y == xr with
  | true=>rw [h] at e;cases e;exact⟨QY h,rfl⟩
  | false=>rw [h] at e;cases e
 have lkx:([(xr,cc)]:List (Str × Addr)).lookup xr=some cc:=by rw [UN,UA]
 have I:Inv (m6 P w K mg base [x,xr] qual scope f (.ref c) [(xr,cc)] A outer s H) [] [some v,some vr] H { s with heap:=h₁,toks:=s.toks+1 }:=by
  refine⟨⟨e0.mod,S.kind,rfl,rfl,Qk _,λy z d h1 h2=>?_,λy hy=>?_,λy d h _=>?_,λ_=>hr.hd,Around.frames_deeper e0.frames,.inr ⟨rfl,rfl⟩,λb z=>Qs z (noA b),e0.bs,e0.bsz,λb _ _=>noA b,λb z=>Qs z (noA b),e0.funs,e0.frf⟩,
   rfl,e0.bare,Un.kept hk₁,⟨_,hns,λi y v' h1 h2 h3=>?_⟩,λy d h=>?_,e0.hok.fresh (Qk _),λy d h=>?_,λp hp=>Qs (show p∈([]:List (Addr × Obj)) from hp) (by simp),e0.hok.kept hk₁,rfl⟩
  ·exact(lkc y d h1).1.trans (lkc z d h2).1.symm
  ·have hy:scope.names.lookup y=some .cell\/scope.names.lookup y=some .free:=hy;rcases hy with hy | hy
   ·exact Qs rfl (S.nocell _ (PySem.mem_of_lookup hy))
   ·have e:y=xr:=S.one (y,.free) (PySem.mem_of_lookup hy) rfl;exact⟨cc,by rw [e];exact lkx⟩
  ·exact Qs (show false=true from h) Qj
  ·match i,h1,h2 with
   | 0,h1,h2 =>
    have h1:some x=some y:=h1;have h2:some (some v)=some (some v'):=h2;cases h1;cases h2;refine⟨u,rv,.inl ⟨S.par,?_⟩⟩;show([(x,u)]:List (Str × Value)).reverse.lookup x=_;rw [List.reverse_singleton,UN,UA]
   | 1,h1,h2 =>
    have h1:some xr=some y:=h1;have h2:some (some vr)=some (some v'):=h2;cases h1;cases h2;exact⟨ur,rr,.inr ⟨.inr S.fre,cc,lkx,hcell.keeps hk₁⟩⟩
   | i+2,h1,h2=>exact Qs h1 (by simp [m6])
  ·obtain⟨_,rfl⟩:=lkc y d h;exact⟨_,hcell.keeps hk₁⟩
  ·obtain⟨_,rfl⟩:=lkc y d h;exact hcf
 refine W.kla_codeExpr (Uk (hb [] _ _ H Q I q) (λu' s' h=>?_) λ_ _ hF=>hF.elim);obtain⟨v',H',J,r',q'⟩:=h;exact⟨v',H',J.os,J.bare,J.base,J.hok,r',q'⟩
end L2
namespace L2
open PySem PySem.Spec PyProof.Rows
def Tab(T:Addr)(qual:Str)(pos:Pos)(H:Hp):Prop :=
 H T=some (.tbl #[])\/∃ c,H T=some (.tbl #[rawInt pos.line,rawInt pos.col,.ref c])/\H c=some (gP c qual)
structure aV(H H':Hp):Prop where
 to:∀ b o,H b=some o->(∀ ps,o≠.tbl ps)->H' b=some o
 fr:∀ b,H' b=none->H b=none
instance {H H':Hp}:CoeFun (aV H H') (λ_=>∀ b o,H b=some o->(∀ ps,o≠.tbl ps)->H' b=some o):=⟨aV.to⟩
theorem aV.refl(H:Hp):aV H H:=⟨λ_ _ e _=>e,λ_ e=>e⟩
theorem aV.of{H H':Hp}(s:aw H H'):aV H H':=⟨λb o e _=>s b o e,λb e=>s.free e⟩
theorem aV.trans{H H1 H2:Hp}(a:aV H H1)(b:aV H1 H2):aV H H2:=⟨λc o e n=>b.to c o (a.to c o e n) n,λc e=>a.fr c (b.fr c e)⟩
theorem Tab.same{T:Addr}{qual:Str}{pos:Pos}{H H':Hp}(h:Tab T qual pos H)(s:aw H H'):Tab T qual pos H':=by
 rcases h with h | ⟨c,h,h2⟩
 ·exact .inl (s _ _ h)
 ·exact .inr ⟨c,s _ _ h,s _ _ h2⟩
def gQ(mg:Str->Option Value)(h:Heap):Prop:=∃ bm ob,mg "__builtins__"=some (.ref bm)/\bm≠builtinsNs/\h.get? bm=some ob/\ob.cls=.type "module"/\ob.dict=some builtinsNs/\ob.data=.plain
theorem uT{P:Program}{w:World}{H:Hp}{h:Heap}{c:Addr}{qual:Str}(r:h.CodeRec (.ref c) qual):bB P w H h c (gP c qual):=by
 refine⟨r,?_,λh1 h2 r1 k=>?_⟩
 ·obtain⟨c',oc,vs,tq,e,hoc,_⟩:=r;cases e;exact⟨oc,hoc⟩
 ·obtain⟨c',oc,vs,tq,e,hoc,q⟩:=r1;cases e;exact⟨c,oc,vs,tq,rfl,k _ hoc,q⟩
theorem sU{P:Program}{w:World}{H:Hp}{h:Heap}{f c cc:Addr}{qual:Str}{params:Arguments}{body:Expr}{scope:Scope}{xr:Str}{pm ctv:Value}
  (r:h.get? f=some (W.kla_obj "<lambda>" qual params body scope [(xr,cc)] pm c ctv)):bB P w H h f (mZ f c cc qual params body scope xr pm) :=
 ⟨⟨ctv,r⟩,⟨_,r⟩,λ_ _ ⟨z,e⟩ k=>⟨z,k _ e⟩⟩
section
variable{X:Cx} {pins:List (Addr × Obj)} {σ:St} {H:Hp} {s:Shared} {T c0 cc:Addr} {qual xr:Str} {params:Arguments} {body:Expr} {scope:Scope} {pos:Pos} {Q:Value->Shared->Prop} {E:Value->Shared->Prop}
theorem sV(I:Inv X pins σ H s)(hT:Tab T qual pos H)(hcode:X.env.code=.ref c0)(hd:W.codeHdIn X.K c0 T=true)(hb:gQ X.mg X.base)(hcl:closureFor scope X.env=pure [(xr,cc)])
  (hdef:defaultsOf params X.env=([],[])) (hq:X.env.qual++"<lambda>"=qual)
  (h:∀ f c H' s',Inv X pins σ H' s'->H' f=some (mZ f c cc qual params body scope xr ((X.mg "__name__").getD .none))->H' c=some (gP c qual)->aV H H'->Tab T qual pos H'->Q (.ref f) s') :
  wpAny (model X.prog X.w) X.A (eval (.Lambda params body scope pos) X.env) Q E s:=by
 refine W.kla_eval hdef ?_;rw [hq];obtain⟨bm,ob,b1,b2,b3,b4,b5,b6⟩:=hb;have hbm:=I.bs bm ob b3;have hgs:s.heap.Ns mainGlobals X.mg:=I.mod.glob.keeps I.bk;obtain⟨og,eg,pg,hog,hdg,_⟩:=id I.mod.glob;have hgf:=(I.bs _ _ hog).2;have CH:=W.codeHd_of_K I.kIn hd;have neT:∀{b:Addr},H b=none->b≠T:=λ{b} e z=>by
  rcases hT with q | ⟨c,q,_⟩
  ·rw [z,q] at e;cases e
  ·rw [z,q] at e;cases e
 have hbG:bm≠mainGlobals:=λq=>by
  rw [q,hog] at b3;cases b3;rw [hdg] at b6;cases b6
 have BA:s.heap.BuiltinsAt X.mg T:=⟨bm,ob,b1,b2,hbG,neT hbm.2,hbm.1,b4,b5,b6⟩;rcases hT with hT0 | ⟨c,hT1,hc1⟩
 ·have hP:s.heap.get? T=some (W.tabObj #[]):=I.hok T _ hT0;refine W.kla_makeFunction (mg:=X.mg) hcl I.ok.glob hgs hcode CH hP (by first | exact .nil | trivial | decide) rfl (neT hgf).symm.symm BA λc' ctv h' tk hx hge hlt hrec htb=>?_;have kT:∀ b o,b≠T->s.heap.get? b=some o->(h'.push (W.kla_obj "<lambda>" qual params body scope [(xr,cc)] ((X.mg "__name__").getD .none) c' ctv)).get? b=some o:=λb o n e=>Qm _ (hx b o n e);have szT:s.heap.objs.size<=h'.objs.size:=UV (Nat.lt_of_le_of_lt hge hlt);have nc:H c'=none:=I.hok.fresh hge;have nf:H h'.objs.size=none:=I.hok.fresh szT;have tc:T≠c':=QP (QK (QD hP) hge);have tf:T≠h'.objs.size:=QP (QK (QD hP) szT);have cf:c'≠h'.objs.size:=QP hlt;have htb':h'.get? T=some (W.tabObj #[rawInt pos.line,rawInt pos.col,.ref c']):=htb;have old:∀ b u,H b=some u->b≠T->upd (upd (upd H T (.tbl #[rawInt pos.line,rawInt pos.col,.ref c'])) c' (gP c' qual)) h'.objs.size (mZ h'.objs.size c' cc qual params body scope xr ((X.mg "__name__").getD .none)) b=some u:=λb u e n=>by
   rw [af (ao e nf),af (ao e nc),af n];exact e
  have atf:upd (upd (upd H T (.tbl #[rawInt pos.line,rawInt pos.col,.ref c'])) c' (gP c' qual)) h'.objs.size (mZ h'.objs.size c' cc qual params body scope xr ((X.mg "__name__").getD .none)) h'.objs.size=some (mZ h'.objs.size c' cc qual params body scope xr ((X.mg "__name__").getD .none)):=ae;have atc:upd (upd (upd H T (.tbl #[rawInt pos.line,rawInt pos.col,.ref c'])) c' (gP c' qual)) h'.objs.size (mZ h'.objs.size c' cc qual params body scope xr ((X.mg "__name__").getD .none)) c'=some (gP c' qual):=by rw [af cf,ae]
  have att:upd (upd (upd H T (.tbl #[rawInt pos.line,rawInt pos.col,.ref c'])) c' (gP c' qual)) h'.objs.size (mZ h'.objs.size c' cc qual params body scope xr ((X.mg "__name__").getD .none)) T=some (.tbl #[rawInt pos.line,rawInt pos.col,.ref c']):=by rw [af tf,af tc,ae]
  have ntT:∀{b:Addr} {o:HO},H b=some o->(∀ ps,o≠.tbl ps)->b≠T:=λ{b o} e n z=>by rw [z,hT0] at e;cases e;exact n _ rfl
  refine h _ c' _ _ (I.un (t':=tk) ⟨λb o e n hb _=>kT b o (neT n) e,λb o e n hb _=>⟨o.slots,kT b o (neT n) e⟩,λb o e n _=>?_,λb o e _=>?_,λb xs e=>old b _ e (ntT e λps z=>by cases z),λb o u e=>old b _ e (ntT e λps z=>by cases z),λb ps e=>?_⟩ λb u e=>?_) atf atc ⟨λb o e n=>old b o e (ntT e n),λb e=>?fr⟩ (.inr ⟨c',att,atc⟩)
  case fr =>
   cases q:H b with
   | none=>rfl
   | some u =>
    by_cases hb:b=T
    ·subst hb;rw [att] at e;cases e
    ·rw [old b u q hb] at e;cases e
  ·have hbs:=QD e;rw [af (QP (QK hbs szT)),af (QP (QK hbs hge)),af (neT n)];exact n
  ·by_cases hb:b=T
   ·subst hb;exact⟨_,Qm _ htb'⟩
   ·exact⟨o,kT b o hb e⟩
  ·by_cases hb:b=T
   ·subst hb;rw [hT0] at e;cases e;exact⟨#[rawInt pos.line,rawInt pos.col,.ref c'],by rw [att];simp⟩
   ·exact⟨#[],by rw [old b _ e hb];simp⟩
  ·by_cases h1:b=h'.objs.size
   ·subst h1;rw [atf] at e;cases e;exact sU (QE _ rfl)
   ·by_cases h2:b=c'
    ·subst h2;rw [atc] at e;cases e;exact uT (hrec.keeps λb o e=>Qm _ e)
    ·by_cases h3:b=T
     ·subst h3;rw [att] at e;cases e;exact Qm _ htb'
     ·rw [af h1,af h2,af h3] at e;refine(I.hok b u e).stay (λd v hd' q=>kT d v ?_ q) (λd q=>old d _ q (ntT q λps z=>by cases z)) λd xs q=>old d _ q (ntT q λps z=>by cases z);rcases hd' with z | z
      ·rw [z];exact h3
      ·exact ntT z λps z'=>by cases z'
 ·have hP:s.heap.get? T=some (W.tabObj #[rawInt pos.line,rawInt pos.col,.ref c]):=I.hok T _ hT1;refine W.kla_makeFunctionHit (mg:=X.mg) hcl I.ok.glob hgs hcode CH hP ?_ (cv:=.ref c) ?_ BA λctv h' tk hk hsz=>?_
  ·trivial
  ·show(if ((pos.line:Int) == pos.line && (pos.col:Int) == pos.col)=true then some (Value.ref c) else none)=_;simp
  have nf:H h'.objs.size=none:=I.hok.fresh hsz;refine h _ c _ _ (I.laid (t':=tk) (λb u e=>Qm _ (hk b u e)) hsz (sU (ctv:=ctv) (QE _ rfl))) ae (by rw [af (ao hc1 nf)];exact hc1) (aV.of (aw.new nf _)) ((show Tab T qual pos H from .inr ⟨c,hT1,hc1⟩).same (aw.new nf _))
end
section
variable{A:Around} {s:Shared}
theorem pM(hu:A.in1.units+64 < cLine):∀{xs ys:List Str} {us ws:List Value},xs.length=ys.length->aS (xs.map V.str) us->aS (ys.map V.str) ws->Lex A.in1 s us ws (G1.lex ltS xs ys)
 | [],[],_,_,_,.nil,.nil=>.nil
 | x :: xs,y :: ys,_,_,hl,.cons r1 t1,.cons r2 t2=>by
  obtain⟨t,rfl⟩:=r1;obtain⟨u,rfl⟩:=r2;have eq:SeqAt.EqAt A.in1 s (.str x t) (.str y u) (x == y):=λprog w E Q q=>eqBool_str q;rw [G1.lex];by_cases e:x=y
  ·subst e;rw [Qn rfl];rw [UA] at eq;exact .eq eq (pM hu (by simpa using hl) t1 t2)
  ·rw [Qf e];have eb:(x == y)=false:=by
    cases z:(x == y) with
    | false=>rfl
    | true=>exact Qs (QY z) e
   rw [eb] at eq;refine .lt eq λprog w E Q q=>?_;have q':Q (.bool (decide (x.cps.toList < y.cps.toList))) s:=by rw [<-ltCps_eq];exact q
   exact(lt_str (by exact q'):wpAny (model prog w) A.in1 (compareOp .Lt (.str x t) (.str y u)) Q E s)
end
section
variable{X:Cx} {pins:List (Addr × Obj)} {σ:St} {H:Hp} {s:Shared}
def slB(a b:List Str):Bool:=decide (a.length < b.length) || (decide (a.length=b.length) && G1.lex ltS a b)
theorem pN(a:List Str):slB a a=false:=by
 unfold slB;rw [G1.lex_irr G1.ordS];simp
theorem fK{a b:List Str}:slB a b=true ↔ G1.sl ltS a b:=by
 unfold slB G1.sl;simp
theorem uU{a b c:List Str}(h:slB c b=true)(h2:slB a b=false):slB a c=false:=by
 cases e:slB a c with
 | false=>rfl
 | true=>rw [fK.mpr (G1.sl_tr G1.ordS (fK.mp e) (fK.mp h))] at h2;cases h2
theorem m8(I:Inv X pins σ H s)(A:Around)(hu:A.units+100 < cLine){p q la lb:Addr}{a b:List Str}(hp:H p=some (.tup [.int (a.length:Int),.ref la]))(hq:H q=some (.tup [.int (b.length:Int),.ref lb]))
  (ha:SqL X.K H la (a.map V.str)) (hb:SqL X.K H lb (b.map V.str)):yg A s (.ref p) (.ref q) (slB a b):=by
 intro prog w E Q h;obtain⟨ip,rp,⟨⟨cls,dd,data,sl⟩,ho,hc,n,hd⟩,_⟩:=I.tuple (.inl (.inl hp));obtain⟨iq,rq,⟨⟨cls2,dd2,data2,sl2⟩,ho2,hc2,n2,hd2⟩,_⟩:=I.tuple (.inl (.inl hq));simp only at hc hd hc2 hd2;subst hc hd hc2 hd2;refine richCompare_meets_room (op:=.Lt) ⟨_,ho,rfl⟩ ⟨_,ho2,rfl⟩ PySem.F.slot_tuple_lt PySem.F.entry_tuple_lt (PySem.F.args_tuple_lt_2 _ _) (ot p q ip iq n n2 dd dd2 sl sl2 (slB a b))
  ⟨ho,ho2,?_,show Value.bool (slB a b)≠Value.notImplemented/\Q (.bool (slB a b)) s from⟨(λx=>nomatch x),h⟩⟩ (by lia)
 match ip,rp,iq,rq with
 | _,.cons r1 (.cons r2 .nil),_,.cons r3 (.cons r4 .nil) =>
  obtain⟨t,rfl⟩:=r1;obtain⟨u,rfl⟩:=r3;cases r2;cases r4;have eq:=W.keq_at (A:=A) (s:=s) (.int (a.length:Int) t) (.int (b.length:Int) u) (by simp [SeqAt.shaped,PyData.canLay0,PyData.depth]) (by simp [SeqAt.shaped,PyData.canLay0,PyData.depth]) (by show A.units+1+64 < cLine;lia);unfold slB;by_cases e:a.length=b.length
  ·have eb:(PyData.int (a.length:Int)).eqv (PyData.int (b.length:Int))=true:=by simp [PyData.eqv,e]
   rw [eb] at eq;rw [Qp (show ¬ a.length < b.length by lia),Qh e,Bool.false_or,Bool.true_and];refine .eq eq ?_;obtain⟨ia,ra,⟨⟨cls,dd,data,sl⟩,n,hoa,hc,hdd,hd⟩,_⟩:=I.list ha;obtain⟨ib,rb,⟨⟨cls2,dd2,data2,sl2⟩,n2,hob,hc2,hdd2,hd2⟩,_⟩:=I.list hb;simp only at hc hd hc2 hd2 hdd hdd2;subst hc hd hc2 hd2 hdd hdd2;by_cases el:la=lb
   ·subst el;have e2:=I.list_inj ha hb;have e3:a=b:=by
     have:=QW (List.map λv:V=>match v with | .str x=>x | _=>default) e2
     simpa [UK,Function.comp_def] using this
    subst e3;rw [G1.lex_irr G1.ordS];exact .eq (SeqAt.EqAt.same _) .nil
   have hlen:ia.length=ib.length:=by have:=ra.length;have:=rb.length;simp at *;lia
   have rc:SeqAt.RcAt A.in1 s (.ref la) (.ref lb) (decide (a=b)):=by
    have:=SeqAt.RcAt.lists (A:=A.in1) (s:=s) (e:=λj=>decide (a[j]?=b[j]?)) (hl:=⟨_,hoa,rfl,n,rfl⟩) (hb:=⟨_,hob,rfl,n2,rfl⟩) (by simpa using hlen) (by show A.units+1 < cLine;lia) ?_
    ·rwa [show((List.range ia.toArray.size).all λj=>decide (a[j]?=b[j]?))=decide (a=b) from ?_] at this;have la':ia.toArray.size=a.length:=by have:=ra.length;simp at *;lia
     rw [la'];by_cases z:a=b
     ·subst z;simp
     ·rw [Qp z];cases q:(List.range a.length).all λj=>decide (a[j]?=b[j]?) with
      | false=>rfl
      | true =>
       refine Qs (List.ext_getElem? λj=>?_) z;by_cases hj:j < a.length
       ·exact QI (U8.mp q j (U4.mpr hj))
       ·rw [List.getElem?_eq_none (by lia),List.getElem?_eq_none (by lia)]
    ·intro j h1 h2;have h1':j < ia.length:=by simpa using h1
     have h2':j < ib.length:=by simpa using h2
     have l1:=ra.length;have l2:=rb.length;simp only [Qc] at l1 l2;obtain⟨u1,e1,r1⟩:=ra.get (i:=j) (x:=V.str (a[j]'(by lia))) (by rw [Qq,Qe (by lia)];rfl);obtain⟨u2,e2,r2⟩:=rb.get (i:=j) (x:=V.str (b[j]'(by lia))) (by rw [Qq,Qe (by lia)];rfl);obtain⟨t1,rfl⟩:=r1;obtain⟨t2,rfl⟩:=r2;have g1:ia.toArray[j]=.str (a[j]'(by lia)) t1:=by
      rw [Qe h1'] at e1;simpa using e1
     have g2:ib.toArray[j]=.str (b[j]'(by lia)) t2:=by
      rw [Qe h2'] at e2;simpa using e2
     rw [g1,g2];have:decide (a[j]?=b[j]?)=((a[j]'(by lia)) == (b[j]'(by lia))):=by
      rw [Qe (by lia),Qe (by lia)];by_cases z:(a[j]'(by lia))=(b[j]'(by lia))
      ·rw [z];simp
      ·simp [z]
     rw [this];exact λprog w E Q q=>eqBool_str q
   have eqs:=SeqAt.EqAt.of_refs el rc;by_cases e3:a=b
   ·subst e3;rw [Qh rfl] at eqs;rw [G1.lex_irr G1.ordS];exact .eq eqs .nil
   ·rw [Qp e3] at eqs;refine .lt eqs λprog w E Q q=>?_;refine richCompare_meets_room (op:=.Lt) ⟨_,hoa,rfl⟩ ⟨_,hob,rfl⟩ PySem.F.slot_list_lt PySem.F.entry_list_lt (PySem.F.args_list_lt_2 _ _) (qB la lb ia ib n n2 _ _ _ _ (G1.lex ltS a b))
     ⟨hoa,hob,pM (by show A.units+1+1+64 < cLine;lia) e ra rb,show Value.bool (G1.lex ltS a b)≠Value.notImplemented/\Q (.bool (G1.lex ltS a b)) s from⟨(λx=>nomatch x),q⟩⟩ (by show A.units+1 < cLine;lia)
  ·have eb:(PyData.int (a.length:Int)).eqv (PyData.int (b.length:Int))=false:=by simp [PyData.eqv];lia
   rw [eb] at eq;rw [Qp e,Bool.false_and,Bool.or_false];refine .lt eq λprog w E Q q=>?_;exact HT.rcLt_int A.in1 s _ t _ u prog w E Q (by
    rw [show decide ((a.length:Int) < (b.length:Int))=decide (a.length < b.length) from by simp];exact q)
end
end L2
namespace L2
open PySem PySem.Spec PyProof.Rows
theorem SqL.sameT{K:W.Frag}{H H':Hp}{a:Addr}{xs:List V}(h:SqL K H a xs)(s:aV H H'):SqL K H' a xs:=by
 rcases h with(h | ⟨o,h⟩) | h
 ·exact .inl (.inl (s _ _ h λps z=>by cases z))
 ·exact .inl (.inr ⟨o,s _ _ h λps z=>by cases z⟩)
 ·exact .inr h
structure Rec(X:Cx)(pins:List (Addr × Obj))(H:Hp)(a:Addr):Prop where
 new:X.s₀.heap.objs.size<=a
 loc:a≠X.env.locals
 fs:a ∉ X.fs
 cel:∀ x c,X.env.cells.lookup x=some c->c≠a
 pin:∀ p∈X.pn++pins,p.1≠a
 free:H a=none
section
variable{X:Cx} {pins:List (Addr × Obj)} {σ:St} {H:Hp} {s:Shared} {l f it S:Addr} {xs:List V} {kf:Nat->List Str} {G:Hp->Prop} {R:Result->Shared->Prop}
theorem Inv.rec_new(I:Inv X pins σ H s){a:Addr}(h:s.heap.objs.size<=a):Rec X pins H a :=
 ⟨QQ I.sz h,Nat.ne_of_gt (QK I.lt h),I.nofs h,λx c e z=>by
  obtain⟨v,q⟩:=I.cell x c e;exact Qs (QK q.lt h) (by rw [z];exact Um _),λp hp z=>by
  have:=QD (I.pin p hp).1;rw [z] at this;exact Qs (QK this h) (Um _),I.hok.fresh h⟩
theorem Inv.rec_turned{h':Heap}{t':Nat}{a:Addr}(I:Inv X pins σ H s)(r:Rec X pins H a)(k:∀ b o,b≠a->s.heap.get? b=some o->h'.get? b=some o):Inv X pins σ H { s with heap:=h',toks:=t' } :=
 I.turned k r.free r.loc (.inr r.new) r.cel r.pin
theorem sW(hh:X.A.handled=none)(hu:X.A.units+120 < cLine)(hlI:l≠it)(hSI:S≠it)
  (hl:∀ H,G H->SqL X.K H l xs)
  (turn:∀(i:Nat) (x:V) (u:Value),xs[i]?=some x->aW x u->∀(pins':List (Addr × Obj)) (H:Hp) (s:Shared),Inv X pins' σ H s->G H ->
   wpAny (model X.prog X.w) X.A.in1 (call (.ref f) [u]) (λkv s'=>∃ H' p b,Inv X pins' σ H' s'/\kv=.ref p/\H' p=some (.tup [.int ((kf i).length:Int),.ref b])/\SqL X.K H' b ((kf i).map V.str)/\aV H H'/\G H') (λ_ _=>False) s)
  (hR:∀ i x u H' s',xs[i]?=some x->aW x u->(∀ j,j < xs.length->slB (kf j) (kf i)=false)->Inv X pins σ H' s'->G H'->R (.ok (.ret u)) s') :
  ∀(r j i:Nat) (H:Hp) (s:Shared) (ub:Value) (xb:V) (p b:Addr) (c:Nat),xs.length - (j+1)=r->j+1<=xs.length->Inv X pins σ H s->G H->Rec X pins H it->Rec X pins H S ->
   s.heap.get? S=some (seqObj "list" #[ub,.ref p] c)->s.heap.IsListIter it l (j+1)->xs[i]?=some xb->aW xb ub->H p=some (.tup [.int ((kf i).length:Int),.ref b])->SqL X.K H b ((kf i).map V.str)->i<=j ->
   (∀ j',j'<=j->slB (kf j') (kf i)=false) ->
   codeAny (model X.prog X.w) X.A (.builtin "min.loop" ⟨[.ref it,.ref f,.ref S],[]⟩) R s:=by
 have hname:(toString "min"++toString ".loop":String)="min.loop":=by decide
 intro r
 induction r with
 | zero =>
  intro j i H s ub xb p b c hr hj I g rI rS hS hit hxb rb hp hb hij hbest;obtain⟨its,hv,pl,hz⟩:=I.list (hl H g);have W:=Walks.list (prog:=X.prog) (w:=X.w) (A:=X.A.in1) hh it l hlI its.toArray;have hsz:its.toArray.size=its.length:=Qu ..;have hxl:xs.length=its.length:=hv.length;have hin:j+1=its.length:=by lia
  refine codeAny_builtin PySem.F.entry_min_loop ?_;rw [Around.under_plainId Uq _];show wpAny _ X.A.in1 (seqItems? (.ref S) >>= _) _ _ _;refine Qa (wpAny_seqItems hS rfl ?_);show wpAny _ X.A.in1 (tryCatch (pyNext (.ref it)) _ >>= _) _ _ _;refine Qa (Vf (W.done _ _ _ ⟨by rw [hsz,<-hin];exact hit,pl.isList⟩ λh' tk' hk'=>?_));have I1:Inv X pins σ H { s with heap:=h',toks:=tk' }:=I.rec_turned rI λb o n e=>hk' b o (by simpa using n) e;have hS':=hk' S _ (by simpa using hSI) hS;have s1:=Heap.SameBut.update h' S (Obj.mapSeq λ_=>(#[]:Array Value));show wpAny _ X.A.in1 (updateSeq S (λ_=>#[]) >>= _) _ _ _;refine Qa ?_;refine wpAny_updateSeq hS' rfl (Qa (wpAny_letGo (Qd ?_)));exact hR i xb ub H _ hxb rb (λj' hj'=>hbest j' (by lia)) (I1.rec_turned (t':=tk') rS λb o n e=>s1.extBut b o n e) g
 | succ r ih =>
  intro j i H s ub xb p b c hr hj I g rI rS hS hit hxb rb hp hb hij hbest;obtain⟨its,hv,pl,hz⟩:=I.list (hl H g);have W:=Walks.list (prog:=X.prog) (w:=X.w) (A:=X.A.in1) hh it l hlI its.toArray;have hsz:its.toArray.size=its.length:=Qu ..;have hxl:xs.length=its.length:=hv.length;have hlt:j+1 < xs.length:=by lia
  have hlt2:j+1 < its.length:=by lia
  refine codeAny_builtin PySem.F.entry_min_loop ?_;rw [Around.under_plainId Uq _];show wpAny _ X.A.in1 (seqItems? (.ref S) >>= _) _ _ _;refine Qa (wpAny_seqItems hS rfl ?_);show wpAny _ X.A.in1 (tryCatch (pyNext (.ref it)) _ >>= _) _ _ _;refine Qa (Vf (W.item (j+1) _ _ _ (by rw [hsz];exact hlt2) ⟨hit,pl.isList⟩ λv h' tk' hP hst' hk'=>?_));have hv':its[j+1]?=some v:=by simpa using hP
  have I1:Inv X pins σ H { s with heap:=h',toks:=tk' }:=I.rec_turned rI λb o n e=>hk' b o (by simpa using n) e;obtain⟨oI',hoI',hoc,hod⟩:=id hst'.1;have hS1:h'.get? S=some (seqObj "list" #[ub,.ref p] c):=hk' S _ (by simpa using hSI) hS;obtain⟨x,hx⟩:∃ x,xs[j+1]?=some x:=⟨_,Qe (by lia)⟩;obtain⟨v2,hv2,rx⟩:=hv.get hx;rw [hv'] at hv2;cases hv2;have pinsOk:∀ q∈(it,oI') :: (S,seqObj "list" #[ub,.ref p] c) :: pins,h'.get? q.1=some q.2/\H q.1=none/\q.1≠X.env.locals/\q.1 ∉ X.fs/\∀ v,q.2.data≠.cell v:=λq hq=>by
   rcases Qi.mp hq with rfl | hq
   ·exact⟨hoI',rI.free,rI.loc,rI.fs,λv z=>by rw [hod] at z;cases z⟩
   ·rcases Qi.mp hq with rfl | hq
    ·exact⟨hS1,rS.free,rS.loc,rS.fs,λv z=>by cases z⟩
    ·exact I1.pin q (Qy _ hq)
  have I2:=I1.pins_of pinsOk;show wpAny _ X.A.in1 (tryCatch (holding [v] (call (.ref f) [v])) _ >>= _) _ _ _;refine Qa (Vf (Uf (Uk (turn (j+1) x v hx rx _ H _ I2 g) (λkv s2 he=>?_) λ_ _ hF=>hF.elim)));obtain⟨H2,p2,b2,I3,rfl,hp2,hb2,sm,g2⟩:=he;have hp':H2 p=some (.tup [.int ((kf i).length:Int),.ref b]):=sm _ _ hp λps z=>by cases z
  have hb':=hb.sameT sm;have qI:=I3.pin (it,oI') (Qy _ (.head _));have qS:=I3.pin (S,seqObj "list" #[ub,.ref p] c) (Qy _ (.tail _ (.head _)));have I4:Inv X pins σ H2 s2:=I3.pins_of λq hq=>I3.pin q (Qy _ (.tail _ (.tail _ hq)));have rI2:Rec X pins H2 it:=⟨rI.new,rI.loc,rI.fs,rI.cel,rI.pin,qI.2.1⟩;have rS2:Rec X pins H2 S:=⟨rS.new,rS.loc,rS.fs,rS.cel,rS.pin,qS.2.1⟩;have hit2:s2.heap.IsListIter it l (j+1+1):=⟨oI',qI.1,hoc,hod⟩;show wpAny _ X.A.in1 (tryCatch (holding [v,.ref p2] (richCompare .Lt (.ref p2) (.ref p) >>= _)) _ >>= _) _ _ _;refine Qa (Vf (Uf (Qa (m8 I4 X.A.in1 (by show X.A.units+1+100 < cLine;lia) hp2 hp' hb2 hb' X.prog X.w _ _ ?_))));refine Qa (Uf (UD ?_));refine Qa (wpAny_letGo (Qd ?_));cases hlt':slB (kf (j+1)) (kf i) with
  | true =>
   have s1:=Heap.SameBut.update s2.heap S (Obj.mapSeq λ_=>#[v,.ref p2]);obtain⟨c2,hc2⟩:∃ c2,(s2.heap.update S (Obj.mapSeq λ_=>#[v,.ref p2])).get? S=some (seqObj "list" #[v,.ref p2] c2):=⟨_,get?_update_seq qS.1 λ_=>#[v,.ref p2]⟩;simp only [if_true];refine Qa ?_;refine wpAny_updateSeq qS.1 rfl (Qa (wpAny_letGo ?_));rw [hname];refine Qd ⟨plainId_quiet Uq _,ih (j+1) (j+1) H2 _ v x p2 b2 c2 (by lia) hlt (I4.rec_turned (t':=s2.toks) rS2 λb o n e=>s1.extBut b o n e) g2 rI2 rS2 hc2 ⟨oI',(s1.2 it hSI.symm).trans qI.1,hoc,hod⟩ hx rx hp2 hb2 (Qk _) λj' hj'=>?_⟩;by_cases e:j'=j+1
   ·subst e;exact pN _
   ·exact uU hlt' (hbest j' (by lia))
  | false =>
   simp only [Ui,if_false];refine Qa (wpAny_letGo ?_);rw [hname];refine Qd ⟨plainId_quiet Uq _,ih (j+1) i H2 s2 ub xb p b c (by lia) hlt I4 g2 rI2 rS2 qS.1 hit2 hxb rb hp' hb' (by lia) λj' hj'=>?_⟩;by_cases e:j'=j+1
   ·subst e;exact hlt'
   ·exact hbest j' (by lia)
end
end L2
namespace L2
open PySem PySem.Spec PyProof.Rows
inductive lP(K:W.Frag)(T:Addr)(qual:Str)(pos:Pos)(j:Nat)(tb:TE)(σ:St)(x0:V)(H:Hp)(Q:VK):Prop
 | mk:∀ a xs vr (kf:V->List Str),x0=.ref a->σ[j]?=some (some vr)->SqL K H a xs->xs≠[]->Tab T qual pos H ->
   (∀ x∈xs,∀ H1,aV H H1->tb [some x,some vr] H1 λv H2=>∃ p b,v=.ref p/\H2 p=some (.tup [.int ((kf x).length:Int),.ref b])/\SqL K H2 b ((kf x).map V.str)/\aw H1 H2) ->
   (∀ x H1,x∈xs->(∀ y∈xs,slB (kf y) (kf x)=false)->aV H H1->Tab T qual pos H1->Q x H1)->lP K T qual pos j tb σ x0 H Q
def uV(K:W.Frag)(T:Addr)(qual:Str)(pos:Pos)(j:Nat)(tb ta:TE):TE:=λσ H Q=>ta σ H λx0 H1=>lP K T qual pos j tb σ x0 H1 Q
section
variable{X:Cx} {k:Nat} {T c0 cc:Addr} {qual x xr:Str} {params:Arguments} {body e:Expr} {scope:Scope} {lpos pos p kp:Pos} {j:Nat} {ta tb:TE}
theorem qC(hc:X.calm=true)(hr:bO (k+1) X.A)(hg:Gl X "min")(hm:X.mg "min"=none)(ha:PE X e ta)(hN:X.N[j]?=some xr)(hk:X.env.kindOf xr=some .cell)(hcc:X.env.cells.lookup xr=some cc)
  (hcode:X.env.code=.ref c0) (hd:PySem.W.codeHdIn X.K c0 T=true) (hbm:gQ X.mg X.base) (hcl:closureFor scope X.env=pure [(xr,cc)]) (hdef:defaultsOf params X.env=([],[])) (hq:X.env.qual++"<lambda>"=qual) (S:m7 x xr scope)
  (hbind:∀ c ctv pm u,bindArgs (PySem.W.kla_fn "<lambda>" qual params body scope [(xr,cc)] pm (.ref c) ctv) ⟨[u],[]⟩=pure [(x,u)])
  (hb:∀ f c s H,PE (m6 X.prog X.w X.K X.mg X.base [x,xr] qual scope f (.ref c) [(xr,cc)] X.A.in1 X.stack s H) body tb)
  (hst:lh e=true) (he:backTo pos (starEach [e] X.env)=(false,eval e X.env) :: backTo pos (starEach [] X.env):=by rfl)
  (hplain:(backTo pos (starEach [e] X.env)).any (·.1)=false:=by rfl) :
  PE X (.Call (.Name "min" p) [e] [⟨some "key",.Lambda params body scope lpos,kp⟩] pos) (uV X.K T qual lpos j tb ta):=by
 intro pins s σ H Q I h;refine UU (iY I hg hm (u:=.builtin "min") (by rfl) ?_ (by decide) (by decide));refine callWith_kw (thn (aa hst ha ai pos pins s σ H (λvs H1=>match vs with | [x0]=>lP X.K T qual lpos j tb σ x0 H1 Q | _=>False) I h) λus s1 ⟨vs,H1,I1,r1,q1⟩=>?_) he hplain
 match vs,q1 with
 | [x0],q1 =>
 obtain⟨u0,rfl,r0⟩:=fO r1;obtain⟨a,xs,vr,kf,rfl,hvr,hxs,hne,hT,hkey,hfin⟩:=q1;cases r0;show wpAny _ _ (evalAll ((do let v <-eval (.Lambda params body scope lpos) X.env;standAt pos;pure v) :: [])) _ _ s1;refine wpAny_evalAll_cons (Qa (sV I1 hT hcode hd hbm hcl hdef hq λf c H2 s2 I2 hf hcO sm2 hT2=>Qa (wpAny_standAt (Qd ?_))));refine wpAny_evalAll_nil ?_;show wpAny _ _ (call (.builtin "min") [.ref a] [(Str.ofString "key",.ref f)]) _ _ s2;have hxs2:=hxs.sameT sm2;obtain⟨its,rv,pl,hz⟩:=I2.list hxs2;have hh:=I.ok.hd hc;have hname:(toString "min"++toString ".loop":String)="min.loop":=by decide
 have hlt:a < s2.heap.objs.size:=by obtain⟨o,n,e,_⟩:=pl;exact QD e
 have hlen:=rv.length;have hn0:0 < its.length:=by rw [<-hlen];exact Va.mpr hne
 have hsz:its.toArray.size=its.length:=Qu ..;have turn:∀(i:Nat) (x':V) (u:Value),xs[i]?=some x'->aW x' u->∀(pins':List (Addr × Obj)) (H':Hp) (s':Shared),Inv X pins' σ H' s'->(aV H2 H'/\Tab T qual lpos H') ->
   wpAny (model X.prog X.w) X.A.in1 (call (.ref f) [u]) (λkv s''=>∃ H'' p b,Inv X pins' σ H'' s''/\kv=.ref p/\H'' p=some (.tup [.int ((((λi=>kf (xs.getD i .non)) i)).length:Int),.ref b])/\SqL X.K H'' b (((λi=>kf (xs.getD i .non)) i).map V.str)/\aV H' H''/\(aV H2 H''/\Tab T qual lpos H'')) (λ_ _=>False) s':=by
  intro i x' u hx rx pins' H' s' I' g;have ex:xs.getD i .non=x':=by simp [List.getD,hx]
  obtain⟨m,hn,hlk⟩:=I'.loc;obtain⟨ur,rr,lk⟩:=hlk j xr vr hN hvr (.inr (.inl hk));have hcell:s'.heap.IsCell cc (some ur):=by
   rcases lk with⟨z,_⟩ | ⟨_,c',e',z⟩
   ·rw [hk] at z;cases z
   ·rw [hcc] at e';cases e';exact z
  refine wpAny_call (codeAny_mono (uS (k:=k) S hr.in1 I'.env0.in1 (g.1 _ _ hf λps z=>by cases z) (g.1 _ _ hcO λps z=>by cases z) hcell (I'.freeC xr cc hcc) rx rr (λctv=>hbind c ctv _ u) (hb f c s' H')
   (hkey x' (QC hx) H' (sm2.trans g.1))) λr s'' hq'=>?_)
  cases r with
  | error e=>exact False.elim hq'
  | ok fl =>
   cases fl with
   | ret u' =>
    obtain⟨v,H'',I'',rv',p',b',ev,h1,h2,h3⟩:=I'.after hq';subst ev;cases rv';refine⟨H'',p',b',I'',rfl,?_,?_,aV.of h3,g.1.trans (aV.of h3),g.2.same h3⟩
    ·show H'' p'=some (.tup [.int ((kf (xs.getD i .non)).length:Int),.ref b']);rw [ex];exact h1
    ·show SqL X.K H'' b' ((kf (xs.getD i .non)).map V.str);rw [ex];exact h2
   | next=>exact False.elim hq'
   | brk=>exact False.elim hq'
   | cont=>exact False.elim hq'
 refine kmk_tree PySem.F.kind_min PySem.F.plain_min PySem.F.entry_min (kmk_min_key _ _) ?_;show wpAny _ X.A.in1 (Builtin.Builtins.bindParams "min" ["key","default"] 0 ⟨[],[(Str.ofString "key",.ref f)]⟩ >>= _) _ _ s2;refine Qa (wpAny_of_eq (show Builtin.Builtins.bindParams "min" ["key","default"] 0 ⟨[],[(Str.ofString "key",.ref f)]⟩=pure [some (.ref f),none] from rfl) ?_);refine Qa (Qd ?_);refine Qa (wpAny_pyIter_list pl.isList ?_);refine Qa (Vn ?_ (Uh _));rw [hname];have hI:Inv X pins σ H2 { s2 with heap:=(s2.heap.push { cls:=.type "list_iterator",data:=.fields #[.ref a,.int 0 0] }).push (seqObj "list" #[] 0) } :=
  I2.kept (t':=s2.toks) λb u e=>Qm _ (Qm _ e)
 have eS:(s2.heap.push { cls:=.type "list_iterator",data:=.fields #[.ref a,.int 0 0] }).objs.size=s2.heap.objs.size+1:=size_push' ..;have rI0:Rec X pins H2 s2.heap.objs.size:=I2.rec_new (Qk _);have rS0:Rec X pins H2 (s2.heap.push { cls:=.type "list_iterator",data:=.fields #[.ref a,.int 0 0] }).objs.size:=I2.rec_new (by rw [eS];lia);have hlI:a≠s2.heap.objs.size:=QP hlt;have hSI:(s2.heap.push { cls:=.type "list_iterator",data:=.fields #[.ref a,.int 0 0] }).objs.size≠s2.heap.objs.size:=by rw [eS];lia
 generalize hSg:(s2.heap.push { cls:=.type "list_iterator",data:=.fields #[.ref a,.int 0 0] }).objs.size=S0 at *;have gI:((s2.heap.push { cls:=.type "list_iterator",data:=.fields #[.ref a,.int 0 0] }).push (seqObj "list" #[] 0)).get? s2.heap.objs.size=some { cls:=.type "list_iterator",data:=.fields #[.ref a,.int 0 0] } :=
  Qm _ (QE _ rfl)
 have gS:((s2.heap.push { cls:=.type "list_iterator",data:=.fields #[.ref a,.int 0 0] }).push (seqObj "list" #[] 0)).get? S0=some (seqObj "list" #[] 0):=by
  rw [<-hSg];exact QE _ rfl
 refine Qd ⟨plainId_quiet Uq _,?_⟩;have W:=Walks.list (prog:=X.prog) (w:=X.w) (A:=X.A.in1) hh s2.heap.objs.size a hlI its.toArray;refine codeAny_builtin PySem.F.entry_min_loop ?_;rw [Around.under_plainId Uq _];show wpAny _ X.A.in1 (seqItems? (.ref _) >>= _) _ _ _;refine Qa (wpAny_seqItems gS rfl ?_);show wpAny _ X.A.in1 (tryCatch (pyNext (.ref s2.heap.objs.size)) _ >>= _) _ _ _;refine Qa (Vf (W.item 0 _ _ _ (by rw [hsz];exact hn0) ⟨⟨_,gI,rfl,rfl⟩,(pl.isList.push _).push _⟩ λv h' tk' hP hst' hk'=>?_));have hv':its[0]?=some v:=by simpa using hP
 have J1:Inv X pins σ H2 { s2 with heap:=h',toks:=tk' }:=hI.rec_turned rI0 λb o n e=>hk' b o (by simpa using n) e;obtain⟨oI',hoI',hoc,hod⟩:=id hst'.1;have hS1:h'.get? S0=some (seqObj "list" #[] 0):=hk' S0 _ (by simpa using hSI) gS;obtain⟨x1,hx⟩:∃ x1,xs[0]?=some x1:=⟨_,Qe (by lia)⟩;obtain⟨v2,hv2,rx⟩:=rv.get hx;rw [hv'] at hv2;cases hv2;have pinsOk:∀ q∈(s2.heap.objs.size,oI') :: (S0,seqObj "list" #[] 0) :: pins,h'.get? q.1=some q.2/\H2 q.1=none/\q.1≠X.env.locals/\q.1 ∉ X.fs/\∀ v,q.2.data≠.cell v:=λq hq=>by
  rcases Qi.mp hq with rfl | hq
  ·exact⟨hoI',rI0.free,rI0.loc,rI0.fs,λv z=>by rw [hod] at z;cases z⟩
  ·rcases Qi.mp hq with rfl | hq
   ·exact⟨hS1,rS0.free,rS0.loc,rS0.fs,λv z=>by cases z⟩
   ·exact J1.pin q (Qy _ hq)
 have J2:=J1.pins_of pinsOk;show wpAny _ X.A.in1 (tryCatch (holding [v] (call (.ref f) [v])) _ >>= _) _ _ _;refine Qa (Vf (Uf (Uk (turn 0 x1 v hx rx _ H2 _ J2 ⟨aV.refl _,hT2⟩) (λkv s3 hE=>?_) λ_ _ hF=>hF.elim)));obtain⟨H3,p3,b3,J3,rfl,hp3,hb3,sm3,g3⟩:=hE;have qI:=J3.pin (s2.heap.objs.size,oI') (Qy _ (.head _));have qS:=J3.pin (S0,seqObj "list" #[] 0) (Qy _ (.tail _ (.head _)));have J4:Inv X pins σ H3 s3:=J3.pins_of λq hq=>J3.pin q (Qy _ (.tail _ (.tail _ hq)));have rI3:Rec X pins H3 s2.heap.objs.size:=⟨rI0.new,rI0.loc,rI0.fs,rI0.cel,rI0.pin,qI.2.1⟩;have rS3:Rec X pins H3 S0:=⟨rS0.new,rS0.loc,rS0.fs,rS0.cel,rS0.pin,qS.2.1⟩;have s1:=Heap.SameBut.update s3.heap S0 (Obj.mapSeq λ_=>#[v,.ref p3]);obtain⟨c2,hc2⟩:∃ c2,(s3.heap.update S0 (Obj.mapSeq λ_=>#[v,.ref p3])).get? S0=some (seqObj "list" #[v,.ref p3] c2):=⟨_,get?_update_seq qS.1 λ_=>#[v,.ref p3]⟩;show wpAny _ X.A.in1 (updateSeq S0 (λ_=>#[v,.ref p3]) >>= _) _ _ _;refine Qa ?_;refine wpAny_updateSeq qS.1 rfl ?_;rw [hname];refine Qd ⟨plainId_quiet Uq _,sW (X:=X) (pins:=pins) (σ:=σ) (l:=a) (f:=f) (xs:=xs) (kf:=λi=>kf (xs.getD i .non)) (G:=λH'=>aV H2 H'/\Tab T qual lpos H') hh (by have:=hr.un;lia) hlI hSI
  (λH' g=>hxs2.sameT g.1) turn (λi x' u H' s' hx' rx' hmin J' g'=>?_) _ 0 0 H3 _ v x1 p3 b3 c2 rfl (by lia) (J4.rec_turned (t':=s3.toks) rS3 λb o n e=>s1.extBut b o n e) g3 rI3 rS3 hc2 ⟨oI',(s1.2 _ hSI.symm).trans qI.1,hoc,hod⟩ hx rx hp3 hb3 (Qk _) λj' hj'=>?_⟩
 ·refine⟨x',H',J',rx',hfin x' H' (QC hx') (λy hy=>?_) (sm2.trans g'.1) g'.2⟩;obtain⟨j',hj',ey⟩:=List.getElem_of_mem hy;have:=hmin j' hj';have e1:xs.getD j' .non=y:=by rw [<-ey];simp [List.getD,Qe hj']
  have e2:xs.getD i .non=x':=by simp [List.getD,hx']
  simp only [e1,e2] at this;exact this
 ·have e:j'=0:=by lia
  subst e;exact pN _
end
end L2
namespace L2
open PySem PySem.Spec PyProof.Rows
theorem qD{T c0:Addr}{P:Program}{w:World}{K:W.Frag}{mg mb:Str->Option Value}{CX:CXT}{k:Nat}{fa a:Addr}{fd:FuncData}{x:Str}{sp:Sp}{s₁:Shared}{vs:List Value}{ns:List Int}
  (hP:s₁.heap.get? T=some (W.tabObj #[])) (hcd:W.codeHdIn K c0 T=true) (hKT:W.noTabs K=true) (hbm:gQ mg s₁.heap) (KX:K.In s₁.heap) (hns:s₁.heap.Ns mainGlobals mg) (hb:s₁.heap.Ns builtinsNs mb) (hbb:∀ x:Str,x≠"__name__"->mb x=bootBuiltins x) (hlim:s₁.heap.NoLimit) (hg:s₁.gens=#[])
  (ha:s₁.heap.get? a=some { cls:=.type "list",data:=.seq vs.toArray }) (hi:IntsAre vs ns) (hl:ns.length<=sizeLine) (hr:bO k callerA)
  (F:∀ base:Heap,K.In base->base.Ns mainGlobals mg->gQ mg base->aF P w K mg base CX k fa fd [x] sp) (hbind:∀(s:Shared) (u:Value),BindsTo s fd ⟨[u],[]⟩ [(x,u)])
  (hsp:∀ H:Hp,H T=some (.tbl #[])->SqL K H a (ns.map V.int)->sp [.ref a] H (λv _=>v=.bl true) λ_ _ _=>False)
  (hCX:∀ H e s',CX [] H s₁ (λ_ _ _=>False) e s'->False) :
  codeAny (model P w) callerA (.call (.ref fa) ⟨[.ref a],[]⟩) (λr s'=>r=.ok (.ret (.bool true))/\OldK s₁.heap s'.heap/\s'.os=s₁.os/\AllBare s'.gens) s₁:=by
 have rv:=ke hi;have noTab:∀{o:Obj},K.lookup T=some o->False:=λ{o} e=>by
  have e2:=KX T o e;rw [hP] at e2;cases e2;exact Qs (show false=true from U8.mp hKT _ (W.mem_of_lookupK e)) Qj
 have lenV:=hi.length;have core:∀ H:Hp,H T=some (.tbl #[])->(∀ b,H b=none\/(∃ o xs,H b=some (.frz o (.lst xs)))\/b=T)->SqL K H a (ns.map V.int)->HOk P w H s₁.heap->(∀ b,H b≠none->b=a\/b=T)->(H a≠none->K.lookup a=none) ->
   codeAny (model P w) callerA (.call (.ref fa) ⟨[.ref a],[]⟩) (λr s'=>r=.ok (.ret (.bool true))/\OldK s₁.heap s'.heap/\s'.os=s₁.os/\AllBare s'.gens) s₁:=by
  intro H hTt hO hS hok hA hK;have base_of:∀{b:Addr} {o:Obj},s₁.heap.get? b=some o->H b=none->(jS s₁.heap H).get? b=some o:=λe n=>qH e n;have noA:∀{b:Addr} {o:Obj} {es:Array DictEntry} {ep:Nat},s₁.heap.get? b=some o->o.data=.dict es ep->H b=none:=λ{b o es ep} e d=>by
   cases q:H b with
   | none=>rfl
   | some u =>
    rcases hA b (by rw [q];simp) with e' | e'
    ·subst e';rw [ha] at e;cases e;cases (show Data.seq vs.toArray _=Data.dict es ep from d)
    ·subst e';rw [hP] at e;cases e;cases d
  have nsK:∀{b:Addr} {m:Str->Option Value},s₁.heap.Ns b m->(jS s₁.heap H).Ns b m:=λ{b m} ⟨o,es,ep,e,d,r⟩=>⟨o,es,ep,base_of e (noA e d),d,r⟩;have hKb:K.In (jS s₁.heap H):=λb o e=>base_of (KX b o e) (by
   cases q:H b with
   | none=>rfl
   | some u =>
    rcases hA b (by rw [q];simp) with e' | e'
    ·subst e';rw [hK (by rw [q];simp)] at e;cases e
    ·subst e';exact(noTab e).elim)
  have hbmB:gQ mg (jS s₁.heap H):=by
   obtain⟨bm,ob,b1,b2,b3,b4,b5,b6⟩:=hbm;refine⟨bm,ob,b1,b2,base_of b3 ?_,b4,b5,b6⟩;cases q:H bm with
   | none=>rfl
   | some u =>
    rcases hA bm (by rw [q];simp) with e' | e'
    ·subst e';rw [ha] at b3;cases b3;cases b6
    ·subst e';rw [hP] at b3;cases b3;cases b6
  have hM:Mod K mg (jS s₁.heap H):=⟨hKb,nsK hns,⟨mb,nsK hb,hbb⟩,let ⟨mc,h1,h2⟩:=hlim;⟨mc,nsK h1,h2⟩⟩;have e0:i9 P w K mg (jS s₁.heap H) callerA [] s₁ H:=⟨rfl,hM,λb o e=>ue e,Us (p5 _ _),trivial,λb hb=>Qs (show b∈([]:List Addr) from hb) (by simp),hok,.of_eq hg⟩;refine codeAny_mono ((F _ hKb (nsK hns) hbmB).run callerA [] s₁ H ⟨[.ref a],[]⟩ [.ref a] [.ref a] _ _ hr e0 (hbind s₁ (.ref a)) (.cons rfl .nil) (hsp H hTt hS)) λr s' h=>?_;cases r with
  | error e=>exact(hCX H e s' h).elim
  | ok fl =>
   cases fl with
   | next=>exact False.elim h
   | brk=>exact False.elim h
   | cont=>exact False.elim h
   | ret u =>
    obtain⟨v,H',os,bare,un,hok',r',q⟩:=h;have q':v=.bl true:=q;subst q';obtain rfl:u=Value.bool true:=r';refine⟨rfl,⟨λb o e=>?_,λb o e=>un.there b o e (by simp)⟩,os,bare⟩;by_cases hbT:b=T
    ·subst hbT;rw [hP] at e;cases e;obtain⟨more,hm⟩:=un.tbls b #[] hTt;have hm':=hok' b _ hm;exact .inr (.inl ⟨(W.CodeHd.tab (W.codeHd_of_K KX hcd) hP).isCodeTable,rfl,#[],more,rfl,hm'⟩)
    refine .inl ?_;cases q:H b with
    | none=>exact un.keep b o e q (by intro z;exact Qs (show b∈([]:List Addr) from z) (by simp)) (by simp)
    | some u =>
     rcases hO b with z | ⟨ob,xs,z⟩ | z
     ·rw [q] at z;cases z
     ·have z2:=un.frzs b ob _ z;obtain⟨e1,_⟩:=hok b _ z;obtain⟨e2,_⟩:=hok' b _ z2;rw [e] at e1;cases e1;exact e2
     ·exact(hbT z).elim
 have hTa:T≠a:=λz=>by rw [z,ha] at hP;cases hP
 cases hk:K.lookup a with
 | some o =>
  have e:=KX a o hk;rw [ha] at e;cases e;refine core (λb=>if b=T then some (.tbl #[]) else none) (Qn rfl) (λb=>?_) (.inr ⟨_,vs.toArray,_,hk,rfl,rfl,rfl,by rw [Qu,lenV];exact hl,by simpa using rv⟩) (λb u z=>?_) (λb z=>?_) λz=>Qs (Qf hTa.symm) z
  ·by_cases hb:b=T
   ·exact .inr (.inr hb)
   ·exact .inl (Qf hb)
  ·by_cases hb:b=T
   ·have z':=(Qn hb).symm.trans z;cases z';subst hb;exact hP
   ·have z':=(Qf hb).symm.trans z;cases z'
  ·by_cases hb:b=T
   ·exact .inr hb
   ·exact Qs (Qf hb) z
 | none =>
  refine core (λb=>if b=a then some (.frz { cls:=.type "list",data:=.seq vs.toArray } (.lst (ns.map V.int))) else if b=T then some (.tbl #[]) else none) ((Qf hTa).trans (Qn rfl)) (λb=>?_) (.inl (.inr ⟨{ cls:=.type "list",data:=.seq vs.toArray },Qn rfl⟩)) (λb u z=>?_) (λb z=>?_) λ_=>hk
  ·by_cases hb:b=a
   ·exact .inr (.inl ⟨_,_,Qn hb⟩)
   ·by_cases hb':b=T
    ·exact .inr (.inr hb')
    ·exact .inl ((Qf hb).trans (Qf hb'))
  ·by_cases hb:b=a
   ·have z':=(Qn hb).symm.trans z;cases z';subst hb;exact⟨ha,by rw [Qc];exact hl,vs,_,rv,ha⟩
   ·have z1:=(Qf hb).symm.trans z;by_cases hb':b=T
    ·have z':=(Qn hb').symm.trans z1;cases z';subst hb';exact hP
    ·have z':=(Qf hb').symm.trans z1;cases z'
  ·by_cases hb:b=a
   ·exact .inl hb
   ·by_cases hb':b=T
    ·exact .inr hb'
    ·exact Qs ((Qf hb).trans (Qf hb')) z
theorem walk_ofT{T:Addr}{l:W.OpenLaw}{n k:Nat}{q:Program}{loose:List Str}{XP:(Str->Option Value)->Heap->Prop}{YP:World->Heap->Prop}{d:DefRec}{K:Params->W.Frag}{CX:World->CXT}{sp:World->Sp}{x:Str}
  (hn:l.most=some n) (hn2:n<=sizeLine) (hdf:d.params.defaults=[]) (hr:bO k callerA)
  (hY:∀(w:World) (h:Heap),YP w h->(K w.params).In h) (hY2:∀(w:World) (h:Heap),YP w h->h.get? T=some (W.tabObj #[]))
  (F:∀(w:World) (mg:Str->Option Value) (fa:Addr) (h:Heap),(K w.params).In h->h.Ns mainGlobals mg->mg d.name=some (.ref fa) ->
   ∃(fd:FuncData) (c0:Addr),W.codeHdIn (K w.params) c0 T=true/\W.noTabs (K w.params)=true/\(∀(s:Shared) (u:Value),BindsTo s fd ⟨[u],[]⟩ [(x,u)]) /\
    ∀ base:Heap,(K w.params).In base->base.Ns mainGlobals mg->gQ mg base->aF l.prog w (K w.params) mg base (CX w) k fa fd [x] (sp w))
  (hsp:∀(w:World) (H:Hp) (a:Addr) (ns:List Int),ns.length<=n->H T=some (.tbl #[])->SqL (K w.params) H a (ns.map V.int)->sp w [.ref a] H (λv _=>v=.bl true) λ_ _ _=>False)
  (hCX:∀(w:World) (H:Hp) (s:Shared) (e:Value) (s':Shared),CX w [] H s (λ_ _ _=>False) e s'->False) :
  W.WalkO q loose XP YP l.row.toRowW d [] (λf vs=>PySem.call f vs):=by
 refine Att.attach_call hn hdf λw s₀ s₁ mg mb fa o pm cd doc a vs ns G Y ho hd hcd hmg hobj hints hlen hg=>?_;have KX:=hY w _ Y;obtain⟨fd,c0,hcd0,hnt,hb,hF⟩:=F w mg fa _ KX G.T.g hmg;exact qD (hY2 w _ Y) hcd0 hnt G.T.bmain KX G.T.g G.T.b G.T.builtins G.T.nolimit hg hobj hints (QQ hlen hn2) hr hF hb (λH hO hS=>hsp w H a ns hlen hO hS) λH e s'=>hCX w H s₁ e s'
end L2
namespace L2
open PySem PySem.Spec PyProof.Rows
section
variable{X:Cx}
inductive pO(x:V)(vs:List V)(H:Hp)(Q:VK):Prop
 | mk:∀ l (xs:List Int) (i:Int) (j:Nat),x=.ref l->vs=[.int i]->H l=some (.lst (xs.map V.int))->xs[j]?=some i->(∀ m,m < j->xs[m]?≠some i)->j<=1000000->Q (.int (j:Int)) H->pO x vs H Q
def wW:V->List V->Hp->VK->Prop:=λx vs H Q=>pO x vs H Q
theorem sX:MtM X "list.index" wW:=by
 intro pins s σ H x vs v us Q I rx rv h;obtain⟨l,xs,i,j,rfl,rfl,hH,hj,hno,hsm,q⟩:=h;cases rx;obtain⟨u,rfl,ru⟩:=rv.one;obtain⟨t,rfl⟩:=ru;obtain⟨z,its,n,r,hl,e⟩:=I.lstM hH;have val:∀(m:Nat) (hm:m < its.toArray.size),∃ k t',xs[m]?=some k/\its.toArray[m]=.int k t':=λm hm=>by
  have hm':m < its.length:=by simpa using hm
  have l1:=r.length;rw [Qc] at l1;obtain⟨u',h1,h2⟩:=r.get (i:=m) (x:=.int (xs[m]'(by lia))) (by rw [Qq,Qe (by lia)];rfl);obtain⟨t',rfl⟩:=h2;refine⟨xs[m]'(by lia),t',Qe (by lia),?_⟩;rw [Qe hm'] at h1;simpa using h1
 have hjl:j < its.toArray.size:=by
  have l1:=r.length;rw [Qc] at l1;have:=(Qb.mp hj).1;simp;lia
 refine call_meets F.slot_list_index ⟨_,e,rfl⟩ F.entry_list_index (F.args_list_index_2 _ _) (SeqAt.list_indexAt l its.toArray n none #[] (.int i t) (λy=>match y with | .int k _=>k == i | _=>false) j hjl (by lia) ?_ λm hm hlt=>?_)
  ⟨e,λy hy=>?_,⟨.int _,H,I.tok _,⟨_,rfl⟩,q⟩⟩
 ·obtain⟨k,t',h1,h2⟩:=val j hjl;rw [h2];rw [hj] at h1;cases h1;simp
 ·obtain⟨k,t',h1,h2⟩:=val m hm;rw [h2];have:=hno m hlt;rw [h1] at this;simp;intro z;exact this (by rw [z])
 ·obtain⟨m,hm,ey⟩:=Array.getElem_of_mem hy;obtain⟨k,t',h1,h2⟩:=val m hm;rw [<-ey,h2];exact SeqAt.EqAt.int_int k t' i t
end
structure wc(K:W.Frag)(w:World)(mg:Str->Option Value)(x k1 v1 k2 v2:Str):Prop where
 ex:∃ a t1 t2 t3 t4 n,mg x=some (.ref a)/\K.lookup a=some { cls:=.type "dict",data:=.dict #[⟨PyData.keyHash w.params k1,.str k1 t1,.str v1 t2⟩,⟨PyData.keyHash w.params k2,.str k2 t3,.str v2 t4⟩] n }
section
variable{X:Cx} {x k1 v1 k2 v2:Str} {i:Expr} {p pos:Pos} {ty:TE}
inductive XKD(k1 v1 k2 v2:Str)(y:V)(H:Hp)(Q:VK):Prop
 | a:y=.str k1->Q (.str v1) H->XKD k1 v1 k2 v2 y H Q
 | b:y=.str k2->Q (.str v2) H->XKD k1 v1 k2 v2 y H Q
def tKD(k1 v1 k2 v2:Str)(ty:TE):TE:=λσ H Q=>ty σ H λy H1=>XKD k1 v1 k2 v2 y H1 Q
theorem sY(kd:wc X.K X.w X.mg x k1 v1 k2 v2)(hne:k1≠k2)(hg:Gl X x)(hi:PE X i ty)(hs:wE i)(hdb:(x == ("__debug__":Str))=false):PE X (.Subscript (.Name x p) i pos) (tKD k1 v1 k2 v2 ty):=by
 intro pins s σ H Q I h;obtain⟨a,t1,t2,t3,t4,n,hm,hK⟩:=kd.ex;refine oY PySem.F.slot_dict_getitem.lookup hs (ft I hg hm (thn (hi pins s σ H _ I h) λiv s2 ⟨y,H2,I2,ry,q2⟩=>?_) hdb);have ho:=I2.kIn a _ hK;have dd:s2.heap.DictOf (aX X.prog X.w) a [((Sum.inr k1:Key),.str v1 t2),((Sum.inr k2:Key),.str v2 t4)]:=by
  have i1:(aX X.prog X.w).is (Sum.inr k1:Key) (.str k1 t1)=true:=eA (k:=(Sum.inr k1:Key)) ⟨t1,rfl⟩;have i2:(aX X.prog X.w).is (Sum.inr k2:Key) (.str k2 t3)=true:=eA (k:=(Sum.inr k2:Key)) ⟨t3,rfl⟩;refine⟨_,_,_,ho,⟨rfl,rfl,rfl⟩,rfl,λe he=>?_,.cons i1 rfl (.cons i2 rfl .nil),by simp [hne]⟩;have he:e=⟨PyData.keyHash X.w.params k1,.str k1 t1,.str v1 t2⟩\/e=⟨PyData.keyHash X.w.params k2,.str k2 t3,.str v2 t4⟩:=by simpa using he
  rcases he with rfl | rfl
  ·exact⟨_,i1,rfl⟩
  ·exact⟨_,i2,rfl⟩
 refine⟨dd.typeIs,?_⟩;rcases q2 with⟨ey,q⟩ | ⟨ey,q⟩
 ·subst ey;exact wpAny_getItem_of (k:=(Sum.inr k1:Key)) (eA (k:=(Sum.inr k1:Key)) ry) dd.mapOf (v:=.str v1 t2) (by simp [valueAt]) ⟨.str v1,H2,I2.tok _,⟨_,rfl⟩,q⟩
 ·subst ey;exact wpAny_getItem_of (k:=(Sum.inr k2:Key)) (eA (k:=(Sum.inr k2:Key)) ry) dd.mapOf (v:=.str v2 t4) (by simp [valueAt,hne]) ⟨.str v2,H2,I2.tok _,⟨_,rfl⟩,q⟩
end
end L2
namespace L2
open PySem PySem.Spec PyProof.Rows
section
variable{X:Cx} {tg:Expr}
theorem m9:eh X (.type "int") (λxs H Q=>∃ b,xs=[.bl b]/\Q (.int (if b then 1 else 0)) H):=by
 intro pins s σ H xs us Q I r h;obtain⟨b,rfl,q⟩:=h;obtain⟨u,rfl,rx⟩:=fO r;cases (show u=Value.bool b from rx);exact call_int_bool ⟨.int (if b then 1 else 0),H,I.tok _,⟨_,rfl⟩,q⟩
end
end L2
namespace GH
open PySem L2 G1 PyProof.Rows
structure LT where
 T:Addr
 q:Str
 p:Pos
def cB(L:LT)(H:Hp):Prop:=Tab L.T L.q L.p H
theorem cB.same{L:LT}{H H':Hp}(h:cB L H)(s:aw H H'):cB L H':=Tab.same h s
structure Lx(K:W.Frag)(mg:Str->Option Value)(base:Heap)(w:World)(L:LT)(fd:FuncData):Prop where
 bm:gQ mg base
 co:∃ c0,fd.code=.ref c0/\W.codeHdIn K c0 L.T=true
 an:wc K w mg "ANSWERED" "give" "given" "bar" "barred"
theorem okc{P:Program}{w:World}{K:W.Frag}{mg:Str->Option Value}{base:Heap}{x qual:Str}{st:Stmt}{f c0:Addr}{fd:FuncData}{N ps:List Str}{k:Nat}{sp:Sp}(F:Fun K x qual st f fd)(hc:fd.code=.ref c0)(S:aI N ps (am st))(len:∀ vs H Q E,sp vs H Q E->vs.length=ps.length)
  (hb:∀(A:Around) (outer:List Env) (s:Shared) (H:Hp) (vs:List V) (Q:VK) (E:XK),bO k (A.deeper (envOfC qual (am st) s.heap.objs.size f (.ref c0)))->sp vs H Q E ->
   ∃ t,PSs (ja CX0 P w K mg base N qual (am st) f (.ref c0) A outer s H E) (aE st) t/\t { nx:=λ_ H'=>Q .non H',rt:=Q } (start N vs) H):aF P w K mg base CX0 (k+1) f fd ps sp:=by
 obtain⟨oc,od,kV,doc,pm,an,cdv,ct,osl,rfl,lk,hcd⟩:=F.ex;have hc:cdv=.ref c0:=hc;subst hc;exact q8 lk hcd S len λA outer s H vs Q E hr hsp=>hb A outer s H vs Q E hr hsp
def we:Sp:=λvs H Q _=>∃(a c:Addr) (ps:List (Option Nat)) (cs:List Bool) (j:Nat) (l:List Nat),vs=[.ref a,.ref c,.int j]/\H a=some (.lst (cx ps))/\H c=some (.lst (blV cs))/\cs.length=ps.length/\Up ps j l/\ps.length<=200 /\
 ∀(r:Addr) (H':Hp),aw H H'->H r=none->H' r=some (.lst (a8 (cz cs l)))->Q (.ref r) H'
theorem io{cut:List Bool}:∀{l1:List Nat} {l2:List Nat},(∀ x∈l1,¬ cut[x]?=some true)->cz cut (l1++l2)=l1++cz cut l2
 | [],_,_=>rfl
 | x :: l1,l2,h=>by
  rw [VR,cz,Qf (h x QJ),io λy hy=>h y (QA _ hy)];rfl
def tj:Sp:=λvs H Q _=>∃(p:Addr) (rs:List aD) (a:Str),vs=[.ref p,.str a]/\a6 bp H p rs/\rs.length<=200/\∀(b:Addr) (H':Hp),aw H H'->a6 bp H' b (dr (cY a rs))->Q (.ref b) H'
theorem ng(a:Str)(rs:List aD):cY a rs=if (rs.filter λe=>decide (e.2.1=a))≠[] then rs.filter (λe=>decide (e.2.1=a)) else rs:=by
 unfold cY;by_cases h:a∈rs.map (λe:aD=>e.2.1)
 ·rw [Qn h,Qn];obtain⟨e,he,rfl⟩:=Qg.mp h;intro z;have:e∈rs.filter (λe'=>decide (e'.2.1=e.2.1)):=QX.mpr ⟨he,Qh rfl⟩;rw [z] at this;cases this
 ·rw [Qf h,Qf];intro z;apply z;refine List.filter_eq_nil_iff.mpr λe he q=>h (Qg.mpr ⟨e,he,QI q⟩)
theorem nh(rs:List aD):dr rs=if (rs.filter λe=>decide (e.1=("bar":Str)))≠[] then rs.filter (λe=>decide (e.1=("bar":Str))) else rs:=by
 unfold dr;by_cases h:("bar":Str)∈rs.map (λe:aD=>e.1)
 ·rw [Qn h,Qn];obtain⟨e,he,h2⟩:=Qg.mp h;intro z;have:e∈rs.filter (λe'=>decide (e'.1=("bar":Str))):=QX.mpr ⟨he,Qh h2⟩;rw [z] at this;cases this
 ·rw [Qf h,Qf];intro z;apply z;refine List.filter_eq_nil_iff.mpr λe he q=>h (Qg.mpr ⟨e,he,QI q⟩)
def atP(rs:List aD)(z:Int):List aD:=rs.filter λe=>decide (e.2.2.2=z)
def iE(rs:List aD):List Nat->List aD
 | []=>[]
 | x :: ways=>if atP rs x=[] then iE rs ways else atP rs x
def tm:Sp:=λvs H Q _=>∃(p wl:Addr) (rs:List aD) (ways:List Nat),vs=[.ref p,.ref wl]/\a6 bp H p rs/\rs.length<=200/\H wl=some (.lst (a8 ways))/\∀(b:Addr) (H':Hp),aw H H'->a6 bp H' b (iE rs ways)->Q (.ref b) H'
abbrev df:=Int × Addr
def pkv(E:List df):List (Key × V):=E.map λe=>((Sum.inl e.1:Key),V.ref e.2)
theorem gR:∀{E:List df},(E.map (λe:df=>e.1)).Nodup->∀{e:df},e∈E->bL (pkv E) (Sum.inl e.1:Key)=some (.ref e.2)
 | x :: E,nd,e,he=>by
  obtain⟨n1,n2⟩:=QN.mp (show(x.1 :: E.map (λe:df=>e.1)).Nodup from nd);rcases Qi.mp he with rfl | he
  ·exact dJ (p:=((Sum.inl e.1:Key),V.ref e.2)) rfl
  ·refine(cD (p:=((Sum.inl x.1:Key),V.ref x.2)) λz=>n1 ?_).trans (gR n2 he);have z:x.1=e.1:=Sum.inl.inj z;rw [z];exact QH (f:=λe:df=>e.1) he
theorem gT:∀{E:List df} {z:Int},¬ z∈E.map (λe:df=>e.1)->bL (pkv E) (Sum.inl z:Key)=none
 | [],_,_=>rfl
 | x :: E,z,h=>(cD (p:=((Sum.inl x.1:Key),V.ref x.2)) λq=>h (by rw [<-Sum.inl.inj q];exact QJ)).trans (gT λq=>h (QA _ q))
theorem tp(E:List df)(e:df):pkv (E++[e])=pkv E++[((Sum.inl e.1:Key),V.ref e.2)]:=by unfold pkv;rw [Qx];rfl
def adP(as:List Addr)(rs:List aD)(i:Nat)(z:Int):List Addr:=(((as.zip rs).take i).filter λq=>decide (q.2.2.2.2=z)).map λq=>q.1
theorem tu{as:List Addr}{rs:List aD}{i:Nat}{a:Addr}{e:aD}(ha:as[i]?=some a)(he:rs[i]?=some e)(z:Int):adP as rs (i+1) z=if z=e.2.2.2 then adP as rs i z++[a] else adP as rs i z:=by
 unfold adP;have hz:(as.zip rs)[i]?=some (a,e):=by rw [List.getElem?_zip_eq_some];exact⟨ha,he⟩
 rw [Q3,hz,Ug,Qx];show _++(([(a,e)]:List (Addr × aD)).filter λq=>decide (q.2.2.2.2=z)).map (λq=>q.1)=_;by_cases h:z=e.2.2.2
 ·rw [Qn h,QS,Qn (by simp [h])];rfl
 ·rw [Qf h,QS,Qf (by simp;exact λq=>h q.symm)];simp
theorem pP{F:Addr->aD->Prop}:∀{as:List Addr} {rs:List aD},Paired F as rs->∀ z,Paired F (((as.zip rs).filter λq=>decide (q.2.2.2.2=z)).map λq=>q.1) (atP rs z)
 | _,_,.nil,_=>.nil
 | _,_,.cons (a:=a) (b:=e) r t,z=>by
  have ih:=pP t z;unfold atP at ih ⊢;rw [Vw,QS,QS];by_cases h:e.2.2.2=z
  ·rw [Qn (Qh h),Qn (Qh h)];exact .cons r ih
  ·rw [Qf (by simpa using h),Qf (by simpa using h)];exact ih
theorem kK{α:Type}{N:List α}(hN:N.Nodup){i j:Nat}{x:α}(a:N[i]?=some x)(b:N[j]?=some x):i=j:=by
 obtain⟨h1,e1⟩:=Qb.mp a;obtain⟨h2,e2⟩:=Qb.mp b;exact(Vm hN).mp (e1.trans e2.symm)
structure BP(H0 H:Hp)(d:Addr)(E:List df)(g:Int->List Addr):Prop where
 same:aw H0 H
 hd:H d=some (.dK (pkv E))
 nd:(E.map (λe:df=>e.1)).Nodup
 na:(E.map (λe:df=>e.2)).Nodup
 ha:∀ e∈E,H e.2=some (.lst ((g e.1).map V.ref))/\g e.1≠[]/\H0 e.2=none
 all:∀ z,g z≠[]->z∈E.map (λe:df=>e.1)
 nd0:H0 d=none
theorem BP.old{H0 H:Hp}{d:Addr}{E:List df}{g g':Int->List Addr}(k:BP H0 H d E g){e:df}(he:e∈E){a:Addr}(hg:∀ z,g' z=if z=e.1 then g z++[a] else g z):BP H0 (upd H e.2 (.lst ((g e.1).map V.ref++[.ref a]))) d E g':=by
 have ne:d≠e.2:=be k.hd (k.ha e he).1 (by intro z;cases z);refine⟨k.same.put (k.ha e he).2.2 _,by rw [af ne];exact k.hd,k.nd,k.na,λe' he'=>?_,λz hz=>?_,k.nd0⟩
 ·by_cases h:e'.2=e.2
  ·have h1:e'=e:=by
    obtain⟨i,hi⟩:=Q1 he';obtain⟨j,hj⟩:=Q1 he;have:=kK (N:=E.map (λe:df=>e.2)) (x:=e.2) k.na (by rw [Qq,hi];exact QW some h) (by rw [Qq,hj];rfl);subst this;rw [hi] at hj;exact Qt hj
   subst h1;rw [ae,hg,Qn rfl];exact⟨by rw [Qx];rfl,by simp,(k.ha e' he).2.2⟩
  ·have h1:e'.1≠e.1:=λz=>by
    obtain⟨i,hi⟩:=Q1 he';obtain⟨j,hj⟩:=Q1 he;have:=kK (N:=E.map (λe:df=>e.1)) (x:=e.1) k.nd (by rw [Qq,hi];exact QW some z) (by rw [Qq,hj];rfl);subst this;rw [hi] at hj;exact h (by rw [Qt hj])
   rw [af h,hg,Qf h1];exact k.ha e' he'
 ·rw [hg] at hz;by_cases h:z=e.1
  ·rw [h];exact QH (f:=λe:df=>e.1) he
  ·rw [Qf h] at hz;exact k.all z hz
theorem BP.add{H0 H:Hp}{d:Addr}{E:List df}{g g':Int->List Addr}(k:BP H0 H d E g){z0:Int}(hz:¬ z0∈E.map (λe:df=>e.1)){b a:Addr}(hb:H b=none)(hg:∀ z,g' z=if z=z0 then g z++[a] else g z) :
  BP H0 (upd (upd (upd H b (.lst [])) d (.dK (cR (pkv E) (Sum.inl z0:Key) (.ref b)))) b (.lst [.ref a])) d (E++[(z0,b)]) g':=by
 have ne:d≠b:=ao k.hd hb;have hb0:=k.same.free hb;have gz:g z0=[]:=by
  cases q:g z0 with
  | nil=>rfl
  | cons x l=>exact Qs (k.all z0 (by rw [q];simp)) hz
 refine⟨((k.same.put hb0 _).put k.nd0 _).put hb0 _,by rw [af ne,ae,eu _ (gT hz),tp],?_,?_,λe he=>?_,λz hz'=>?_,k.nd0⟩
 ·rw [Qx];exact dj k.nd hz
 ·rw [Qx];refine dj k.na λq=>?_;obtain⟨e,he,q⟩:=Qg.mp q;exact ao (k.ha e he).1 hb q
 ·rcases Qr.mp he with he | he
  ·have n1:e.2≠b:=ao (k.ha e he).1 hb;have n2:e.2≠d:=be (k.ha e he).1 k.hd (by intro z;cases z);have n3:e.1≠z0:=λq=>hz (by rw [<-q];exact QH (f:=λe:df=>e.1) he);rw [af n1,af n2,af n1,hg,Qf n3];exact k.ha e he
  ·rw [Qo.mp he];show upd _ b _ b=_/\g' z0≠[]/\H0 b=none;rw [ae,hg,Qn rfl,gz];exact⟨rfl,by simp,hb0⟩
 ·rw [hg] at hz';rw [Qx];by_cases h:z=z0
  ·exact Qy _ (by rw [h];exact QJ)
  ·rw [Qf h] at hz';exact QU _ (k.all z hz')
end GH
namespace GH
open PySem L2 G1 PyProof.Rows
def tw(L:LT):Sp:=λvs H Q _=>∃(p rd:Addr) (rs:List aD) (rows:List Row),vs=[.ref p,.ref rd]/\a6 bp H p rs/\rs≠[]/\H rd=some (.dK (ekv rows))/\(rows.map (λe:Row=>e.1)).Nodup/\(∀ e∈rows,H e.2.1=some (.lst (az e.2.2))) /\
 (∀ e∈rs,e.2.1∈rows.map (λe:Row=>e.1))/\cB L H /\
 ∀(e:aD) (b:Addr) (H':Hp),e∈rs->(∀ e'∈rs,slB (nbE rows e'.2.1) (nbE rows e.2.1)=false)->aV H H'->cB L H'->H' b=some (.tup (bp e))->Q (.ref b) H'
def yh(H:Hp)(rows:List Row):V->List Str
 | .ref a=>match H a with
  | some (.tup (_ :: .str x :: _))=>nbE rows x
  | _=>[]
 | _=>[]
theorem lQ{H:Hp}{rows:List Row}{a:Addr}{e:aD}(h:H a=some (.tup (bp e))):yh H rows (.ref a)=nbE rows e.2.1:=by
 show(match H a with | some (.tup (_ :: .str x :: _))=>nbE rows x | _=>[])=_
 rw [h];rfl
end GH
namespace GH
open PySem L2 G1 PyProof.Rows
theorem iF(rs:List aD):∀ ways:List Nat,(iE rs ways=[]/\∀(i q:Nat),ways[i]?=some q->atP rs q=[]) \/
  ∃ k x:Nat,ways[k]?=some x/\atP rs x≠[]/\iE rs ways=atP rs x/\∀(i q:Nat),i < k->ways[i]?=some q->atP rs q=[]
 | []=>.inl ⟨rfl,λi q h=>by simp at h⟩
 | y :: ways=>by
  rw [iE];by_cases e:atP rs y=[]
  ·rw [Qn e];rcases iF rs ways with⟨h1,h2⟩ | ⟨k,x,h1,h2,h3,h4⟩
   ·refine .inl ⟨h1,λi q h=>?_⟩;cases i with
    | zero=>rw [<-show y=q by simpa using h];exact e
    | succ i=>exact h2 i q (by simpa using h)
   ·refine .inr ⟨k+1,x,by simpa using h1,h2,h3,λi q hi h=>?_⟩;cases i with
    | zero=>rw [<-show y=q by simpa using h];exact e
    | succ i=>exact h4 i q (by lia) (by simpa using h)
  ·rw [Qf e];exact .inr ⟨0,y,rfl,e,rfl,λi q hi=>Qs hi (by lia)⟩
def jN(H0 H:Hp)(h:Ho)(a r:Str)(j:Nat)(v:V):Prop:=∃(t ro pl:Addr) (w:Str) (road:List Str) (places:List Nat) (rule:Option aD) (rv:V),v=.ref t/\H t=some (.tup [.str w,.ref ro,.ref pl,rv])/\H ro=some (.lst (az road))/\H pl=some (.lst (a8 places)) /\
 gb H rv rule/\ce h a r j w road places rule/\H0 ro=none/\H0 pl=none
theorem jN.old{H0 H1 H:Hp}{h:Ho}{a r:Str}{j:Nat}{v:V}(k:jN H1 H h a r j v)(s:aV H0 H1):jN H0 H h a r j v:=by
 obtain⟨t,ro,pl,w,road,places,rule,rv,h1,h2,h3,h4,h5,h6,h7,h8⟩:=k;exact⟨t,ro,pl,w,road,places,rule,rv,h1,h2,h3,h4,h5,h6,s.fr _ h7,s.fr _ h8⟩
def tz(L:LT):Sp:=λvs H Q _=>∃(p d wl:Addr) (h:Ho) (E0:List Row) (a r:Str) (j:Nat) (U:List Str),vs=[.ref p,.ref d,.str a,.str r,.ref wl]/\a6 bp H p h.rules/\wO H d E0 a U/\(∀ y,nbE E0 y=nbP h.links y) /\
 H wl=some (.lst (a8 (bh h j)))/\h.rules.length<=200/\(bh h j).length<=200/\cG h/\cB L H/\∀(v:V) (H':Hp),aV H H'->cB L H'->jN H H' h a r j v->Q v H'
open Classical in
theorem tD{h:Ho}{a r:Str}{f:aD->Bool}(hf:∀ e,f e=(decide (e.2.2.1=r) && decide (Rch h.links a e.2.1)))(x:Nat):atP (h.rules.filter f) x=aC h a r x:=by
 unfold atP aC;rw [List.filter_filter];apply List.filter_congr;intro e _;rw [hf]
end GH
namespace GH
open PySem L2 G1 PyProof.Rows
theorem tE{a:Str}{l:List aD}(h:l≠[]):cY a l≠[]:=by
 rw [ng];by_cases e:(l.filter λe=>decide (e.2.1=a))=[]
 ·rw [Qf (λz=>z e)];exact h
 ·rw [Qn e];exact e
theorem tF{l:List aD}(h:l≠[]):dr l≠[]:=by
 rw [nh];by_cases e:(l.filter λe=>decide (e.1=("bar":Str)))=[]
 ·rw [Qf (λz=>z e)];exact h
 ·rw [Qn e];exact e
end GH
namespace GH
open PySem L2 G1 PyProof.Rows
structure ou(L:LT)(C:Addr)(H:Hp)(x dx a1 a2 a3 a4:Addr)(h:Ho)(E0:List Row)(U:List Str):Prop where
 at':PAt H C x dx a1 a2 a3 a4 h E0
 ok:cA h
 tx:cG h
 sz:Sz h 90
 few:Few h E0 U
 tab:cB L H
def ow(CN C:Addr)(L:LT):Sp:=λvs H Q E=>∃(x dx a1 a2 a3 a4:Addr) (h:Ho) (E0:List Row) (a r:Str) (p:Int) (U:List Str),vs=[.ref x,.str a,.str r,.int p]/\ou L C H x dx a1 a2 a3 a4 h E0 U /\
 (inR h p->∀(v:V) (H':Hp),aV H H'->cB L H'->jN H H' h a r p.toNat v->Q v H')/\(¬ inR h p->E (.ref CN) none H)
def wX(CN C:Addr)(L:LT):Sp:=λvs H Q E=>∃(x dx a1 a2 a3 a4:Addr) (h:Ho) (E0:List Row) (a r:Str) (p:Int) (U:List Str) (t:Addr),vs=[.ref x,.ref t]/\ou L C H x dx a1 a2 a3 a4 h E0 U/\H t=some (.tup (aA.ask a r p).vals) /\
 (inR h p->∀(v:V) (H':Hp),aV H H'->cB L H'->jN H H' h a r p.toNat v->Q v H')/\(¬ inR h p->E (.ref CN) none H)
def pQ(CN CR C:Addr)(L:LT):Sp:=λvs H Q E=>cK CN CR C aZ1 vs H Q E\/wX CN C L vs H Q E
def wY(C:Addr)(L:LT):Sp:=λvs H Q _=>∃(x dx a1 a2 a3 a4:Addr) (h:Ho) (E0:List Row) (a r:Str) (p:Int) (U:List Str) (t:Addr),vs=[.ref x,.ref t]/\ou L C H x dx a1 a2 a3 a4 h E0 U/\H t=some (.tup (aA.ask a r p).vals) /\
 ∀(v:V) (H':Hp),aV H H'->cB L H'->((inR h p/\jN H H' h a r p.toNat v)\/(¬ inR h p/\v=.str "no place"))->Q v H'
def pR(C:Addr)(L:LT):Sp:=λvs H Q E=>wU C vs H Q E\/wY C L vs H Q E
end GH
namespace GH
open PySem L2 G1 PyProof.Rows
def dR(H0:Hp)(S:List Addr)(H:Hp)(h:Ho)(v:V):aA->Prop
 | .ask a r p=>(inR h p/\∃(t ro pl:Addr) (w:Str) (road:List Str) (places:List Nat) (rule:Option aD) (rv:V),v=.ref t/\H t=some (.tup [.str w,.ref ro,.ref pl,rv])/\H ro=some (.lst (az road))/\H pl=some (.lst (a8 places)) /\
   gb H rv rule/\ce h a r p.toNat w road places rule/\(¬ ro∈S/\H0 ro=none)/\(¬ pl∈S/\H0 pl=none))\/(¬ inR h p/\v=.str "no place")
 | .who _ _=>False
 | d=>v=ly (step h d).2
theorem dR.out{H0:Hp}{S:List Addr}{H:Hp}{h:Ho}{v:V}{d:aA}(k:dR H0 S H h v d):si H h v d:=by
 cases d with
 | ask a r p =>
  rcases k with⟨k1,t,ro,pl,w,road,places,rule,rv,h1,h2,h3,h4,h5,h6,h7,h8⟩ | k
  ·exact .inl ⟨k1,t,ro,pl,w,road,places,rule,rv,h1,h2,h3,h4,h5,h6⟩
  ·exact .inr k
 | who r p=>exact k.elim
 | _=>exact k
theorem dR.keep{H0:Hp}{S S':List Addr}{H H':Hp}{h:Ho}{v:V}{d:aA}(k:dR H0 S H h v d)(kl:∀ b xs,H b=some (.lst xs)->¬ b∈S->H' b=some (.lst xs)/\¬ b∈S')(kt:∀ b xs,H b=some (.tup xs)->H' b=some (.tup xs)):dR H0 S' H' h v d:=by
 cases d with
 | ask a r p =>
  rcases k with⟨k1,t,ro,pl,w,road,places,rule,rv,h1,h2,h3,h4,h5,h6,h7,h8⟩ | k
  ·refine .inl ⟨k1,t,ro,pl,w,road,places,rule,rv,h1,kt _ _ h2,(kl _ _ h3 h7.1).1,(kl _ _ h4 h8.1).1,?_,h6,⟨(kl _ _ h3 h7.1).2,h7.2⟩,⟨(kl _ _ h4 h8.1).2,h8.2⟩⟩;cases rule with
   | none=>exact h5
   | some e=>obtain⟨b,e1,e2⟩:=h5;exact⟨b,e1,kt _ _ e2⟩
  ·exact .inr k
 | who r p=>exact k.elim
 | _=>exact k
theorem fj:∀(h:Ho) (ds:List aA),run h ds=run h (ds.filter λd=>!d.asks)
 | _,[]=>rfl
 | h,d :: ds=>by
  cases e:d.asks with
  | false=>rw [QS,Qn (by rw [e];rfl)];exact fj _ ds
  | true =>
   rw [QS,Qf (by rw [e];exact Qj)];show run (step h d).1 ds=_;have:(step h d).1=h:=by cases d <;> first | rfl | cases e
   rw [this];exact fj h ds
end GH
namespace GH
open PySem L2 G1 PyProof.Rows
theorem PAt.notmut{H:Hp}{C x dx a1 a2 a3 a4:Addr}{h:Ho}{E:List Row}(k:PAt H C x dx a1 a2 a3 a4 h E){p:Addr}{o:HO}(hp:H p=some o)(n1:∀ xs,o≠.lst xs)(n2:∀ xs,o≠.dK xs)(n3:∀ xs,o≠.dT xs):¬ p∈own a1 a2 a3 a4 E:=λhm=>by
 have no:∀{q:Addr} {o':HO},H q=some o'->o≠o'->p=q->False:=λe n z=>by rw [<-z,hp] at e;exact n (Qt e)
 rcases Qi.mp hm with z | hm
 ·exact no k.h1 (n1 _) z
 rcases Qi.mp hm with z | hm
 ·exact no k.h2 (n1 _) z
 rcases Qi.mp hm with z | hm
 ·exact no k.h3.hd (n2 _) z
 rcases Qi.mp hm with z | hm
 ·exact no k.h4 (n3 _) z
 obtain⟨e,he,z⟩:=Qg.mp hm;exact no (k.h3.ha e he) (n1 _) z.symm
theorem PAt.sameT{H H':Hp}{C x dx a1 a2 a3 a4:Addr}{h:Ho}{E:List Row}(k:PAt H C x dx a1 a2 a3 a4 h E)(s:aV H H'):PAt H' C x dx a1 a2 a3 a4 h E where
 ins:=s.to _ _ k.ins (λ_ z=>by cases z)
 h1:=s.to _ _ k.h1 (λ_ z=>by cases z)
 h2:=s.to _ _ k.h2 (λ_ z=>by cases z)
 h3:=⟨s.to _ _ k.h3.hd (λ_ z=>by cases z),λe he=>s.to _ _ (k.h3.ha e he) (λ_ z=>by cases z),k.h3.nd⟩
 h4:=s.to _ _ k.h4 (λ_ z=>by cases z)
 nb:=k.nb
 nd:=k.nd
theorem Sb.sameT{S:List Addr}{H H3 H4:Hp}(s3:aV H H3)(sb:Sb S H3 H4)(hn:∀ b∈S,H b=none):aV H H4 where
 to:=λb o hb n=>sb _ _ (s3.to b o hb n) λz=>by rw [hn b z] at hb;cases hb
 fr:=λb hb=>by
  cases q:H b with
  | none=>rfl
  | some o =>
   cases q3:H3 b with
   | none=>rw [s3.fr b q3] at q;cases q
   | some o3=>rw [sb b o3 q3 λz=>by rw [hn b z] at q;cases q] at hb;cases hb
theorem cB.off{L:LT}{H:Hp}(h:cB L H){r:Addr}{xs:List V}{o:HO}(hr:H r=some (.lst xs)):cB L (upd H r o):=by
 rcases h with z | ⟨c,z1,z2⟩
 ·exact .inl (by rw [af (be z hr (by intro q;cases q))];exact z)
 ·exact .inr ⟨c,by rw [af (be z1 hr (by intro q;cases q))];exact z1,by rw [af (be z2 hr (by intro q;cases q))];exact z2⟩
theorem tG{H:Hp}{a1 a2 a3 a4:Addr}{E0 E4:List Row}{U:List Str}(kp:iJ H E0 E4 U){b:Addr}(hb:b∈own a1 a2 a3 a4 E4):b∈own a1 a2 a3 a4 E0\/H b=none:=by
 simp only [own,Qi] at hb ⊢;rcases hb with e | e | e | e | e
 ·exact .inl (.inl e)
 ·exact .inl (.inr (.inl e))
 ·exact .inl (.inr (.inr (.inl e)))
 ·exact .inl (.inr (.inr (.inr (.inl e))))
 ·obtain⟨e0,h0,e1⟩:=Qg.mp e;rcases(kp e0 h0).1 with z | z
  ·exact .inl (.inr (.inr (.inr (.inr (by rw [<-e1];exact z)))))
  ·exact .inr (by rw [<-e1];exact z)
theorem pS{H:Hp}{a1 a2 a3 a4:Addr}{E0 E4:List Row}{U:List Str}(kp:iJ H E0 E4 U){b:Addr}{o:HO}(hb:H b=some o)(n:¬ b∈own a1 a2 a3 a4 E0):¬ b∈own a1 a2 a3 a4 E4:=λhm=>by
 rcases tG kp hm with z | z
 ·exact n z
 ·rw [hb] at z;cases z
end GH
namespace GH
open PySem L2 G1 PyProof.Rows
theorem ce.uniq{h:Ho}{a r:Str}{p:Nat}{w:Str}{road:List Str}{places:List Nat}{o:Option aD}(k:ce h a r p w road places o):places=(bq h a r (bh h p)).2:=by
 cases k <;> rfl
theorem wf{l:List aD}{e e':aD}(h:e∈dr l)(h':e'∈dr l)(w:cW e.1)(w':cW e'.1):e.1=e'.1:=by
 unfold dr at h h';by_cases c:("bar":Str)∈l.map (λe:aD=>e.1)
 ·rw [Qn c] at h h';rw [QI (QX.mp h).2,QI (QX.mp h').2]
 ·rw [Qf c] at h h';have g:∀{e:aD},e∈l->cW e.1->e.1="give":=λhe hw=>by
   rcases hw with z | z
   ·exact z
   ·exact Qs (Qg.mpr ⟨_,he,z⟩) c
  rw [g h w,g h' w']
def uW(w:Str):Str:=if w="bar" then "barred" else "given"
end GH
namespace GH
open PySem L2 G1 PyProof.Rows
theorem lR(K:W.Frag)(H:Hp):∀ xs:List Nat,eE K H (a8 xs) (xs.map λn:Nat=>PyData.int n)
 | []=>.nil
 | _ :: xs=>.cons (.int _) (lR K H xs)
def lS(K:W.Frag)(T:Addr):Sp:=λvs H Q _=>∃(a:Addr) (ns:List Int),vs=[.ref a]/\SqL K H a (ns.map V.int)/\ns.length<=63/\H T=some (.tbl #[])/\∀ H',Q (.bl true) H'
theorem uX(w:Str):atI [V.str "given",V.str "barred"] (if decide (V.str w=V.str "bar")=true then 1 else 0)=some (.str (uW w)):=by
 unfold uW;by_cases h:w="bar"
 ·rw [Qn (Qh (QW V.str h)),Qn h];rfl
 ·rw [Qf (by rw [Qp (sne h)];exact Qj),Qf h];rfl
theorem at0(x:V)(r:List V):atI (x :: r) 0=some x:=cn (xs:=x :: r) (j:=0) rfl
end GH
namespace L2
open PySem PySem.Spec PyProof.Rows
theorem dt{i:Nat}{v:V}{σ:St}(σ':St){H:Hp}{Q:St->Hp->Prop}(e:σ.set i (some v)=σ')(h:Q σ' H):l8 i v σ H Q:=by subst e;exact h
theorem bO.units100{k:Nat}{A:Around}(r:bO k A):A.units+100 < cLine:=by have:=r.un;lia
theorem tH{X:Cx}(hu:X.A.units+100 < cLine):OpR X (compareOp .Lt) (λx y H Q=>∃(p q la lb:Addr) (a b:List Str),x=.ref p/\y=.ref q/\H p=some (.tup [.int (a.length:Int),.ref la])/\H q=some (.tup [.int (b.length:Int),.ref lb])/\H la=some (.lst (a.map V.str))/\H lb=some (.lst (b.map V.str))/\Q (.bl (slB a b)) H):=by
 intro pins s σ H x y v u Q I rx ry h;obtain⟨p,q,la,lb,a,b,rfl,rfl,hp,hq,ha,hb,hQ⟩:=h;cases rx;cases ry;exact m8 I X.A hu hp hq (SqL.of ha) (SqL.of hb) _ _ _ _ ⟨.bl (slB a b),H,I,rfl,hQ⟩
end L2
namespace GH
open PySem L2 G1 PyProof.Rows
def kL:Sp:=λvs H Q _=>∃(v:V) (m a1 a2 a3 a4 t:Addr) (h:Ho) (a r:Str) (j:Nat) (w:Str) (road:List Str) (places:List Nat) (rule:Option aD),vs=[v,.ref m,.ref t]/\jF H v w road places rule/\MAt H m a1 a2 a3 a4 h/\cA h/\cG h/\Sz h 90 /\
 H t=some (.tup [.str "ask",.str a,.str r,.int (j:Int)])/\j < h.par.length/\Tx a/\ce h a r j w road places rule/\∀ H',aw H H'->Q (.bl true) H'
end GH
namespace GH
open PySem L2 G1 PyProof.Rows
theorem pT{l:List PyData}:(PyData.list l).eqv (.list [])=decide (l=[]):=by
 cases l with
 | nil=>rfl
 | cons x l=>simp [PyData.eqv,PyData.eqvAll]
theorem kM{l:List Str}(h:∀ x∈l,Tx x):fN 1 (.list (l.map PyData.str)):=jC λx hx=>gM (h x hx)
theorem qE(l:List Nat):fN 1 (.list (l.map λn:Nat=>PyData.int n)):=jC λx _=>mJ x
theorem ox{l:List aD}(h:∀ e∈l,Tx e.1/\Tx e.2.1/\Tx e.2.2.1):fN 2 (.list (l.map bV)):=jC λx hx=>qt (h x hx).1 (h x hx).2.1 (h x hx).2.2
theorem ni:fN 1 (.list []):=kE λd hd=>by cases hd
theorem cG.rule{h:Ho}(k:cG h){e:aD}(he:e∈h.rules):Tx e.1/\Tx e.2.1/\Tx e.2.2.1:=⟨(k.r e he).1.tx,(k.r e he).2⟩
theorem pU{h:Ho}(k:cG h){a c:Str}(ha:Tx a){p:List Str}(r:G1.Rd (nbP h.links) a c p):∀ x∈p,Tx x:=by
 induction r with
 | one=>intro x hx;rw [Qo.mp hx];exact ha
 | snoc _ e ih =>
  intro x hx;rcases Qr.mp hx with z | z
  ·exact ih x z
  ·rw [Qo.mp z];exact(k.l _ ((bY _ _ _).mpr e)).2
def uY(h:Ho)(a:Str)(rs:List aD)(i:Nat)(ls:List Str):Prop :=
 (i=0/\ls=[])\/(0 < i/\(∃ e,e∈rs.take i/\Best ltS (nbP h.links) a e.2.1 ls)/\∀ e∈rs.take i,∀ p,Best ltS (nbP h.links) a e.2.1 p->¬ sl ltS p ls)
end GH
namespace GH
open PySem L2 G1 PyProof.Rows
theorem oy{h:Ho}{a r:Str}{p:Nat}{e:aD}(he:e∈aC h a r p):e∈h.rules/\e.2.2.2=(p:Int)/\e.2.2.1=r/\Rch h.links a e.2.1:=by
 unfold aC at he;obtain⟨h1,h2⟩:=QX.mp he;simp only [QO,Vg] at h2;exact⟨h1,h2⟩
theorem gi{h:Ho}{a r:Str}:∀{ways:List Nat},∃(p:Nat) (l:List aD),(bq h a r ways).1=[]\/((bq h a r ways).1=dr l/\∀ e∈l,e∈h.rules/\e.2.2.2=(p:Int)/\e.2.2.1=r)
 | []=>⟨0,[],.inl rfl⟩
 | p :: l=>by
  rw [bq];split
  ·exact gi
  ·exact⟨p,cY a (aC h a r p),.inr ⟨rfl,λe he=>by
    have:=oy (im he);exact⟨this.1,this.2.1,this.2.2.1⟩⟩⟩
theorem Best.end{nb:Str->List Str}{a c c':Str}{p:List Str}(h:Best ltS nb a c p)(h':Best ltS nb a c' p):c=c':=by
 obtain⟨q,e⟩:=h.1.last;obtain⟨q',e'⟩:=h'.1.last;rw [e] at e';have:=QW List.getLast? e';rw [List.getLast?_concat,List.getLast?_concat] at this;exact Qt this
theorem ce.func{h:Ho}(tx:cG h){a r:Str}{p:Nat}{w w':Str}{ro ro':List Str}{pl pl':List Nat}{ru ru':Option aD}(k:ce h a r p w ro pl ru)(k':ce h a r p w' ro' pl' ru'):w=w'/\ro=ro'/\pl=pl'/\ru=ru':=by
 have hp:pl=pl':=k.uniq.trans k'.uniq.symm;cases k with
 | none k1 =>
  cases k' with
  | none _=>exact⟨rfl,rfl,rfl,rfl⟩
  | some k2 _ _=>rw [k1] at k2;cases k2
 | @some e ro k1 k2 k3 =>
  cases k' with
  | none k1'=>rw [k1'] at k1;cases k1
  | @some e' ro' k1' k2' k3' =>
   have er:ro=ro':=by
    rcases ju ordS ro ro' with z | z | z
    ·exact Qs z (k3' e k1 ro k2)
    ·exact z
    ·exact Qs z (k3 e' k1' ro' k2')
   subst er;have ec:e.2.1=e'.2.1:=GH.Best.end k2 k2';obtain⟨p0,l,z | ⟨z,hl⟩⟩:=gi (h:=h) (a:=a) (r:=r) (ways:=bh h p)
   ·rw [z] at k1;cases k1
   ·rw [z] at k1 k1';have h1:=hl e (dH k1);have h2:=hl e' (dH k1');have ew:=wf k1 k1' (tx.r e h1.1).1 (tx.r e' h2.1).1;have ee:e=e':=by
     obtain⟨f1,f2,f3,f4⟩:=e;obtain⟨g1,g2,g3,g4⟩:=e';have e1:f1=g1:=ew;have e2:f2=g2:=ec;have e3:f3=g3:=h1.2.2.trans h2.2.2.symm;have e4:f4=g4:=h1.2.1.trans h2.2.1.symm;rw [e1,e2,e3,e4]
    subst ee;exact⟨rfl,rfl,rfl,rfl⟩
end GH
namespace GH
open PySem L2 G1 PyProof.Rows
def dQ:List Str:=b7++[("nobody":Str)]
theorem tx8:∀ x∈dQ,Tx x:=lB (by decide +kernel)
def kN(U:List Str)(n:Nat)(d:aA):Prop:=∃(nm rt:Str) (j:Nat),d=.ask nm rt (j:Int)/\nm∈U/\Tx rt/\j < n
def lT:List Str:=["see",PySem.Txt.mul "see" 12++"n","owl"]
theorem tx3:∀ x∈lT,Tx x:=lB (by decide +kernel)
def tJ(K:W.Frag):Sp:=λvs H Q _=>∃(a:Addr) (ns:List Int) (n:Nat),vs=[.ref a,.int (n:Int)]/\SqL K H a (ns.map V.int)/\0 < n /\
 ∀(p:Addr) (ds:List aA) (H':Hp),aw H H'->H p=none->a6 aA.vals H' p ds->(∀ d∈ds,kN dQ n d)->ds.length=10->Q (.ref p) H'
theorem a6.snoc{α:Type}{c:α->List V}{H:Hp}{p t:Addr}{as:List Addr}{xs:List α}{x:α}(h1:H p=some (.lst (as.map V.ref)))(h2:Paired (λ(a:Addr) (x:α)=>H a=some (.tup (c x))) as xs)(h3:H t=some (.tup (c x))):a6 c (upd H p (.lst (as.map V.ref++[.ref t]))) p (xs++[x]) :=
 ⟨as++[t],by rw [ae,Qx];rfl,bW (Paired.mapP h2 λb x z=>by rw [af (be z h1 (by intro e;cases e))];exact z) (by rw [af (be h3 h1 (by intro e;cases e))];exact h3)⟩
theorem gU{α:Type}{P:α->Prop}{xs:List α}{x:α}(h:∀ y∈xs,P y)(hx:P x):∀ y∈xs++[x],P y:=λy hy=>by
 rcases Qr.mp hy with z | z
 ·exact h y z
 ·rw [Qo.mp z];exact hx
def aA.fit(U:List Str)(d:aA):Prop:=d.ok/\(∀ x∈d.names,x∈U)/\∀ r p,d≠.who r p
theorem aA.small.fit{d:aA}(h:d.small){U:List Str}(hU:∀ x∈b7,x∈U):d.fit U:=by
 refine⟨h.ok,?_,?_⟩
 ·intro x hx;apply hU;cases d with
  | add p=>cases hx
  | move p q=>cases hx
  | cutm b p=>cases hx
  | join a c =>
   simp only [aA.names,Qi,UM,or_false] at hx;rcases hx with rfl | rfl
   ·exact h.1
   ·exact h.2
  | leave a c =>
   simp only [aA.names,Qi,UM,or_false] at hx;rcases hx with rfl | rfl
   ·exact h.1
   ·exact h.2
  | put w a r p=>rw [show x=a from Qo.mp hx];exact h.2.1
  | lift w a r p=>rw [show x=a from Qo.mp hx];exact h.2.1
  | ask a r p=>rw [show x=a from Qo.mp hx];exact h.1
  | who r p=>exact h.elim
 ·intro r p z;subst z;exact h
theorem kN.fit{U:List Str}{n:Nat}{d:aA}(h:kN U n d)(hU:∀ x∈U,Tx x):d.fit U:=by
 obtain⟨nm,rt,j,rfl,h1,h2,_⟩:=h;exact⟨⟨hU _ h1,h2⟩,λx hx=>by rw [show x=nm from Qo.mp hx];exact h1,λr p z=>by cases z⟩
theorem kN.asks{U:List Str}{n:Nat}{d:aA}(h:kN U n d):d.asks=true:=by
 obtain⟨nm,rt,j,rfl,h1,h2,_⟩:=h;rfl
theorem uZ{α:Type}{P:α->Prop}{xs ys:List α}(h:∀ y∈xs,P y)(h':∀ y∈ys,P y):∀ y∈xs++ys,P y:=λy hy=>by
 rcases Qr.mp hy with z | z
 ·exact h y z
 ·exact h' y z
end GH
namespace L2
open PySem PySem.Spec PyProof.Rows
section
variable{X:Cx}
theorem Inv.laid2{pins:List (Addr × Obj)}{σ:St}{H:Hp}{s:Shared}{h':Heap}{a:Addr}{o:HO}{t':Nat}(I:Inv X pins σ H s)(k:∀ b u,s.heap.get? b=some u->h'.get? b=some u)(hp:s.heap.get? a=none)(hn:H a=none)(new:bB X.prog X.w (upd H a o) h' a o) :
  Inv X pins σ (upd H a o) { s with heap:=h',toks:=t' }:=by
 refine I.un ⟨λb u q _ _ _=>k b u q,λb u q _ _ _=>⟨u.slots,k b u q⟩,λb u q n _=>?_,λb u q _=>⟨u,k b u q⟩,λb xs q=>?_,λb u xs q=>?_,λb ps q=>?_⟩ λb u e=>?_
 ·have:b≠a:=λz=>by rw [z,hp] at q;cases q
  rw [af this];exact n
 ·rw [af (ao q hn)];exact q
 ·rw [af (ao q hn)];exact q
 ·exact⟨#[],by rw [af (ao q hn),q];simp⟩
 ·by_cases hb:b=a
  ·subst hb;rw [ae] at e;cases e;exact new
  ·rw [af hb] at e;exact(I.hok b u e).stay (λc v _ q=>k c v q) (λc q=>by rw [af (ao q hn)];exact q) λc xs q=>by rw [af (ao q hn)];exact q
theorem ir(hc:X.calm=true):eh X (.builtin "sorted") (λxs H Q=>∃ a kvs ss,xs=[V.ref a]/\Rd H a (.dK kvs)/\(kvs.map λe=>kV e.1)=ss.map V.str/\ss.length < 64/\∀ l ss',H l=none->ss'.Perm ss->dM ss'->Q (.ref l) (upd H l (.lst (ss'.map V.str)))):=by
 intro pins s σ H xs us Q I r h;obtain⟨a,kvs,ss,rfl,ha,hks,h64,q⟩:=h;obtain⟨u,rfl,rx⟩:=fO r;cases rx;obtain⟨hz,hS,vs,rel,od,es,ep,e1,e2,e3,e4,e5,e6⟩:=fQ I.hok ha;have hlen:kvs.length=vs.length:=rel.length;have hl2:kvs.length=ss.length:=by
  have:=QW List.length hks;rwa [Qc,Qc] at this
 refine Calls.call_function_entry kind_sorted plain_sorted entry_sorted (args_sorted1 _) ?_;unfold Builtin.«sorted»;refine Qa (m:=checkCount "sorted" 1 1 _) (Qd ?_);refine Qa (W.kdu_collect (A:=X.A.in1) (W.kdl_dict (knd:=aX X.prog X.w) (kvs:=vs) (ep:=ep) hS) (I.ok.hd hc) ⟨od,es,e1,e2,e3,e4,e5,e6⟩ (by lia) λh' tk acc hk hacc=>?_);have hvals:aS (ss.map V.str) acc.toList:=by
  rw [<-hks];refine lg ?_ λj u x h1 h2=>?_
  ·rw [Qc,hlen,Q0];exact hacc.1
  ·obtain⟨k,y,z1,z2⟩:=hacc.2 j u (by rw [<-Uz];exact h1);have ek:(vs.map (·.1))[j]?=some k:=by rw [Qq,z1];rfl
   rw [<-rel.keys,Qq] at ek;rw [Qq] at h2;cases e:kvs[j]? with
   | none=>rw [e] at ek;cases ek
   | some p =>
    rw [e] at ek h2;have ek':p.1=k:=Qt ek;have h2':kV p.1=x:=Qt h2;rw [<-h2',ek'];exact vU z2
 have hS':=gE hvals;have hal:acc.toList.length=ss.length:=by have:=hvals.length;rw [Qc] at this;exact this.symm
 refine Qa (Vn ?_ (by rw [hal];have:sizeLine>=1000:=(by decide);lia));have hoL:(h'.push (seqObj "list" acc.toList.toArray 0)).get? h'.objs.size=some (seqObj "list" acc.toList.toArray 0):=QE _ rfl;refine Qa (Uf (UL slot_list_sort ⟨_,hoL,rfl⟩ entry_list_sort (list_sort_treeK strKind_oneLt hoL hS'.keysOf (λv₁ v₂ rest e=>keyKind_strs (by rw [<-e];exact hS')) (by rw [hal];exact h64) λst' a1 a2=>⟨_,rfl,?_⟩) (args_list_sort _)));refine Qd ⟨_,rfl,?_⟩;obtain⟨ss',b1,b2,b3⟩:=sorted_out_str hS' a1 a2;obtain⟨e,he⟩:=sortedHeap_at (out:=(arrOf st').map (·.2)) hoL;have hlt:∀ b o,s.heap.get? b=some o->b < h'.objs.size:=λb o z=>QD (hk b o z);have hg:s.heap.get? h'.objs.size=none:=by
  cases q:s.heap.get? h'.objs.size with
  | none=>rfl
  | some o=>exact Qs (hlt _ _ q) (Um _)
 have hH:H h'.objs.size=none:=HOk.fresh (HOk.kept I.hok hk) (Qk _);have old:∀ b o,s.heap.get? b=some o->(sortedHeap (h'.push (seqObj "list" acc.toList.toArray 0)) h'.objs.size acc.toList ((arrOf st').map (·.2))).get? b=some o:=λb o z=>by
  rw [sortedHeap_old (QP (hlt b o z)) (by rw [size_push'];exact Vi (hlt b o z))];exact Qm _ (hk b o z)
 have hline:ss'.length<=sizeLine:=by
  have h1:sizeLine>=1000:=by decide
  rw [b2.length_eq];lia
 exact⟨.ref h'.objs.size,upd H h'.objs.size (.lst (ss'.map V.str)),I.laid2 (t':=tk) old hg hH ⟨by rw [Qc];exact hline,((arrOf st').map (·.2)).toList,e,fz b1,by rw [Array.toArray_toList];exact he⟩,rfl,q _ ss' hH b2 (gD b3)⟩
end
def tK(a:Addr)(o:Obj)(kvs:List (List Key × V))(as:List Addr):It :=
 ⟨λi H=>i < as.length/\H a=some (.frz o (.dT kvs)),λi H x H'=>H'=H/\∃ b,as[i]?=some b/\x=.ref b,λi H=>as.length<=i/\H a=some (.frz o (.dT kvs))⟩
theorem u7{P:Program}{w:World}{K:W.Frag}{tg:Expr}(a it:Addr){o:Obj}{es:Array DictEntry}{ep:Nat}(kvs:List (List Key × V))(as:List Addr)(hc':o.ExactDict)(ho:o.data=.dict es ep)(hl:as.length=es.size)(hes:∀(i:Nat) (e:DictEntry),es[i]?=some e->∃ b:Addr,as[i]?=some b/\e.key=Value.ref b) :
  p6 P w K tg (tK a o kvs as) [it] it (λi h=>h.IsKeyIter it a i es.size ep) where
 mem:=by simp
 obj:=λi h st b hb=>by
  have e:b=it:=by simpa using hb
  subst e;obtain⟨o,e,c,d⟩:=st;exact⟨o,e,λv z=>by rw [d] at z;cases z⟩
 keep:=λi h h' st k=>st.at λo e=>k it (by simp) o e
 item:=by
  intro X hP hw hK hc i pins s σ H E I hf st hg;subst hP hw hK;obtain⟨hi,hH⟩:=hg;obtain⟨ho2,_⟩:=I.hok a _ hH;obtain⟨f0,f1,f2,f3,f4,f5⟩:=hf it (by simp);have hie:i < es.size:=by lia
  refine mP st ⟨o,ho2,hc',ho⟩ hie λh' hit' sb=>?_;have I1:Inv X pins σ H { s with heap:=h' }:=I.turned (t':=s.toks) (λb o hb e=>(sb.2 b hb).trans e) f0 f1 f3 f4 f5;obtain⟨oi,e,c,d⟩:=id hit';obtain⟨b,hb,ek⟩:=hes i es[i] (by simp [hie]);exact⟨es[i].key,rfl,oJ (s:={ s with heap:=h' }) (n:="dict_keyiterator") e c d (by decide) ⟨.ref b,H,I1,ek,⟨rfl,b,hb,rfl⟩,hit',λb hb=>(hf b hb).1⟩⟩
 done:=by
  intro X hP hw hK hc i pins s σ H E I hf st hg;subst hP hw hK;obtain⟨hi,hH⟩:=hg;obtain⟨ho2,_⟩:=I.hok a _ hH;obtain⟨f0,f1,f2,f3,f4,f5⟩:=hf it (by simp);exact mQ (I.ok.hd hc) st ⟨o,ho2,hc',ho⟩ (by lia) λh' eb=>⟨rfl,I.turned (t':=s.toks) (λb o hb e=>eb b o hb e) f0 f1 f3 f4 f5⟩
 self:=λ_ _ _ _ _ st h=>wpAny_pyIter_keyiter st h
def wZ(tl:TE):TI:=λσ H R=>tl σ H λx H1=>∃ a kvs,x=.ref a/\H1 a=some (.dT kvs)/\∀ o as,lH H1 kvs as->R (tK a o kvs as) (upd H1 a (.frz o (.dT kvs)))
theorem tL{X:Cx}{tg l:Expr}{tl:TE}(hl:PE X l tl):PI X tg l (wZ tl):=by
 intro pins s σ H R I h;refine thn (hl pins s σ H _ I h) λv s1 ⟨x,H1,I1,r1,q1⟩=>?_;obtain⟨a,kvs,e,ha,q⟩:=q1;subst e;cases r1;obtain⟨hz,hS,ys,rel,od,es,ep,e1,e2,e3,e4,e5,e6⟩:=fR I1.hok (.inl ha);have hsz:es.size=ys.length:=size_of_entries e4;refine kH (en:=es) (ep:=ep) hS ⟨od,e1,e2,e3⟩ ?_;have I2:Inv X pins σ (upd H1 a (.frz od (.dT kvs))) s1:=I1.freeze ha ⟨λ_ z=>(by cases z),λ_ z=>(by cases z),λ_ _ z=>(by cases z),λ_ z=>(by cases z)⟩ e1;refine⟨s1.heap.objs.size,[s1.heap.objs.size],_,_,upd H1 a (.frz od (.dT kvs)),rfl,I2.kept (t':=s1.toks) λb o e=>Qm _ e,u7 a _ kvs (ys.map λx=>x.2.1) e2 e3 (by rw [Qc,hsz]) (λi e he=>?_),⟨_,QE _ rfl,rfl,rfl⟩,λb hb=>?_,q od _ (KT.addrs rel)⟩
 ·rw [entry_at e4 i] at he;cases z:ys[i]? with
  | none=>rw [z] at he;cases he
  | some y =>
   rw [z] at he;have he:entryOfKey (tupleKind (aX X.prog X.w)) y=e:=Qt he;exact⟨y.2.1,by rw [Qq,z];rfl,by rw [<-he];rfl⟩
 ·have e:b=s1.heap.objs.size:=by simpa using hb
  subst e;exact I2.fpOk (Qk _) (I2.hok.fresh (Qk _))
theorem w6{a:Addr}{o:Obj}{kvs:List (List Key × V)}{as:List Addr}{g:TG}{tb:TS}{D:gk}{σ:St}{H:Hp}(Pv:Nat->St->Hp->Prop)(h0:Pv 0 σ H)(hl:∀ i σ H,i<=as.length->Pv i σ H->H a=some (.frz o (.dT kvs)))
  (hs:∀ i b σ H,as[i]?=some b->Pv i σ H->g (.ref b) σ H λσ2 H2=>tb { D with nx:=Pv (i+1),ct:=Pv (i+1),bk:=D.nx } σ2 H2) (hd:∀ σ H,Pv as.length σ H->D.nx σ H) :
  ∃ W:Nat->Nat->St->Hp->Prop,(∃ m,W 0 m σ H)/\∀ i m σ H,W i m σ H ->
   ((tK a o kvs as).stop i H/\D.nx σ H)\/((tK a o kvs as).go i H/\∃ N:St->Hp->Prop,(∀ σ' H',N σ' H'->∃ m',m' < m/\W (i+1) m' σ' H')/\∀ x H',(tK a o kvs as).yld i H x H'->g x σ H' λσ2 H2=>tb { D with nx:=N,ct:=N,bk:=D.nx } σ2 H2):=by
 refine⟨λi m σ H=>m=as.length - i/\i<=as.length/\Pv i σ H,⟨as.length,by simp,Uh _,h0⟩,?_⟩;rintro i m σ H ⟨rfl,hi,p⟩;have q:=hl i σ H hi p;by_cases hlt:i < as.length
 ·refine .inr ⟨⟨hlt,q⟩,Pv (i+1),λσ' H' p'=>⟨as.length - (i+1),by lia,rfl,hlt,p'⟩,λx H' y=>?_⟩;obtain⟨e,b,hb,ex⟩:=y;subst e ex;exact hs i b σ _ hb p
 ·have e:i=as.length:=by lia
  subst e;exact .inl ⟨⟨Qk _,q⟩,hd σ H p⟩
end L2
namespace GH
open PySem L2 G1 PyProof.Rows
def wg(C:Addr):Sp:=λvs H Q _=>∃(x dx a1 a2 a3 a4:Addr) (h:Ho) (E0:List Row) (U:List Str),vs=[.ref x]/\PAt H C x dx a1 a2 a3 a4 h E0/\cA h/\Sz h 63/\U.length<=12/\(∀ y∈cy h,y∈U) /\
 ∀(l:Addr) (ns:List Str) (H':Hp),aw H H'->H l=none->H' l=some (.lst (az ns))->dM ns->ns.Nodup->(∀ y,y∈ns ↔ y∈cy h)->Q (.ref l) H'
def tkv(ns:List Str):List (Key × V):=ns.map λx=>((Sum.inr x:Key),V.bl true)
def j3(ns:List Str)(x:Str):List Str:=if x∈ns then ns else ns++[x]
theorem lU(ns:List Str)(x:Str):cR (tkv ns) (Sum.inr x:Key) (.bl true)=tkv (j3 ns x):=by
 unfold cR j3;by_cases h:x∈ns
 ·rw [Qn h,Qn]
  ·unfold tkv;rw [UK];apply UI;intro y _;show(if (Sum.inr y:Key)=Sum.inr x then ((Sum.inr y:Key),V.bl true) else ((Sum.inr y:Key),V.bl true))=_;split <;> rfl
  ·rw [U7];exact⟨((Sum.inr x:Key),V.bl true),Qg.mpr ⟨x,h,rfl⟩,Qh rfl⟩
 ·rw [Qf h,Qf]
  ·unfold tkv;rw [Qx];rfl
  ·rw [U7];rintro⟨e,he,e'⟩;obtain⟨y,hy,rfl⟩:=Qg.mp he;have:y=x:=Sum.inr.inj (QI e');exact h (by rw [<-this];exact hy)
theorem iU{ns:List Str}(h:ns.Nodup)(x:Str):(j3 ns x).Nodup:=by
 unfold j3;by_cases c:x∈ns
 ·rw [Qn c];exact h
 ·rw [Qf c];exact dj h c
theorem gV{ns:List Str}{x y:Str}:y∈j3 ns x ↔ y∈ns\/y=x:=by
 unfold j3;by_cases c:x∈ns
 ·rw [Qn c];exact⟨.inl,λz=>z.elim id λz=>by rw [z];exact c⟩
 ·rw [Qf c,Qr,Qo]
theorem lV(ns:List Str):(tkv ns).length=ns.length:=Qc _
theorem tM(ns:List Str):((tkv ns).map λe=>kV e.1)=ns.map V.str:=by
 unfold tkv;rw [UK];rfl
theorem du{ls:List (Str × Str)}{h:Ho}(p:ls.Perm h.links)(y:Str):(∃ e∈ls,y=e.1\/y=e.2)\/(∃ e∈h.rules,y=e.2.1) ↔ y∈cy h:=by
 unfold cy;simp only [Qr,Qg];constructor
 ·rintro(⟨e,he,z | z⟩ | ⟨e,he,z⟩)
  ·exact .inl ⟨e,p.mem_iff.mp he,z.symm⟩
  ·exact .inr (.inl ⟨e,p.mem_iff.mp he,z.symm⟩)
  ·exact .inr (.inr ⟨e,he,z.symm⟩)
 ·rintro(⟨e,he,z⟩ | ⟨e,he,z⟩ | ⟨e,he,z⟩)
  ·exact .inl ⟨e,p.mem_iff.mpr he,.inl z.symm⟩
  ·exact .inl ⟨e,p.mem_iff.mpr he,.inr z.symm⟩
  ·exact .inr ⟨e,he,z.symm⟩
theorem fk{ns U:List Str}(h:ns.Nodup)(hU:U.length<=12)(s:∀ y∈ns,y∈U):ns.length<=12:=QQ (bT h s) hU
structure w9(L:LT)(C:Addr)(H:Hp)(x dx a1 a2 a3 a4:Addr)(h:Ho)(E0:List Row)(U:List Str):Prop where
 ak:ou L C H x dx a1 a2 a3 a4 h E0 U
 nm:∀ y∈cy h,y∈U
 sz:Sz h 63
theorem ou.sameT{L:LT}{C:Addr}{H H':Hp}{x dx a1 a2 a3 a4:Addr}{h:Ho}{E0:List Row}{U:List Str}(k:ou L C H x dx a1 a2 a3 a4 h E0 U)(s:aV H H')(t:cB L H'):ou L C H' x dx a1 a2 a3 a4 h E0 U :=
 ⟨k.at'.sameT s,k.ok,k.tx,k.sz,k.few,t⟩
def tN(CN C:Addr)(L:LT):Sp:=λvs H Q E=>∃(x dx a1 a2 a3 a4:Addr) (h:Ho) (E0:List Row) (r:Str) (p:Int) (U:List Str),vs=[.ref x,.str r,.int p]/\w9 L C H x dx a1 a2 a3 a4 h E0 U /\
 (inR h p->∀(l:Addr) (ns:List Str) (H':Hp),aV H H'->cB L H'->H l=none->H' l=some (.lst (az ns))->jA h r p.toNat ns->ns.length<=12->Q (.ref l) H')/\(¬ inR h p->E (.ref CN) none H)
end GH
namespace L2
open PySem PySem.Spec PyProof.Rows
theorem yi{P:Program}{w:World}{X:Cx}:dy (CXo P w) X (λ_ _ _=>False):=by
 intro pins σ H1 s1 e s2 I hx;obtain⟨a,T,C,H2,_,_,_,_,_,_,_,_,_,_,q⟩:=hx;exact q.elim
end L2
namespace GH
open PySem L2 G1 PyProof.Rows
open Classical in
noncomputable def cX(h:Ho)(r:Str)(n:Nat)(y:Str):Bool:=decide (∃ road places rule,ce h y r n "given" road places rule)
open Classical in
theorem kO{h:Ho}(tx:cG h){r:Str}{n:Nat}{y w:Str}{ro:List Str}{pl:List Nat}{ru:Option aD}(I:ce h y r n w ro pl ru):cX h r n y=decide (w="given"):=by
 unfold cX;by_cases c:w="given"
 ·subst c;rw [Qh rfl];exact Qh ⟨ro,pl,ru,I⟩
 ·rw [Qp c];refine Qp ?_;rintro⟨ro',pl',ru',I'⟩;exact c (ce.func tx I I').1
open Classical in
theorem jO(h:Ho)(r:Str)(n:Nat)(y:Str):cX h r n y=true ↔ ∃ road places rule,ce h y r n "given" road places rule:=by
 unfold cX;exact⟨QI,λz=>Qh z⟩
theorem tO{h:Ho}{r:Str}{n:Nat}{ns:List Str}(hs:dM ns)(nd:ns.Nodup)(hm:∀ y,y∈ns ↔ y∈cy h)(he:∀ y∈ns,∃ w road places rule,ce h y r n w road places rule):jA h r n (ns.filter (cX h r n)):=by
 refine⟨?_,nd.sublist Vu,λx=>?_,λy hy=>he y ((hm y).mpr hy)⟩
 ·exact hs.sublist Vu
 ·rw [QX,hm,jO]
end GH
namespace GH
open PySem L2 G1 PyProof.Rows
theorem zK{P:Program}{w:World}{K:W.Frag}{mg:Str->Option Value}{base:Heap}{CX:CXT}{k:Nat}{f:Addr}{fd:FuncData}{ps:List Str}{sp sp':Sp}(F:aF P w K mg base CX k f fd ps sp)(G:aF P w K mg base CX k f fd ps sp') :
  aF P w K mg base CX k f fd ps (λvs H Q E=>sp vs H Q E\/sp' vs H Q E) :=
 ⟨λvs H Q E h=>h.elim (F.len vs H Q E) (G.len vs H Q E),λA outer s H args us vs Q E hr he hb hv h=>h.elim (F.run A outer s H args us vs Q E hr he hb hv) (G.run A outer s H args us vs Q E hr he hb hv)⟩
def tP(CN C:Addr)(L:LT):Sp:=λvs H Q E=>∃(x dx a1 a2 a3 a4:Addr) (h:Ho) (E0:List Row) (r:Str) (p:Int) (U:List Str) (t:Addr),vs=[.ref x,.ref t]/\w9 L C H x dx a1 a2 a3 a4 h E0 U/\H t=some (.tup (aA.who r p).vals) /\
 (inR h p->∀(l:Addr) (ns:List Str) (H':Hp),aV H H'->cB L H'->H l=none->H' l=some (.lst (az ns))->jA h r p.toNat ns->ns.length<=12->Q (.ref l) H')/\(¬ inR h p->E (.ref CN) none H)
def tQ(C:Addr)(L:LT):Sp:=λvs H Q _=>∃(x dx a1 a2 a3 a4:Addr) (h:Ho) (E0:List Row) (r:Str) (p:Int) (U:List Str) (t:Addr),vs=[.ref x,.ref t]/\w9 L C H x dx a1 a2 a3 a4 h E0 U/\H t=some (.tup (aA.who r p).vals) /\
 ∀(v:V) (H':Hp),aV H H'->cB L H'->((inR h p/\∃(l:Addr) (ns:List Str),v=.ref l/\H l=none/\H' l=some (.lst (az ns))/\jA h r p.toNat ns)\/(¬ inR h p/\v=.str "no place"))->Q v H'
def iK(H0:Hp)(S:List Addr)(H:Hp)(h:Ho)(v:V):aA->Prop
 | .who r p=>(inR h p/\∃(l:Addr) (ns:List Str),v=.ref l/\H l=some (.lst (az ns))/\jA h r p.toNat ns/\¬ l∈S)\/(¬ inR h p/\v=.str "no place")
 | d=>dR H0 S H h v d
theorem iK.out{H0:Hp}{S:List Addr}{H:Hp}{h:Ho}{v:V}{d:aA}(k:iK H0 S H h v d):si H h v d:=by
 cases d with
 | who r p =>
  rcases k with⟨k1,l,ns,h1,h2,h3,_⟩ | k
  ·exact .inl ⟨k1,l,ns,h1,h2,h3⟩
  ·exact .inr k
 | add p=>exact dR.out (H0:=H0) (S:=S) (d:=.add p) k
 | move p q=>exact dR.out (H0:=H0) (S:=S) (d:=.move p q) k
 | cutm b p=>exact dR.out (H0:=H0) (S:=S) (d:=.cutm b p) k
 | join a c=>exact dR.out (H0:=H0) (S:=S) (d:=.join a c) k
 | leave a c=>exact dR.out (H0:=H0) (S:=S) (d:=.leave a c) k
 | put w a r p=>exact dR.out (H0:=H0) (S:=S) (d:=.put w a r p) k
 | lift w a r p=>exact dR.out (H0:=H0) (S:=S) (d:=.lift w a r p) k
 | ask a r p=>exact dR.out (H0:=H0) (S:=S) (d:=.ask a r p) k
theorem iK.keep{H0:Hp}{S S':List Addr}{H H':Hp}{h:Ho}{v:V}{d:aA}(k:iK H0 S H h v d)(kl:∀ b xs,H b=some (.lst xs)->¬ b∈S->H' b=some (.lst xs)/\¬ b∈S')(kt:∀ b xs,H b=some (.tup xs)->H' b=some (.tup xs)):iK H0 S' H' h v d:=by
 cases d with
 | who r p =>
  rcases k with⟨k1,l,ns,h1,h2,h3,h4⟩ | k
  ·exact .inl ⟨k1,l,ns,h1,(kl _ _ h2 h4).1,h3,(kl _ _ h2 h4).2⟩
  ·exact .inr k
 | add p=>exact dR.keep (H0:=H0) (S:=S) (H:=H) (h:=h) (d:=.add p) k kl kt
 | move p q=>exact dR.keep (H0:=H0) (S:=S) (H:=H) (h:=h) (d:=.move p q) k kl kt
 | cutm b p=>exact dR.keep (H0:=H0) (S:=S) (H:=H) (h:=h) (d:=.cutm b p) k kl kt
 | join a c=>exact dR.keep (H0:=H0) (S:=S) (H:=H) (h:=h) (d:=.join a c) k kl kt
 | leave a c=>exact dR.keep (H0:=H0) (S:=S) (H:=H) (h:=h) (d:=.leave a c) k kl kt
 | put w a r p=>exact dR.keep (H0:=H0) (S:=S) (H:=H) (h:=h) (d:=.put w a r p) k kl kt
 | lift w a r p=>exact dR.keep (H0:=H0) (S:=S) (H:=H) (h:=h) (d:=.lift w a r p) k kl kt
 | ask a r p=>exact dR.keep (H0:=H0) (S:=S) (H:=H) (h:=h) (d:=.ask a r p) k kl kt
theorem iK.plain{H0:Hp}{S:List Addr}{H:Hp}{h:Ho}{v:V}{d:aA}(k:v=ly (step h d).2)(hd:d.asks=false):iK H0 S H h v d:=by
 cases d <;> first | exact k | cases hd
structure pV(H:Hp)(p:Addr)(ds:List aA)(U:List Str):Prop where
 tups:a6 aA.vals H p ds
 ok:∀ d∈ds,d.ok
 few:ds.length<=200
 acts:(ds.filter λd=>!d.asks).length<=63
 unames:U.length<=12
 names:∀ d∈ds,∀ x∈d.names,x∈U
def jP(L:LT):Sp:=λvs H Q _=>∃(p:Addr) (ds:List aA) (U:List Str),vs=[.ref p]/\pV H p ds U/\cB L H /\
 ∀(r:Addr) (outs:List V) (H':Hp),aV H H'->cB L H'->H r=none->H' r=some (.lst outs)->outs.length=ds.length->(∀(i:Nat) (d:aA) (v:V),ds[i]?=some d->outs[i]?=some v->si H' (run bb (ds.take i)) v d)->Q (.ref r) H'
theorem kP{ds:List aA}{U:List Str}(h:∀ d∈ds,∀ y∈d.names,y∈U):∀ y∈cy (run bb ds),y∈U:=λy hy=>by
 unfold cy at hy;simp only [Qr,Qg] at hy;rcases hy with⟨e,he,rfl⟩ | ⟨e,he,rfl⟩ | ⟨e,he,rfl⟩
 ·exact(lL h e he).1
 ·exact(lL h e he).2
 ·exact h _ (qu he) _ (by simp [aA.names])
end GH
namespace GH
open PySem L2 G1 PyProof.Rows
def yj:List aD->Bool
 | []=>false
 | e :: _=>decide (e.1="give")
theorem oz{h:Ho}(tx:cG h){y r:Str}{j:Nat}(he:∃ w ro pl ru,ce h y r j w ro pl ru):cX h r j y=yj (bq h y r (bh h j)).1:=by
 obtain⟨w,ro,pl,ru,I⟩:=he;rw [kO tx I];cases I with
 | none k1 =>
  rw [k1];exact Qp (by decide +kernel)
 | @some e ro k1 k2 k3 =>
  obtain⟨p0,l,z | ⟨z,hl⟩⟩:=gi (h:=h) (a:=y) (r:=r) (ways:=bh h j)
  ·rw [z] at k1;cases k1
  ·cases q:(bq h y r (bh h j)).1 with
   | nil=>rw [q] at k1;cases k1
   | cons e0 rest =>
    have h0:e0∈(bq h y r (bh h j)).1:=by rw [q];exact QJ
    rw [z] at h0 k1;have w0:=(tx.r _ (hl e0 (dH h0)).1).1;have w1:=(tx.r _ (hl e (dH k1)).1).1;have ee:=wf h0 k1 w0 w1;show _=decide (e0.1="give");rw [ee];rcases w1 with c | c
    ·rw [c,Qf (by decide +kernel),Qh rfl,Qh rfl]
    ·rw [c,Qn rfl,Qp (by decide +kernel),Qp (by decide +kernel)]
theorem oA{H:Hp}{p:Addr}{ds:List aA}{U:List Str}(ht:a6 aA.vals H p ds)(hU:U.length<=12)(few:ds.length<=200)(acts:(ds.filter λd=>!d.asks).length<=63)(all:∀ d∈ds,d.ok/\∀ x∈d.names,x∈U):pV H p ds U :=
 ⟨ht,λd hd=>(all d hd).1,few,acts,hU,λd hd=>(all d hd).2⟩
end GH
namespace SrtB
open PySem PyProof.Rows
def Seg(κ:PyProof.Rows.KeyKind)(xs:Array Keyed)(lo hi:Nat):Prop:=∀ i j,lo<=i->i<=j->j < hi->κ.kle (KK κ xs i) (KK κ xs j)
def iL(κ:PyProof.Rows.KeyKind)(xs:Array Keyed)(lo hi:Nat):Prop:=∀ i j,lo<=i->i<=j->j < hi->κ.kle (KK κ xs j) (KK κ xs i)
def Off(xs ys:Array Keyed)(lo:Nat):Prop:=∀ k,k < lo->ys[k]?=xs[k]?
structure Bs(a₀:Array Keyed)(st:SortSt):Prop where
 perm:(arrOf st).Perm a₀
 kind:kindOf st=oneType'
 failed:failedOf st=none
theorem Bs.size{a₀:Array Keyed}{st:SortSt}(h:Bs a₀ st):(arrOf st).size=a₀.size:=h.perm.size_eq
theorem Bs.arr{a₀:Array Keyed}{st:SortSt}(h:Bs a₀ st){xs:Array Keyed}(p:xs.Perm (arrOf st)):Bs a₀ (setArr st xs):=⟨p.trans h.perm,h.kind,h.failed⟩
section
variable{prog:Program} {w:World} {A:Around} {E:Value->Shared->Prop} {s:Shared} {a₀:Array Keyed} {κ:PyProof.Rows.KeyKind}
theorem Bs.key{st:SortSt}(h:Bs a₀ st)(h0:KeysOf κ a₀){i:Nat}(hi:i < a₀.size):∃ x p a,(arrOf st)[i]?=some (x,p)/\κ.keyOf x=some a/\KK κ (arrOf st) i=a:=by
 have hi':i < (arrOf st).size:=by rw [h.size];exact hi
 obtain⟨a,ha⟩:=h0 (arrOf st)[i] ((Vy.mp h.perm).mem_iff.mp (by simp));have e:(arrOf st)[i]?=some (arrOf st)[i]:=Q6 _ i hi';exact⟨_,_,a,e,ha,by unfold KK;rw [e];simp [ha]⟩
theorem kQ{st:SortSt}{i j:Nat}{Q:Option Bool->SortSt->Prop}(hO:κ.OneLt)(hB:Bs a₀ st)(h0:KeysOf κ a₀)(hi:i < a₀.size)(hj:j < a₀.size)
  (h:Q (some (κ.blt (KK κ (arrOf st) i) (KK κ (arrOf st) j))) st):wpS (model prog w) A E s (ltAt' i j) Q st:=by
 obtain⟨x,p,a,e1,ha,ka⟩:=hB.key h0 hi;obtain⟨y,q,b,e2,hb,kb⟩:=hB.key h0 hj;rw [ka,kb] at h;exact wpS_ltAtK hO hB.kind e1 e2 ha hb h
end
end SrtB
namespace SrtB
open PySem PyProof.Rows
def kk(κ:PyProof.Rows.KeyKind)(p:Keyed):κ.α:=(κ.keyOf p.1).getD κ.dflt
def iM(κ:PyProof.Rows.KeyKind)(p:Keyed):Prop:=∃ a,κ.keyOf p.1=some a
theorem tR{κ:PyProof.Rows.KeyKind}{xs:Array Keyed}{i:Nat}{p:Keyed}(h:xs[i]?=some p):KK κ xs i=kk κ p:=by
 unfold KK;rw [h];rfl
def gal:Bool->Keyed->Array Keyed->Nat->Nat->Nat->StateT SortSt Sem (Option Nat):=sortPriv% PySem.Builtin.gallop
def bey(κ:PyProof.Rows.KeyKind)(left:Bool)(key:Keyed)(arr:Array Keyed)(base i:Nat):Bool :=
 match left with
 | true=>κ.blt (KK κ arr (base+i)) (kk κ key)
 | false=>!(κ.blt (kk κ key) (KK κ arr (base+i)))
def beF(left:Bool)(key:Keyed)(arr:Array Keyed)(i:Nat):StateT SortSt Sem (Option Bool) :=
 elem' arr i >>= λx=>if left then lt' x key else lt' key x >>= λr=>pure (r.map (!·))
section
variable{prog:Program} {w:World} {A:Around} {E:Value->Shared->Prop} {s:Shared} {κ:PyProof.Rows.KeyKind}
theorem bA{st:SortSt}{arr:Array Keyed}{i:Nat}{p:Keyed}{Q:Keyed->SortSt->Prop}(h:arr[i]?=some p)(q:Q p st):wpS (model prog w) A E s (elem' arr i) Q st:=by
 rw [elem'_eq,h];exact QB q
theorem lW{st:SortSt}{x y:Keyed}{Q:Option Bool->SortSt->Prop}(hO:κ.OneLt)(hk:kindOf st=oneType')(hx:iM κ x)(hy:iM κ y)
  (h:Q (some (κ.blt (kk κ x) (kk κ y))) st):wpS (model prog w) A E s (lt' x y) Q st:=by
 obtain⟨a,ha⟩:=hx;obtain⟨b,hb⟩:=hy;unfold kk at h;rw [ha,hb] at h;rw [lt'_eq];refine Qv (VA ?_);rw [hk,keyLt'_oneType];exact Qv (VM (wpAny_attempt (hO prog w A _ s _ _ a b ha hb ⟨rfl,QB h⟩)))
theorem jQ{left:Bool}{key:Keyed}{arr:Array Keyed}{base i:Nat}{st:SortSt}{Q:Option Bool->SortSt->Prop}(hO:κ.OneLt)(hk:kindOf st=oneType')(hkey:iM κ key)
  (hi:base+i < arr.size) (hA:∀ p∈arr.toList,iM κ p) (h:Q (some (bey κ left key arr base i)) st):wpS (model prog w) A E s (beF left key arr (base+i)) Q st:=by
 have e:arr[base+i]?=some arr[base+i]:=Q6 arr _ hi;have hx:=hA arr[base+i] (by simp);cases left with
 | true =>
  refine Qv (bA e ?_);rw [Qn rfl];refine lW hO hk hx hkey ?_;rw [bey,tR e] at h;exact h
 | false =>
  refine Qv (bA e ?_);rw [Qf (by simp)];refine Qv (lW hO hk hkey hx (QB ?_));rw [bey,tR e] at h;exact h
theorem fm{left:Bool}{key:Keyed}{arr:Array Keyed}{base n:Nat}(mono:∀ i j,i<=j->j < n->κ.kle (KK κ arr (base+i)) (KK κ arr (base+j)))
  {i j:Nat} (hij:i<=j) (hj:j < n) (h:bey κ left key arr base j=true):bey κ left key arr base i=true:=by
 have m:=mono i j hij hj;cases left with
 | true=>exact KeyOrd.klt_of_kle_of_klt m h
 | false =>
  simp only [bey,VE] at h ⊢;exact Ue m h
theorem fL{left:Bool}{key:Keyed}{arr:Array Keyed}{base n:Nat}(mono:∀ i j,i<=j->j < n->κ.kle (KK κ arr (base+i)) (KK κ arr (base+j)))
  {i j:Nat} (hij:i<=j) (hj:j < n) (h:bey κ left key arr base i=false):bey κ left key arr base j=false:=by
 cases e:bey κ left key arr base j with
 | false=>rfl
 | true=>rw [fm mono hij hj e] at h;cases h
theorem iu{left:Bool}{key:Keyed}{arr:Array Keyed}{base n hint:Nat}{st:SortSt}{Q:Option Nat->SortSt->Prop}(hO:κ.OneLt)(hk:kindOf st=oneType')(hkey:iM κ key)
  (hb:base+n<=arr.size) (hh:hint < n) (hA:∀ p∈arr.toList,iM κ p) (mono:∀ i j,i<=j->j < n->κ.kle (KK κ arr (base+i)) (KK κ arr (base+j)))
  (h:∀ r,r<=n->(∀ i,i < r->bey κ left key arr base i=true)->(∀ i,r<=i->i < n->bey κ left key arr base i=false)->Q (some r) st) :
  wpS (model prog w) A E s (gal left key arr base n hint) Q st:=by
 refine Qv (m:=beF left key arr (base+hint)) (jQ hO hk hkey (by lia) hA ?_);dsimp only;cases hr:bey κ left key arr base hint
 case true =>
  rw [Qn rfl];refine Qv (UG (Ud (I:=λx c st'=>st'=st/\∃ l o,c=(none,l,o)/\l < o/\x < o/\hint+l < n/\bey κ left key arr base (hint+l)=true)
   (Q:=λc st'=>st'=st/\∃ l o,c=(none,l,o)/\l < o/\hint+l < n/\bey κ left key arr base (hint+l)=true/\(n - hint<=o\/(hint+o < n/\bey κ left key arr base (hint+o)=false))) ?step ?fin
    ⟨rfl,0,1,rfl,by lia,by lia,by lia,hr⟩) ?post)
  case fin =>
   rintro c st' ⟨rfl,l,o,rfl,h1,h2,h3,h4⟩;exact⟨rfl,l,o,rfl,h1,h3,h4,.inl (by lia)⟩
  case step =>
   rintro x c st' _ hx ⟨rfl,l,o,rfl,h1,h2,h3,h4⟩;dsimp only;by_cases hge:o>=n - hint
   ·rw [Qn hge];exact QB ⟨rfl,l,o,rfl,h1,h3,h4,.inl hge⟩
   ·rw [Qf hge];refine Qv (m:=beF left key arr (base+(hint+o))) (jQ hO hk hkey (by lia) hA ?_);dsimp only;cases hm:bey κ left key arr base (hint+o)
    case false =>
     rw [Qn (by simp)];exact QB ⟨rfl,l,o,rfl,h1,h3,h4,.inr ⟨by lia,hm⟩⟩
    case true =>
     rw [Qf (by simp)];exact QB ⟨rfl,o,2 * o+1,rfl,by lia,by lia,by lia,hm⟩
  case post =>
   rintro c st₁ ⟨rfl,l,o,rfl,h1,h3,h4,h5⟩;dsimp only;have H:hint+l+1<=hint+min o (n - hint)/\hint+min o (n - hint)<=n/\(∀ i,i < hint+l+1->bey κ left key arr base i=true) /\
     (∀ i,hint+min o (n - hint)<=i->i < n->bey κ left key arr base i=false):=by
    refine⟨by lia,by lia,λi hi=>fm mono (by lia) h3 h4,λi hi hin=>?_⟩;rcases h5 with h5 | ⟨h5,h6⟩
    ·omega
    ·exact fL mono (by lia) hin h6
   revert H;generalize hint+l+1=lo;generalize hint+min o (n - hint)=hi;rintro⟨g1,g2,g3,g4⟩;refine Qv (UG (Ud (I:=λx c st'=>st'=st₁/\∃ lo hi,c=(none,lo,hi)/\lo<=hi/\hi<=n/\hi - lo<=n - x/\(∀ i,i < lo->bey κ left key arr base i=true)/\(∀ i,hi<=i->i < n->bey κ left key arr base i=false))
    (Q:=λc st'=>st'=st₁/\∃ r,c=(none,r,r)/\r<=n/\(∀ i,i < r->bey κ left key arr base i=true)/\(∀ i,r<=i->i < n->bey κ left key arr base i=false)) ?step ?fin
    ⟨rfl,lo,hi,rfl,g1,g2,by lia,g3,g4⟩) ?post)
   case post =>
    rintro c st' ⟨rfl,r,rfl,h1,h2,h3⟩;exact QB (h r h1 h2 h3)
   case fin =>
    rintro c st' ⟨rfl,lo,hi,rfl,h1,h2,h3,h4,h5⟩;obtain rfl:lo=hi:=by lia
    exact⟨rfl,lo,rfl,h2,h4,h5⟩
   case step =>
    rintro x c st' _ hx ⟨rfl,lo,hi,rfl,h1,h2,h3,h4,h5⟩;dsimp only;by_cases hge:lo>=hi
    ·rw [Qn hge];obtain rfl:lo=hi:=by lia
     exact QB ⟨rfl,lo,rfl,h2,h4,h5⟩
    ·rw [Qf hge];refine Qv (m:=beF left key arr (base+(lo+(hi - lo) / 2))) (jQ hO hk hkey (by lia) hA ?_);dsimp only;cases hm:bey κ left key arr base (lo+(hi - lo) / 2)
     case true =>
      rw [Qn rfl];exact QB ⟨rfl,_,_,rfl,by lia,h2,by lia,λi hi'=>fm mono (show i<=lo+(hi - lo) / 2 by lia) (by lia) hm,h5⟩
     case false =>
      rw [Qf (by simp)];exact QB ⟨rfl,_,_,rfl,by lia,by lia,by lia,h4,λi hi' hin=>fL mono hi' hin hm⟩
 case false =>
  rw [Qf (by simp)];refine Qv (UG (Ud (I:=λx c st'=>st'=st/\∃ l o,c=(none,l,o)/\l < o/\x < o/\l<=hint/\bey κ left key arr base (hint - l)=false)
   (Q:=λc st'=>st'=st/\∃ l o,c=(none,l,o)/\l < o/\l<=hint/\bey κ left key arr base (hint - l)=false/\(hint+1<=o\/(o<=hint/\bey κ left key arr base (hint - o)=true))) ?step ?fin
    ⟨rfl,0,1,rfl,by lia,by lia,by lia,hr⟩) ?post)
  case fin =>
   rintro c st' ⟨rfl,l,o,rfl,h1,h2,h3,h4⟩;exact⟨rfl,l,o,rfl,h1,h3,h4,.inl (by lia)⟩
  case step =>
   rintro x c st' _ hx ⟨rfl,l,o,rfl,h1,h2,h3,h4⟩;dsimp only;by_cases hge:o>=hint+1
   ·rw [Qn hge];exact QB ⟨rfl,l,o,rfl,h1,h3,h4,.inl hge⟩
   ·rw [Qf hge];refine Qv (m:=beF left key arr (base+(hint - o))) (jQ hO hk hkey (by lia) hA ?_);dsimp only;cases hm:bey κ left key arr base (hint - o)
    case true =>
     rw [Qn rfl];exact QB ⟨rfl,l,o,rfl,h1,h3,h4,.inr ⟨by lia,hm⟩⟩
    case false =>
     rw [Qf (by simp)];exact QB ⟨rfl,o,2 * o+1,rfl,by lia,by lia,by lia,hm⟩
  case post =>
   rintro c st₁ ⟨rfl,l,o,rfl,h1,h3,h4,h5⟩;dsimp only;have H:hint+1 - min o (hint+1)<=hint - l/\hint - l<=n/\(∀ i,i < hint+1 - min o (hint+1)->bey κ left key arr base i=true) /\
     (∀ i,hint - l<=i->i < n->bey κ left key arr base i=false):=by
    refine⟨by lia,by lia,λi hi=>?_,λi hi hin=>fL mono hi hin h4⟩;rcases h5 with h5 | ⟨h5,h6⟩
    ·omega
    ·exact fm mono (show i<=hint - o by lia) (by lia) h6
   revert H;generalize hint+1 - min o (hint+1)=lo;generalize hint - l=hi;rintro⟨g1,g2,g3,g4⟩;refine Qv (UG (Ud (I:=λx c st'=>st'=st₁/\∃ lo hi,c=(none,lo,hi)/\lo<=hi/\hi<=n/\hi - lo<=n - x/\(∀ i,i < lo->bey κ left key arr base i=true)/\(∀ i,hi<=i->i < n->bey κ left key arr base i=false))
    (Q:=λc st'=>st'=st₁/\∃ r,c=(none,r,r)/\r<=n/\(∀ i,i < r->bey κ left key arr base i=true)/\(∀ i,r<=i->i < n->bey κ left key arr base i=false)) ?step ?fin
    ⟨rfl,lo,hi,rfl,g1,g2,by lia,g3,g4⟩) ?post)
   case post =>
    rintro c st' ⟨rfl,r,rfl,h1,h2,h3⟩;exact QB (h r h1 h2 h3)
   case fin =>
    rintro c st' ⟨rfl,lo,hi,rfl,h1,h2,h3,h4,h5⟩;obtain rfl:lo=hi:=by lia
    exact⟨rfl,lo,rfl,h2,h4,h5⟩
   case step =>
    rintro x c st' _ hx ⟨rfl,lo,hi,rfl,h1,h2,h3,h4,h5⟩;dsimp only;by_cases hge:lo>=hi
    ·rw [Qn hge];obtain rfl:lo=hi:=by lia
     exact QB ⟨rfl,lo,rfl,h2,h4,h5⟩
    ·rw [Qf hge];refine Qv (m:=beF left key arr (base+(lo+(hi - lo) / 2))) (jQ hO hk hkey (by lia) hA ?_);dsimp only;cases hm:bey κ left key arr base (lo+(hi - lo) / 2)
     case true =>
      rw [Qn rfl];exact QB ⟨rfl,_,_,rfl,by lia,h2,by lia,λi hi'=>fm mono (show i<=lo+(hi - lo) / 2 by lia) (by lia) hm,h5⟩
     case false =>
      rw [Qf (by simp)];exact QB ⟨rfl,_,_,rfl,by lia,by lia,by lia,h4,λi hi' hin=>fL mono hi' hin hm⟩
end
end SrtB
namespace SrtB
open PySem PyProof.Rows
abbrev Rl(κ:PyProof.Rows.KeyKind)(x y:Keyed):Prop:=κ.kle (kk κ x) (kk κ y)
structure Mg(κ:PyProof.Rows.KeyKind)(A B out:List Keyed)(ia ib:Nat):Prop where
 pa:(out++A.drop ia).Pairwise (Rl κ)
 pb:(out++B.drop ib).Pairwise (Rl κ)
 pm:(out++(A.drop ia++B.drop ib)).Perm (A++B)
structure Fn(κ:PyProof.Rows.KeyKind)(A B out:List Keyed):Prop where
 so:out.Pairwise (Rl κ)
 pm:out.Perm (A++B)
section
variable{κ:PyProof.Rows.KeyKind} {A B out:List Keyed} {ia ib k:Nat}
theorem Mg.symm(h:Mg κ A B out ia ib):Mg κ B A out ib ia:=⟨h.pb,h.pa,((Ux).append_left out).trans (h.pm.trans Ux)⟩
theorem Mg.blockA(h:Mg κ A B out ia ib)(c:∀ x∈(A.drop ia).take k,∀ y∈B.drop ib,Rl κ x y):Mg κ A B (out++(A.drop ia).take k) (ia+k) ib:=by
 have e:(A.drop ia).take k++A.drop (ia+k)=A.drop ia:=by rw [<-List.drop_drop];exact UZ _ _
 have h1:=h.pa;have h2:=h.pb;have h3:=h.pm;rw [<-e] at h1 h3;refine⟨by rw [QV];exact h1,?_,by simpa [QV] using h3⟩;rw [<-QV,Ub] at h1;rw [Ub] at h2 ⊢;refine⟨h1.1,h2.2.1,λx hx y hy=>?_⟩;rcases Qr.mp hx with hx | hx
 ·exact h2.2.2 x hx y hy
 ·exact c x hx y hy
theorem pW{x:Keyed}(h:(A.drop ia).Pairwise (Rl κ))(e:A[ia]?=some x){y:Keyed}(hy:y∈A.drop ia):Rl κ x y:=by
 obtain⟨hl,rfl⟩:=Qb.mp e;rw [Uw hl] at h hy;rcases Qi.mp hy with rfl | hy
 ·exact UF _
 ·exact(UO.mp h).1 y hy
theorem nj{x:Keyed}(e:A[ia]?=some x):(A.drop ia).take 1=[x]:=by
 obtain⟨hl,rfl⟩:=Qb.mp e;rw [Uw hl];rfl
theorem Mg.pushA(h:Mg κ A B out ia ib){x y:Keyed}(e:A[ia]?=some x)(e':B[ib]?=some y)(r:Rl κ x y):Mg κ A B (out++[x]) (ia+1) ib:=by
 rw [<-nj e];refine h.blockA λz hz v hv=>?_;rw [nj e,Qo] at hz;subst hz;exact Ue r (pW (Ub.mp h.pb).2.1 e' hv)
theorem Mg.pushB(h:Mg κ A B out ia ib){x y:Keyed}(e:A[ia]?=some x)(e':B[ib]?=some y)(r:Rl κ y x):Mg κ A B (out++[y]) ia (ib+1):=(h.symm.pushA e' e r).symm
theorem Mg.galA(h:Mg κ A B out ia ib){y:Keyed}(e':B[ib]?=some y)(c:∀ i,i < k->∀ x,A[ia+i]?=some x->Rl κ x y):Mg κ A B (out++(A.drop ia).take k) (ia+k) ib:=by
 refine h.blockA λx hx v hv=>?_;obtain⟨i,hi,rfl⟩:=Vp.mp hx;have hi':i < k:=by simp at hi;lia
 refine Ue (c i hi' _ ?_) (pW (Ub.mp h.pb).2.1 e' hv);have:ia+i < A.length:=by simp at hi;lia
 rw [Qe this];simp
theorem Mg.galB(h:Mg κ A B out ia ib){x:Keyed}(e:A[ia]?=some x)(c:∀ i,i < k->∀ y,B[ib+i]?=some y->Rl κ y x):Mg κ A B (out++(B.drop ib).take k) ia (ib+k):=(h.symm.galA e c).symm
theorem Mg.doneB(h:Mg κ A B out ia ib)(e:B.length<=ib):Fn κ A B (out++A.drop ia++B.drop ib):=by
 have h3:=h.pm;rw [List.drop_eq_nil_of_le e] at h3 ⊢;rw [Uv] at h3 ⊢;exact⟨h.pa,h3⟩
theorem Mg.doneA(h:Mg κ A B out ia ib)(e:A.length<=ia):Fn κ A B (out++A.drop ia++B.drop ib):=by
 have h3:=h.pm;rw [List.drop_eq_nil_of_le e] at h3 ⊢;rw [List.nil_append] at h3;rw [Uv];exact⟨h.pb,h3⟩
theorem Mg.lastA(h:Mg κ A B out ia ib)(e:ia+1=A.length){x:Keyed}(ex:A[ia]?=some x)(c:∀ y∈B,Rl κ y x):Fn κ A B (out++B.drop ib++A.drop ia):=by
 have ed:A.drop ia=[x]:=by
  obtain⟨hl,rfl⟩:=Qb.mp ex;rw [Uw hl,e,List.drop_length]
 have h1:=h.pa;have h3:=h.symm.pm;rw [ed] at h1 h3 ⊢;refine⟨?_,by rw [QV];exact h3.trans Ux⟩;rw [Ub] at h1 ⊢;refine⟨h.pb,h1.2.1,λy hy z hz=>?_⟩;rcases Qr.mp hy with hy | hy
 ·exact h1.2.2 y hy z hz
 ·rw [Qo] at hz;subst hz;exact c y (List.mem_of_mem_drop hy)
theorem dv{a:Array Keyed}{i:Nat}:(a.extract i a.size).toList=a.toList.drop i:=by
 simp;rw [UJ (by simp)]
theorem pX{a:Array Keyed}{i k:Nat}:(a.extract i (i+k)).toList=(a.toList.drop i).take k:=by simp [Nat.add_sub_cancel_left]
end
def Mga(κ:PyProof.Rows.KeyKind)(a b out:Array Keyed)(ia ib:Nat):Prop:=Mg κ a.toList b.toList out.toList ia ib
def Fna(κ:PyProof.Rows.KeyKind)(a b out:Array Keyed):Prop:=Fn κ a.toList b.toList out.toList
section
variable{κ:PyProof.Rows.KeyKind} {a b out:Array Keyed} {ia ib k:Nat}
theorem gW(hi:ia < a.size):a.toList[ia]?=some a[ia]:=by simp [hi]
theorem Mga.pushA(h:Mga κ a b out ia ib)(hi:ia < a.size)(hj:ib < b.size)(r:Rl κ a[ia] b[ib]):Mga κ a b (out.push a[ia]) (ia+1) ib:=by
 unfold Mga;rw [VF];exact Mg.pushA h (gW hi) (gW hj) r
theorem Mga.pushB(h:Mga κ a b out ia ib)(hi:ia < a.size)(hj:ib < b.size)(r:Rl κ b[ib] a[ia]):Mga κ a b (out.push b[ib]) ia (ib+1):=by
 unfold Mga;rw [VF];exact Mg.pushB h (gW hi) (gW hj) r
theorem cZ(hi:ia < a.size):KK κ a ia=kk κ a[ia]:=tR (Q6 a ia hi)
theorem Mga.galA(h:Mga κ a b out ia ib)(hj:ib < b.size)(c:∀ i,i < k->bey κ false b[ib] a ia i=true):Mga κ a b (out++a.extract ia (ia+k)) (ia+k) ib:=by
 unfold Mga;rw [QZ,pX];refine Mg.galA h (gW hj) λi hi x e=>?_;have c':=c i hi;obtain⟨hl,rfl⟩:=Qb.mp e;simp only [Q0] at hl;simp only [bey,VE,cZ hl] at c';exact c'
theorem Mga.galB(h:Mga κ a b out ia ib)(hi:ia < a.size)(c:∀ i,i < k->bey κ true a[ia] b ib i=true):Mga κ a b (out++b.extract ib (ib+k)) ia (ib+k):=by
 unfold Mga;rw [QZ,pX];refine Mg.galB h (gW hi) λi hi x e=>?_;have c':=c i hi;obtain⟨hl,rfl⟩:=Qb.mp e;simp only [Q0] at hl;simp only [bey,cZ hl] at c';exact Ul c'
theorem Mga.fnB(h:Mga κ a b out ia ib)(e:b.size<=ib):Fna κ a b (out++a.extract ia a.size++b.extract ib b.size):=by
 unfold Fna;rw [QZ,QZ,dv,dv];exact Mg.doneB h (by simpa using e)
theorem Mga.fnA(h:Mga κ a b out ia ib)(e:a.size<=ia):Fna κ a b (out++a.extract ia a.size++b.extract ib b.size):=by
 unfold Fna;rw [QZ,QZ,dv,dv];exact Mg.doneA h (by simpa using e)
theorem Mga.fnL(h:Mga κ a b out ia ib)(e:ia+1=a.size)(na:0 < a.size)(c:∀ y∈b.toList,Rl κ y a[a.size - 1]):Fna κ a b (out++b.extract ib b.size++a.extract ia a.size):=by
 unfold Fna;rw [QZ,QZ,dv,dv];refine Mg.lastA h (by simpa using e) (gW (show ia < a.size by lia)) ?_;have e':ia=a.size - 1:=by lia
 subst e';exact c
theorem gX(sa:a.toList.Pairwise (Rl κ))(base n:Nat)(hb:base+n<=a.size):∀ i j,i<=j->j < n->κ.kle (KK κ a (base+i)) (KK κ a (base+j)):=by
 intro i j hij hj;rw [cZ (show base+i < a.size by lia),cZ (show base+j < a.size by lia)];by_cases e:i=j
 ·subst e;exact UF _
 ·have:=Uj.mp sa (base+i) (base+j) (by simp;lia) (by simp;lia) (by lia);simpa using this
theorem xa{y:Keyed}(hl:ia+k < a.size)(h:bey κ false y a ia k=false):Rl κ y a[ia+k]:=by
 simp only [bey,Bool.not_eq_false',cZ hl] at h;exact Ul h
theorem xc{y:Keyed}(hl:ia+k < a.size)(h:bey κ true y a ia k=false):Rl κ y a[ia+k]:=by
 simp only [bey,cZ hl] at h;exact h
end
def mLo:Array Keyed->Array Keyed->StateT SortSt Sem (Array Keyed):=sortPriv% PySem.Builtin.mergeLo
def tS:Nat->StateT SortSt Sem Unit:=sortPriv% PySem.Builtin.setMinGallop
structure Sm(st st':SortSt):Prop where
 kind:kindOf st'=kindOf st
 arr:arrOf st'=arrOf st
 pend:pendingOf st'=pendingOf st
 failed:failedOf st'=failedOf st
theorem Sm.rfl{st:SortSt}:Sm st st:=⟨by rfl,by rfl,by rfl,by rfl⟩
theorem Sm.trans{x y z:SortSt}(h:Sm x y)(g:Sm y z):Sm x z:=⟨g.kind.trans h.kind,g.arr.trans h.arr,g.pend.trans h.pend,g.failed.trans h.failed⟩
structure Go(κ:PyProof.Rows.KeyKind)(a b out:Array Keyed)(ia ib n:Nat):Prop where
 mg:Mga κ a b out ia ib
 ha:ia+1 < a.size
 hb:ib < b.size
 hn:n<=ia+ib
section
variable{prog:Program} {w:World} {A:Around} {E:Value->Shared->Prop} {s:Shared} {κ:PyProof.Rows.KeyKind}
theorem aR{α:Type}{c:Prop} [Decidable c] {x y:StateT SortSt Sem α} {Q:α->SortSt->Prop} {st:SortSt} (h1:c->wpS (model prog w) A E s x Q st) (h2:¬ c->wpS (model prog w) A E s y Q st) :
  wpS (model prog w) A E s (if c then x else y) Q st:=by
 by_cases h:c
 ·rw [Qn h];exact h1 h
 ·rw [Qf h];exact h2 h
theorem iV{g:Nat}{Q:Unit->SortSt->Prop}{st:SortSt}(h:∀ st',Sm st st'->Q () st'):wpS (model prog w) A E s (tS g) Q st:=wpS_modify (h _ ⟨rfl,rfl,rfl,rfl⟩)
theorem dw{n m:Nat}(h:¬ (n == m)=true):n≠m:=λe=>h (by rw [e];simp)
theorem xf{a b:Array Keyed}{st:SortSt}{Q:Array Keyed->SortSt->Prop}(hO:κ.OneLt)(hk:kindOf st=oneType')(ka:∀ p∈a.toList,iM κ p)(kb:∀ p∈b.toList,iM κ p)
  (sa:a.toList.Pairwise (Rl κ)) (sb:b.toList.Pairwise (Rl κ)) (na:0 < a.size) (nb:0 < b.size) (h1:Rl κ b[0] a[0]) (h2:∀ y∈b.toList,Rl κ y a[a.size - 1])
  (h:∀ out st',Sm st st'->Fna κ a b out->Q out st'):wpS (model prog w) A E s (mLo a b) Q st:=by
 have m0:Mga κ a b #[] 0 0:=⟨by simpa using sa,by simpa using sb,by simp⟩;have m1:Mga κ a b #[b[0]] 0 1:=m0.pushB na nb h1;refine Qv (VM (U2 ⟨rfl,?_⟩));refine Qv (bA (Q6 b 0 nb) ?_);dsimp only;refine aR (λhc=>QB (h _ _ .rfl (m1.fnB (Us (QY hc).symm)))) λhc=>?_;refine aR (λhd=>QB (h _ _ .rfl (m1.fnL (QY hd) na h2))) λhd=>?_;have hc':¬ 1=b.size:=by simpa using hc
 have hd':¬ 0+1=a.size:=λe=>hd (by rw [e];simp);refine Qv (VA ?_);refine Qv (UG (Ud (I:=λx c st'=>Sm st st'/\∃ out ia ib g,c=(none,out,ia,ib,g)/\Go κ a b out ia ib (x+1))
  (Q:=λc st'=>Sm st st'/\∃ r c',c=(some r,c')/\Fna κ a b r) ?step ?fin ⟨.rfl,_,_,_,_,rfl,m1,by lia,by lia,by lia⟩) ?post)
 case post =>
  rintro c st' ⟨hm,r,c',rfl,hf⟩;exact QB (h _ _ hm hf)
 case fin =>
  rintro c st' ⟨hm,out,ia,ib,g,rfl,hg⟩;have:=hg.ha;have:=hg.hb;have:=hg.hn;lia
 case step =>
  rintro x c st' _ hx ⟨hm,out,ia,ib,g,rfl,hg⟩;dsimp only;refine Qv (UG (Ud (I:=λy c st''=>st''=st'/\∃ out ia ib ac bc,c=(none,out,ia,ib,ac,bc)/\Go κ a b out ia ib (x+1+y))
   (Q:=λc st''=>st''=st'/\∃ o out ia ib ac bc,c=(o,out,ia,ib,ac,bc)/\((∃ r,o=some r/\Fna κ a b r)\/(o=none/\Go κ a b out ia ib (x+2)))) ?step1 ?fin1 ⟨rfl,_,_,_,_,_,rfl,hg⟩) ?post1)
  case fin1 =>
   rintro c st'' ⟨hm,out,ia,ib,ac,bc,rfl,hg⟩;have:=hg.ha;have:=hg.hb;have:=hg.hn;lia
  case step1 =>
   rintro y c st'' _ hy ⟨rfl,out,ia,ib,ac,bc,rfl,hg⟩;obtain⟨mg,ha,hb,hn⟩:=hg;dsimp only;have hA:ia < a.size:=by lia
   refine Qv (bA (Q6 b ib hb) ?_);refine Qv (bA (Q6 a ia hA) ?_);refine Qv (lW hO (hm.kind.trans hk) (kb _ (by simp)) (ka _ (by simp)) ?_);dsimp only;cases hw:κ.blt (kk κ b[ib]) (kk κ a[ia])
   case true =>
    rw [Qn rfl];refine Qv (bA (Q6 b ib hb) ?_);have mg':=mg.pushB hA hb (Ul hw);refine aR (λhe=>QB ⟨rfl,_,_,_,_,_,_,rfl,.inl ⟨_,rfl,mg'.fnB (Us (QY he).symm)⟩⟩) λhe=>?_;have he':¬ ib+1=b.size:=λe=>he (by rw [e];simp);refine aR (λ_=>QB ⟨rfl,_,_,_,_,_,_,rfl,.inr ⟨rfl,mg',ha,by lia,by lia⟩⟩) λ_=>?_;exact QB ⟨rfl,_,_,_,_,_,rfl,mg',ha,by lia,by lia⟩
   case false =>
    rw [Qf (by simp)];refine Qv (bA (Q6 a ia hA) ?_);have mg':=mg.pushA hA hb hw;refine aR (λhe=>QB ⟨rfl,_,_,_,_,_,_,rfl,.inl ⟨_,rfl,mg'.fnL (QY he) na h2⟩⟩) λhe=>?_;have he':¬ ia+1+1=a.size:=λe=>he (by rw [e];simp);refine aR (λ_=>QB ⟨rfl,_,_,_,_,_,_,rfl,.inr ⟨rfl,mg',by lia,hb,by lia⟩⟩) λ_=>?_;exact QB ⟨rfl,_,_,_,_,_,rfl,mg',by lia,hb,by lia⟩
  case post1 =>
   rintro c st'' ⟨rfl,o,out,ia,ib,ac,bc,rfl,⟨r,rfl,hf⟩ | ⟨rfl,hg⟩⟩
   ·exact QB ⟨hm,_,_,rfl,hf⟩
   dsimp only;refine Qv (VM (U2 ⟨rfl,?_⟩));refine Qv (UG (Ud (I:=λy c st''=>Sm st st''/\∃ out ia ib g ac bc,c=(none,out,ia,ib,g,ac,bc)/\Go κ a b out ia ib (x+2))
    (Q:=λc st''=>Sm st st''/\∃ o out ia ib g ac bc,c=(o,out,ia,ib,g,ac,bc)/\((∃ r,o=some r/\Fna κ a b r)\/(o=none/\Go κ a b out ia ib (x+2)))) ?step2 ?fin2 ⟨hm,_,_,_,_,_,_,rfl,hg⟩) ?post2)
   case fin2 =>
    rintro c st'' ⟨hm,out,ia,ib,g,ac,bc,rfl,hg⟩;exact⟨hm,_,_,_,_,_,_,_,rfl,.inr ⟨rfl,hg⟩⟩
   case post2 =>
    rintro c st'' ⟨hm,o,out,ia,ib,g,ac,bc,rfl,⟨r,rfl,hf⟩ | ⟨rfl,hg⟩⟩
    ·exact QB ⟨hm,_,_,rfl,hf⟩
    dsimp only;refine Qv (m:=tS (g+1)) (iV λst₂ hm₂=>?_);exact QB ⟨hm.trans hm₂,_,_,_,_,rfl,hg⟩
   case step2 =>
    rintro y c st₁ _ hy ⟨hm,out,ia,ib,g,ac,bc,rfl,hg⟩;obtain⟨mg,ha,hb,hn⟩:=hg;dsimp only;have hA:ia < a.size:=by lia
    refine aR (λhg=>?_) λhg=>?_;all_goals refine Qv (m:=tS _) (iV λst₂ hm₂=>?_)
    all_goals replace hm₂:=hm.trans hm₂
    all_goals refine Qv (bA (Q6 b ib hb) ?_)
    all_goals refine Qv (m:=gal false b[ib] a ia (a.size - ia) 0) (iu hO (hm₂.kind.trans hk) (kb _ (by simp)) (by lia) (by lia) ka (gX sa _ _ (by lia)) λk k1 k2 k3=>?_)
    all_goals dsimp only
    all_goals refine aR (λk0=>aR (λe1=>QB ⟨hm₂,_,_,_,_,_,_,_,rfl,.inl ⟨_,rfl,(mg.galA hb k2).fnL (QY e1) na h2⟩⟩) λe1 =>
     aR (λe2=>QB ⟨hm₂,_,_,_,_,_,_,_,rfl,.inl ⟨_,rfl,(mg.galA hb k2).fnA (Us (QY e2).symm)⟩⟩) λe2=>?_) λk0=>?_
    all_goals first
     | (have n1:=dw e1;have n2:=dw e2;have ha1:ia+k+1 < a.size:=(by lia);have hA1:ia+k < a.size:=(by lia);have hr:=xa hA1 (k3 k (Qk _) (by lia));have mg1:=mg.galA hb k2;have hn1:x+2<=ia+k+ib:=(by lia))
     | (have ha1:=ha;have hA1:=hA;have hr:Rl κ b[ib] a[ia]:=xa (k:=0) hA (k3 0 (by lia) (by lia));have mg1:=mg;have hn1:=hn)
    all_goals have mg2:=mg1.pushB hA1 hb hr
    all_goals refine Qv (bA (Q6 b ib hb) ?_)
    all_goals refine aR (λe=>QB ⟨hm₂,_,_,_,_,_,_,_,rfl,.inl ⟨_,rfl,mg2.fnB (Us (QY e).symm)⟩⟩) λe3=>?_
    all_goals have n3:=dw e3
    all_goals have hb2:ib+1 < b.size:=by lia
    all_goals refine Qv (bA (Q6 a _ hA1) ?_)
    all_goals refine Qv (m:=gal true _ b (ib+1) (b.size - (ib+1)) 0) (iu hO (hm₂.kind.trans hk) (ka _ (by simp)) (by lia) (by lia) kb (gX sb _ _ (by lia)) λq q1 q2 q3=>?_)
    all_goals dsimp only
    all_goals refine aR (λq0=>aR (λe4=>QB ⟨hm₂,_,_,_,_,_,_,_,rfl,.inl ⟨_,rfl,(mg2.galB hA1 q2).fnB (Us (QY e4).symm)⟩⟩) λe4=>?_) λq0=>?_
    all_goals first
     | (have n4:=dw e4;have hb3:ib+1+q < b.size:=(by lia);have hr2:=xc hb3 (q3 q (Qk _) (by lia));have mg3:=mg2.galB hA1 q2;have hn3:=QQ hn1 (Nat.add_le_add_left (show ib<=ib+1+q by lia) _))
     | (have hb3:=hb2;have hr2:=xc (k:=0) hb2 (q3 0 (by lia) (by lia));have mg3:=mg2;have hn3:=QQ hn1 (Nat.add_le_add_left (show ib<=ib+1 by lia) _))
    all_goals have mg4:=mg3.pushA hA1 hb3 hr2
    all_goals refine Qv (bA (Q6 a _ hA1) ?_)
    all_goals refine aR (λe=>QB ⟨hm₂,_,_,_,_,_,_,_,rfl,.inl ⟨_,rfl,mg4.fnL (QY e) na h2⟩⟩) λe5=>?_
    all_goals have n5:=dw e5
    all_goals have gg:=Go.mk mg4 (show _ < a.size by lia) hb3 (show x+2<=_ by lia)
    all_goals exact aR (λ_=>QB ⟨hm₂,_,_,_,_,_,_,_,rfl,.inr ⟨rfl,gg⟩⟩) λ_=>QB ⟨hm₂,_,_,_,_,_,_,rfl,gg⟩
end
end SrtB
namespace SrtB
open PySem PyProof.Rows
structure Mh(κ:PyProof.Rows.KeyKind)(A B out:List Keyed)(na nb:Nat):Prop where
 pa:(A.take na++out.reverse).Pairwise (Rl κ)
 pb:(B.take nb++out.reverse).Pairwise (Rl κ)
 pm:(A.take na++(B.take nb++out.reverse)).Perm (A++B)
section
variable{κ:PyProof.Rows.KeyKind} {A B out:List Keyed} {na nb t:Nat}
theorem Mh.symm(h:Mh κ A B out na nb):Mh κ B A out nb na:=by
 refine⟨h.pb,h.pa,?_⟩;have h3:=h.pm;rw [<-QV] at h3 ⊢;exact((Ux).append_right _).trans (h3.trans Ux)
theorem Mh.blockA(h:Mh κ A B out na nb)(ht:t<=na)(c:∀ x∈(A.take na).drop t,∀ y∈B.take nb,Rl κ y x):Mh κ A B (out++((A.take na).drop t).reverse) t nb:=by
 have e:A.take t++(A.take na).drop t=A.take na:=by
  have:=UZ t (A.take na);rwa [List.take_take,Nat.min_eq_left ht] at this
 have h1:=h.pa;have h2:=h.pb;have h3:=h.pm;rw [<-e] at h1 h3;generalize (A.take na).drop t=T at *;rw [QV] at h1;refine⟨?_,?_,?_⟩
 ·rw [List.reverse_append,List.reverse_reverse];exact h1
 ·rw [List.reverse_append,List.reverse_reverse];rw [Ub] at h1 h2 ⊢;refine⟨h2.1,h1.2.1,λy hy x hx=>?_⟩;rcases Qr.mp hx with hx | hx
  ·exact c x hx y hy
  ·exact h2.2.2 y hy x hx
 ·rw [List.reverse_append,List.reverse_reverse];refine List.Perm.trans ?_ h3;rw [QV];refine List.Perm.append_left _ ?_;rw [<-QV,<-QV];exact(Ux).append_right _
theorem u8{x y:Keyed}(h:(B.take (nb+1)).Pairwise (Rl κ))(e:B[nb]?=some x)(hy:y∈B.take (nb+1)):Rl κ y x:=by
 obtain⟨hl,rfl⟩:=Qb.mp e;obtain⟨i,hi,rfl⟩:=Vp.mp hy;have hi':i < nb+1:=by simp at hi;lia
 by_cases he:i=nb
 ·subst he;rw [List.getElem_take];exact UF _
 ·have:=Uj.mp h i nb hi (by simp;lia) (by lia);rw [List.getElem_take (i:=nb)] at this;exact this
theorem tT{x:Keyed}(e:A[na]?=some x):(A.take (na+1)).drop na=[x]:=by
 obtain⟨hl,rfl⟩:=Qb.mp e;rw [List.drop_take,Uw hl,Nat.add_sub_cancel_left];rfl
theorem Mh.galA(h:Mh κ A B out na (nb+1))(ht:t<=na){y:Keyed}(e':B[nb]?=some y)(c:∀ i,t<=i->i < na->∀ x,A[i]?=some x->Rl κ y x):Mh κ A B (out++((A.take na).drop t).reverse) t (nb+1):=by
 refine h.blockA ht λx hx v hv=>?_;obtain⟨i,hi,rfl⟩:=Vp.mp hx;have hi':t+i < na/\t+i < A.length:=by simp at hi;lia
 refine Ue (u8 (Ub.mp h.pb).1 e' hv) (c (t+i) (by lia) hi'.1 _ ?_);rw [Qe hi'.2];simp
theorem Mh.galB(h:Mh κ A B out (na+1) nb)(ht:t<=nb){x:Keyed}(e:A[na]?=some x)(c:∀ i,t<=i->i < nb->∀ y,B[i]?=some y->Rl κ x y):Mh κ A B (out++((B.take nb).drop t).reverse) (na+1) t:=(h.symm.galA ht e c).symm
theorem Mh.pushA(h:Mh κ A B out (na+1) (nb+1)){x y:Keyed}(e:A[na]?=some x)(e':B[nb]?=some y)(r:Rl κ y x):Mh κ A B (out++[x]) na (nb+1):=by
 have:=h.galA (t:=na) (Uc _) e' λi h1 h2 z ez=>by
  obtain rfl:i=na:=by lia
  rw [e] at ez;cases ez;exact r
 rwa [tT e] at this
theorem Mh.pushB(h:Mh κ A B out (na+1) (nb+1)){x y:Keyed}(e:A[na]?=some x)(e':B[nb]?=some y)(r:Rl κ x y):Mh κ A B (out++[y]) (na+1) nb:=(h.symm.pushA e' e r).symm
theorem Mh.doneA(h:Mh κ A B out 0 nb):Fn κ A B (A.take 0++B.take nb++out.reverse):=⟨h.pb,h.pm⟩
theorem Mh.doneB(h:Mh κ A B out na 0):Fn κ A B (A.take na++B.take 0++out.reverse):=by
 rw [Vj,Uv];exact⟨h.pa,h.pm⟩
theorem Mh.firstB(h:Mh κ A B out na 1){y:Keyed}(e:B[0]?=some y)(c:∀ x∈A,Rl κ y x):Fn κ A B (B.take 1++A.take na++out.reverse):=by
 have ed:B.take 1=[y]:=by
  obtain⟨hl,rfl⟩:=Qb.mp e;cases B with
  | nil=>simp at hl
  | cons b B=>rfl
 have h2:=h.pb;have h3:=h.symm.pm;rw [ed] at h2 h3 ⊢;refine⟨?_,by rw [QV];exact h3.trans Ux⟩;rw [QV,List.singleton_append,UO];refine⟨λz hz=>?_,h.pa⟩;rcases Qr.mp hz with hz | hz
 ·exact c z (UB hz)
 ·exact(UO.mp h2).1 z hz
theorem fo{a:Array Keyed}{n:Nat}:(a.extract 0 n).toList=a.toList.take n:=by simp
theorem iW{a:Array Keyed}{i n:Nat}:(a.extract i n).toList=(a.toList.take n).drop i:=by simp [List.drop_take]
end
def Mha(κ:PyProof.Rows.KeyKind)(a b out:Array Keyed)(na nb:Nat):Prop:=Mh κ a.toList b.toList out.toList na nb
section
variable{κ:PyProof.Rows.KeyKind} {a b out:Array Keyed} {na nb t:Nat}
theorem Mha.pushA(h:Mha κ a b out na nb)(n1:0 < na)(n2:0 < nb)(hi:na - 1 < a.size)(hj:nb - 1 < b.size)(r:Rl κ b[nb - 1] a[na - 1]):Mha κ a b (out.push a[na - 1]) (na - 1) nb:=by
 obtain⟨na,rfl⟩:∃ n,na=n+1:=⟨na - 1,by lia⟩;obtain⟨nb,rfl⟩:∃ n,nb=n+1:=⟨nb - 1,by lia⟩;unfold Mha;rw [VF];exact Mh.pushA h (gW hi) (gW hj) r
theorem Mha.pushB(h:Mha κ a b out na nb)(n1:0 < na)(n2:0 < nb)(hi:na - 1 < a.size)(hj:nb - 1 < b.size)(r:Rl κ a[na - 1] b[nb - 1]):Mha κ a b (out.push b[nb - 1]) na (nb - 1):=by
 obtain⟨na,rfl⟩:∃ n,na=n+1:=⟨na - 1,by lia⟩;obtain⟨nb,rfl⟩:∃ n,nb=n+1:=⟨nb - 1,by lia⟩;unfold Mha;rw [VF];exact Mh.pushB h (gW hi) (gW hj) r
theorem Mha.galA(h:Mha κ a b out na nb)(n2:0 < nb)(ht:t<=na)(hj:nb - 1 < b.size)(c:∀ i,t<=i->i < na->bey κ false b[nb - 1] a 0 i=false):Mha κ a b (out++(a.extract t na).reverse) t nb:=by
 obtain⟨nb,rfl⟩:∃ n,nb=n+1:=⟨nb - 1,by lia⟩;unfold Mha;rw [QZ,U6,iW];refine Mh.galA h ht (gW hj) λi h1 h2 x e=>?_;have c':=c i h1 h2;obtain⟨hl,rfl⟩:=Qb.mp e;simp only [Q0] at hl;simp only [bey,Bool.not_eq_false',Vv,cZ hl] at c';exact Ul c'
theorem Mha.galB(h:Mha κ a b out na nb)(n1:0 < na)(ht:t<=nb)(hi:na - 1 < a.size)(c:∀ i,t<=i->i < nb->bey κ true a[na - 1] b 0 i=false):Mha κ a b (out++(b.extract t nb).reverse) na t:=by
 obtain⟨na,rfl⟩:∃ n,na=n+1:=⟨na - 1,by lia⟩;unfold Mha;rw [QZ,U6,iW];refine Mh.galB h ht (gW hi) λi h1 h2 x e=>?_;have c':=c i h1 h2;obtain⟨hl,rfl⟩:=Qb.mp e;simp only [Q0] at hl;simp only [bey,Vv,cZ hl] at c';exact c'
theorem Mha.fnA(h:Mha κ a b out na nb)(e:na=0):Fna κ a b (a.extract 0 na++b.extract 0 nb++out.reverse):=by
 subst e;unfold Fna;rw [QZ,QZ,U6,fo,fo];exact Mh.doneA h
theorem Mha.fnB(h:Mha κ a b out na nb)(e:nb=0):Fna κ a b (a.extract 0 na++b.extract 0 nb++out.reverse):=by
 subst e;unfold Fna;rw [QZ,QZ,U6,fo,fo];exact Mh.doneB h
theorem Mha.fnF(h:Mha κ a b out na nb)(e:nb=1)(hb:0 < b.size)(c:∀ x∈a.toList,Rl κ b[0] x):Fna κ a b (b.extract 0 nb++a.extract 0 na++out.reverse):=by
 subst e;unfold Fna;rw [QZ,QZ,U6,fo,fo];exact Mh.firstB h (gW hb) c
theorem u9{y:Keyed}(hl:t < a.size)(h:bey κ false y a 0 t=true):Rl κ a[t] y:=by
 simp only [bey,VE,Vv,cZ hl] at h;exact h
theorem yk{y:Keyed}(hl:t < a.size)(h:bey κ true y a 0 t=true):Rl κ a[t] y:=by
 simp only [bey,Vv,cZ hl] at h;exact Ul h
end
def mHi:Array Keyed->Array Keyed->StateT SortSt Sem (Array Keyed):=sortPriv% PySem.Builtin.mergeHi
structure Gh(κ:PyProof.Rows.KeyKind)(a b out:Array Keyed)(na nb n:Nat):Prop where
 mg:Mha κ a b out na nb
 ha:0 < na
 ha':na < a.size
 hb:1 < nb
 hb':nb<=b.size
 hn:n+na+nb<=a.size+b.size
section
variable{prog:Program} {w:World} {A:Around} {E:Value->Shared->Prop} {s:Shared} {κ:PyProof.Rows.KeyKind}
theorem xg{a b:Array Keyed}{st:SortSt}{Q:Array Keyed->SortSt->Prop}(hO:κ.OneLt)(hk:kindOf st=oneType')(ka:∀ p∈a.toList,iM κ p)(kb:∀ p∈b.toList,iM κ p)
  (sa:a.toList.Pairwise (Rl κ)) (sb:b.toList.Pairwise (Rl κ)) (na:0 < a.size) (nb:0 < b.size) (h1:Rl κ b[b.size - 1] a[a.size - 1]) (h2:∀ x∈a.toList,Rl κ b[0] x)
  (h:∀ out st',Sm st st'->Fna κ a b out->Q out st'):wpS (model prog w) A E s (mHi a b) Q st:=by
 have m0:Mha κ a b #[] a.size b.size:=by
  have e1:a.toList.take a.size=a.toList:=UJ (by simp);have e2:b.toList.take b.size=b.toList:=UJ (by simp);refine⟨?_,?_,?_⟩
  ·rw [e1];simpa using sa
  ·rw [e2];simpa using sb
  ·rw [e1,e2];simp
 have m1:Mha κ a b #[a[a.size - 1]] (a.size - 1) b.size:=m0.pushA na nb (by lia) (by lia) h1;refine Qv (VM (U2 ⟨rfl,?_⟩));refine Qv (bA (Q6 a (a.size - 1) (by lia)) ?_);dsimp only;refine aR (λhc=>QB (h _ _ .rfl (m1.fnA (QY hc)))) λhc=>?_;refine aR (λhd=>QB (h _ _ .rfl (m1.fnF (QY hd) nb h2))) λhd=>?_;have hc':=dw hc;have hd':=dw hd;refine Qv (VA ?_);refine Qv (UG (Ud (I:=λx c st'=>Sm st st'/\∃ na nb out g,c=(none,na,nb,out,g)/\Gh κ a b out na nb (x+1))
  (Q:=λc st'=>Sm st st'/\∃ r c',c=(some r,c')/\Fna κ a b r) ?step ?fin ⟨.rfl,_,_,_,_,rfl,m1,by lia,by lia,by lia,by lia,by lia⟩) ?post)
 case post =>
  rintro c st' ⟨hm,r,c',rfl,hf⟩;exact QB (h _ _ hm hf)
 case fin =>
  rintro c st' ⟨hm,ia,ib,out,g,rfl,hg⟩;have:=hg.ha;have:=hg.hb;have:=hg.hn;lia
 case step =>
  rintro x c st' _ hx ⟨hm,ia,ib,out,g,rfl,hg⟩;dsimp only;refine Qv (UG (Ud (I:=λy c st''=>st''=st'/\∃ ia ib out ac bc,c=(none,ia,ib,out,ac,bc)/\Gh κ a b out ia ib (x+1+y))
   (Q:=λc st''=>st''=st'/\∃ o ia ib out ac bc,c=(o,ia,ib,out,ac,bc)/\((∃ r,o=some r/\Fna κ a b r)\/(o=none/\Gh κ a b out ia ib (x+2)))) ?step1 ?fin1 ⟨rfl,_,_,_,_,_,rfl,hg⟩) ?post1)
  case fin1 =>
   rintro c st'' ⟨hm,ia,ib,out,ac,bc,rfl,hg⟩;have:=hg.ha;have:=hg.hb;have:=hg.hn;lia
  case step1 =>
   rintro y c st'' _ hy ⟨rfl,ia,ib,out,ac,bc,rfl,hg⟩;obtain⟨mg,ha,ha',hb,hb',hn⟩:=hg;dsimp only;have hA:ia - 1 < a.size:=by lia
   have hB:ib - 1 < b.size:=by lia
   refine Qv (bA (Q6 b (ib - 1) hB) ?_);refine Qv (bA (Q6 a (ia - 1) hA) ?_);refine Qv (lW hO (hm.kind.trans hk) (kb _ (by simp)) (ka _ (by simp)) ?_);dsimp only;cases hw:κ.blt (kk κ b[ib - 1]) (kk κ a[ia - 1])
   case true =>
    rw [Qn rfl];refine Qv (bA (Q6 a (ia - 1) hA) ?_);have mg':=mg.pushA ha (by lia) hA hB (Ul hw);refine aR (λhe=>QB ⟨rfl,_,_,_,_,_,_,rfl,.inl ⟨_,rfl,mg'.fnA (QY he)⟩⟩) λhe=>?_;have he':=dw he;refine aR (λ_=>QB ⟨rfl,_,_,_,_,_,_,rfl,.inr ⟨rfl,mg',by lia,by lia,hb,hb',by lia⟩⟩) λ_=>?_;exact QB ⟨rfl,_,_,_,_,_,rfl,mg',by lia,by lia,hb,hb',by lia⟩
   case false =>
    rw [Qf (by simp)];refine Qv (bA (Q6 b (ib - 1) hB) ?_);have mg':=mg.pushB ha (by lia) hA hB hw;refine aR (λhe=>QB ⟨rfl,_,_,_,_,_,_,rfl,.inl ⟨_,rfl,mg'.fnF (QY he) nb h2⟩⟩) λhe=>?_;have he':=dw he;refine aR (λ_=>QB ⟨rfl,_,_,_,_,_,_,rfl,.inr ⟨rfl,mg',ha,ha',by lia,by lia,by lia⟩⟩) λ_=>?_;exact QB ⟨rfl,_,_,_,_,_,rfl,mg',ha,ha',by lia,by lia,by lia⟩
  case post1 =>
   rintro c st'' ⟨rfl,o,ia,ib,out,ac,bc,rfl,⟨r,rfl,hf⟩ | ⟨rfl,hg⟩⟩
   ·exact QB ⟨hm,_,_,rfl,hf⟩
   dsimp only;refine Qv (VM (U2 ⟨rfl,?_⟩));refine Qv (UG (Ud (I:=λy c st''=>Sm st st''/\∃ ia ib out g ac bc,c=(none,ia,ib,out,g,ac,bc)/\Gh κ a b out ia ib (x+2))
    (Q:=λc st''=>Sm st st''/\∃ o ia ib out g ac bc,c=(o,ia,ib,out,g,ac,bc)/\((∃ r,o=some r/\Fna κ a b r)\/(o=none/\Gh κ a b out ia ib (x+2)))) ?step2 ?fin2 ⟨hm,_,_,_,_,_,_,rfl,hg⟩) ?post2)
   case fin2 =>
    rintro c st'' ⟨hm,ia,ib,out,g,ac,bc,rfl,hg⟩;exact⟨hm,_,_,_,_,_,_,_,rfl,.inr ⟨rfl,hg⟩⟩
   case post2 =>
    rintro c st'' ⟨hm,o,ia,ib,out,g,ac,bc,rfl,⟨r,rfl,hf⟩ | ⟨rfl,hg⟩⟩
    ·exact QB ⟨hm,_,_,rfl,hf⟩
    dsimp only;refine Qv (m:=tS (g+1)) (iV λst₂ hm₂=>?_);exact QB ⟨hm.trans hm₂,_,_,_,_,rfl,hg⟩
   case step2 =>
    rintro y c st₁ _ hy ⟨hm,ia,ib,out,g,ac,bc,rfl,hg⟩;obtain⟨mg,ha,ha',hb,hb',hn⟩:=hg;dsimp only;have hA:ia - 1 < a.size:=by lia
    have hB:ib - 1 < b.size:=by lia
    have hib:0 < ib:=by lia
    refine aR (λhg=>?_) λhg=>?_;all_goals refine Qv (m:=tS _) (iV λst₂ hm₂=>?_)
    all_goals replace hm₂:=hm.trans hm₂
    all_goals refine Qv (bA (Q6 b (ib - 1) hB) ?_)
    all_goals refine Qv (m:=gal false b[ib - 1] a 0 ia (ia - 1)) (iu hO (hm₂.kind.trans hk) (kb _ (by simp)) (by lia) (by lia) ka (gX sa _ _ (by lia)) λk k1 k2 k3=>?_)
    all_goals dsimp only
    all_goals refine aR (λk0=>aR (λe1=>QB ⟨hm₂,_,_,_,_,_,_,_,rfl,.inl ⟨_,rfl,(mg.galA hib k1 hB k3).fnA (QY e1)⟩⟩) λe1=>?_) λk0=>?_
    all_goals first
     | (have n1:=dw e1;have ha1:0 < k:=(by lia);have ha1':k < a.size:=(by lia);have hA1:k - 1 < a.size:=(by lia);have hr:=u9 hA1 (k2 (k - 1) (by lia));have mg1:=mg.galA hib k1 hB k3;have hn1:x+2+k+ib<=a.size+b.size:=(by lia))
     | (have hk:k=ia:=(by lia);subst hk;have ha1:=ha;have ha1':=ha';have hA1:=hA;have hr:=u9 hA1 (k2 (k - 1) (by lia));have mg1:=mg;have hn1:=hn)
    all_goals have mg2:=mg1.pushB ha1 hib hA1 hB hr
    all_goals refine Qv (bA (Q6 b (ib - 1) hB) ?_)
    all_goals refine aR (λe=>QB ⟨hm₂,_,_,_,_,_,_,_,rfl,.inl ⟨_,rfl,mg2.fnF (QY e) nb h2⟩⟩) λe3=>?_
    all_goals have n3:=dw e3
    all_goals have hb2:1 < ib - 1:=by lia
    all_goals refine Qv (bA (Q6 a (k - 1) hA1) ?_)
    all_goals refine Qv (m:=gal true a[k - 1] b 0 (ib - 1) (ib - 1 - 1)) (iu hO (hm₂.kind.trans hk) (ka _ (by simp)) (by lia) (by lia) kb (gX sb _ _ (by lia)) λq q1 q2 q3=>?_)
    all_goals dsimp only
    all_goals refine aR (λq0=>aR (λe4=>QB ⟨hm₂,_,_,_,_,_,_,_,rfl,.inl ⟨_,rfl,(mg2.galB ha1 q1 hA1 q3).fnF (QY e4) nb h2⟩⟩) λe4 =>
     aR (λe5=>QB ⟨hm₂,_,_,_,_,_,_,_,rfl,.inl ⟨_,rfl,(mg2.galB ha1 q1 hA1 q3).fnB (QY e5)⟩⟩) λe5=>?_) λq0=>?_
    all_goals first
     | (have n4:=dw e4;have n5:=dw e5;have hb3:1 < q:=(by lia);have mg3:=mg2.galB ha1 q1 hA1 q3;have hB3:q - 1 < b.size:=(by lia);have hr2:=yk hB3 (q2 (q - 1) (by lia)))
     | (have hq:q=ib - 1:=(by lia);subst hq;have hb3:=hb2;have mg3:=mg2;have hB3:ib - 1 - 1 < b.size:=(by lia);have hr2:=yk hB3 (q2 (ib - 1 - 1) (by lia)))
    all_goals have mg4:=mg3.pushA ha1 (by lia) hA1 hB3 hr2
    all_goals refine Qv (bA (Q6 a (k - 1) hA1) ?_)
    all_goals refine aR (λe=>QB ⟨hm₂,_,_,_,_,_,_,_,rfl,.inl ⟨_,rfl,mg4.fnA (QY e)⟩⟩) λe6=>?_
    all_goals have n6:=dw e6
    all_goals have gg:=Gh.mk (n:=x+2) mg4 (by lia) (by lia) hb3 (by lia) (by lia)
    all_goals exact aR (λ_=>QB ⟨hm₂,_,_,_,_,_,_,_,rfl,.inr ⟨rfl,gg⟩⟩) λ_=>QB ⟨hm₂,_,_,_,_,_,_,rfl,gg⟩
end
end SrtB
namespace SrtB
open PySem PyProof.Rows
structure Bo(a₀ x₀:Array Keyed)(p:Array (Nat × Nat × Nat))(lo:Nat)(st:SortSt):Prop where
 bs:Bs a₀ st
 pend:pendingOf st=p
 off:Off x₀ (arrOf st) lo
section
variable{prog:Program} {w:World} {A:Around} {E:Value->Shared->Prop} {s:Shared} {a₀ x₀:Array Keyed} {κ:PyProof.Rows.KeyKind} {p:Array (Nat × Nat × Nat)} {lo:Nat}
theorem Bo.mirror{st:SortSt}(h:Bo a₀ x₀ p lo st){i j:Nat}(hi:lo<=i)(hj:j<=a₀.size):Bo a₀ x₀ p lo (setArr st (mirror (arrOf st) i j ((j - i) / 2))):=by
 refine⟨h.bs.arr (mirror_perm _ _ _ _),h.pend,λk hk=>?_⟩;refine Eq.trans (getElem?_mirror_all (by rw [h.bs.size];exact hj) k) ?_;rw [Qf (by lia)];exact h.off k hk
theorem Bo.bubble{st:SortSt}(h:Bo a₀ x₀ p lo st){src d:Nat}(hs:src < a₀.size)(hd:d<=src)(hl:lo<=src - d):Bo a₀ x₀ p lo (setArr st (bubble (arrOf st) src d)):=by
 refine⟨h.bs.arr (bubble_perm _ _ _),h.pend,λk hk=>?_⟩;refine Eq.trans (getElem?_bubble (by rw [h.bs.size];exact hs) d hd k) ?_;rw [Qf (by lia),Qf (by lia)];exact h.off k hk
theorem Seg.one{xs:Array Keyed}:Seg κ xs lo (lo+1):=λi j a b c=>by
 obtain rfl:i=j:=by lia
 exact UF _
theorem Seg.snoc{xs:Array Keyed}{n:Nat}(h:Seg κ xs lo (lo+n))(h1:1<=n)(e:κ.blt (KK κ xs (lo+n)) (KK κ xs (lo+n - 1))=false):Seg κ xs lo (lo+(n+1)):=λi j a b c=>by
 by_cases hj:j < lo+n
 ·exact h i j a b hj
 ·obtain rfl:j=lo+n:=by lia
  by_cases hi:i=lo+n
  ·subst hi;exact UF _
  ·exact Ue (h i (lo+n - 1) a (by lia) (by lia)) e
theorem iL.snoc{xs:Array Keyed}{n:Nat}(h:iL κ xs lo (lo+n))(h1:1<=n)(e:κ.kle (KK κ xs (lo+n)) (KK κ xs (lo+n - 1))):iL κ xs lo (lo+(n+1)):=λi j a b c=>by
 by_cases hj:j < lo+n
 ·exact h i j a b hj
 ·obtain rfl:j=lo+n:=by lia
  by_cases hi:i=lo+n
  ·subst hi;exact UF _
  ·exact Ue e (h i (lo+n - 1) a (by lia) (by lia))
theorem iL.turn{xs:Array Keyed}{hi:Nat}(h:iL κ xs lo hi)(hz:hi<=xs.size):Seg κ (PyProof.Rows.mirror xs lo hi ((hi - lo) / 2)) lo hi:=λi j a b c=>by
 rw [KK_mirror hz,KK_mirror hz,Qn (by lia),Qn (by lia)];exact h _ _ (by lia) (by lia) (by lia)
theorem iL.eqs{xs:Array Keyed}{i j hi:Nat}(h:iL κ xs lo hi)(hz:j<=xs.size)(he:∀ k,i<=k->k < j->KK κ xs k=KK κ xs (j - 1)):iL κ (PyProof.Rows.mirror xs i j ((j - i) / 2)) lo hi:=λx y a b c=>by
 rw [KK_mirror_equal hz he,KK_mirror_equal hz he];exact h x y a b c
theorem iG{st:SortSt}{nrem:Nat}{Q:Option Nat->SortSt->Prop}(hO:κ.OneLt)(h0:KeysOf κ a₀)(hn:lo+nrem<=a₀.size)(h1:1<=nrem)(hB:Bo a₀ x₀ p lo st)
  (h:∀ m st',Bo a₀ x₀ p lo st'->1<=m->m<=nrem->Seg κ (arrOf st') lo (lo+m)->Q (some m) st'):wpS (model prog w) A E s (countRun' lo nrem) Q st:=by
 rw [countRun'_eq];dsimp only;refine Qv (UG (Ud (I:=λx c st'=>st'=st/\c=(none,x)/\Seg κ (arrOf st) lo (lo+x))
  (Q:=λc st'=>st'=st/\∃ n,c=(none,n)/\1<=n/\n<=nrem/\Seg κ (arrOf st) lo (lo+n)/\(n=nrem\/κ.blt (KK κ (arrOf st) (lo+n)) (KK κ (arrOf st) (lo+n - 1))=true)) ?s1 ?f1 ⟨rfl,rfl,.one⟩) ?post)
 case f1 =>
  rintro c st' ⟨rfl,rfl,hs⟩;rw [VN h1] at hs ⊢;exact⟨rfl,nrem,rfl,h1,Qk _,hs,.inl rfl⟩
 case s1 =>
  rintro x c st' hx hx' ⟨rfl,rfl,hs⟩;refine Qv (kQ hO hB.bs h0 (by lia) (by lia) ?_);dsimp only;refine aR (λe=>QB ⟨rfl,x,rfl,hx,by lia,hs,.inr e⟩) λe=>QB ⟨rfl,rfl,hs.snoc hx (by simpa using e)⟩
 rintro c st' ⟨rfl,n,rfl,n1,n2,hs,ho⟩;dsimp only;refine aR (λe=>QB (h n _ hB n1 n2 hs)) λe=>?_;have hne:=dw e;have hlt:=ho.resolve_left hne;have hsz:lo+n<=(arrOf st').size:=by rw [hB.bs.size];lia
 have hall:κ.blt (KK κ (arrOf st') lo) (KK κ (arrOf st') (lo+n - 1))=false->∀ k,lo<=k->k < lo+n->KK κ (arrOf st') k=KK κ (arrOf st') (lo+n - 1):=λhr k a b =>
  KeyOrd.kle_antisymm (hs k (lo+n - 1) a (by lia) (by lia)) (Ue hr (hs lo k (Qk _) a b))
 have hD:(n > 1->κ.blt (KK κ (arrOf st') lo) (KK κ (arrOf st') (lo+n - 1))=false)->iL κ (arrOf st') lo (lo+(n+1)):=λhr=>by
  refine iL.snoc (λi j a b c=>?_) n1 (Ul hlt);by_cases g:n > 1
  ·rw [hall (hr g) i a (by lia),hall (hr g) j (by lia) c];exact UF _
  ·obtain rfl:i=j:=by lia
   exact UF _
 refine aR (λg=>Qv (kQ hO hB.bs h0 (by lia) (by lia) (aR (λr=>QB (h n _ hB n1 n2 hs)) λr=>Qv (wpS_reverse ?_)))) λg=>?_;all_goals first
  | (have hr:κ.blt (KK κ (arrOf st') lo) (KK κ (arrOf st') (lo+n - 1))=false:=(by simpa using r);have hB1:=hB.mirror (i:=lo) (j:=lo+n) (Qk _) (by lia);have hD1:=(hD λ_=>hr).eqs hsz (hall hr))
  | (have hB1:=hB;have hD1:=hD λg'=>Qs g' g)
 all_goals refine Qv (VM (U2 ⟨rfl,?_⟩))
 all_goals refine Qv (UG (Ud (I:=λx c st'=>∃ q,c=(none,x,q)/\Bo a₀ x₀ p lo st'/\iL κ (arrOf st') lo (lo+x)/\q+1<=x/\∀ i,lo+x - (q+1)<=i->i < lo+x->KK κ (arrOf st') i=KK κ (arrOf st') (lo+x - 1))
  (Q:=λc st'=>∃ x q,c=(none,x,q)/\n+1<=x/\x<=nrem/\Bo a₀ x₀ p lo st'/\iL κ (arrOf st') lo (lo+x)/\q+1<=x/\∀ i,lo+x - (q+1)<=i->i < lo+x->KK κ (arrOf st') i=KK κ (arrOf st') (lo+x - 1))
  (λx c st₂ hx hx' hI=>by
   obtain⟨q,rfl,hB2,hs2,hq,he⟩:=hI;dsimp only;have hsz2:lo+x<=(arrOf st₂).size:=by rw [hB2.bs.size];lia
   refine Qv (kQ hO hB2.bs h0 (by lia) (by lia) ?_);dsimp only;refine aR (λe=>?_) λe=>Qv (kQ hO hB2.bs h0 (by lia) (by lia) (aR (λg=>QB ⟨x,q,rfl,hx,by lia,hB2,hs2,hq,he⟩) λg=>?_))
   ·have hs3:=hs2.snoc (by lia) (Ul e);exact aR (λg=>Qv (wpS_reverse (QB ⟨0,rfl,hB2.mirror (by lia) (by lia),hs3.eqs hsz2 he,by lia,λi a b=>by congr 1;lia⟩)))
     λg=>QB ⟨0,rfl,hB2,hs3,by lia,λi a b=>by congr 1;lia⟩
   ·have e':κ.kle (KK κ (arrOf st₂) (lo+x - 1)) (KK κ (arrOf st₂) (lo+x)):=by show _=false;simpa using e
    have g':κ.kle (KK κ (arrOf st₂) (lo+x)) (KK κ (arrOf st₂) (lo+x - 1)):=by show _=false;simpa using g
    refine QB ⟨q+1,rfl,hB2,hs2.snoc (by lia) g',by lia,λi a b=>?_⟩;rw [show lo+(x+1) - 1=lo+x by lia];by_cases hi:i=lo+x
    ·rw [hi]
    ·rw [he i (by lia) (by lia),KeyOrd.kle_antisymm g' e'])
  (λc st₂ hI=>by
   obtain⟨q,rfl,hB2,hs2,hq,he⟩:=hI;rw [VN (show n+1<=nrem by lia)] at hs2 hq he ⊢;exact⟨nrem,q,rfl,by lia,Qk _,hB2,hs2,hq,he⟩) ⟨0,rfl,hB1,hD1,by lia,λi a b=>by congr 1;lia⟩) λc st₂ hI=>?_)
 all_goals obtain⟨x,q,rfl,hx1,hx2,hB2,hs2,hq,he⟩:=hI
 all_goals dsimp only
 all_goals have hsz2:lo+x<=(arrOf st₂).size:=by rw [hB2.bs.size];lia
 all_goals refine aR (λg=>Qv (wpS_reverse (Qv (wpS_reverse ?_)))) λg=>Qv (wpS_reverse ?_)
 all_goals first
  | (have g':q > 0:=g;have hB3:=hB2.mirror (i:=lo+x - (q+1)) (j:=lo+x) (by lia) (by lia);have hs3:=hs2.eqs hsz2 he)
  | (have hB3:=hB2;have hs3:=hs2)
 all_goals have hB4:=hB3.mirror (i:=lo) (j:=lo+x) (Qk _) (by lia)
 all_goals have hs4:=hs3.turn (by have:=hB3.bs.size;exact QQ (show lo+x<=a₀.size by lia) (Us this.symm))
 all_goals refine Qv (UG (Ud (I:=λy c st'=>c=(none,y)/\Bo a₀ x₀ p lo st'/\Seg κ (arrOf st') lo (lo+y)) (Q:=λc st'=>∃ y,c=(none,y)/\1<=y/\y<=nrem/\Bo a₀ x₀ p lo st'/\Seg κ (arrOf st') lo (lo+y))
  (λy c st₃ hy hy' hI=>by
   obtain⟨rfl,hB5,hs5⟩:=hI;refine Qv (kQ hO hB5.bs h0 (by lia) (by lia) ?_);dsimp only;exact aR (λe=>QB ⟨y,rfl,by lia,by lia,hB5,hs5⟩) λe=>QB ⟨rfl,hB5,hs5.snoc (by lia) (by simpa using e)⟩)
  (λc st₃ hI=>by
   obtain⟨rfl,hB5,hs5⟩:=hI;rw [VN hx2] at hs5 ⊢;exact⟨nrem,rfl,h1,Qk _,hB5,hs5⟩) ⟨rfl,hB4,hs4⟩) λc st₃ hI=>?_)
 all_goals obtain⟨y,rfl,y1,y2,hB6,hs6⟩:=hI
 all_goals exact QB (h y _ hB6 y1 y2 hs6)
theorem fX{st:SortSt}{n ok:Nat}{Q:Bool->SortSt->Prop}(hO:κ.OneLt)(h0:KeysOf κ a₀)(hn:lo+n<=a₀.size)(hok:ok<=n)(h1:1<=ok)(hB:Bo a₀ x₀ p lo st)(hs:Seg κ (arrOf st) lo (lo+ok))
  (h:∀ st',Bo a₀ x₀ p lo st'->Seg κ (arrOf st') lo (lo+n)->Q true st'):wpS (model prog w) A E s (binarySort' lo n ok) Q st:=by
 rw [binarySort'_eq];rw [Nat.max_eq_left h1];refine Qv (UG (Ud (I:=λk c st'=>c=(none,())/\Bo a₀ x₀ p lo st'/\Seg κ (arrOf st') lo (lo+k)) (Q:=λc st'=>c=(none,())/\Bo a₀ x₀ p lo st'/\Seg κ (arrOf st') lo (lo+n))
  (λk c st₁ hk hk' hI=>?_) (λc st₁ hI=>by rw [VN hok] at hI;exact hI) ⟨rfl,hB,hs⟩) ?_)
 ·obtain⟨rfl,hB1,hs1⟩:=hI;dsimp only;refine Qv (UG (Ud (I:=λx c st'=>st'=st₁/\∃ l r,c=(none,l,r)/\l<=r/\r<=k/\r - l<=k - x/\(∀ i,i < l->κ.kle (KK κ (arrOf st₁) (lo+i)) (KK κ (arrOf st₁) (lo+k)))/\(∀ i,r<=i->i < k->κ.kle (KK κ (arrOf st₁) (lo+k)) (KK κ (arrOf st₁) (lo+i))))
   (Q:=λc st'=>st'=st₁/\∃ l,c=(none,l,l)/\l<=k/\(∀ i,i < l->κ.kle (KK κ (arrOf st₁) (lo+i)) (KK κ (arrOf st₁) (lo+k)))/\(∀ i,l<=i->i < k->κ.kle (KK κ (arrOf st₁) (lo+k)) (KK κ (arrOf st₁) (lo+i))))
   (λx c st₂ hx hx' hI=>?_) (λc st₂ hI=>?_) ⟨rfl,0,k,rfl,by lia,by lia,by lia,λi hi=>by lia,λi a b=>by lia⟩) λc st₂ hI=>?_)
  ·obtain⟨rfl,l,r,rfl,a1,a2,a3,a4,a5⟩:=hI;dsimp only;refine aR (λe=>?_) λe=>?_
   ·obtain rfl:l=r:=by lia
    exact QB ⟨rfl,l,rfl,a2,a4,a5⟩
   ·refine Qv (kQ hO hB1.bs h0 (by lia) (by lia) ?_);dsimp only;refine aR (λg=>QB ⟨rfl,l,_,rfl,by lia,by lia,by lia,a4,λi b1 b2=>?_⟩) λg=>QB ⟨rfl,_,r,rfl,by lia,a2,by lia,λi b1=>?_,a5⟩
    ·exact Ue (Ul g) (hs1 _ _ (by lia) (by lia) (by lia))
    ·exact Ue (hs1 (lo+i) (lo+(l+r) / 2) (by lia) (by lia) (by lia)) (by show _=false;simpa using g)
  ·obtain⟨rfl,l,r,rfl,a1,a2,a3,a4,a5⟩:=hI;obtain rfl:l=r:=by lia
   exact⟨rfl,l,rfl,a2,a4,a5⟩
  ·obtain⟨rfl,l,rfl,a2,a4,a5⟩:=hI;dsimp only;have hz:lo+k < (arrOf st₂).size:=by rw [hB1.bs.size];lia
   refine Qv ?_;rw [moveDown'_eq];refine wpS_modify (QB ⟨rfl,hB1.bubble (by lia) (by lia) (by lia),λi j b1 b2 b3=>?_⟩);show κ.kle (KK κ (PyProof.Rows.bubble (arrOf st₂) (lo+k) (lo+k - (lo+l))) i) (KK κ (PyProof.Rows.bubble (arrOf st₂) (lo+k) (lo+k - (lo+l))) j);rw [KK_bubble hz (by lia),KK_bubble hz (by lia),show lo+k - (lo+k - (lo+l))=lo+l by lia];have a4':∀ i,lo<=i->i < lo+l->κ.kle (KK κ (arrOf st₂) i) (KK κ (arrOf st₂) (lo+k)):=λi c1 c2=>by
    have:=a4 (i - lo) (by lia);rwa [show lo+(i - lo)=i by lia] at this
   have a5':∀ i,lo+l<=i->i < lo+k->κ.kle (KK κ (arrOf st₂) (lo+k)) (KK κ (arrOf st₂) i):=λi c1 c2=>by
    have:=a5 (i - lo) (by lia) (by lia);rwa [show lo+(i - lo)=i by lia] at this
   repeat' split
   all_goals first
    | (exfalso;lia)
    | exact UF _
    | exact a4' _ (by lia) (by lia)
    | exact a5' _ (by lia) (by lia)
    | exact hs1 _ _ (by lia) (by lia) (by lia)
 ·rintro c st₁ ⟨rfl,hB1,hs1⟩;exact QB (h _ hB1 hs1)
end
end SrtB
namespace SrtB
open PySem PyProof.Rows
theorem nk(sa:Nat):∀(l:List Keyed) (n:Nat) (xs:Array Keyed),sa+n+l.length<=xs.size ->
  ((l.zipIdx n).foldl (λa (x:Keyed × Nat)=>a.setIfInBounds (sa+x.2) x.1) xs).toList=xs.toList.take (sa+n)++(l++xs.toList.drop (sa+n+l.length))
 | [],n,xs,h=>by simp
 | p :: l,n,xs,h=>by
  rw [QL] at h;rw [List.zipIdx_cons,List.foldl_cons,nk sa l (n+1) _ (by rw [Array.size_setIfInBounds];lia)];rw [Array.toList_setIfInBounds,QL];have h1:(xs.toList.set (sa+n) p).take (sa+(n+1))=xs.toList.take (sa+n)++[p]:=by
   rw [show sa+(n+1)=sa+n+1 by lia,List.take_succ_eq_append_getElem (by simp;lia)];rw [List.take_set_of_le (by lia)];simp
  rw [h1,List.drop_set_of_lt (by lia),show sa+(n+1)+l.length=sa+n+(l.length+1) by lia];simp
section
variable{prog:Program} {w:World} {A:Around} {E:Value->Shared->Prop} {s:Shared} {a₀:Array Keyed} {κ:PyProof.Rows.KeyKind}
theorem xh{st st':SortSt}{Q:PUnit->SortSt->Prop}(h:Q ⟨⟩ st'):wpS (model prog w) A E s (set st':StateT SortSt Sem PUnit) Q st:=by
 unfold wpS;rw [StateT.run_set];exact Qd ⟨rfl,h⟩
theorem jR{xs:Array Keyed}{lo hi:Nat}(h:Seg κ xs lo hi)(hz:hi<=xs.size){i j:Nat}(a:lo<=i)(b:i<=j)(c:j < hi):Rl κ xs[i] xs[j]:=by
 have:=h i j a b c;rwa [cZ (show i < xs.size by lia),cZ (show j < xs.size by lia)] at this
theorem lX{xs:Array Keyed}{lo hi:Nat}(h:Seg κ xs lo hi)(hz:hi<=xs.size):(xs.extract lo hi).toList.Pairwise (Rl κ):=by
 rw [Uj];intro i j hi' hj' hij;simp only [Q0,Vx] at hi' hj';have:=jR h hz (i:=lo+i) (j:=lo+j) (by lia) (by lia) (by lia);simpa using this
theorem xi{xs:Array Keyed}(h:xs.toList.Pairwise (Rl κ)):Seg κ xs 0 xs.size:=λi j a b c=>by
 have:=gX h 0 xs.size (by lia) i j b c;simpa using this
theorem xj{α:Type}{m:StateT SortSt Sem α}{Q:α->SortSt->Prop}{st:SortSt}(P:SortSt->Prop)(hp:P st)(h:∀ st',P st'->wpS (model prog w) A E s m Q st'):wpS (model prog w) A E s m Q st:=h st hp
theorem zL{Q:Bool->SortSt->Prop}{o:Option Value}{st:SortSt}(e:o=none)(h:Q true st):Q o.isNone st:=by subst e;exact h
theorem nn{xs:Array Keyed}{n hi:Nat}(h1:Seg κ xs 0 n)(h2:Seg κ xs n hi)(hn:1<=n)(hh:n < hi)(e:κ.kle (KK κ xs (n - 1)) (KK κ xs n)):Seg κ xs 0 hi:=λi j a b c=>by
 by_cases hj:j < n
 ·exact h1 i j a b hj
 ·by_cases hi':i < n
  ·exact Ue (h1 i (n - 1) a (by lia) (by lia)) (Ue e (h2 n j (Qk _) (by lia) c))
  ·exact h2 i j (by lia) b c
theorem fq{xs:Array Keyed}{lo hi:Nat}{x:Keyed}(h:x∈(xs.extract lo hi).toList):∃ i,∃ hl:i < xs.size,lo<=i/\i < hi/\x=xs[i]:=by
 obtain⟨i,hi',rfl⟩:=Vp.mp h;simp only [Q0,Vx] at hi';exact⟨lo+i,by lia,by lia,by lia,by simp⟩
theorem xk{L:List Keyed}{k n m:Nat}(h1:k<=n)(h2:n<=m):L.take k++(((L.take n).drop k++(L.take m).drop n)++L.drop m)=L:=by
 have e:∀{a b:Nat},a<=b->L.take a++(L.take b).drop a=L.take b:=λ{a b} hab=>by
  have:=UZ a (L.take b);rwa [List.take_take,Nat.min_eq_left hab] at this
 rw [<-QV,<-QV,e h1,e h2,UZ]
theorem oB{st:SortSt}{n1 n2 pw z:Nat}{Q:Bool->SortSt->Prop}(hO:κ.OneLt)(h0:KeysOf κ a₀)(hB:Bs a₀ st)(hp:pendingOf st=#[(0,n1,pw),(n1,n2,z)])(hn:n1+n2=a₀.size)(p1:1<=n1)(p2:1<=n2)
  (s1:Seg κ (arrOf st) 0 n1) (s2:Seg κ (arrOf st) n1 a₀.size) (h:∀ st',Bs a₀ st'->(pendingOf st').size=1->Seg κ (arrOf st') 0 a₀.size->Q true st'):wpS (model prog w) A E s (mergeAt' 0) Q st:=by
 have hz:=hB.size;have hp':(sortPriv% PySem.Builtin.SortState.pending) st=#[(0,n1,pw),(n1,n2,z)]:=hp;have hK:∀ p∈(arrOf st).toList,iM κ p:=λp hp=>h0 p ((Vy.mp hB.perm).mem_iff.mp hp);refine Qv (VA ?_);rw [hp'];refine Qv (xh ?_);refine xj (λst₁=>kindOf st₁=oneType'/\arrOf st₁=arrOf st/\(pendingOf st₁).size=1/\failedOf st₁=none) ⟨hB.kind,rfl,by show Array.size (Array.eraseIdxIfInBounds _ _)=1;simp [Array.eraseIdxIfInBounds],hB.failed⟩ ?_;rintro st₁ ⟨t1,t2,t3,t4⟩;have hperm:=hB.perm;clear hp hp';have ha':(sortPriv% PySem.Builtin.SortState.a) st=arrOf st:=rfl;rw [ha'];generalize arrOf st=xs at *;have hB1:Bs a₀ st₁:=⟨by rw [t2];exact hperm,t1,t4⟩;refine Qv (bA (Q6 xs n1 (by lia)) ?_);refine Qv (m:=gal false xs[n1] xs 0 n1 0) (iu hO t1 (hK _ (by simp)) (by lia) (by lia) hK (λi j a b=>s1 (0+i) (0+j) (by lia) (by lia) (by lia)) λk k1 k2 k3=>?_);dsimp only;refine aR (λe=>QB (h _ hB1 t3 (by
  have e':n1 - k=0:=QY e;rw [t2];refine nn s1 s2 p1 (by lia) ?_;have:=u9 (show n1 - 1 < xs.size by lia) (k2 (n1 - 1) (by lia));rwa [cZ (show n1 - 1 < xs.size by lia),cZ (show n1 < xs.size by lia)]))) λe=>?_
 have e':=dw e;rw [show 0+k+(n1 - k) - 1=n1 - 1 by lia];refine Qv (bA (Q6 xs (n1 - 1) (by lia)) ?_);refine Qv (m:=gal true xs[n1 - 1] xs n1 n2 (n2 - 1)) (iu hO t1 (hK _ (by simp)) (by lia) (by lia) hK (λi j a b=>s2 (n1+i) (n1+j) (by lia) (by lia) (by lia)) λq q1 q2 q3=>?_);dsimp only;refine aR (λg=>QB (h _ hB1 t3 (by
  have g':q=0:=QY g;rw [t2];refine nn s1 s2 p1 (by lia) ?_;have:=xc (k:=0) (show n1+0 < xs.size by lia) (q3 0 (by lia) (by lia));rwa [cZ (show n1 - 1 < xs.size by lia),cZ (show n1 < xs.size by lia)]))) λg=>?_
 have g':=dw g;rw [Vv];have f1:∀{i j:Nat} (hj:j < xs.size) (hi:i < k),n1<=j->Rl κ xs[i] xs[j]:=λ{i j} hj hi hij =>
  Ue (u9 (show i < xs.size by lia) (k2 i hi)) (jR s2 (by lia) (Qk _) hij (by lia))
 have f2:∀{i:Nat} (hi:i < n1),k<=i->Rl κ xs[n1] xs[i]:=λ{i} hi hk=>by
  have:=xa (show 0+i < xs.size by lia) (k3 i hk hi);simpa using this
 have f3:∀{j:Nat} (hj:j < n1+q),n1<=j->Rl κ xs[j] xs[n1 - 1]:=λ{j} hj hl=>by
  have:=q2 (j - n1) (by lia);simp only [bey,show n1+(j - n1)=j by lia,cZ (show j < xs.size by lia)] at this;exact Ul this
 have f4:∀{j:Nat} (hj:j < xs.size),n1+q<=j->Rl κ xs[n1 - 1] xs[j]:=λ{j} hj hl=>by
  have:=q3 (j - n1) (by lia) (by lia);simp only [bey,show n1+(j - n1)=j by lia,cZ (show j < xs.size by lia)] at this;exact this
 have sx:=lX (λi j a b c=>s1 i j (by lia) b c:Seg κ xs k n1) (by lia);have sy:=lX (λi j a b c=>s2 i j a b (by lia):Seg κ xs n1 (n1+q)) (by lia);have sP:=lX (λi j a b c=>s1 i j (by lia) b (by lia):Seg κ xs 0 k) (by lia);have sZ:=lX (λi j a b c=>s2 i j (by lia) b (by lia):Seg κ xs (n1+q) xs.size) (by lia);have kx:∀{lo hi:Nat},∀ p∈(xs.extract lo hi).toList,iM κ p:=λp hp=>by
  obtain⟨i,hl,_,_,rfl⟩:=fq hp;exact hK _ (by simp)
 have zx:(xs.extract k n1).size=n1 - k:=by rw [Vx];lia
 have zy:(xs.extract n1 (n1+q)).size=q:=by rw [Vx];lia
 have fin:∀(M:Array Keyed) st₂,Sm st₁ st₂->Fna κ (xs.extract k n1) (xs.extract n1 (n1+q)) M->∀ ys:Array Keyed,ys=M.toList.zipIdx.foldl (λa (x:Keyed × Nat)=>a.setIfInBounds (k+x.2) x.1) (arrOf st₂)->Bs a₀ (setArr st₂ ys)/\(pendingOf st₂).size=1/\Seg κ ys 0 a₀.size:=λM st₂ hm hf ys hy=>by
  have hM:M.toList.length=n1 - k+q:=by
   rw [hf.pm.length_eq,Ql,Q0,Q0,zx,zy]
  have ey:ys.toList=(xs.extract 0 k).toList++(M.toList++(xs.extract (n1+q) xs.size).toList):=by
   rw [hy,nk k M.toList 0 _ (by rw [hm.arr,t2,hM];lia),hm.arr,t2,hM,fo,dv,show k+0+(n1 - k+q)=n1+q by lia,Nat.add_zero]
  have pm:ys.toList.Perm xs.toList:=by
   rw [ey];refine List.Perm.trans (List.Perm.append_left _ (List.Perm.append_right _ hf.pm)) (List.Perm.of_eq ?_);rw [fo,dv,iW,iW];exact xk (by lia) (by lia)
  have pm':ys.Perm a₀:=(Vy.mpr pm).trans hperm;refine⟨⟨pm',hm.kind.trans t1,hm.failed.trans t4⟩,by rw [hm.pend];exact t3,?_⟩;rw [<-pm'.size_eq];refine xi ?_;rw [ey,Ub,Ub];have hmem:∀ m∈M.toList,(∃ i,∃ hl:i < xs.size,k<=i/\i < n1/\m=xs[i])\/(∃ i,∃ hl:i < xs.size,n1<=i/\i < n1+q/\m=xs[i]):=λm hm'=>by
   rcases Qr.mp (hf.pm.mem_iff.mp hm') with h' | h'
   ·exact .inl (fq h')
   ·exact .inr (fq h')
  refine⟨sP,⟨hf.so,sZ,λm hm' y hy'=>?_⟩,λx hx y hy'=>?_⟩
  ·obtain⟨j,hj,j1,j2,rfl⟩:=fq hy';rcases hmem m hm' with⟨i,hi,i1,i2,rfl⟩ | ⟨i,hi,i1,i2,rfl⟩
   ·exact Ue (jR s1 (by lia) (Uh _) (by lia) (by lia)) (f4 hj j1)
   ·exact jR s2 (by lia) i1 (by lia) (by lia)
  ·obtain⟨i,hi,i1,i2,rfl⟩:=fq hx;rcases Qr.mp hy' with hy' | hy'
   ·rcases hmem y hy' with⟨j,hj,j1,j2,rfl⟩ | ⟨j,hj,j1,j2,rfl⟩
    ·exact jR s1 (by lia) (by lia) (by lia) j2
    ·exact f1 hj i2 j1
   ·obtain⟨j,hj,j1,j2,rfl⟩:=fq hy';exact f1 hj i2 (by lia)
 have x0:(xs.extract k n1)[0]=xs[k]:=by simp
 have y0:(xs.extract n1 (n1+q))[0]=xs[n1]:=by simp
 have xl:(xs.extract k n1)[(xs.extract k n1).size - 1]=xs[n1 - 1]:=by
  simp only [Array.getElem_extract];congr 1;rw [zx];lia
 have yl:∀ y∈(xs.extract n1 (n1+q)).toList,Rl κ y (xs.extract k n1)[(xs.extract k n1).size - 1]:=λy hy=>by
  rw [xl];obtain⟨j,hj,j1,j2,rfl⟩:=fq hy;exact f3 j2 j1
 refine aR (λc=>Qv (m:=mLo (xs.extract k n1) (xs.extract n1 (n1+q))) (xf hO t1 kx kx sx sy (by lia) (by lia) (by rw [x0,y0];exact f2 (by lia) (Qk _)) yl λM st₂ hm hf=>?_))
  λc=>Qv (m:=mHi (xs.extract k n1) (xs.extract n1 (n1+q))) (xg hO t1 kx kx sx sy (by lia) (by lia) (yl _ (by rw [Array.mem_toList_iff];exact Array.getElem_mem _)) (λx hx=>by
   rw [y0];obtain⟨i,hi,i1,i2,rfl⟩:=fq hx;exact f2 i2 i1) λM st₂ hm hf=>?_)
 all_goals refine Qv (wpS_modify (Qv (VA (QB ?_))))
 all_goals obtain⟨r1,r2,r3⟩:=fin M st₂ hm hf _ rfl
 all_goals exact zL (hm.failed.trans t4) (h _ r1 r2 r3)
end
end SrtB
namespace SrtB
open PySem PyProof.Rows
section
variable{prog:Program} {w:World} {A:Around} {E:Value->Shared->Prop} {s:Shared} {a₀:Array Keyed} {κ:PyProof.Rows.KeyKind}
theorem vc{xs ys:Array Keyed}{n:Nat}(h:Seg κ xs 0 n)(o:Off xs ys n):Seg κ ys 0 n:=λi j a b c=>by
 rw [KK_congr (o i (by lia)),KK_congr (o j c)];exact h i j a b c
structure Fd(κ:PyProof.Rows.KeyKind)(a₀:Array Keyed)(st:SortSt):Prop where
 bs:Bs a₀ st
 how:((pendingOf st).size=1/\Seg κ (arrOf st) 0 a₀.size)\/∃ n1 n2 pw,pendingOf st=#[(0,n1,pw),(n1,n2,0)]/\n1+n2=a₀.size/\1<=n1/\1<=n2/\Seg κ (arrOf st) 0 n1/\Seg κ (arrOf st) n1 a₀.size
theorem zM{x₀:Array Keyed}{st:SortSt}{n mr:Nat}(hB:Bo a₀ x₀ #[] 0 st)(hs:Seg κ (arrOf st) 0 (0+n))(h1:mr<=n)(h2:n<=a₀.size) :
  (∃ n1,((none:Option Unit),0+n)=(none,n1)/\0+1=1/\n1 < a₀.size/\mr<=n1/\Bs a₀ (setPending st ((pendingOf st).push (0,n,0)))/\pendingOf (setPending st ((pendingOf st).push (0,n,0)))=#[(0,n1,0)]/\Seg κ (arrOf (setPending st ((pendingOf st).push (0,n,0)))) 0 n1) \/
   (((none:Option Unit),0+n)=(none,a₀.size)/\Fd κ a₀ (setPending st ((pendingOf st).push (0,n,0)))):=by
 have hb:Bs a₀ (setPending st ((pendingOf st).push (0,n,0))):=⟨hB.bs.perm,hB.bs.kind,hB.bs.failed⟩;have hp:pendingOf (setPending st ((pendingOf st).push (0,n,0)))=#[(0,n,0)]:=by
  show(pendingOf st).push _=_;rw [hB.pend];rfl
 rw [Vv] at hs ⊢;by_cases e:n=a₀.size
 ·subst e;exact .inr ⟨rfl,hb,.inl ⟨by rw [hp];rfl,hs⟩⟩
 ·exact .inl ⟨n,rfl,rfl,by lia,h1,hb,hp,hs⟩
theorem nq{st:SortSt}{Q:Unit->SortSt->Prop}(hO:κ.OneLt)(h0:KeysOf κ a₀)(hB:Bs a₀ st)(hp:pendingOf st=#[])(h64:64<=a₀.size)(h128:a₀.size < 128)
  (h:∀ st',Bs a₀ st'->Seg κ (arrOf st') 0 a₀.size->Q () st'):wpS (model prog w) A E s sortRuns' Q st:=by
 rw [sortRuns'_eq];refine Qv (VA ?_);dsimp only;obtain⟨mr,hmr,m1,m2⟩:∃ mr,minRun' a₀.size a₀.size 0=mr/\a₀.size<=mr+mr/\mr<=a₀.size:=by
  refine⟨a₀.size / 2+a₀.size % 2,?_,by lia,by lia⟩;obtain⟨f,hf⟩:∃ f,a₀.size=f+1+1:=⟨a₀.size - 2,by lia⟩;have:minRun' (f+1+1) a₀.size 0=a₀.size / 2+a₀.size % 2:=by
   rw [minRun'_succ,Qf (by lia),minRun'_succ,Qn (by lia),Nat.zero_max]
  rwa [<-hf] at this
 simp only [hB.size,hmr];refine Qv (UG (Ud (I:=λx c st'=>(x=0/\c=(none,0)/\Bs a₀ st'/\pendingOf st'=#[])\/(∃ n1,c=(none,n1)/\x=1/\n1 < a₀.size/\mr<=n1/\Bs a₀ st'/\pendingOf st'=#[(0,n1,0)]/\Seg κ (arrOf st') 0 n1)\/(c=(none,a₀.size)/\Fd κ a₀ st'))
  (Q:=λc st'=>c=(none,a₀.size)/\Fd κ a₀ st') ?step ?fin (.inl ⟨rfl,rfl,hB,hp⟩)) ?post)
 case fin =>
  rintro c st' (⟨hx,_⟩ | ⟨n1,_,hx,_⟩ | hh)
  ·omega
  ·omega
  ·exact hh
 case post =>
  rintro c st' ⟨rfl,hB',hh⟩;dsimp only;refine Qv (UG (Ud (I:=λx c st''=>c=(none,())/\Bs a₀ st''/\(((pendingOf st'').size=1/\Seg κ (arrOf st'') 0 a₀.size)\/(x=0/\∃ n1 n2 pw,pendingOf st''=#[(0,n1,pw),(n1,n2,0)]/\n1+n2=a₀.size/\1<=n1/\1<=n2/\Seg κ (arrOf st'') 0 n1/\Seg κ (arrOf st'') n1 a₀.size))) (Q:=λc st''=>c=(none,())/\Bs a₀ st''/\Seg κ (arrOf st'') 0 a₀.size) ?_ ?_ ⟨rfl,hB',hh.imp id λz=>⟨rfl,z⟩⟩) ?_)
  ·rintro x c st₁ _ _ ⟨rfl,hB1,hh1⟩;refine Qv (VA ?_);rcases hh1 with⟨hz,hs⟩ | ⟨_,n1,n2,pw,hpd,e,e1,e2,s1,s2⟩
   ·rw [Qn (by lia)];exact QB ⟨rfl,hB1,hs⟩
   ·rw [Qf (by rw [hpd];simp),hpd];refine Qv (m:=mergeAt' 0) (oB hO h0 hB1 hpd e e1 e2 s1 s2 λst₂ b1 b2 b3=>?_);exact QB ⟨rfl,b1,.inl ⟨b2,b3⟩⟩
  ·rintro c st₁ ⟨rfl,hB1,⟨_,hs⟩ | ⟨hz,_⟩⟩
   ·exact⟨rfl,hB1,hs⟩
   ·omega
  ·rintro c st₁ ⟨rfl,hB1,hs1⟩;exact QB (h _ hB1 hs1)
 case step =>
  rintro x c st' _ hx (⟨rfl,rfl,hB',hp'⟩ | ⟨n1,rfl,rfl,hn1,hn2,hB',hp',hs'⟩ | ⟨rfl,hF⟩)
  ·dsimp only;rw [Qf (by lia)];refine Qv (iG (x₀:=arrOf st') (p:=#[]) hO h0 (by lia) (by lia) ⟨hB',hp',λ_ _=>rfl⟩ λm st₁ hB1 y1 y2 hs1=>?_);dsimp only;refine aR (λe=>Qv (VM (U2 ⟨rfl,Qv (fX hO h0 (by lia) (by lia) y1 hB1 hs1 λst₂ hB2 hs2=>?_)⟩))) λe=>?_;all_goals first
    | (have hBx:=hB2;have hsx:=hs2;rw [Qf (by simp)])
    | (have hBx:=hB1;have hsx:=hs1)
   all_goals refine Qv (VA ?_)
   all_goals rw [hBx.pend,show(#[]:Array (Nat × Nat × Nat)).back?=none from rfl]
   all_goals refine Qv (wpS_modify (QB (.inr (zM hBx hsx (by lia) (by lia)))))
  ·dsimp only;rw [Qf (by lia),show min (a₀.size - n1) mr=a₀.size - n1 by lia];refine Qv (iG (x₀:=arrOf st') (p:=#[(0,n1,0)]) hO h0 (by lia) (by lia) ⟨hB',hp',λ_ _=>rfl⟩ λm st₁ hB1 y1 y2 hs1=>?_);dsimp only;refine aR (λe=>Qv (VM (U2 ⟨rfl,Qv (fX hO h0 (by lia) (by lia) y1 hB1 hs1 λst₂ hB2 hs2=>?_)⟩))) λe=>?_;all_goals first
    | (have hBx:=hB2;have hsx:=hs2;rw [Qf (by simp)])
    | (obtain rfl:m=a₀.size - n1:=(by lia);have hBx:=hB1;have hsx:=hs1)
   all_goals refine Qv (VA ?_)
   all_goals rw [hBx.pend,show(#[(0,n1,0)]:Array (Nat × Nat × Nat)).back?=some (0,n1,0) from rfl]
   all_goals refine Qv (UG (Ud (I:=λ_ c st''=>c=(none,())/\Bo a₀ (arrOf st') #[(0,n1,0)] n1 st''/\Seg κ (arrOf st'') n1 (n1+(a₀.size - n1))) (Q:=λc st''=>c=(none,())/\Bo a₀ (arrOf st') #[(0,n1,0)] n1 st''/\Seg κ (arrOf st'') n1 (n1+(a₀.size - n1)))
    (λx c st₃ _ _ hI=>by
     obtain⟨rfl,hB3,hs3⟩:=hI;refine Qv (VA ?_);rw [hB3.pend,Qf (by simp)];exact QB ⟨rfl,hB3,hs3⟩) (λc st₃ hI=>hI) ⟨rfl,hBx,hsx⟩) λc st₃ hI=>?_)
   all_goals obtain⟨rfl,hB3,hs3⟩:=hI
   all_goals refine Qv (wpS_modify (Qv (wpS_modify (QB (.inr (.inr ⟨?_,⟨⟨hB3.bs.perm,hB3.bs.kind,hB3.bs.failed⟩,.inr ⟨n1,a₀.size - n1,power' a₀.size (2 * 0+n1) (2 * 0+n1+n1+(a₀.size - n1)) a₀.size,?_,by lia,by lia,by lia,vc hs' hB3.off,?_⟩⟩⟩))))))
   all_goals first
    | (rw [show n1+(a₀.size - n1)=a₀.size by lia] at hs3;exact hs3)
    | (show(none,n1+(a₀.size - n1))=_;rw [show n1+(a₀.size - n1)=a₀.size by lia])
    | (show Array.push (Array.modify (pendingOf st₃) ((pendingOf st₃).size - 1) _) _=_;rw [hB3.pend];rfl)
  ·dsimp only;rw [Qn (Qk _)];exact QB ⟨rfl,hF⟩
end
end SrtB
namespace SrtB
open PySem PyProof.Rows
section
variable{prog:Program} {w:World} {A:Around} {E:Value->Shared->Prop} {s:Shared} {κ:PyProof.Rows.KeyKind}
theorem tU{a:Addr}{vs:List Value}{n:Nat}{P:Fin->Shared->Prop}(hO:κ.OneLt)(ho:s.heap.get? a=some (seqObj "list" vs.toArray n))(h0:KeysOf κ (PyProof.Rows.pairsOf vs))(hkk:keyKind' vs.toArray=pure oneType')
  (h64:64<=vs.length) (h128:vs.length < 128)
  (h:∀ xs:Array Keyed,xs.Perm (PyProof.Rows.pairsOf vs)->SortedToK κ xs (PyProof.Rows.pairsOf vs).size->P (.done (.ret .none)) { s with heap:=sortedHeap s.heap a vs (xs.map (·.2)) }) :
  wpAny (model prog w) A (Builtin.«list.sort» ⟨[.ref a],[]⟩) P E s:=by
 have la:a < s.heap.objs.size:=QD ho;have z2:¬ vs.toArray.size < 2:=by rw [Qu];lia
 have zp:(PyProof.Rows.pairsOf vs).size=vs.length:=PyProof.Rows.pairsOf_size vs;rw [list_sort_plain];refine Qa (listItems_at ho rfl (Qa (listUpdate_at ho rfl ?_)));obtain⟨e,oe⟩:∃ e,(s.heap.update a (Obj.mapSeq λ_=>#[])).get? a=some (seqObj "list" #[] e):=⟨_,get?_update_seq ho λ_=>#[]⟩;refine Qa (seqEpoch_at oe rfl (Qa (wpAny_newTuple (Qa (Vn (Uf ?_))))));have ol:(((s.heap.update a (Obj.mapSeq λ_=>#[])).push (seqObj "tuple" vs.toArray 0)).push (seqObj "list" #[] 0)).get? a=some (seqObj "list" #[] e):=by
  rw [VD _ _ _ (by rw [size_push',U9];exact QP (Vi la)),VD _ _ _ (by rw [U9];exact QP la)];exact oe
 change wpAny (model prog w) A _ P E { s with heap:=((s.heap.update a (Obj.mapSeq λ_=>#[])).push (seqObj "tuple" vs.toArray 0)).push (seqObj "list" #[] 0) };dsimp only;rw [Qf z2,Qf z2,hkk];refine Qa (Qd (Qa (Uk (nq (a₀:=PyProof.Rows.pairsOf vs) (Q:=λ_ st'=>Bs (PyProof.Rows.pairsOf vs) st'/\Seg κ (arrOf st') 0 (PyProof.Rows.pairsOf vs).size) hO h0 ⟨Array.Perm.refl _,rfl,rfl⟩ rfl (by lia) (by lia) λst' a1 a2=>⟨a1,a2⟩) ?_ λ_ _ e=>e)));rintro⟨_,st'⟩ s' ⟨rfl,hb,hs⟩;refine Qa (seqEpoch_at ol rfl (Qa (listUpdate_at ol rfl ?_ (hsz2:=?_))))
 ·rw [hb.failed];simp only [bne_self_eq_false,Ui,if_false];exact Qd (h _ hb.perm λi j x y=>hs i j (Uh _) x y)
 ·refine QQ (Us ((Array.size_map ..).trans (hb.size.trans zp))) ?_;rw [sizeLine_eq];lia
theorem sorted_big{l:Addr}{vs:List Value}{ss:List Str}{Q:Value->Shared->Prop}(hl:s.heap.IsList l vs.toArray)(hS:StrsAre vs ss)(h64:64<=vs.length)(h128:vs.length < 128)
  (h:∀(out:Array Value) (ss':List Str),StrsAre out.toList ss'->ss'.Perm ss->sortedS ss'=true->Q (.ref (s.heap.objs.size+1)) { s with heap:=sortedAll s.heap vs out }) :
  wpAny (model prog w) A (call (.builtin "sorted") [.ref l]) Q E s:=by
 refine Calls.call_function_entry kind_sorted plain_sorted entry_sorted (args_sorted1 _) ?_;unfold Builtin.«sorted»;refine Qa (m:=checkCount "sorted" 1 1 _) (Qd (Qa (collect_list hl (Qa (Vn ?_)))));have z:((s.heap.push (seqObj "list" #[] 0)).update s.heap.objs.size (Obj.mapSeq (·++vs.toArray))).objs.size=s.heap.objs.size+1:=by
  rw [U9,size_push']
 have ol:(((s.heap.push (seqObj "list" #[] 0)).update s.heap.objs.size (Obj.mapSeq (·++vs.toArray))).push (seqObj "list" vs.toArray 0)).get? (s.heap.objs.size+1)=some (seqObj "list" vs.toArray 0):=by
  rw [<-z];exact QE _ rfl
 change wpAny _ _ _ _ _ { s with heap:=((s.heap.push (seqObj "list" #[] 0)).update s.heap.objs.size (Obj.mapSeq (·++vs.toArray))).push (seqObj "list" vs.toArray 0) };rw [z];have hkk:keyKind' vs.toArray=pure oneType':=by
  match vs,hS,h64 with
  | v₁ :: v₂ :: rest,hS,_=>exact keyKind_strs hS
  | [_],_,h=>simp at h
  | [],_,h=>simp at h
 refine Qa (Uf (UL slot_list_sort ⟨_,ol,rfl⟩ entry_list_sort (tU strKind_oneLt ol hS.keysOf hkk h64 h128 λxs hp hs=>⟨_,rfl,?_⟩) (args_list_sort _)));obtain⟨ss',h1,h2,h3⟩:=sorted_out_str hS hp hs;exact Qd ⟨_,rfl,h _ ss' h1 h2 h3⟩
end
end SrtB
namespace L2
open PySem PySem.Spec PyProof.Rows
section
variable{X:Cx}
theorem iw:eh X (.builtin "sorted") (λxs H Q=>∃ p ss,xs=[.ref p]/\SqL X.K H p (ss.map V.str)/\ss.length < 128/\∀ l ss',H l=none->ss'.Perm ss->dM ss'->Q (.ref l) (upd H l (.lst (ss'.map V.str)))):=by
 intro pins s σ H xs us Q I r h;obtain⟨p,ss,rfl,hq,h128,q⟩:=h;by_cases h64:ss.length < 64
 ·exact eI _ _ _ _ _ _ _ I r ⟨p,ss,rfl,hq,h64,q⟩
 obtain⟨u,rfl,rx⟩:=fO r;cases rx;obtain⟨its,rv,pl,hz⟩:=I.list hq;have hlen:=rv.length;rw [Qc] at hlen hz;refine SrtB.sorted_big pl.isList (gE rv) (by lia) (by lia) λout ss' a1 a2 a3=>?_;obtain⟨e,he⟩:=sortedAll_at s.heap its out;have hl':ss'.length=ss.length:=a2.length_eq;exact⟨.ref (s.heap.objs.size+1),upd H (s.heap.objs.size+1) (.lst (ss'.map V.str)),I.laid (t':=s.toks) (λb o z=>sortedAll_old z) (Uc _) ⟨by rw [Qc];lia,out.toList,e,fz a1,by simpa using he⟩,rfl,q _ ss' (I.hok.fresh (Uc _)) a2 (gD a3)⟩
end
end L2
namespace GH
open PySem L2 G1 PyProof.Rows
def tV:Sp:=λvs H Q _=>∃(m a1 a2 a3 a4 t:Addr) (h:Ho) (r:Str) (j:Nat) (ns:List Str),vs=[.ref m,.ref t]/\MAt H m a1 a2 a3 a4 h/\cA h/\cG h/\Sz h 63/\(h.links.length+h.rules.length<=63)/\H t=some (.tup (aA.who r (j:Int)).vals)/\j < h.par.length/\jA h r j ns /\
 ∀(l:Addr) (H':Hp),aw H H'->H l=none->H' l=some (.lst (az ns))->Q (.ref l) H'
def tW:Sp:=λvs H Q _=>∃(l l':Addr) (ns:List Str),vs=[.ref l,.ref l']/\H l=some (.lst (az ns))/\H l'=some (.lst (az ns))/\ns.length<=500/\∀ H',aw H H'->Q (.bl true) H'
theorem tX{ss due:List Str}{g:Str->Bool}{i:Nat}{y:Str}(hs:dM ss)(hy:ss[i]?=some y)(d1:dM due)(d2:due.Nodup)(d3:∀ z,z∈due ↔ z∈ss.take i/\g z=true) :
  (y∈due\/g y=false->∀ z,z∈due ↔ z∈ss.take (i+1)/\g z=true)/\(¬ y∈due->g y=true->dM (due++[y])/\(due++[y]).Nodup/\∀ z,z∈due++[y] ↔ z∈ss.take (i+1)/\g z=true):=by
 have tk:ss.take (i+1)=ss.take i++[y]:=by rw [Q3,hy];rfl
 refine⟨λh z=>?_,λh1 h2=>⟨?_,dj d2 h1,λz=>?_⟩⟩
 ·rw [d3,tk,Qr,Qo];constructor
  ·rintro⟨h1,h2⟩;exact⟨.inl h1,h2⟩
  ·rintro⟨h1 | h1,h2⟩
   ·exact⟨h1,h2⟩
   ·subst h1;rcases h with h | h
    ·exact(d3 z).mp h
    ·rw [h] at h2;cases h2
 ·refine Ub.mpr ⟨d1,VP _ _,λa ha b hb=>?_⟩;rw [Qo.mp hb];have ha:=((d3 a).mp ha).1;obtain⟨k,hk⟩:=Q1 ha;have hki:k < i:=by
   have:=(Qb.mp hk).1;rw [Q9] at this;lia
  rw [VL hki] at hk;obtain⟨h3,e3⟩:=Qb.mp hk;obtain⟨h4,e4⟩:=Qb.mp hy;have:=Uj.mp hs k i h3 h4 hki;rw [e3,e4] at this;exact this
 ·rw [Qr,Qo,d3,tk,Qr,Qo];constructor
  ·rintro(⟨h3,h4⟩ | h3)
   ·exact⟨.inl h3,h4⟩
   ·subst h3;exact⟨.inr rfl,h2⟩
  ·rintro⟨h3 | h3,h4⟩
   ·exact .inl ⟨h3,h4⟩
   ·exact .inr h3
theorem ym{d:aA}(h:d.ok)(ha:d.asks=false):d.word≠"ask"/\d.word≠"who":=by
 have k:∀ x∈(["add","move","cut","mend","join","leave","lift","give","bar"]:List Str),x≠"ask"/\x≠"who":=by decide +kernel
 cases d with
 | put w a r p=>rcases h.1 with e | e <;> (show w≠"ask"/\w≠"who";rw [e];exact k _ (by simp))
 | cutm b p=>cases b <;> exact k _ (by simp [aA.word])
 | ask a r p=>cases ha
 | who r p=>cases ha
 | add p=>exact k _ (by simp [aA.word])
 | move p q=>exact k _ (by simp [aA.word])
 | join a c=>exact k _ (by simp [aA.word])
 | leave a c=>exact k _ (by simp [aA.word])
 | lift w a r p=>exact k _ (by simp [aA.word])
def tY(d:aA):Prop:=d.ok/\∀ x∈d.names,x∈dQ
theorem tZ{l:List aA}{d:aA}(h:d.asks=true):(l++[d]).filter (λd=>!d.asks)=l.filter (λd=>!d.asks):=by
 rw [Ug,QS,Qf (by rw [h];simp),List.filter_nil,Uv]
theorem t5{l m:List aA}{d:aA}(h:l.filter (λd=>!d.asks)=m.filter (λd=>!d.asks)):(l++[d]).filter (λd=>!d.asks)=(m++[d]).filter (λd=>!d.asks):=by
 rw [Ug,Ug,h]
theorem oC(ds:List aA):(run bb ds).links.length+(run bb ds).rules.length<=(ds.filter λd=>!d.asks).length:=by
 have key:∀(ds:List aA) (h:Ho),(run h ds).links.length+(run h ds).rules.length<=h.links.length+h.rules.length+ds.length:=by
  intro ds
  induction ds with
  | nil=>intro h;exact Qk _
  | cons d ds ih =>
   intro h;have h1:=ih (step h d).1;have h2:(step h d).1.links.length+(step h d).1.rules.length<=h.links.length+h.rules.length+1:=by
    cases d with
    | add p=>rw [cT];split <;> exact Uc _
    | move p q=>rw [cu];split <;> (try split) <;> exact Uc _
    | cutm b p=>rw [cV];split <;> exact Uc _
    | join a c =>
     rw [cN];split
     ·exact Uc _
     ·split
      ·exact Uc _
      ·show(h.links++[_]).length+h.rules.length<=_;rw [Ql,Qz];lia
    | leave a c =>
     rw [bZ];split
     ·have:=List.length_erase_le (l:=h.links) (a:=(a,c));show(h.links.erase _).length+h.rules.length<=_;lia
     ·exact Uc _
    | put w a r p =>
     rw [dn];split
     ·split
      ·exact Uc _
      ·show h.links.length+(h.rules++[_]).length<=_;rw [Ql,Qz];lia
     ·exact Uc _
    | lift w a r p =>
     rw [cw];split
     ·have:=List.length_erase_le (l:=h.rules) (a:=(w,a,r,p));show h.links.length+(h.rules.erase _).length<=_;lia
     ·exact Uc _
    | ask a r p=>exact Uc _
    | who r p=>exact Uc _
   show(run (step h d).1 ds).links.length+(run (step h d).1 ds).rules.length<=_;rw [QL];lia
 rw [fj];have:=key (ds.filter λd=>!d.asks) bb;have e:bb.links.length+bb.rules.length=0:=rfl;lia
end GH
namespace G06
open PySem L2 G1 GH
seal PySem.wpAny
def top(i:Nat):Stmt:=PySem.Challenge.pw_gatebook_k06_whole_answer_and_reason.main.body.getD i (.Pass ⟨0,0,0,0⟩)
abbrev sZk:Stmt:=top 27
abbrev sAt:Stmt:=top 28
abbrev sZm:Stmt:=top 29
abbrev sZd:Stmt:=top 30
abbrev sZg:Stmt:=top 31
abbrev sYc:Stmt:=top 32
abbrev sZf:Stmt:=top 33
abbrev sZp:Stmt:=top 34
abbrev sZr:Stmt:=top 35
abbrev sZ2:Stmt:=top 36
abbrev sYg:Stmt:=top 37
abbrev sZj:Stmt:=top 38
abbrev sZh:Stmt:=top 39
abbrev sZa:Stmt:=top 40
abbrev sZz:Stmt:=top 41
abbrev sZi:Stmt:=top 42
abbrev sZn:Stmt:=top 43
abbrev sZe:Stmt:=top 44
abbrev sZw:Stmt:=top 45
abbrev sZl:Stmt:=top 5
abbrev sZq:Stmt:=top 6
abbrev sYh:Stmt:=top 8
abbrev sZs:Stmt:=top 9
abbrev sZ4:Stmt:=cq (top 21) 0
abbrev sYe:Stmt:=cq (top 21) 1
abbrev sYi:Stmt:=cq (top 21) 2
abbrev sZ9:Stmt:=cq (top 21) 3
abbrev sYb:Stmt:=cq (top 21) 4
abbrev sZ6:Stmt:=cq (top 21) 5
abbrev sZ8:Stmt:=cq (top 21) 6
abbrev sYk:Stmt:=cq (top 21) 7
abbrev sYl:Stmt:=cq (top 21) 8
abbrev sYd:Stmt:=cq (top 21) 9
abbrev sYj:Stmt:=cq (top 21) 10
abbrev sYf:Stmt:=cq (top 21) 11
abbrev sYa:Stmt:=cq (top 21) 12
abbrev sZ1:Stmt:=top 25
abbrev sZu:Stmt:=top 24
abbrev sZc:Stmt:=top 23
abbrev sZy:Stmt:=top 16
abbrev sZt:Stmt:=top 17
abbrev sZ0:Stmt:=top 18
abbrev sZ3:Stmt:=top 19
abbrev sZx:Stmt:=top 46
abbrev sZv:Stmt:=top 47
abbrev sZ7:Stmt:=top 48
set_option genInjectivity false in
set_option genSizeOf false in
structure bE(K:W.Frag)(mg:Str->Option Value) where
 CZb:Addr
 exZb:ExC K CZb
 mCZb:mg "NoPlace"=some (.ref CZb)
 CZ5:Addr
 exZ5:ExC K CZ5
 mCZ5:mg "Ring"=some (.ref CZ5)
 missRingNoPlace:W.mroIn K CZ5 (.ref CZb)=some false
 CZo:Addr
 clsZo:Cls K CZo
 mCZo:mg "House"=some (.ref CZo)
 naparents:d4 K CZo "parents"
 nacuts:d4 K CZo "cuts"
 nalinks:d4 K CZo "links"
 narules:d4 K CZo "rules"
 gWORD:∃ t,mg "WORD"=some (.int 0 t)
 gWHO:∃ t,mg "WHO"=some (.int 1 t)
 gRIGHT:∃ t,mg "RIGHT"=some (.int 2 t)
 gPLACE:∃ t,mg "PLACE"=some (.int 3 t)
 fZk:Addr
 fdZk:FuncData
 FZk:Fun K "_law_whole" "_law_whole" sZk fZk fdZk
 bZk:aY K fdZk ["_law_found"] []
 mZk:mg "_law_whole"=some (.ref fZk)
 fAt:Addr
 fdAt:FuncData
 FAt:Fun K "_law_at" "_law_at" sAt fAt fdAt
 bAt:aY K fdAt ["_law_script","_law_k"] []
 mAt:mg "_law_at"=some (.ref fAt)
 fZm:Addr
 fdZm:FuncData
 FZm:Fun K "_law_names" "_law_names" sZm fZm fdZm
 bZm:aY K fdZm [] []
 mZm:mg "_law_names"=some (.ref fZm)
 fZd:Addr
 fdZd:FuncData
 FZd:Fun K "_law_place_of" "_law_place_of" sZd fZd fdZd
 bZd:aY K fdZd ["_law_cell","_law_k","_law_count"] []
 mZd:mg "_law_place_of"=some (.ref fZd)
 fZg:Addr
 fdZg:FuncData
 FZg:Fun K "_law_deed_of" "_law_deed_of" sZg fZg fdZg
 bZg:aY K fdZg ["_law_cell","_law_k","_law_count"] []
 mZg:mg "_law_deed_of"=some (.ref fZg)
 fYc:Addr
 fdYc:FuncData
 FYc:Fun K "_law_new" "_law_new" sYc fYc fdYc
 bYc:aY K fdYc [] []
 mYc:mg "_law_new"=some (.ref fYc)
 fZf:Addr
 fdZf:FuncData
 FZf:Fun K "_law_within" "_law_within" sZf fZf fdZf
 bZf:aY K fdZf ["_law_links","_law_name"] []
 mZf:mg "_law_within"=some (.ref fZf)
 fZp:Addr
 fdZp:FuncData
 FZp:Fun K "_law_all_above" "_law_all_above" sZp fZp fdZp
 bZp:aY K fdZp ["_law_parents","_law_place"] []
 mZp:mg "_law_all_above"=some (.ref fZp)
 fZr:Addr
 fdZr:FuncData
 FZr:Fun K "_law_about_places" "_law_about_places" sZr fZr fdZr
 bZr:aY K fdZr ["_law_model","_law_deed"] []
 mZr:mg "_law_about_places"=some (.ref fZr)
 fZ2:Addr
 fdZ2:FuncData
 FZ2:Fun K "_law_about_names" "_law_about_names" sZ2 fZ2 fdZ2
 bZ2:aY K fdZ2 ["_law_model","_law_deed"] []
 mZ2:mg "_law_about_names"=some (.ref fZ2)
 fYg:Addr
 fdYg:FuncData
 FYg:Fun K "_law_due_answer" "_law_due_answer" sYg fYg fdYg
 bYg:aY K fdYg ["_law_model","_law_deed"] []
 mYg:mg "_law_due_answer"=some (.ref fYg)
 fZj:Addr
 fdZj:FuncData
 FZj:Fun K "_law_drawn" "_law_drawn" sZj fZj fdZj
 bZj:aY K fdZj ["_law_cells","_law_model"] []
 mZj:mg "_law_drawn"=some (.ref fZj)
 fZh:Addr
 fdZh:FuncData
 FZh:Fun K "_law_is_rule" "_law_is_rule" sZh fZh fdZh
 bZh:aY K fdZh ["_law_found"] []
 mZh:mg "_law_is_rule"=some (.ref fZh)
 fZa:Addr
 fdZa:FuncData
 FZa:Fun K "_law_is_answer" "_law_is_answer" sZa fZa fdZa
 bZa:aY K fdZa ["_law_found"] []
 mZa:mg "_law_is_answer"=some (.ref fZa)
 fZz:Addr
 fdZz:FuncData
 FZz:Fun K "_law_ways_from" "_law_ways_from" sZz fZz fdZz
 bZz:aY K fdZz ["_law_model","_law_place"] []
 mZz:mg "_law_ways_from"=some (.ref fZz)
 fZi:Addr
 fdZi:FuncData
 FZi:Fun K "_law_least_road" "_law_least_road" sZi fZi fdZi
 bZi:aY K fdZi ["_law_links","_law_name","_law_who"] []
 mZi:mg "_law_least_road"=some (.ref fZi)
 fZn:Addr
 fdZn:FuncData
 FZn:Fun K "_law_deciding" "_law_deciding" sZn fZn fdZn
 bZn:aY K fdZn ["_law_model","_law_name","_law_right","_law_place"] []
 mZn:mg "_law_deciding"=some (.ref fZn)
 fZe:Addr
 fdZe:FuncData
 FZe:Fun K "_law_is_right" "_law_is_right" sZe fZe fdZe
 bZe:aY K fdZe ["_law_found","_law_model","_law_deed"] []
 mZe:mg "_law_is_right"=some (.ref fZe)
 fZw:Addr
 fdZw:FuncData
 FZw:Fun K "_law_some_asks" "_law_some_asks" sZw fZw fdZw
 bZw:aY K fdZw ["_law_script","_law_count"] []
 mZw:mg "_law_some_asks"=some (.ref fZw)
 fZl:Addr
 fdZl:FuncData
 FZl:Fun K "roads_from" "roads_from" sZl fZl fdZl
 bZl:aY K fdZl ["links","name"] []
 mZl:mg "roads_from"=some (.ref fZl)
 fZq:Addr
 fdZq:FuncData
 FZq:Fun K "road" "road" sZq fZq fdZq
 bZq:aY K fdZq ["links","name","circle"] []
 mZq:mg "road"=some (.ref fZq)
 fYh:Addr
 fdYh:FuncData
 FYh:Fun K "way_up" "way_up" sYh fYh fdYh
 bYh:aY K fdYh ["parents","cuts","place"] []
 mYh:mg "way_up"=some (.ref fYh)
 fZs:Addr
 fdZs:FuncData
 FZs:Fun K "lies_in" "lies_in" sZs fZs fdZs
 bZs:aY K fdZs ["parents","place","other"] []
 mZs:mg "lies_in"=some (.ref fZs)
 fZ4:Addr
 fdZ4:FuncData
 FZ4:Fun K "__init__" "House.__init__" sZ4 fZ4 fdZ4
 bZ4:aY K fdZ4 ["self"] []
 mkZo:Mk K CZo fZ4
 fYe:Addr
 fdYe:FuncData
 FYe:Fun K "check_place" "House.check_place" sYe fYe fdYe
 bYe:aY K fdYe ["self","place"] []
 meYe:fZ K CZo "check_place" fYe
 fYi:Addr
 fdYi:FuncData
 FYi:Fun K "add_place" "House.add_place" sYi fYi fdYi
 bYi:aY K fdYi ["self","parent"] []
 meYi:fZ K CZo "add_place" fYi
 fZ9:Addr
 fdZ9:FuncData
 FZ9:Fun K "move_place" "House.move_place" sZ9 fZ9 fdZ9
 bZ9:aY K fdZ9 ["self","place","parent"] []
 meZ9:fZ K CZo "move_place" fZ9
 fYb:Addr
 fdYb:FuncData
 FYb:Fun K "set_cut" "House.set_cut" sYb fYb fdYb
 bYb:aY K fdYb ["self","place","wanted"] []
 meYb:fZ K CZo "set_cut" fYb
 fZ6:Addr
 fdZ6:FuncData
 FZ6:Fun K "add_link" "House.add_link" sZ6 fZ6 fdZ6
 bZ6:aY K fdZ6 ["self","member","circle"] []
 meZ6:fZ K CZo "add_link" fZ6
 fZ8:Addr
 fdZ8:FuncData
 FZ8:Fun K "drop_link" "House.drop_link" sZ8 fZ8 fdZ8
 bZ8:aY K fdZ8 ["self","member","circle"] []
 meZ8:fZ K CZo "drop_link" fZ8
 fYk:Addr
 fdYk:FuncData
 FYk:Fun K "put_rule" "House.put_rule" sYk fYk fdYk
 bYk:aY K fdYk ["self","rule"] []
 meYk:fZ K CZo "put_rule" fYk
 fYl:Addr
 fdYl:FuncData
 FYl:Fun K "lift_rule" "House.lift_rule" sYl fYl fdYl
 bYl:aY K fdYl ["self","rule"] []
 meYl:fZ K CZo "lift_rule" fYl
 fYd:Addr
 fdYd:FuncData
 FYd:Fun K "ask" "House.ask" sYd fYd fdYd
 bYd:aY K fdYd ["self","name","right","place"] []
 meYd:fZ K CZo "ask" fYd
 fYj:Addr
 fdYj:FuncData
 FYj:Fun K "who_may" "House.who_may" sYj fYj fdYj
 bYj:aY K fdYj ["self","right","place"] []
 meYj:fZ K CZo "who_may" fYj
 fYf:Addr
 fdYf:FuncData
 FYf:Fun K "all_names" "House.all_names" sYf fYf fdYf
 bYf:aY K fdYf ["self"] []
 meYf:fZ K CZo "all_names" fYf
 fYa:Addr
 fdYa:FuncData
 FYa:Fun K "link_pairs" "House.link_pairs" sYa fYa fdYa
 bYa:aY K fdYa ["self"] []
 meYa:fZ K CZo "link_pairs" fYa
 fZ1:Addr
 fdZ1:FuncData
 FZ1:Fun K "done" "done" sZ1 fZ1 fdZ1
 bZ1:aY K fdZ1 ["house","deed"] []
 mZ1:mg "done"=some (.ref fZ1)
 fZu:Addr
 fdZu:FuncData
 FZu:Fun K "answered" "answered" sZu fZu fdZu
 bZu:aY K fdZu ["house","deed"] []
 mZu:mg "answered"=some (.ref fZu)
 fZc:Addr
 fdZc:FuncData
 FZc:Fun K "answers" "answers" sZc fZc fdZc
 bZc:aY K fdZc ["deeds"] []
 mZc:mg "answers"=some (.ref fZc)
 fZy:Addr
 fdZy:FuncData
 FZy:Fun K "answer_for" "answer_for" sZy fZy fdZy
 bZy:aY K fdZy ["rules","links","name","right","way"] []
 mZy:mg "answer_for"=some (.ref fZy)
 fZt:Addr
 fdZt:FuncData
 FZt:Fun K "nearest" "nearest" sZt fZt fdZt
 bZt:aY K fdZt ["rules","way"] []
 mZt:mg "nearest"=some (.ref fZt)
 fZ0:Addr
 fdZ0:FuncData
 FZ0:Fun K "deciding" "deciding" sZ0 fZ0 fdZ0
 bZ0:aY K fdZ0 ["rules","name"] []
 mZ0:mg "deciding"=some (.ref fZ0)
 fZ3:Addr
 fdZ3:FuncData
 FZ3:Fun K "told" "told" sZ3 fZ3 fdZ3
 bZ3:aY K fdZ3 ["rules","roads"] []
 mZ3:mg "told"=some (.ref fZ3)
 fZx:Addr
 fdZx:FuncData
 FZx:Fun K "_law_who_may" "_law_who_may" sZx fZx fdZx
 bZx:aY K fdZx ["_law_model","_law_deed"] []
 mZx:mg "_law_who_may"=some (.ref fZx)
 fZv:Addr
 fdZv:FuncData
 FZv:Fun K "_law_are_names" "_law_are_names" sZv fZv fdZv
 bZv:aY K fdZv ["_law_found","_law_due"] []
 mZv:mg "_law_are_names"=some (.ref fZv)
 fZ7:Addr
 fdZ7:FuncData
 FZ7:Fun K "law" "law" sZ7 fZ7 fdZ7
structure Txt(mg:Str->Option Value):Prop where
 len:mg "len"=none
 range:mg "range"=none
 min:mg "min"=none
 list:mg "list"=none
 isinstance:mg "isinstance"=none
 str:mg "str"=none
 int:mg "int"=none
 bool:mg "bool"=none
 tuple:mg "tuple"=none
 sorted:mg "sorted"=none
 dict:mg "dict"=none
section
variable{P:Program} {w:World} {K:W.Frag} {mg:Str->Option Value} {base:Heap}
theorem zN:aI [] [] (am sZm):=⟨rfl,rfl,rfl,by decide +kernel,rfl,by decide +kernel,by decide +kernel⟩
theorem nu(D:bE K mg):aF P w K mg base CX0 1 D.fZm D.fdZm [] lz:=by
 refine D.FZm.ok zN (λvs H Q E h=>?_) (λcdv A outer s H vs Q E hr h=>?_)
 ·obtain⟨rfl,_⟩:=h;rfl
 obtain⟨rfl,q⟩:=h;refine⟨_,
  (aj (av (aU (aa rfl aq (aa rfl aq (aa rfl aq (aa rfl (aO eT (aO eU aq ah) aq) (aa rfl (aO eT (aO eU aq ah) aq) (aa rfl aq (aa rfl aq ai))))))))))
  ,?_⟩
 refine⟨_,_,rfl,rfl,ph,?_⟩;refine⟨_,_,rfl,rfl,rX,?_⟩;refine⟨_,_,rfl,rfl,ph,?_⟩;refine⟨_,_,rfl,rfl,rY,?_⟩;refine⟨(by show 7<=sizeLine;decide),?_⟩;exact q
theorem yn:aI ["_law_cell","_law_k","_law_count","_law_large"] ["_law_cell","_law_k","_law_count"] (am sZd):=⟨rfl,rfl,rfl,by decide +kernel,rfl,by decide +kernel,by decide +kernel⟩
theorem oE(D:bE K mg):aF P w K mg base CX0 1 D.fZd D.fdZd ["_law_cell","_law_k","_law_count"] kC:=by
 refine D.FZd.ok yn (λvs H Q E h=>?_) (λcdv A outer s H vs Q E hr h=>?_)
 ·obtain⟨c,k,n,rfl,_⟩:=h;rfl
 obtain⟨c,k,n,rfl,hn,q⟩:=h;have nd:=yn.nd;refine⟨_,
  (ag (aM (au aZ (aO bH (aO bH (aO cQ (pv 0) ah) ah) ah) ah (ay _))
    (ag (aH (i:=3) nd rfl (Or.inl rfl) ah)
    (aj (av (ap aN (aU (aa rfl (dk ci ah) (aa rfl (pv 2) (aa rfl (pv 3) (aa rfl (dk ci ah) (aa rfl (aO i5 ah (pv 2)) (aa rfl (aO i5 ah (pv 3)) ai))))))) (aO bH (aO bH (aO cQ (pv 0) ah) ah) ah) (λ_ _=>rfl)))))
    ax)
  (aj (av (aO bH (aO bH (aO cQ (aO eR (pv 0) (pv 1)) ah) ah) (pv 2)))))
  ,?_⟩
 refine⟨_,rfl,_,_,rfl,rfl,.inr ⟨by decide,by decide⟩,_,_,rfl,rfl,(by show(0:Int) < 1013;decide),_,_,rfl,rfl,(by show(0:Int) < 9;decide),rfl,_,rfl,?_⟩;refine cF (λ_=>?_) (λ_=>?_)
 ·refine⟨_,rfl,_,rfl,_,rfl,_,rfl,_,rfl,_,_,rfl,rfl,_,rfl,_,_,rfl,rfl,(by show 6<=sizeLine;decide),λl nl=>?_⟩;have m1:=db (c * 48271 % 1019) (m:=6) (by decide);obtain⟨v,hv⟩:=lA (ns:=[-1,n,100000000000000000000,-2,0 - n,0 - 100000000000000000000]) m1.1 m1.2;exact⟨_,rfl,_,_,rfl,rfl,.inr ⟨by decide,by decide⟩,_,_,rfl,rfl,(by show(0:Int) < 1019;decide),_,_,rfl,rfl,(by show(0:Int) < 6;decide),l,_,_,_,rfl,rfl,SqL.of ae,hv,q v _ (aw.new nl _)⟩
 ·exact⟨_,rfl,_,rfl,_,_,rfl,rfl,_,_,rfl,rfl,.inr ⟨by decide,by decide⟩,_,_,rfl,rfl,(by show(0:Int) < 1009;decide),_,rfl,_,_,rfl,rfl,hn,q _ H (aw.refl H)⟩
theorem yo:aI ["_law_cell","_law_k","_law_count","_law_way","_law_place","_law_name","_law_circle","_law_right","_law_other"] ["_law_cell","_law_k","_law_count"] (am sZg):=⟨rfl,rfl,rfl,by decide +kernel,rfl,by decide +kernel,by decide +kernel⟩
theorem qF(D:bE K mg):aF P w K mg base CX0 2 D.fZg D.fdZg ["_law_cell","_law_k","_law_count"] mG:=by
 have GZd:aF P w K mg base CX0 1 D.fZd D.fdZd ["_law_cell","_law_k","_law_count"] kC:=oE D;have GZm:aF P w K mg base CX0 1 D.fZm D.fdZm [] lz:=nu D;refine D.FZg.ok yo (λvs H Q E h=>?_) (λcdv A outer s H vs Q E hr h=>?_)
 ·obtain⟨c,k,n,rfl,_⟩:=h;rfl
 obtain⟨c,k,n,rfl,hn,q⟩:=h;have nd:=yo.nd;have hr1:=hr;refine⟨_,
  (ag (aH (i:=3) nd rfl (Or.inl rfl) (aO bH (aO bH (aO cQ (pv 0) ah) ah) ah))
  (ag (aH (i:=4) nd rfl (Or.inl rfl) (aP GZd hr1 rfl D.mZd D.FZd.kp D.bZd .nil bg (aa rfl (pv 0) (aa rfl (pv 1) (aa rfl (pv 2) ai)))))
  (ag (aH (i:=5) nd rfl (Or.inl rfl) (ap aN (eY GZm hr1 rfl D.mZm D.FZm.kp D.bZm .nil bg) (aO bH (aO bH (aO cQ (aO eR (pv 0) (pv 1)) ah) ah) ah) (λ_ _=>rfl)))
  (ag (aH (i:=6) nd rfl (Or.inl rfl) (ap aN (eY GZm hr1 rfl D.mZm D.FZm.kp D.bZm .nil bg) (aO eR ah (aO bH (aO bH (aO cQ (pv 0) ah) ah) ah)) (λ_ _=>rfl)))
  (ag (aH (i:=7) nd rfl (Or.inl rfl) (ap aN (aU (aa rfl aq (aa rfl (aO eT (aO eU aq ah) aq) (aa rfl aq (aa rfl aq ai))))) (aO bH (aO bH (aO cQ (pv 0) ah) ah) ah) (λ_ _=>rfl)))
  (ag (aH (i:=8) nd rfl (Or.inl rfl) (aP GZd hr1 rfl D.mZd D.FZd.kp D.bZd .nil bg (aa rfl (aO oM (pv 0) ah) (aa rfl (aO cQ ah (pv 1)) (aa rfl (pv 2) ai)))))
  (ag (aM (au gq (pv 3) ah (ay _))
    (aj (av (bJ (aa rfl aq (aa rfl (pv 4) ai)))))
    ax)
  (ag (aM (au aZ (pv 3) ah (ay _))
    (aj (av (bJ (aa rfl aq (aa rfl (pv 4) (aa rfl (pv 8) ai))))))
    ax)
  (ag (aM (au gq (pv 3) ah (ay _))
    (aj (av (bJ (aa rfl (ap aN (aU (aa rfl aq (aa rfl aq ai))) (aO i5 (pv 3) ah) (λ_ _=>rfl)) (aa rfl (pv 4) ai)))))
    ax)
  (ag (aM (au gq (pv 3) ah (ay _))
    (aj (av (bJ (aa rfl aq (aa rfl (pv 5) (aa rfl (pv 6) ai))))))
    ax)
  (ag (aM (au aZ (pv 3) ah (ay _))
    (aj (av (bJ (aa rfl aq (aa rfl (pv 5) (aa rfl (pv 6) ai))))))
    ax)
  (ag (aM (au gq (pv 3) ah (ay _))
    (aj (av (bJ (aa rfl (ap aN (aU (aa rfl aq (aa rfl aq ai))) (aO oM (pv 3) ah) (λ_ _=>rfl)) (aa rfl (pv 5) (aa rfl (pv 7) (aa rfl (pv 4) ai)))))))
    ax)
  (ag (aM (au aZ (pv 3) ah (ay _))
    (aj (av (bJ (aa rfl aq (aa rfl (ap aN (aU (aa rfl aq (aa rfl aq ai))) (aO bH (aO bH (aO cQ (pv 0) ah) ah) ah) (λ_ _=>rfl)) (aa rfl (pv 5) (aa rfl (pv 7) (aa rfl (pv 4) ai))))))))
    ax)
  (aj (av (bJ (aa rfl aq (aa rfl (pv 5) (aa rfl (pv 7) (aa rfl (pv 4) ai))))))))))))))))))))
  ,?_⟩
 have b16:=db (c * 48271 % 1021) (m:=16) (by decide);refine⟨_,rfl,_,_,rfl,rfl,.inr ⟨by decide,by decide⟩,_,_,rfl,rfl,(by show(0:Int) < 1021;decide),_,_,rfl,rfl,(by show(0:Int) < 16;decide),?_⟩;refine⟨_,rfl,_,rfl,_,rfl,c,k,n,rfl,hn,λplace H1 s1=>?_⟩;refine⟨rfl,λl1 n1=>?_⟩;have s2:=s1.put (s1.free n1) (.lst (az b7));obtain⟨name,hname,ename⟩:=fF (ns:=b7) (db ((c+k) * 48271 % 1031) (m:=7) (by decide)).1 (db ((c+k) * 48271 % 1031) (m:=7) (by decide)).2;refine⟨_,rfl,_,rfl,_,_,rfl,rfl,_,_,rfl,rfl,.inr ⟨by decide,by decide⟩,_,_,rfl,rfl,(by show(0:Int) < 1031;decide),_,_,rfl,rfl,(by show(0:Int) < 7;decide),l1,_,_,_,rfl,rfl,SqL.of ae,ename,?_⟩;refine⟨rfl,λl2 n2=>?_⟩;have s3:=s2.put (s2.free n2) (.lst (az b7));have b4:=db (c * 48271 % 1039) (m:=4) (by decide);obtain⟨circ,hcirc,ecirc⟩:=fF (ns:=b7) (k:=3+c * 48271 % 1039 % 4) (by lia) (by show _ < (7:Int);lia);refine⟨_,rfl,_,_,rfl,rfl,.inr ⟨by decide,by decide⟩,_,_,rfl,rfl,(by show(0:Int) < 1039;decide),_,_,rfl,rfl,(by show(0:Int) < 4;decide),_,_,rfl,rfl,l2,_,_,_,rfl,rfl,SqL.of ae,ecirc,?_⟩;refine⟨_,_,rfl,rfl,rZ,_,_,rfl,rfl,r6,(by show 4<=sizeLine;decide),λl3 n3=>?_⟩;have s4:=s3.put (s3.free n3) (.lst (az fG));obtain⟨right,hright,eright⟩:=fF (ns:=fG) (db (c * 48271 % 1033) (m:=4) (by decide)).1 (db (c * 48271 % 1033) (m:=4) (by decide)).2;refine⟨_,rfl,_,_,rfl,rfl,.inr ⟨by decide,by decide⟩,_,_,rfl,rfl,(by show(0:Int) < 1033;decide),_,_,rfl,rfl,(by show(0:Int) < 4;decide),l3,_,_,_,rfl,rfl,SqL.of ae,eright,?_⟩;refine⟨_,rfl,_,_,rfl,rfl,⟨by decide,by decide⟩,_,rfl,_,_,rfl,rfl,.inl ⟨by decide,by decide⟩,_,rfl,_,_,_,rfl,hn,λother H5 s5=>?_⟩;have s6:=s4.trans s5;have fin:∀(t:Addr) (d:aA) (H':Hp),aw H5 H'->H' t=none->d.small->Q (.ref t) (upd H' t (.tup d.vals)):=λt d H' s7 nt hd=>q t d _ ((s6.trans s7).put ((s6.trans s7).free nt) _) ((s6.trans s7).free nt) ae hd;refine⟨_,rfl,_,_,rfl,rfl,_,rfl,cF (λ_=>?_) (λc2=>?_)⟩
 ·exact⟨_,rfl,(by show 2<=sizeLine;decide),λt nt=>fin t (.add place) H5 (aw.refl _) nt trivial⟩
 have c2:¬ c * 48271 % 1021 % 16 < 2:=λz=>c2 (Qh z);refine⟨_,rfl,rfl,_,rfl,cF (λ_=>?_) (λc3=>?_)⟩
 ·exact⟨_,rfl,_,rfl,(by show 3<=sizeLine;decide),λt nt=>fin t (.move place other) H5 (aw.refl _) nt trivial⟩
 have c3:¬ c * 48271 % 1021 % 16=2:=λz=>c3 (Qh (QW V.int z));refine⟨_,rfl,_,_,rfl,rfl,_,rfl,cF (λc4=>?_) (λc4=>?_)⟩
 ·have c4:c * 48271 % 1021 % 16 < 5:=QI c4;refine⟨(by show 2<=sizeLine;decide),λl6 n6=>?_⟩;have s7:=aw.new n6 (.lst [.str "cut",.str "mend"]);by_cases c5:c * 48271 % 1021 % 16=3
  ·exact⟨_,rfl,_,_,rfl,rfl,l6,_,_,_,rfl,rfl,SqL.of ae,(by show atI _ (c * 48271 % 1021 % 16 - 3)=_;rw [c5];rfl),_,rfl,(by show 2<=sizeLine;decide),λt nt=>fin t (.cutm true place) _ s7 nt trivial⟩
  ·have c6:c * 48271 % 1021 % 16=4:=by lia
   exact⟨_,rfl,_,_,rfl,rfl,l6,_,_,_,rfl,rfl,SqL.of ae,(by show atI _ (c * 48271 % 1021 % 16 - 3)=_;rw [c6];rfl),_,rfl,(by show 2<=sizeLine;decide),λt nt=>fin t (.cutm false place) _ s7 nt trivial⟩
 have c4:¬ c * 48271 % 1021 % 16 < 5:=λz=>c4 (Qh z);refine⟨_,rfl,_,_,rfl,rfl,_,rfl,cF (λ_=>?_) (λc5=>?_)⟩
 ·exact⟨_,rfl,_,rfl,(by show 3<=sizeLine;decide),λt nt=>fin t (.join name circ) H5 (aw.refl _) nt ⟨hname,hcirc⟩⟩
 have c5:¬ c * 48271 % 1021 % 16 < 8:=λz=>c5 (Qh z);refine⟨_,rfl,rfl,_,rfl,cF (λ_=>?_) (λc6=>?_)⟩
 ·exact⟨_,rfl,_,rfl,(by show 3<=sizeLine;decide),λt nt=>fin t (.leave name circ) H5 (aw.refl _) nt ⟨hname,hcirc⟩⟩
 refine⟨_,rfl,_,_,rfl,rfl,_,rfl,cF (λc7=>?_) (λc7=>?_)⟩
 ·have c7:c * 48271 % 1021 % 16 < 14:=QI c7;refine⟨(by show 2<=sizeLine;decide),λl6 n6=>?_⟩;have s7:=aw.new n6 (.lst [.str "give",.str "bar"]);by_cases c8:c * 48271 % 1021 % 16 < 12
  ·have e8:c * 48271 % 1021 % 16 / 12=0:=by lia
   exact⟨_,rfl,_,_,rfl,rfl,⟨by decide,by decide⟩,l6,_,_,_,rfl,rfl,SqL.of ae,(by show atI _ (c * 48271 % 1021 % 16 / 12)=_;rw [e8];rfl),_,rfl,_,rfl,_,rfl,(by show 4<=sizeLine;decide),λt nt=>fin t (.put "give" name right place) _ s7 nt ⟨.inl rfl,hname,hright⟩⟩
  ·have e8:c * 48271 % 1021 % 16 / 12=1:=by lia
   exact⟨_,rfl,_,_,rfl,rfl,⟨by decide,by decide⟩,l6,_,_,_,rfl,rfl,SqL.of ae,(by show atI _ (c * 48271 % 1021 % 16 / 12)=_;rw [e8];rfl),_,rfl,_,rfl,_,rfl,(by show 4<=sizeLine;decide),λt nt=>fin t (.put "bar" name right place) _ s7 nt ⟨.inr rfl,hname,hright⟩⟩
 refine⟨_,rfl,rfl,_,rfl,cF (λ_=>?_) (λ_=>?_)⟩
 ·refine⟨(by show 2<=sizeLine;decide),λl6 n6=>?_⟩;have s7:=aw.new n6 (.lst [.str "give",.str "bar"]);have b2:=db (c * 48271 % 1049) (m:=2) (by decide);obtain⟨w,hw,ew⟩:=fF (ns:=["give","bar"]) b2.1 b2.2;have hw:cW w:=by
   rcases Qi.mp hw with e | e
   ·exact .inl e
   ·exact .inr (Qo.mp e)
  exact⟨_,rfl,_,_,rfl,rfl,.inr ⟨by decide,by decide⟩,_,_,rfl,rfl,(by show(0:Int) < 1049;decide),_,_,rfl,rfl,(by show(0:Int) < 2;decide),l6,_,_,_,rfl,rfl,SqL.of ae,ew,_,rfl,_,rfl,_,rfl,(by show 5<=sizeLine;decide),λt nt=>fin t (.lift w name right place) _ s7 nt ⟨hw,hname,hright⟩⟩
 ·exact⟨_,rfl,_,rfl,_,rfl,(by show 4<=sizeLine;decide),λt nt=>fin t (.ask name right place) H5 (aw.refl _) nt ⟨hname,hright⟩⟩
end
end G06
namespace G06
open PySem L2 G1 GH
seal PySem.wpAny
section
variable{P:Program} {w:World} {K:W.Frag} {mg:Str->Option Value} {base:Heap}
theorem yp:aI ["links","name","roads","waiting","member","circle"] ["links","name"] (am sZl):=⟨rfl,rfl,rfl,by decide +kernel,rfl,by decide +kernel,by decide +kernel⟩
theorem nv(D:bE K mg)(T:Txt mg):aF P w K mg base CX0 1 D.fZl D.fdZl ["links","name"] lw:=by
 refine D.FZl.ok yp (λvs H Q E h=>?_) (λcdv A outer s0 H vs Q E0 hr h=>?_)
 ·obtain⟨d,E,s,U,rfl,_⟩:=h;rfl
 obtain⟨d,E,s,U,rfl,hand,q⟩:=h;have nd:=yp.nd;have hu:=cE hr;refine⟨_,
  (ag (aH (i:=2) nd rfl (Or.inl rfl) (k7 (eB (pv 1) (aU (aa rfl (pv 1) ai)) k6) rfl rfl (by simp) (by decide)))
  (ag (aH (i:=3) nd rfl (Or.inl rfl) (aU (aa rfl (pv 1) ai)))
  (ag (dI QM (gt (pv 3) (λ_=>rfl))
    (ag (aH (i:=4) nd rfl (Or.inl rfl) (bR Qw PySem.F.slot_list_pop PySem.F.type_list_pop rl (pv 3) (aa rfl ah ai)))
    (aj (bQ QM rfl (bi (aG eI (by rfl) T.sorted Vd (aa rfl (gB hu (pv 0) (pv 4) (aU ai) ⟨rfl,rfl,rfl,rfl⟩) ai))) (bj (i:=5) nd rfl (Or.inl rfl))
      (aj (aM (c9 (hJ hu (pv 5) (pv 2)))
        (ag (fw hu (pv 2) (pv 5) (aO nR (a7 hu (pv 2) (pv 4) (λ_ _=>rfl)) (aU (aa rfl (pv 5) ai))) rfl)
        (aj (aT (bR Qw QG QF bf (pv 3) (aa rfl (pv 5) ai)))))
        ax))))))
  (aj (av (pv 2))))))
  ,?_⟩
 intro rd nrd;refine⟨_,rfl,_,rfl,(by show 1<=sizeLine;decide),λa0 na0=>?_⟩;have rd_a0:rd≠a0:=ao ae na0;have na0':H a0=none:=by rw [af rd_a0.symm] at na0;exact na0
 refine⟨by rw [af rd_a0];exact ae,[((Sum.inr s:Key),V.ref a0)],rfl,(by show 1<=15;decide),?_⟩;refine⟨_,rfl,(by show 1<=sizeLine;decide),λwl nwl=>?_⟩;have rd_wl:rd≠wl:=ao ae nwl;have a0_wl:a0≠wl:=ao (by rw [af rd_a0.symm];exact ae) nwl;have nwl':H wl=none:=by rw [af rd_wl.symm,af a0_wl.symm,af rd_wl.symm] at nwl;exact nwl
 have s0:RS H (upd (upd (upd (upd H rd (.dK [])) a0 (.lst [V.str s])) rd (.dK (hV [] [((Sum.inr s:Key),V.ref a0)]))) wl (.lst [V.str s])) rd wl [(s,a0,[s])] [s]:=by
  refine⟨(((aw.new nrd _).put na0' _).put nrd _).put nwl' _,by rw [af rd_wl];exact ae,ae,λe he=>?_,λe he=>?_,nrd,nwl',rd_wl⟩
  ·have:e=(s,a0,[s]):=by simpa using he
   rw [this,af a0_wl,af rd_a0.symm];exact ae
  ·have:e=(s,a0,[s]):=by simpa using he
   rw [this];exact⟨na0',a0_wl⟩
 let W:Nat->St->Hp->Prop:=λm σ H1=>∃(rows:List Row) (i:Nat) (v4 v5:Option V),m=U.length - i/\σ=[some (.ref d),some (.str s),some (.ref rd),some (.ref wl),v4,v5]/\RS H H1 rd wl rows ((rows.drop i).map (λe:Row=>e.1)) /\
  ga ltS (nbE E) s (lr rows) i/\i<=rows.length/\∀ x∈rows.map (λe:Row=>e.1),x∈U
 have len:∀{rows:List Row} {i:Nat},ga ltS (nbE E) s (lr rows) i->(∀ x∈rows.map (λe:Row=>e.1),x∈U)->rows.length<=U.length:=λ{rows i} hw hU=>by
  have:=bT (by rw [<-dN];exact hw.nd) hU;rw [Qc] at this;exact this
 refine⟨W,⟨_,[(s,a0,[s])],0,none,none,rfl,rfl,s0,ga.start ordS _ _,Uh _,λx hx=>?_⟩,?_⟩
 ·have:x=s:=by simpa using hx
  rw [this];exact hand.hs
 rintro m σ H1 ⟨rows,i,v4,v5,rfl,rfl,R,wk,hi,hU⟩;refine⟨_,rfl,_,.inl ⟨_,SqL.of R.hw,rfl⟩,?_⟩;by_cases hlt:i < rows.length
 ·obtain⟨⟨m,ra,r⟩,ei⟩:∃ e:Row,rows[i]?=some e:=⟨rows[i],Qe hlt⟩;have ed:rows.drop i=(m,ra,r) :: rows.drop (i+1):=by
   rw [Uw hlt];rw [Qe hlt] at ei;rw [Qt ei]
  have em:(m,ra,r)∈rows:=QC ei;have ew:(rows.drop i).map (λe:Row=>e.1)=m :: (rows.drop (i+1)).map (λe:Row=>e.1):=by rw [ed];rfl
  have hw:H1 wl=some (.lst (az (m :: (rows.drop (i+1)).map (λe:Row=>e.1)))):=by rw [<-ew];exact R.hw
  rw [ew];refine bM ?_;refine⟨λσ' H'=>∃ m',m' < U.length - i/\W m' σ' H',λ_ _ h=>h,?_⟩;refine⟨_,rfl,.inl ⟨rfl,_,SqL.of hw⟩,wl,_,_,0,_,rfl,rfl,hw,by decide,by decide,seqIndex_of (by decide) (by rw [ba];simp only [QL];lia),rfl,?_⟩;have R1:RS H (upd H1 wl (.lst (az ((rows.drop (i+1)).map (λe:Row=>e.1))))) rd wl rows ((rows.drop (i+1)).map (λe:Row=>e.1)):=R.setw _;have sd:aw H (upd H1 wl (.lst (az ((rows.drop (i+1)).map (λe:Row=>e.1))))):=R1.same;refine⟨_,rfl,d,rfl,.inl ⟨_,.inl (sd _ _ hand.at'.hd)⟩,_,rfl,(by show 0<=sizeLine;decide),λz nz=>?_⟩;refine⟨_,bG.k (k:=(Sum.inr m:Key)) (by rw [af (ao (sd _ _ hand.at'.hd) nz)];exact sd _ _ hand.at'.hd),?_⟩;have R2:=R1.new nz (.lst []);obtain⟨p,ep,hp⟩:∃ p,(bL (ekv E) (Sum.inr m:Key)).getD (.ref z)=.ref p/\(upd (upd H1 wl (.lst (az ((rows.drop (i+1)).map (λe:Row=>e.1))))) z (.lst [])) p=some (.lst (az (nbE E m))):=by
   by_cases hm:m∈E.map (λe:Row=>e.1)
   ·obtain⟨e,he,rfl⟩:=Qg.mp hm;refine⟨e.2.1,by rw [bU hand.at'.nd he];rfl,?_⟩;rw [bo hand.at'.nd he];exact R2.same _ _ (hand.at'.ha e he)
   ·refine⟨z,by rw [cS hm];rfl,?_⟩;rw [ck hm];exact ae
  have h64:(nbE E m).length < 64:=by
   by_cases hm:m∈E.map (λe:Row=>e.1)
   ·obtain⟨e,he,rfl⟩:=Qg.mp hm;rw [bo hand.at'.nd he];exact hand.few e he
   ·rw [ck hm];decide
  refine⟨p,nbE E m,by rw [ep],SqL.of hp,h64,λl ss nl perm srt=>?_⟩;have R3:=R2.new nl (.lst (az ss));have lrd:l≠rd:=(ao R2.hr nl).symm;have lwl:l≠wl:=(ao R2.hw nl).symm;have hssl:ss.length < 64:=by rw [perm.length_eq];exact h64
  refine⟨l,rfl,⟨_,SqL.of ae⟩,b8 (K:=K) (xs:=az ss) (λj σ H2=>∃(rows':List Row) (v5:Option V),σ=[some (.ref d),some (.str s),some (.ref rd),some (.ref wl),some (.str m),v5]/\RS H H2 rd wl rows' ((rows'.drop (i+1)).map (λe:Row=>e.1)) /\
    Mid ltS (nbE E) s (lr rows') i m r (ss.take j)/\H2 l=some (.lst (az ss))/\(∀ x∈rows'.map (λe:Row=>e.1),x∈U)/\rows'[i]?=some (m,ra,r))
   ⟨rows,v5,rfl,R3,wk.mid (wN ei),ae,hU,ei⟩ (λj σ H2 _ ⟨_,_,_,_,_,hl2,_⟩=>SqL.of hl2) ?_ ?_⟩
  ·rintro j y σ H2 hy ⟨rows',v5,rfl,R',mid,hl2,hU',ei'⟩;obtain⟨c,rfl,hc⟩:=eK hy;have hjl:j < ss.length:=(Qb.mp hc).1;have tk:ss.take (j+1)=ss.take j++[c]:=by rw [Q3,hc];rfl
   have before':∀ x∈ss.take j,ltS c x=false:=λx hx=>by
    obtain⟨t,ht⟩:=Q1 hx;have htj:t < j:=by
     have:=(Qb.mp ht).1;rw [Q9] at this;lia
    rw [VL htj] at ht;obtain⟨h1,e1⟩:=Qb.mp ht;obtain⟨h2,e2⟩:=Qb.mp hc;have:=Uj.mp srt t j h1 h2 htj;rw [e1,e2] at this;exact this
   have hnb:c∈nbE E m:=perm.mem_iff.mp (QC hc);have em':(m,ra,r)∈rows':=QC ei';have nd':(rows'.map (λe:Row=>e.1)).Nodup:=by rw [<-dN];exact mid.nd
   have hlen':rows'.length<=U.length:=by
    have:=bT nd' hU';rw [Qc] at this;exact this
   have hU100:=hand.hl;refine⟨_,rfl,_,rfl,rd,_,rfl,bG.k (k:=(Sum.inr c:Key)) R'.hr,_,rfl,?_⟩;by_cases hin:c∈rows'.map (λe:Row=>e.1)
   ·obtain⟨e,he,ec⟩:=Qg.mp hin;have ev:bL (ekv rows') (Sum.inr c:Key)=some (.ref e.2.1):=by rw [<-ec];exact bU nd' he
    rw [ev];refine bt ?_;refine⟨rows',_,rfl,R',?_,hl2,hU',ei'⟩;rw [tk];exact mid.skip ordS before' (by rw [dN];exact hin)
   ·rw [cS hin];refine bM ?_;have hra:=R'.ha _ em';have hlr:r.length<=500:=by
     have h1:=mid.len i i (m,r) (Qk _) mid.cur;have h2:=(Qb.mp ei').1;simp only at h1;lia
    refine⟨_,rfl,_,rfl,rd,_,rfl,(bU nd' em' ▸ bG.k (k:=(Sum.inr m:Key)) R'.hr:bG H2 rd (.str m) (some (.ref ra))),_,rfl,(by show 1<=sizeLine;decide),λp1 n1=>?_⟩;have R4:=R'.new n1 (.lst [V.str c]);refine⟨ra,p1,_,_,rfl,rfl,R4.ha _ em',ae,?_,λq1 nq1=>?_⟩
    ·rw [ba];exact UV (aB (by simp only [Qz];lia))
    have R5:=R4.new nq1 (.lst (az r++[V.str c]));refine⟨_,rfl,_,rfl,rd,_,rfl,iH.k (k:=(Sum.inr c:Key)) R5.hr (aB (by rw [ln];lia)),?_⟩;have R6:=R5.put (c:=c) (q:=q1) (r:=r++[c]) (by rw [cr];exact ae) (R4.same.free nq1) (ao R4.hw nq1).symm hin;refine⟨_,rfl,.inl ⟨rfl,_,SqL.of R6.hw⟩,_,rfl,wl,_,_,rfl,rfl,R6.hw,?_,?_⟩
    ·rw [ba,Qc,VQ];exact aB (by lia)
    have R7:=R6.setw ((rows'.drop (i+1)).map (λe:Row=>e.1)++[c]);have hil:i < rows'.length:=(Qb.mp ei').1;refine⟨rows'++[(c,q1,r++[c])],_,rfl,?_,?_,?_,?_,?_⟩
    ·rw [cr] at R7;rw [List.drop_append_of_le_length (by lia),Qx];exact R7
    ·rw [tk,uF];exact mid.add ordS before' hnb (by rw [dN];exact hin)
    ·rw [af lwl,af lrd,af (ao (by rw [af (ao hl2 n1)];exact hl2) nq1),af (ao hl2 n1)];exact hl2
    ·intro x hx;rw [Qx] at hx;rcases Qr.mp hx with hx | hx
     ·exact hU' x hx
     ·have:x=c:=by simpa using hx
      rw [this];exact hand.hU m c hnb
    ·rw [Q8 hil];exact ei'
  ·rintro σ H2 ⟨rows',v5,rfl,R',mid,hl2,hU',ei'⟩;have hil:i < rows'.length:=(Qb.mp ei').1;have wk':ga ltS (nbE E) s (lr rows') (i+1):=by
    refine mid.next λc hc=>?_;rw [ba,Q5];exact perm.mem_iff.mpr hc
   have hle:=len wk' hU';exact⟨U.length - (i+1),by lia,rows',i+1,_,_,rfl,rfl,R',wk',hil,hU'⟩
 ·have e:i=rows.length:=by lia
  subst e;have ew:(rows.drop rows.length).map (λe:Row=>e.1)=[]:=by rw [List.drop_length];rfl
  rw [ew];refine bt ?_;refine⟨_,rfl,q rd rows H1 R.same R.nr R.hr R.ha (λe he=>(R.hn e he).1) (len wk hU) ?_⟩;rw [wM];exact wk
theorem zO:aI ["links","name","circle"] ["links","name","circle"] (am sZq):=⟨rfl,rfl,rfl,by decide +kernel,rfl,by decide +kernel,by decide +kernel⟩
theorem vd(D:bE K mg)(T:Txt mg):aF P w K mg base CX0 2 D.fZq D.fdZq ["links","name","circle"] rR:=by
 have GZl:aF P w K mg base CX0 1 D.fZl D.fdZl ["links","name"] lw:=nv D T;refine D.FZq.ok zO (λvs H Q E h=>?_) (λcdv A outer s0 H vs Q E0 hr h=>?_)
 ·obtain⟨d,E,s,c,U,rfl,_⟩:=h;rfl
 obtain⟨d,E,s,c,U,rfl,hand,q1,q2⟩:=h;have hr1:=hr;have hu:=cE hr;refine⟨_,
  (aj (av (rE hu (aP GZl hr1 rfl D.mZl D.FZl.kp D.bZl .nil bg (aa rfl (pv 0) (aa rfl (pv 1) ai))) (pv 2) ⟨rfl,rfl,rfl,rfl⟩)))
  ,?_⟩
 refine⟨_,rfl,_,rfl,d,E,s,U,rfl,hand,λrd rows H' sm nrd hrd hrows _ hlen wk=>?_⟩;refine⟨rd,rfl,.inl ⟨_,.inl hrd⟩,_,rfl,_,bG.k (k:=(Sum.inr c:Key)) hrd,?_⟩;have nd':(rows.map (λe:Row=>e.1)).Nodup:=by rw [<-dN];exact wk.nd
 by_cases hc:c∈rows.map (λe:Row=>e.1)
 ·obtain⟨e,he,rfl⟩:=Qg.mp hc;rw [bU nd' he];exact q1 e.2.1 e.2.2 H' sm (hrows e he) (wk.best ordS (QH (f:=λe:Row=>(e.1,e.2.2)) he))
 ·rw [cS hc];exact q2 H' sm λp hp=>hc ((jw wk c).mpr ⟨p,hp⟩)
theorem yq:aI ["parents","place","other","reached"] ["parents","place","other"] (am sZs):=⟨rfl,rfl,rfl,by decide +kernel,rfl,by decide +kernel,by decide +kernel⟩
theorem ve(D:bE K mg)(T:Txt mg):aF P w K mg base CX0 1 D.fZs D.fdZs ["parents","place","other"] (sO K):=by
 refine D.FZs.ok yq (λvs H Q E h=>?_) (λcdv A outer s H vs Q E hr h=>?_)
 ·obtain⟨a,ps,j,o,l,rfl,_⟩:=h;rfl
 obtain⟨a,ps,j,o,l,rfl,hS,up,q⟩:=h;have nd:=yq.nd;refine⟨_,
  (ag (aH (i:=3) nd rfl (Or.inl rfl) (pv 1))
  (ag (dI QM (PW.pt (dZ (c9 (gm (pv 3))) (dC (au dS (pv 3) (pv 2) (ay _)))))
    (aj (aH (i:=3) nd rfl (Or.inl rfl) (ap aN (pv 0) (pv 3) (λ_ _=>rfl)))))
  (aj (av (bX aZ (pv 3) (pv 2) (ay _))))))
  ,?_⟩
 refine⟨_,rfl,?_⟩;refine⟨λm σ H1=>H1=H/\∃ v,σ=[some (.ref a),some (.int j),some (.int o),some v]/\((∃(x:Nat) (l':List Nat),v=.int x/\Up ps x l'/\decide (o∈l')=decide (o∈l)/\l'.length=m)\/(v=.non/\decide (o∈l)=false/\0=m)),
  ⟨_,rfl,_,rfl,.inl ⟨j,l,rfl,up,rfl,rfl⟩⟩,?_⟩
 rintro m σ H1 ⟨rfl,v,rfl,⟨x,l',rfl,up',hd,rfl⟩ | ⟨rfl,hd,rfl⟩⟩
 ·refine⟨_,rfl,_,rfl,bM ?_⟩;refine⟨_,rfl,_,rfl,rfl,_,rfl,?_⟩;by_cases e:x=o
  ·subst e;have e1:(!decide (V.int (x:Nat)=V.int (x:Nat)))=false:=by rw [Qh rfl];rfl
   show if (!decide (V.int (x:Nat)=V.int (x:Nat)))=true then _ else _;rw [e1];refine bt ?_;refine⟨_,rfl,_,rfl,rfl,?_⟩;show Q (V.bl (decide (V.int (x:Nat)=V.int (x:Nat)))) _;rw [Qh rfl,<-Qh up'.self,hd];exact q
  ·have e0:¬ V.int (x:Nat)=V.int (o:Nat):=λz=>e (Int.ofNat.inj (V.int.inj z));have e1:(!decide (V.int (x:Nat)=V.int (o:Nat)))=true:=by rw [Qp e0];rfl
   show if (!decide (V.int (x:Nat)=V.int (o:Nat)))=true then _ else _;rw [e1];refine bM ⟨_,λ_ _ h=>h,?_⟩;cases up' with
   | top ex =>
    refine⟨_,rfl,_,rfl,a,_,_,_,rfl,rfl,hS,dX ex,?_⟩;refine⟨0,by simp,rfl,_,rfl,.inr ⟨rfl,?_,rfl⟩⟩;rw [<-hd];exact Qp λz=>e (Qo.mp z).symm
   | @next _ i l2 ex t =>
    refine⟨_,rfl,_,rfl,a,_,_,_,rfl,rfl,hS,dX ex,?_⟩;refine⟨l2.length,by simp,rfl,_,rfl,.inl ⟨i,l2,rfl,t,?_,rfl⟩⟩;rw [<-hd];refine decide_eq_decide.mpr ⟨λz=>QA _ z,λz=>?_⟩;rcases Qi.mp z with z | z
    ·exact Qs z.symm e
    ·exact z
 ·refine⟨_,rfl,_,rfl,bt (bt ?_)⟩;refine⟨_,rfl,_,rfl,rfl,?_⟩;show Q (V.bl (decide (V.non=V.int (o:Nat)))) _;rw [Qp (by intro z;cases z),<-hd];exact q
end
end G06
namespace G06
open PySem L2 G1 GH
seal PySem.wpAny
section
variable{P:Program} {w:World} {K:W.Frag} {mg:Str->Option Value} {base:Heap}
theorem yr:aI ["self"] ["self"] (am sZ4):=⟨rfl,rfl,rfl,by decide +kernel,rfl,by decide +kernel,by decide +kernel⟩
theorem vf(D:bE K mg):aF P w K mg base CX0 1 D.fZ4 D.fdZ4 ["self"] (sQ D.CZo):=by
 refine D.FZ4.ok yr (λvs H Q E h=>?_) (λcdv A outer s H vs Q E hr h=>?_)
 ·obtain⟨x,dx,rfl,_⟩:=h;rfl
 obtain⟨x,dx,rfl,hx,q⟩:=h;have nd:=yr.nd;have hu:=cE hr;refine⟨_,
  (ag (kW (pv 0) (aU (aa rfl nE ai)) rfl)
  (ag (kW (pv 0) (aU (aa rfl bw ai)) rfl)
  (ag (kW (pv 0) je rfl)
  (aj (kW (pv 0) rD rfl)))))
  ,?_⟩
 refine⟨(by show 1<=sizeLine;decide),λa1 n1=>?_⟩;have x1:x≠a1:=ao hx n1;refine⟨_,rfl,x,_,dx,_,rfl,(by rw [af x1];exact hx),D.clsZo,D.naparents,(by decide),?_⟩;refine⟨(by show 1<=sizeLine;decide),λa2 n2=>?_⟩;have x2:x≠a2:=ao ae n2;have h12:a1≠a2:=λz=>by rw [<-z,af x1.symm,ae] at n2;cases n2
 have n2':H a2=none:=by rw [af x2.symm,af h12.symm] at n2;exact n2
 refine⟨_,rfl,x,_,dx,_,rfl,(by rw [af x2];exact ae),D.clsZo,D.nacuts,(by show(1:Nat) < 1000;decide),?_⟩;refine λa3 n3=>?_;have x3:x≠a3:=ao ae n3;have h23:a2≠a3:=λz=>by rw [<-z,af x2.symm,ae] at n3;cases n3
 have h13:a1≠a3:=λz=>by rw [<-z,af x1.symm,af h12,af x1.symm,ae] at n3;cases n3
 have n3':H a3=none:=by rw [af x3.symm,af h23.symm,af x3.symm,af h13.symm] at n3;exact n3
 refine⟨_,rfl,x,_,dx,_,rfl,(by rw [af x3];exact ae),D.clsZo,D.nalinks,(by show(2:Nat) < 1000;decide),?_⟩;refine λa4 n4=>?_;have x4:x≠a4:=ao ae n4;have h34:a3≠a4:=λz=>by rw [<-z,af x3.symm,ae] at n4;cases n4
 have h24:a2≠a4:=λz=>by rw [<-z,af x2.symm,af h23,af x2.symm,ae] at n4;cases n4
 have h14:a1≠a4:=λz=>by rw [<-z,af x1.symm,af h13,af x1.symm,af h12,af x1.symm,ae] at n4;cases n4
 have n4':H a4=none:=by rw [af x4.symm,af h34.symm,af x4.symm,af h24.symm,af x4.symm,af h14.symm] at n4;exact n4
 refine⟨_,rfl,x,_,dx,_,rfl,(by rw [af x4];exact ae),D.clsZo,D.narules,(by show(3:Nat) < 1000;decide),?_⟩;have mx:x∈[x]:=QJ;refine q a1 a2 a3 a4 _ (((((((((Sb.refl [x] H).new n1 _).put mx _).new n2' _).put mx _).new n3' _).put mx _).new n4' _).put mx _) n1 n2' n3' n4' ⟨by rw [ae];rfl,?_,?_,⟨?_,λe he=>Qs he (by simp),by simp⟩,?_,λy=>rfl,?_⟩
 ·rw [af x1.symm,af h14,af x1.symm,af h13,af x1.symm,af h12,af x1.symm,ae];rfl
 ·rw [af x2.symm,af h24,af x2.symm,af h23,af x2.symm,ae];rfl
 ·rw [af x3.symm,af h34,af x3.symm,ae];rfl
 ·rw [af x4.symm,ae];rfl
 ·show [a1,a2,a3,a4].Nodup;simp [h12,h13,h14,h23,h24,h34]
theorem yt:aI ["self","place"] ["self","place"] (am sYe):=⟨rfl,rfl,rfl,by decide +kernel,rfl,by decide +kernel,by decide +kernel⟩
theorem iy(D:bE K mg)(T:Txt mg):aF P w K mg base (CXo P w) 1 D.fYe D.fdYe ["self","place"] (jL D.CZb D.CZo):=by
 refine okX D.FYe yt (λvs H Q E h=>?_) (λcdv A outer s H vs Q E hr h=>?_)
 ·obtain⟨x,dx,a1,a2,a3,a4,h,E0,p,rfl,_⟩:=h;rfl
 obtain⟨x,dx,a1,a2,a3,a4,h,E0,p,rfl,hM,q1,q2⟩:=h;have nd:=yt.nd;refine⟨_,
  (aj (aM (PW.pt (cL (au gq (pv 1) ah (ay _)) (ca (au oQ (pv 1) (aG aJ (by rfl) T.len QT (aa rfl (bI (pv 0) rfl) ai)) (ay _)))))
    (aj (jH D.exZb rfl D.mCZb hr.hd om))
    ax))
  ,?_⟩
 refine⟨_,rfl,_,_,rfl,rfl,_,rfl,cF (λc=>?_) (λc=>?_)⟩
 ·have c:p < 0:=QI c;exact bM (q2 λz=>by have:=z.1;lia)
 ·have c:¬ p < 0:=λz=>c (Qh z);refine⟨_,rfl,_,rfl,x,_,dx,_,_,rfl,hM.ins,D.clsZo,D.naparents,rfl,a1,_,rfl,.inl (SqL.of hM.h1),_,_,rfl,rfl,_,rfl,cF (λc2=>?_) (λc2=>?_)⟩
  ·have c2:(((cx h.par).length:Nat):Int)<=p:=QI c2;rw [bC] at c2;exact q2 λz=>by have:=z.2;lia
  ·have c2:¬ (((cx h.par).length:Nat):Int)<=p:=λz=>c2 (Qh z);rw [bC] at c2;exact q1 ⟨by lia,by lia⟩
theorem yu:aI ["self","parent"] ["self","parent"] (am sYi):=⟨rfl,rfl,rfl,by decide +kernel,rfl,by decide +kernel,by decide +kernel⟩
theorem xm(D:bE K mg)(T:Txt mg):aF P w K mg base (CXo P w) 2 D.fYi D.fdYi ["self","parent"] (cK D.CZb D.CZ5 D.CZo aYi):=by
 have GYe:aF P w K mg base (CXo P w) 1 D.fYe D.fdYe ["self","place"] (jL D.CZb D.CZo):=iy D T;refine okX D.FYi yu (λvs H Q E h=>?_) (λcdv A outer s H vs Q E hr h=>?_)
 ·obtain⟨x,dx,a1,a2,a3,a4,h,E0,us,d,U,rfl,_,_,_,_,_,_,_,⟨p,rfl,rfl⟩,_⟩:=h;rfl
 obtain⟨x,dx,a1,a2,a3,a4,h,E0,us,d,U,rfl,hM,hO,hX,hZ,hF,hN,hk,⟨p,rfl,rfl⟩,q⟩:=h;have nd:=yu.nd;have hr1:=hr;refine⟨_,
  (ag (aT (bn (pv 0) D.clsZo D.meYe GYe hr1 D.bYe .nil cH (aa rfl (pv 1) ai)))
  (ag (aT (bR Qw QG QF bf (bI (pv 0) rfl) (aa rfl (pv 1) ai)))
  (ag (aT (bR Qw QG QF bf (bI (pv 0) rfl) (aa rfl bw ai)))
  (aj (av (aO i5 (aG aJ (by rfl) T.len QT (aa rfl (bI (pv 0) rfl) ai)) ah))))))
  ,?_⟩
 rw [cT] at q;have old:iJ H E0 E0 U:=λe he=>⟨.inl (Qg.mpr ⟨e,he,rfl⟩),hF.2.2 e he⟩;refine⟨_,rfl,x,dx,_,rfl,hM.ins,rfl,_,rfl,x,dx,a1,a2,a3,a4,h,E0,p,rfl,hM,λhp=>?_,λhp=>?_⟩
 ·rw [Qn hp] at q;have ep:oV (some p.toNat)=.int p:=by show V.int ((p.toNat:Nat):Int)=_;rw [Int.toNat_of_nonneg hp.1]
  refine⟨_,rfl,x,_,dx,_,_,rfl,hM.ins,D.clsZo,D.naparents,rfl,.inl ⟨rfl,_,SqL.of hM.h1⟩,_,rfl,a1,_,_,rfl,rfl,hM.h1,aB (by rw [bC];have:=hZ.1;lia),?_⟩;have M3:=hM.set1 (xs:=cx h.par++[.int p]) (ps:=h.par++[some p.toNat]) (by rw [kz,ep]);refine⟨_,rfl,x,_,dx,_,_,rfl,M3.ins,D.clsZo,D.nacuts,rfl,.inl ⟨rfl,_,SqL.of M3.h2⟩,a2,_,_,rfl,rfl,M3.h2,aB (by rw [iS];show h.cut.length<=_;rw [hO.len];have:=hZ.1;lia),?_⟩;have M4:=M3.set2 (xs:=blV h.cut++[.bl false]) (cs:=h.cut++[false]) (mC _ _).symm;refine⟨_,rfl,x,_,dx,_,_,rfl,M4.ins,D.clsZo,D.naparents,rfl,a1,_,rfl,.inl (SqL.of M4.h1),_,_,rfl,rfl,?_⟩;have fin:=q _ E0 (((Sb.refl _ H).put (by simp [own]) _).put (by simp [own]) _) M4 old;have e5:(((cx (h.par++[some p.toNat])).length:Nat):Int) - 1=((h.par.length:Nat):Int):=by
   rw [bC,Ql,Qz];lia
  show Q (V.int ((((cx (h.par++[some p.toNat])).length:Nat):Int) - 1)) _;rw [e5];exact fin
 ·rw [Qf hp] at q;exact(q H E0 (Sb.refl _ H) hM old).1 rfl
theorem yv:aI ["self","place","parent"] ["self","place","parent"] (am sZ9):=⟨rfl,rfl,rfl,by decide +kernel,rfl,by decide +kernel,by decide +kernel⟩
theorem xn(D:bE K mg)(T:Txt mg):aF P w K mg base (CXo P w) 2 D.fZ9 D.fdZ9 ["self","place","parent"] (cK D.CZb D.CZ5 D.CZo aZ9):=by
 have GYe:aF P w K mg base (CXo P w) 1 D.fYe D.fdYe ["self","place"] (jL D.CZb D.CZo):=iy D T;have GZs:aF P w K mg base CX0 1 D.fZs D.fdZs ["parents","place","other"] (sO K):=ve D T;refine okX D.FZ9 yv (λvs H Q E h=>?_) (λcdv A outer s H vs Q E hr h=>?_)
 ·obtain⟨x,dx,a1,a2,a3,a4,h,E0,us,d,U,rfl,_,_,_,_,_,_,_,⟨p,r,rfl,rfl⟩,_⟩:=h;rfl
 obtain⟨x,dx,a1,a2,a3,a4,h,E0,us,d,U,rfl,hM,hO,hX,hZ,hF,hN,hk,⟨p,r,rfl,rfl⟩,q⟩:=h;have nd:=yv.nd;have hr1:=hr;refine⟨_,
  (ag (aT (bn (pv 0) D.clsZo D.meYe GYe hr1 D.bYe .nil cH (aa rfl (pv 1) ai)))
  (ag (aT (bn (pv 0) D.clsZo D.meYe GYe hr1 D.bYe .nil cH (aa rfl (pv 2) ai)))
  (ag (aM (bP (aP GZs hr1 rfl D.mZs D.FZs.kp D.bZs .nil bg (aa rfl (bI (pv 0) rfl) (aa rfl (pv 2) (aa rfl (pv 1) ai)))))
    (aj (jH D.exZ5 rfl D.mCZ5 hr.hd om))
    ax)
  (ag (i0 (pv 2) (kU (bI (pv 0) rfl) (pv 1) gu))
  (aj (av bw))))))
  ,?_⟩
 rw [cu] at q;have old:iJ H E0 E0 U:=λe he=>⟨.inl (Qg.mpr ⟨e,he,rfl⟩),hF.2.2 e he⟩;refine⟨_,rfl,x,dx,_,rfl,hM.ins,rfl,_,rfl,x,dx,a1,a2,a3,a4,h,E0,p,rfl,hM,λhp=>?_,λhp=>?_⟩
 ·refine⟨_,rfl,x,dx,_,rfl,hM.ins,rfl,_,rfl,x,dx,a1,a2,a3,a4,h,E0,r,rfl,hM,λhr'=>?_,λhr'=>?_⟩
  ·rw [Qn ⟨hp,hr'⟩] at q;obtain⟨n,rfl,hn,en⟩:=hp.nat;obtain⟨k,rfl,hk',ek⟩:=hr'.nat;rw [en,ek] at q;obtain⟨l,hl⟩:=hO.ups k hk';rw [hl.upL] at q;refine⟨_,rfl,x,_,dx,_,_,rfl,hM.ins,D.clsZo,D.naparents,rfl,_,rfl,_,rfl,a1,h.par,k,n,l,rfl,SqL.of hM.h1,hl,?_⟩;refine⟨_,rfl,?_⟩;by_cases hx:n∈l
   ·rw [Qn hx] at q;rw [Qh hx];exact bM ((q H E0 (Sb.refl _ H) hM old).2 rfl)
   ·rw [Qf hx] at q;rw [Qp hx];refine bt ?_;refine⟨_,rfl,_,rfl,x,_,dx,_,_,rfl,hM.ins,D.clsZo,D.naparents,rfl,_,rfl,a1,_,_,n,rfl,rfl,hM.h1,lC (by rw [bC];exact hn),?_⟩;have M4:=hM.set1 (xs:=(cx h.par).set n (.int (k:Nat))) (ps:=h.par.set n (some k)) (mD h.par n (some k)).symm;exact q _ E0 ((Sb.refl _ H).put (by simp [own]) _) M4 old
  ·rw [Qf (λz=>hr' z.2)] at q;exact(q H E0 (Sb.refl _ H) hM old).1 rfl
 ·rw [Qf (λz=>hp z.1)] at q;exact(q H E0 (Sb.refl _ H) hM old).1 rfl
theorem yw:aI ["self","place","wanted","changed"] ["self","place","wanted"] (am sYb):=⟨rfl,rfl,rfl,by decide +kernel,rfl,by decide +kernel,by decide +kernel⟩
theorem xo(D:bE K mg)(T:Txt mg):aF P w K mg base (CXo P w) 2 D.fYb D.fdYb ["self","place","wanted"] (cK D.CZb D.CZ5 D.CZo aYb):=by
 have GYe:aF P w K mg base (CXo P w) 1 D.fYe D.fdYe ["self","place"] (jL D.CZb D.CZo):=iy D T;refine okX D.FYb yw (λvs H Q E h=>?_) (λcdv A outer s H vs Q E hr h=>?_)
 ·obtain⟨x,dx,a1,a2,a3,a4,h,E0,us,d,U,rfl,_,_,_,_,_,_,_,⟨p,b,rfl,rfl⟩,_⟩:=h;rfl
 obtain⟨x,dx,a1,a2,a3,a4,h,E0,us,d,U,rfl,hM,hO,hX,hZ,hF,hN,hk,⟨p,b,rfl,rfl⟩,q⟩:=h;have nd:=yw.nd;have hr1:=hr;refine⟨_,
  (ag (aT (bn (pv 0) D.clsZo D.meYe GYe hr1 D.bYe .nil cH (aa rfl (pv 1) ai)))
  (ag (aH (i:=3) nd rfl (Or.inl rfl) (bX dS (ap aN (bI (pv 0) rfl) (pv 1) (λ_ _=>rfl)) (pv 2) (ay _)))
  (ag (i0 (pv 2) (kU (bI (pv 0) rfl) (pv 1) gu))
  (aj (av (pv 3))))))
  ,?_⟩
 rw [cV] at q;have old:iJ H E0 E0 U:=λe he=>⟨.inl (Qg.mpr ⟨e,he,rfl⟩),hF.2.2 e he⟩;refine⟨_,rfl,x,dx,_,rfl,hM.ins,rfl,_,rfl,x,dx,a1,a2,a3,a4,h,E0,p,rfl,hM,λhp=>?_,λhp=>?_⟩
 ·rw [Qn hp] at q;obtain⟨n,rfl,hn,en⟩:=hp.nat;rw [en] at q;have hcl:n < h.cut.length:=by rw [hO.len];exact hn
  have hc:=Qe hcl;rw [hc] at q;refine⟨_,rfl,x,_,dx,_,_,rfl,hM.ins,D.clsZo,D.nacuts,rfl,_,rfl,a2,_,_,_,rfl,rfl,SqL.of hM.h2,n8 hc,_,rfl,rfl,?_⟩;refine⟨_,rfl,_,rfl,x,_,dx,_,_,rfl,hM.ins,D.clsZo,D.nacuts,rfl,_,rfl,a2,_,_,n,rfl,rfl,hM.h2,lC (by rw [iS];exact hcl),?_⟩;have M4:=hM.set2 (xs:=(blV h.cut).set n (.bl b)) (cs:=h.cut.set n b) (pd _ _ _).symm;refine⟨_,rfl,?_⟩;have fin:=q _ E0 ((Sb.refl _ H).put (by simp [own]) _) M4 old;have e5:V.bl (!decide (V.bl h.cut[n]=V.bl b))=V.bl ((some h.cut[n]).getD false != b):=by
   show _=V.bl (h.cut[n] != b);generalize h.cut[n]=c;cases c <;> cases b <;> simp
  show Q (V.bl (!decide (V.bl h.cut[n]=V.bl b))) _;rw [e5];exact fin
 ·rw [Qf hp] at q;exact(q H E0 (Sb.refl _ H) hM old).1 rfl
theorem yx:aI ["self","rule"] ["self","rule"] (am sYk):=⟨rfl,rfl,rfl,by decide +kernel,rfl,by decide +kernel,by decide +kernel⟩
theorem xp(D:bE K mg)(T:Txt mg):aF P w K mg base (CXo P w) 2 D.fYk D.fdYk ["self","rule"] (cK D.CZb D.CZ5 D.CZo aYk):=by
 have GYe:aF P w K mg base (CXo P w) 1 D.fYe D.fdYe ["self","place"] (jL D.CZb D.CZo):=iy D T;refine okX D.FYk yx (λvs H Q E h=>?_) (λcdv A outer s H vs Q E hr h=>?_)
 ·obtain⟨x,dx,a1,a2,a3,a4,h,E0,us,d,U,rfl,_,_,_,_,_,_,_,⟨t,w,a,r,p,rfl,_,rfl⟩,_⟩:=h;rfl
 obtain⟨x,dx,a1,a2,a3,a4,h,E0,us,d,U,rfl,hM,hO,hX,hZ,hF,hN,hk,⟨t,w,a,r,p,rfl,ht,rfl⟩,q⟩:=h;have nd:=yx.nd;have hr1:=hr;have hu:=cE hr;refine⟨_,
  (ag (aT (bn (pv 0) D.clsZo D.meYe GYe hr1 D.bYe .nil cH (aa rfl (ap ar (pv 1) (cI rfl D.gPLACE.choose_spec (v:=.int 3) ⟨_,rfl⟩) (λ_ _=>rfl)) ai)))
  (ag (aM (c9 (jd hu (pv 1) (bI (pv 0) rfl)))
    (aj (av bw))
    ax)
  (ag (fw hu (bI (pv 0) rfl) (pv 1) bw rfl)
  (aj (av bw)))))
  ,?_⟩
 rw [dn] at q;have old:iJ H E0 E0 U:=λe he=>⟨.inl (Qg.mpr ⟨e,he,rfl⟩),hF.2.2 e he⟩;have htk:H t=some (.tup ((dB (w,a,r,p)).map kV)):=ht;refine⟨_,rfl,x,dx,_,rfl,hM.ins,rfl,_,rfl,t,_,_,_,rfl,rfl,SqT.of ht,rfl,x,dx,a1,a2,a3,a4,h,E0,p,rfl,hM,λhp=>?_,λhp=>?_⟩
 ·rw [Qn hp] at q;refine⟨_,rfl,_,rfl,x,_,dx,_,_,rfl,hM.ins,D.clsZo,D.narules,rfl,a4,_,rfl,bG.t hM.h4 htk,_,rfl,?_⟩;by_cases hx:(w,a,r,p)∈h.rules
  ·rw [Qn hx] at q;rw [lJ hx];exact bM (q H E0 (Sb.refl _ H) hM old)
  ·rw [Qf hx] at q;rw [iT hx];refine bt ?_;refine⟨_,rfl,x,_,dx,_,_,rfl,hM.ins,D.clsZo,D.narules,rfl,_,rfl,a4,_,rfl,iH.t hM.h4 htk (aB (by rw [uO];have:=hZ.2.2;lia)),?_⟩;have M4:=hM.set4 (rs:=h.rules++[(w,a,r,p)]) (uP hx);exact q _ E0 ((Sb.refl _ H).put (by simp [own]) _) M4 old
 ·rw [Qf hp] at q;exact(q H E0 (Sb.refl _ H) hM old).1 rfl
theorem yy:aI ["self","rule"] ["self","rule"] (am sYl):=⟨rfl,rfl,rfl,by decide +kernel,rfl,by decide +kernel,by decide +kernel⟩
theorem xq(D:bE K mg)(T:Txt mg):aF P w K mg base CX0 1 D.fYl D.fdYl ["self","rule"] (cK D.CZb D.CZ5 D.CZo aYl):=by
 refine D.FYl.ok yy (λvs H Q E h=>?_) (λcdv A outer s H vs Q E hr h=>?_)
 ·obtain⟨x,dx,a1,a2,a3,a4,h,E0,us,d,U,rfl,_,_,_,_,_,_,_,⟨t,w,a,r,p,rfl,_,rfl⟩,_⟩:=h;rfl
 obtain⟨x,dx,a1,a2,a3,a4,h,E0,us,d,U,rfl,hM,hO,hX,hZ,hF,hN,hk,⟨t,w,a,r,p,rfl,ht,rfl⟩,q⟩:=h;have nd:=yy.nd;have hu:=cE hr;refine⟨_,
  (ag (aM (c9 (hJ hu (pv 1) (bI (pv 0) rfl)))
    (aj (av bw))
    ax)
  (ag (aT (sI hu (bI (pv 0) rfl) (pv 1) ⟨rfl,rfl,rfl,rfl⟩))
  (aj (av bw))))
  ,?_⟩
 rw [cw] at q;have old:iJ H E0 E0 U:=λe he=>⟨.inl (Qg.mpr ⟨e,he,rfl⟩),hF.2.2 e he⟩;have htk:H t=some (.tup ((dB (w,a,r,p)).map kV)):=ht;refine⟨_,rfl,_,rfl,x,_,dx,_,_,rfl,hM.ins,D.clsZo,D.narules,rfl,a4,_,rfl,bG.t hM.h4 htk,_,rfl,?_⟩;by_cases hx:(w,a,r,p)∈h.rules
 ·rw [Qn hx] at q;rw [lJ hx];refine bt ?_;refine⟨_,rfl,x,_,dx,_,_,rfl,hM.ins,D.clsZo,D.narules,rfl,a4,rfl,.inr ⟨_,.inl hM.h4⟩,_,rfl,t,_,dB (w,a,r,p),_,hM.h4,rfl,htk,lJ hx,?_⟩;have M4:=hM.set4 (rs:=h.rules.erase (w,a,r,p)) (mR hO.rnd);exact q _ E0 ((Sb.refl _ H).put (by simp [own]) _) M4 old
 ·rw [Qf hx] at q;rw [iT hx];exact bM (q H E0 (Sb.refl _ H) hM old)
theorem yz:aI ["self","member","circle"] ["self","member","circle"] (am sZ6):=⟨rfl,rfl,rfl,by decide +kernel,rfl,by decide +kernel,by decide +kernel⟩
theorem xt(D:bE K mg)(T:Txt mg):aF P w K mg base (CXo P w) 3 D.fZ6 D.fdZ6 ["self","member","circle"] (cK D.CZb D.CZ5 D.CZo aZ6):=by
 have GZq:aF P w K mg base CX0 2 D.fZq D.fdZq ["links","name","circle"] rR:=vd D T;refine okX D.FZ6 yz (λvs H Q E h=>?_) (λcdv A outer s H vs Q E hr h=>?_)
 ·obtain⟨x,dx,a1,a2,a3,a4,h,E0,us,d,U,rfl,_,_,_,_,_,_,_,⟨m,c,rfl,rfl⟩,_⟩:=h;rfl
 obtain⟨x,dx,a1,a2,a3,a4,h,E0,us,d,U,rfl,hM,hO,hX,hZ,hF,hN,hk,⟨m,c,rfl,rfl⟩,q⟩:=h;have nd:=yz.nd;have hr2:=hr;have hu:=cE hr;refine⟨_,
  (ag (aM (au dG (pv 2) (gB hu (bI (pv 0) rfl) (pv 1) (aU ai) ⟨rfl,rfl,rfl,rfl⟩) (by rfl))
    (aj (av bw))
    ax)
  (ag (aM (c9 (gm (aP GZq hr2 rfl D.mZq D.FZq.kp D.bZq .nil bg (aa rfl (bI (pv 0) rfl) (aa rfl (pv 2) (aa rfl (pv 1) ai))))))
    (aj (jH D.exZ5 rfl D.mCZ5 hr.hd om))
    ax)
  (ag (aT (bR Qw QG QF bf (pC (bI (pv 0) rfl) (pv 1) (aU ai) ⟨rfl,rfl,rfl,rfl⟩) (aa rfl (pv 2) ai)))
  (aj (av bw)))))
  ,?_⟩
 rw [cN] at q;have old:iJ H E0 E0 U:=λe he=>⟨.inl (Qg.mpr ⟨e,he,rfl⟩),hF.2.2 e he⟩;have nbx:nbE E0=nbP h.links:=funext hM.nb;refine⟨_,rfl,_,rfl,x,_,dx,_,_,rfl,hM.ins,D.clsZo,D.nalinks,rfl,a3,rfl,.inl ⟨_,.inl hM.h3.hd⟩,_,rfl,(by show 0<=sizeLine;decide),λz nz=>?_⟩;have s1:=aw.new nz (.lst []);have M1:=hM.same s1;refine⟨_,bG.k (k:=(Sum.inr m:Key)) M1.h3.hd,?_⟩;obtain⟨p,ep,hp⟩:∃ p,(bL (ekv E0) (Sum.inr m:Key)).getD (.ref z)=.ref p/\(upd H z (.lst [])) p=some (.lst (az (nbE E0 m))):=by
  by_cases hm:m∈E0.map (λe:Row=>e.1)
  ·obtain⟨e,he,rfl⟩:=Qg.mp hm;refine⟨e.2.1,by rw [bU hM.h3.nd he];rfl,?_⟩;rw [bo hM.h3.nd he];exact M1.h3.ha e he
  ·refine⟨z,by rw [cS hm];rfl,?_⟩;rw [ck hm];exact ae
 refine⟨p,_,ep,.inl (SqL.of hp),rfl,cM _,_,rfl,?_⟩;have e2:(if false=true then !inV (V.str c) (az (nbE E0 m)) else inV (V.str c) (az (nbE E0 m)))=decide (c∈nbE E0 m):=by rw [Qf Qj,dW]
 by_cases hc:c∈nbE E0 m
 ·refine cF (λ_=>?_) (λz=>Qs (e2.trans (Qh hc)) z);have hl:(m,c)∈h.links:=(bY _ _ _).mpr (by rw [<-hM.nb m];exact hc);rw [Qf (hO.acy m c hl),Qn hl] at q;exact q _ E0 (Sb.of s1) M1 old
 ·refine cF (λz=>Qs (e2.symm.trans z) (by rw [Qp hc];exact Qj)) (λ_=>?_);have hl:¬ (m,c)∈h.links:=λz=>hc (by rw [hM.nb m];exact(bY _ _ _).mp z);have hUn:∀ y,∀ u∈nbE E0 y,u∈U:=λy u hu'=>by
   rw [hM.nb y] at hu';exact(hF.2.1 _ ((bY _ _ _).mpr hu')).2
  have few:∀ e∈E0,e.2.2.length < 64:=λe he=>by
   have e1:e.2.2=nbP h.links e.1:=by rw [<-hM.nb e.1,bo hM.h3.nd he]
   have:=bT (m:=U) (ij hO.lnd e.1) (λu hu'=>hUn e.1 u (by rw [hM.nb];exact hu'));rw [e1];have:=hF.1;lia
  have mU:m∈U:=hN m (by simp [aA.names]);have cU:c∈U:=hN c (by simp [aA.names]);refine⟨_,rfl,x,_,dx,_,_,rfl,M1.ins,D.clsZo,D.nalinks,rfl,_,rfl,_,rfl,a3,E0,c,m,U,rfl,⟨M1.h3,few,cU,hUn,by have:=hF.1;lia⟩,λra r H2 s2 hra best=>?_,λH2 s2 hno=>?_⟩
  ·refine⟨_,rfl,bM ?_⟩;have rc:Rch h.links c m:=⟨r,by rw [<-nbx];exact best.1⟩;rw [Qn rc] at q;exact(q H2 E0 (Sb.of (s1.trans s2)) (M1.same s2) old).2 rfl
  ·refine⟨_,rfl,bt ?_⟩;have rc:¬ Rch h.links c m:=λ⟨r,hr'⟩=>hno r (by rw [nbx];exact hr');rw [Qf rc,Qf hl] at q;have M2:=M1.same s2;have s12:=s1.trans s2;refine⟨_,rfl,x,_,dx,_,_,rfl,M2.ins,D.clsZo,D.nalinks,rfl,a3,rfl,.inl ⟨_,.inl M2.h3.hd⟩,_,rfl,(by show 0<=sizeLine;decide),λz2 nz2=>?_⟩;have s3:=aw.new nz2 (.lst []);have M3:=M2.same s3;have s13:=s12.trans s3;have z2H:H z2=none:=s12.free nz2;have sb3:Sb (own a1 a2 a3 a4 E0) H (upd H2 z2 (.lst [])):=Sb.of s13;refine⟨_,(Sum.inr m:Key),M3.h3.hd,rfl,aB (by
    rw [ln];have hs:E0.length<=1000:=by
     have:=bT (m:=U) (show(E0.map (λe:Row=>e.1)).Nodup from hM.h3.nd) (λu hu'=>by obtain⟨e,he,rfl⟩:=Qg.mp hu';exact hF.2.2 e he);rw [Qc] at this;have:=hF.1;lia
    exact hs),λv ev=>?_,λev=>?_⟩
   ·have hm:m∈E0.map (λe:Row=>e.1):=by
     by_cases hm:m∈E0.map (λe:Row=>e.1)
     ·exact hm
     ·rw [cS hm] at ev;cases ev
    obtain⟨e,he,rfl⟩:=Qg.mp hm;rw [bU hM.h3.nd he] at ev;cases ev;have er:e.2.2=nbP h.links e.1:=by rw [<-hM.nb e.1,bo hM.h3.nd he]
    refine⟨.inl ⟨rfl,_,SqL.of (M3.h3.ha e he)⟩,_,rfl,e.2.1,_,_,rfl,rfl,M3.h3.ha e he,aB (by rw [ba];have:=few e he;lia),?_⟩;have M4:=M3.row he (vs:=az e.2.2++[.str c]) (ss:=e.2.2++[c]) (by unfold az;rw [Qx];rfl) (ls:=h.links++[(e.1,c)]) (λy=>by rw [mS,er]);refine q _ _ (sb3.put (by simp only [own,Qi];exact .inr (.inr (.inr (.inr (Qg.mpr ⟨e,he,rfl⟩))))) _) M4 (mV λe' he'=>hF.2.2 e' he')
   ·have hm:¬ m∈E0.map (λe:Row=>e.1):=λhm=>by
     obtain⟨e,he,rfl⟩:=Qg.mp hm;rw [bU hM.h3.nd he] at ev;cases ev
    have nm:nbP h.links m=[]:=by rw [<-hM.nb m];exact ck hm
    have z2d:z2≠a3:=(ao M2.h3.hd nz2).symm;refine⟨.inl ⟨rfl,_,SqL.of (by rw [af z2d];exact ae)⟩,_,rfl,z2,_,_,rfl,rfl,(by rw [af z2d];exact ae),(by show 0 < sizeLine;decide),?_⟩;have M5:=(M3.same (aw.refl _));have hz5:(upd (upd H2 z2 (.lst [])) z2 (.lst (az [c]))) z2=some (.lst (az [c])):=ae;have k5:PAt (upd (upd H2 z2 (.lst [])) z2 (.lst (az [c]))) D.CZo x dx a1 a2 a3 a4 h E0:=by
     rw [gj];exact M2.same (aw.new nz2 _)
    have M6:=k5.rowNew hm hz5 (M2.notown nz2) (ls:=h.links++[(m,c)]) (λy=>by
     rw [mS,nm];rfl)
    have eH:upd (upd (upd H2 z2 (.lst [])) a3 (.dK (cR (ekv E0) (Sum.inr m:Key) (.ref z2)))) z2 (.lst ([]++[V.str c]))=upd (upd (upd H2 z2 (.lst [])) z2 (.lst (az [c]))) a3 (.dK (ekv (E0++[(m,z2,[c])]))):=by
     rw [sL (H:=upd H2 z2 (.lst [])) z2d.symm,eu _ (cS hm),mz];rfl
    rw [eH];refine q _ _ ?_ M6 λe he=>?_
    ·rw [gj];exact(((Sb.of s12).new z2H _).put (by simp [own]) _)
    ·rcases Qr.mp he with he | he
     ·exact old e he
     ·rw [Qo.mp he];exact⟨.inr z2H,mU⟩
theorem yA:aI ["self","member","circle"] ["self","member","circle"] (am sZ8):=⟨rfl,rfl,rfl,by decide +kernel,rfl,by decide +kernel,by decide +kernel⟩
theorem xu(D:bE K mg)(T:Txt mg):aF P w K mg base CX0 1 D.fZ8 D.fdZ8 ["self","member","circle"] (cK D.CZb D.CZ5 D.CZo aZ8):=by
 refine D.FZ8.ok yA (λvs H Q E h=>?_) (λcdv A outer s H vs Q E hr h=>?_)
 ·obtain⟨x,dx,a1,a2,a3,a4,h,E0,us,d,U,rfl,_,_,_,_,_,_,_,⟨m,c,rfl,rfl⟩,_⟩:=h;rfl
 obtain⟨x,dx,a1,a2,a3,a4,h,E0,us,d,U,rfl,hM,hO,hX,hZ,hF,hN,hk,⟨m,c,rfl,rfl⟩,q⟩:=h;have nd:=yA.nd;have hu:=cE hr;refine⟨_,
  (ag (aM (au gw (pv 2) (gB hu (bI (pv 0) rfl) (pv 1) (aU ai) ⟨rfl,rfl,rfl,rfl⟩) (by rfl))
    (aj (av bw))
    ax)
  (ag (aT (bR Qw VI VG (h9 hr.units70) (a7 hu (bI (pv 0) rfl) (pv 1) (λ_ _=>rfl)) (aa rfl (pv 2) ai)))
  (aj (av bw))))
  ,?_⟩
 rw [bZ] at q;have old:iJ H E0 E0 U:=λe he=>⟨.inl (Qg.mpr ⟨e,he,rfl⟩),hF.2.2 e he⟩;refine⟨_,rfl,_,rfl,x,_,dx,_,_,rfl,hM.ins,D.clsZo,D.nalinks,rfl,a3,rfl,.inl ⟨_,.inl hM.h3.hd⟩,_,rfl,(by show 0<=sizeLine;decide),λz nz=>?_⟩;have s1:=aw.new nz (.lst []);have M1:=hM.same s1;refine⟨_,bG.k (k:=(Sum.inr m:Key)) M1.h3.hd,?_⟩;obtain⟨p,ep,hp⟩:∃ p,(bL (ekv E0) (Sum.inr m:Key)).getD (.ref z)=.ref p/\(upd H z (.lst [])) p=some (.lst (az (nbE E0 m))):=by
  by_cases hm:m∈E0.map (λe:Row=>e.1)
  ·obtain⟨e,he,rfl⟩:=Qg.mp hm;refine⟨e.2.1,by rw [bU hM.h3.nd he];rfl,?_⟩;rw [bo hM.h3.nd he];exact M1.h3.ha e he
  ·refine⟨z,by rw [cS hm];rfl,?_⟩;rw [ck hm];exact ae
 refine⟨p,_,ep,.inl (SqL.of hp),rfl,cM _,_,rfl,?_⟩;have e2:(if true=true then !inV (V.str c) (az (nbE E0 m)) else inV (V.str c) (az (nbE E0 m)))=!decide (c∈nbE E0 m):=by rw [Qn rfl,dW]
 by_cases hc:c∈nbE E0 m
 ·refine cF (λz=>Qs (e2.symm.trans z) (by rw [Qh hc];exact Qj)) (λ_=>?_);have hl:(m,c)∈h.links:=(bY _ _ _).mpr (by rw [<-hM.nb m];exact hc);rw [Qn hl] at q;have hm:m∈E0.map (λe:Row=>e.1):=by
   by_cases hm:m∈E0.map (λe:Row=>e.1)
   ·exact hm
   ·rw [ck hm] at hc;exact Qs hc (by simp)
  obtain⟨e,he,rfl⟩:=Qg.mp hm;have er:e.2.2=nbP h.links e.1:=by rw [<-hM.nb e.1,bo hM.h3.nd he]
  rw [bo hM.h3.nd he] at hc;have tx:∀ u∈e.2.2,Tx u:=λu hu'=>(hX.l (e.1,u) ((bY _ _ _).mpr (by rw [<-er];exact hu'))).2;obtain⟨j,hit,hno,her⟩:=n9 (dd:=PyData.str) uQ hc;refine⟨_,rfl,x,_,dx,_,_,rfl,M1.ins,D.clsZo,D.nalinks,rfl,_,rfl,a3,.ref e.2.1,rfl,(by have g:=bG.k (k:=(Sum.inr e.1:Key)) M1.h3.hd;rw [bU hM.h3.nd he] at g;exact g),.inl ⟨rfl,_,SqL.of (M1.h3.ha e he)⟩,_,rfl,
   e.2.1,_,_,PyData.str c,_,j,rfl,rfl,M1.h3.ha e he,.str _,fg K _ e.2.2,jJ hk.2,(λu hu'=>by obtain⟨y,hy,rfl⟩:=Qg.mp hu';exact jJ (tx y hy)),hit,hno,?_⟩
  have M4:=M1.row he (vs:=(az e.2.2).eraseIdx j) (ss:=e.2.2.erase c) (by rw [her];exact fH V.str e.2.2 j) (ls:=h.links.erase (e.1,c)) (λy=>by rw [kI,er]);refine q _ _ ((Sb.of s1).put (by simp only [own,Qi];exact .inr (.inr (.inr (.inr (Qg.mpr ⟨e,he,rfl⟩))))) _) M4 (mV λe' he'=>hF.2.2 e' he')
 ·refine cF (λ_=>?_) (λz=>Qs (e2.trans (by rw [Qp hc];rfl)) z);have hl:¬ (m,c)∈h.links:=λz=>hc (by rw [hM.nb m];exact(bY _ _ _).mp z);rw [Qf hl] at q;exact q _ E0 (Sb.of s1) M1 old
end
end G06
namespace G06
open PySem L2 G1 GH
seal PySem.wpAny
section
variable{P:Program} {w:World} {K:W.Frag} {mg:Str->Option Value} {base:Heap}
theorem yB:aI ["self","found","member","joined"] ["self"] (am sYa):=⟨rfl,rfl,rfl,by decide +kernel,rfl,by decide +kernel,by decide +kernel⟩
theorem xw(D:bE K mg)(T:Txt mg):aF P w K mg base CX0 1 D.fYa D.fdYa ["self"] (wb D.CZo):=by
 refine D.FYa.ok yB (λvs H Q E h=>?_) (λcdv A outer s H vs Q E hr h=>?_)
 ·obtain⟨x,dx,a1,a2,a3,a4,h,E0,rfl,_⟩:=h;rfl
 obtain⟨x,dx,a1,a2,a3,a4,h,E0,rfl,hM,hO,hZ,q⟩:=h;have nd:=yB.nd;have hu:=cE hr;refine⟨_,
  (ag (aH (i:=1) nd rfl (Or.inl rfl) (aU ai))
  (ag (bQ QM rfl (sK (wC US PySem.F.slot_dict_items PySem.F.type_dict_items sJ (bI (pv 0) rfl))) (nF rfl (d8 (bj (i:=2) nd rfl (Or.inr rfl)) (d8 (bj (i:=3) nd rfl (Or.inl rfl)) kS)))
    (aj (aT (bR Qw VJ VH g9 (pv 1) (aa rfl (dL (sc:=am sYa) (N:=["self","found","member","joined"]) (rest:=["self","found","member","joined"]) (by decide +kernel) rfl rfl rfl (bi (pv 3)) (λ_ _ _ _ _=>ji) (λ_ _ _ _ _=>(bJ (aa rfl (pv 3) (aa rfl (pv 0) ai))))) ai)))))
  (mO (aj (av (aG (ic hr.units70) (by rfl) T.sorted Vd (aa rfl (pv 1) ai)))))))
  ,?_⟩
 refine⟨(by show 0<=sizeLine;decide),λl nl=>?_⟩;have s1:=aw.new nl (.lst []);have M1:=hM.same s1;have l3:l≠a3:=(ao hM.h3.hd nl).symm;refine⟨_,rfl,x,_,dx,_,_,rfl,M1.ins,D.clsZo,D.nalinks,rfl,.inr (.inr (.inl ⟨rfl,.inl ⟨_,M1.h3.hd⟩⟩)),a3,_,rfl,rfl,.inl M1.h3.hd,λp np=>?_⟩;have s2:=aw.new np (.ext λh=>h.IsItemsView p a3);have M2:=M1.same s2;have s12:=s1.trans s2;have lp:l≠p:=ao ae np;refine⟨p,a3,_,rfl,ae,M2.h3.hd,λo=>?_⟩;have hperm:=hM.perm hO;have hl2:(upd (upd H l (.lst [])) p (.ext λh=>h.IsItemsView p a3)) l=some (.lst []):=by rw [af lp];exact ae
 generalize upd (upd H l (.lst [])) p (.ext λh=>h.IsItemsView p a3)=H2 at s2 M2 s12 hl2;refine qw (a:=a3) (o:=o) (kvs:=ekv E0) (λi σ H3=>∃(v2 v3:Option V) (as:List Addr),σ=[some (.ref x),some (.ref l),v2,v3]/\H3 l=some (.lst (as.map V.ref))/\Paired (λ(b:Addr) (e:Str × Str)=>H3 b=some (.tup (bN e))) as (pairsOf (E0.take i)) /\
   H3 a3=some (.frz o (.dK (ekv E0)))/\∀ b u,H b=some u->b≠a3->H3 b=some u)
  ⟨none,none,[],rfl,by rw [af l3];exact hl2,.nil,ae,λb u hb n3=>by rw [af n3];exact s12 b u hb⟩ (λi σ H3 _ ⟨_,_,_,_,_,_,e,_⟩=>e) ?_ ?_
 ·rintro i e b σ H3 he nb ⟨v2,v3,as,rfl,hl,pr,hf,sm⟩;obtain⟨r,hr',rfl⟩:∃ r,E0[i]?=some r/\e=((Sum.inr r.1:Key),V.ref r.2.1):=by
   unfold ekv at he;rw [Qq] at he;cases z:E0[i]? with
   | none=>rw [z] at he;cases he
   | some r=>rw [z] at he;exact⟨r,rfl,(Qt he).symm⟩
  have hrm:=QC hr';have tk:pairsOf (E0.take (i+1))=pairsOf (E0.take i)++r.2.2.map λc=>(r.1,c):=by rw [Q3,hr'];exact lK _ _
  have hlen:(pairsOf (E0.take i)).length+r.2.2.length<=63:=by
   have h1:(pairsOf (E0.take (i+1))).length<=(pairsOf E0).length:=by
    unfold pairsOf;rw [List.length_flatMap,List.length_flatMap]
    conv=>rhs;rw [<-UZ (i+1) E0,Qx,List.sum_append_nat]
    omega
   rw [hperm.length_eq,tk,Ql,Qc] at h1;have:=hZ.2.1;lia
  refine⟨b,_,rfl,SqT.of ae,rfl,_,_,rfl,_,_,rfl,rfl,?_⟩;have bl:l≠b:=ao hl nb;have sb:=aw.new nb (.tup [kV (Sum.inr r.1:Key),V.ref r.2.1]);have hl4:=sb _ _ hl;have hf4:=sb _ _ hf;have hrow:(upd H3 b (.tup [kV (Sum.inr r.1:Key),V.ref r.2.1])) r.2.1=some (.lst (az r.2.2)):=sb _ _ (sm _ _ (hM.h3.ha r hrm) (hM.e3 hrm));have pr4:=Paired.mapP pr λc y z=>sb _ _ z;have sm4:∀ c u,H c=some u->c≠a3->(upd H3 b (.tup [kV (Sum.inr r.1:Key),V.ref r.2.1])) c=some u:=λc u hc n=>sb _ _ (sm c u hc n);generalize upd H3 b (.tup [kV (Sum.inr r.1:Key),V.ref r.2.1])=H4 at hl4 hf4 hrow pr4 sm4;have hal:as.length=(pairsOf (E0.take i)).length:=aL pr4;refine⟨_,rfl,.inl ⟨rfl,_,SqL.of hl4⟩,_,rfl,r.2.1,rfl,⟨_,SqL.of hrow⟩,cJ (K:=K) (xs:=az r.2.2) (λj ys H5=>aw H4 H5/\∃ bs:List Addr,ys=bs.map V.ref/\Paired (λ(c:Addr) (y:Str × Str)=>H5 c=some (.tup (bN y))) bs ((r.2.2.take j).map λc=>(r.1,c)))
   ⟨aw.refl _,[],rfl,.nil⟩ (λj ys H5 _ z=>SqL.of (z.1 _ _ hrow)) ?_ ?_⟩
  ·rintro j y ys H5 hy hj ⟨s5,bs,rfl,pb⟩;obtain⟨c,rfl,hc⟩:=eK hy;refine bM ?_;refine⟨_,rfl,_,rfl,(by show 2<=sizeLine;decide),λt nt=>⟨?_,Nx.mk hj ⟨s5.put (s5.free nt) _,bs++[t],by rw [Qx];rfl,?_⟩⟩⟩
   ·rw [Qc,aL pb,Qc,Q9];exact aB (by lia)
   ·rw [Q3,hc,Qx];exact bW (Paired.mapP pb λc y z=>by rw [af (ao z nt)];exact z) ae
  rintro ys H5 ⟨s5,bs,rfl,pb⟩;rw [ba,Q5] at pb;intro jl njl;have s6:=s5.put (s5.free njl) (.lst (bs.map V.ref));have ljl:l≠jl:=ao (s5 _ _ hl4) njl;refine⟨l,jl,_,_,rfl,rfl,s6 _ _ hl4,ae,?_,?_⟩
  ·rw [Qc,Qc,aL pb,Qc,hal];have:63<=sizeLine:=by decide
   omega
  ·have h0:∀{c:Addr} {u:HO},(upd H5 jl (.lst (bs.map V.ref))) c=some u->c≠l->(upd (upd H5 jl (.lst (bs.map V.ref))) l (.lst (as.map V.ref++bs.map V.ref))) c=some u:=λhc n=>by rw [af n];exact hc
   refine⟨_,_,as++bs,rfl,by rw [ae,Qx],?_,h0 (s6 _ _ hf4) l3.symm,λc u hc n=>h0 (s6 _ _ (sm4 c u hc n)) λz=>?_⟩
   ·rw [tk];refine gf (Paired.mapP pr4 λc y z=>h0 (s6 _ _ z) ?_) (Paired.mapP pb λc y z=>h0 (by rw [af (ao z njl)];exact z) ?_)
    ·exact be z hl4 (by intro z;cases z)
    ·exact be z (s5 _ _ hl4) (by intro z;cases z)
   ·rw [z,nl] at hc;cases hc
 ·rintro σ H3 ⟨v2,v3,as,rfl,hl,pr,hf,sm⟩;rw [ln,Q5] at pr;refine⟨a3,o,.dK (ekv E0),hf,λo v z=>?_,True.intro,?_⟩
  ·have z:H a3=some (.frz o v):=z;rw [hM.h3.hd] at z;cases z
  have s4:aw H (upd H3 a3 (.dK (ekv E0))):=λb u hb=>by
   by_cases e:b=a3
   ·subst e;rw [ae,<-hM.h3.hd,hb]
   ·rw [af e];exact sm b u hb e
  have hl4:(upd H3 a3 (.dK (ekv E0))) l=some (.lst (as.map V.ref)):=by rw [af l3];exact hl
  have pr4:Paired (λ(b:Addr) (e:Str × Str)=>(upd H3 a3 (.dK (ekv E0))) b=some (.tup (bN e))) as (pairsOf E0):=Paired.mapP pr λc y z=>by rw [af (be z hf (by intro z;cases z))];exact z
  generalize upd H3 a3 (.dK (ekv E0))=H4 at s4 hl4 pr4;have kinl:∀ v∈(pairsOf E0).map bN,∀ z∈(pairsOf E0).map bN,Kin v z:=λv hv z hz=>by
   obtain⟨x,_,rfl⟩:=Qg.mp hv;obtain⟨y,_,rfl⟩:=Qg.mp hz;exact sj x y
  have frst:∀ v∈(pairsOf E0).map bN,∃ x t,v=V.str x :: t:=λv hv=>by
   obtain⟨x,_,rfl⟩:=Qg.mp hv;exact⟨_,_,rfl⟩
  have ndl:((pairsOf E0).map bN).Nodup:=by
   refine List.Pairwise.map _ (λa b hab=>?_) (hperm.nodup_iff.mpr hO.lnd);exact λe=>hab (qo e)
  refine⟨_,rfl,l,as,(pairsOf E0).map bN,rfl,SqL.of hl4,v8 K pr4,frst,kinl,ndl,by rw [Qc,hperm.length_eq];have:=hZ.2.1;lia,λl2 as' vss' nl2 pr' perm' pw'=>?_⟩;obtain⟨ms,rfl,pm,pw⟩:=lF perm' pw';have s5:=aw.new nl2 (.lst (as'.map V.ref));refine q l2 ms _ (s4.trans s5) (s4.free nl2) ⟨as',ae,?_⟩ (pm.trans hperm) pw;have:=pr' (λa v=>H4 a=some (.tup v)) (jI pr4);exact Paired.mapP (gN this) λc y z=>s5 _ _ z
theorem vg:aI ["house","deed","word"] ["house","deed"] (am sZ1):=⟨rfl,rfl,rfl,by decide +kernel,rfl,by decide +kernel,by decide +kernel⟩
theorem vm:aI ["house","deed"] ["house","deed"] (am sZu):=⟨rfl,rfl,rfl,by decide +kernel,rfl,by decide +kernel,by decide +kernel⟩
end
end G06
namespace G06
open PySem L2 G1 GH
seal PySem.wpAny
section
variable{P:Program} {w:World} {K:W.Frag} {mg:Str->Option Value} {base:Heap}
theorem yC:aI ["parents","cuts","place","way"] ["parents","cuts","place"] (am sYh):=⟨rfl,rfl,rfl,by decide +kernel,rfl,by decide +kernel,by decide +kernel⟩
theorem xx(D:bE K mg):aF P w K mg base CX0 1 D.fYh D.fdYh ["parents","cuts","place"] we:=by
 refine D.FYh.ok yC (λvs H Q E h=>?_) (λcdv A outer s H vs Q E hr h=>?_)
 ·obtain⟨a,c,ps,cs,j,l,rfl,_⟩:=h;rfl
 obtain⟨a,c,ps,cs,j,l,rfl,ha,hc,hlen,up,hps,q⟩:=h;have nd:=yC.nd;refine⟨_,
  (ag (aH (i:=3) nd rfl (Or.inl rfl) (aU (aa rfl (pv 2) ai)))
  (ag (dI QM (PW.pt (dZ (bS (bP (ap aN (pv 1) (ap aN (pv 3) (dk ci ah) (λ_ _=>rfl)) (λ_ _=>rfl)))) (dC (c9 (gm (ap aN (pv 0) (ap aN (pv 3) (dk ci ah) (λ_ _=>rfl)) (λ_ _=>rfl)))))))
    (aj (aT (bR Qw QG QF bf (pv 3) (aa rfl (ap aN (pv 0) (ap aN (pv 3) (dk ci ah) (λ_ _=>rfl)) (λ_ _=>rfl)) ai)))))
  (aj (av (pv 3)))))
  ,?_⟩
 refine⟨_,rfl,(by show 1<=sizeLine;decide),λr nr=>?_⟩;have hl:=up.len
 let W:Nat->St->Hp->Prop:=λm σ H1=>∃(l1:List Nat) (x:Nat) (l2:List Nat),l2.length=m/\σ=[some (.ref a),some (.ref c),some (.int j),some (.ref r)]/\l=l1++x :: l2/\Up ps x (x :: l2)/\(∀ y∈l1,¬ cs[y]?=some true)/\aw H H1/\H1 r=some (.lst (a8 (l1++[x])))
 obtain⟨t0,ht0⟩:=up.head;refine⟨W,⟨t0.length,[],j,t0,rfl,rfl,ht0,by rw [<-ht0];exact up,λy hy=>Qs hy (by simp),aw.new nr _,ae⟩,?_⟩;rintro m σ H1 ⟨l1,x,l2,rfl,rfl,el,upx,hn,sm,hr1⟩;have e1:a8 (l1++[x])=a8 l1++[.int x]:=cO _ _;have hx:=upx.lt x QJ;have hat:atI (a8 (l1++[x])) (-1)=some (.int x):=by rw [e1];exact b9 _ _
 have hcx:atI (blV cs) ((x:Nat):Int)=some (.bl (cs[x]'(by lia))):=by
  exact cn (by unfold blV;rw [Qq,Qe (by lia)];rfl)
 have hpx:∀ o,ps[x]?=some o->atI (cx ps) ((x:Nat):Int)=some (oV o):=λo ho =>
  cn (by unfold cx;rw [Qq,ho];rfl)
 refine⟨_,rfl,_,rfl,_,rfl,r,_,_,_,rfl,rfl,SqL.of hr1,hat,c,_,_,_,rfl,rfl,SqL.of (sm _ _ hc),hcx,_,rfl,?_⟩;have fin:cz cs l=l1++[x]->qJ 3 [some (V.ref a),some (.ref c),some (.int j),some (.ref r)] H1 Q:=λe=>⟨_,rfl,q r H1 sm nr (by rw [e];exact hr1)⟩;cases hcv:cs[x]'(by lia) with
 | true =>
  refine bt ?_;refine bt ?_;refine fin ?_;rw [el,io hn,cz,Qn (by rw [Qe (by lia),hcv])]
 | false =>
  have ncx:¬ cs[x]?=some true:=by rw [Qe (by lia),hcv];intro z;cases z
  refine bM ?_;cases upx with
  | top e =>
   refine⟨_,rfl,_,rfl,_,rfl,r,_,_,_,rfl,rfl,SqL.of hr1,hat,a,_,_,_,rfl,rfl,SqL.of (sm _ _ ha),hpx _ e,_,rfl,?_⟩;refine bt ?_;refine fin ?_;rw [el,io hn,cz,Qf ncx];rfl
  | @next _ i _ e t =>
   refine⟨_,rfl,_,rfl,_,rfl,r,_,_,_,rfl,rfl,SqL.of hr1,hat,a,_,_,_,rfl,rfl,SqL.of (sm _ _ ha),hpx _ e,_,rfl,?_⟩;refine bM ?_;obtain⟨t2,ht2⟩:=t.head;refine⟨λσ' H'=>∃ m',m' < l2.length/\W m' σ' H',λ_ _ h=>h,?_⟩;have hl1:l1.length<=200:=by
    have:=QW List.length el;rw [Ql,QL] at this;lia
   refine⟨_,rfl,.inl ⟨rfl,_,SqL.of hr1⟩,_,rfl,_,rfl,_,rfl,r,_,_,_,rfl,rfl,SqL.of hr1,hat,a,_,_,_,rfl,rfl,SqL.of (sm _ _ ha),hpx _ e,r,_,_,rfl,rfl,hr1,aB (by rw [dP,Ql,Qz];lia),?_⟩;subst ht2;refine⟨t2.length,by simp,l1++[x],i,t2,rfl,rfl,by rw [el,QV];rfl,t,λy hy=>?_,sm.put nr _,?_⟩
   ·rcases Qr.mp hy with hy | hy
    ·exact hn y hy
    ·rw [Qo.mp hy];exact ncx
   ·rw [ae,cO (l1++[x])];rfl
theorem yD:aI ["rules","name","own","heard","bars"] ["rules","name"] (am sZ0):=⟨rfl,rfl,rfl,by decide +kernel,rfl,by decide +kernel,by decide +kernel⟩
theorem vo(D:bE K mg):aF P w K mg base CX0 1 D.fZ0 D.fdZ0 ["rules","name"] tj:=by
 refine D.FZ0.ok yD (λvs H Q E h=>?_) (λcdv A outer s H vs Q E hr h=>?_)
 ·obtain⟨p,rs,a,rfl,_⟩:=h;rfl
 obtain⟨p,rs,a,rfl,⟨as,hp,pr⟩,hlen,q⟩:=h;have nd:=yD.nd;have hal:as.length=rs.length:=aL pr;refine⟨_,
  (ag (dm (i:=2) nd rfl (Or.inl rfl) (by rfl) (sc:=am sZ0) (N:=["rules","name","own","heard","bars"]) (rest:=["rules","name","own","heard","bars"]) (by decide +kernel) rfl rfl rfl (bi (pv 0)) (λ_ _ _ _ _=>(d5 (au aZ (ap (bD (K:=K) rfl) (pv 0) (cI rfl D.gWHO.choose_spec (v:=.int 1) ⟨_,rfl⟩) (λ_ _=>rfl)) (pv 2) (ay _)))) (λ_ _ _ _ _=>(pv 0)))
  (ag (aH (i:=3) nd rfl (Or.inl rfl) (l7 (gt (pv 2) (λ_=>rfl)) (pv 2) (pv 0)))
  (ag (dm (i:=4) nd rfl (Or.inl rfl) (by rfl) (sc:=am sZ0) (N:=["rules","name","own","heard","bars"]) (rest:=["rules","name","own","heard","bars"]) (by decide +kernel) rfl rfl rfl (bi (pv 3)) (λ_ _ _ _ _=>(d5 (au aZ (ap (bD (K:=K) rfl) (pv 0) (cI rfl D.gWORD.choose_spec (v:=.int 0) ⟨_,rfl⟩) (λ_ _=>rfl)) aq (ay _)))) (λ_ _ _ _ _=>(pv 0)))
  (aj (av (l7 (gt (pv 4) (λ_=>rfl)) (pv 4) (pv 3)))))))
  ,?_⟩
 refine⟨_,rfl,p,rfl,⟨_,SqL.of hp⟩,cP (c:=bp) (λe:aD=>decide (e.2.1=a)) hp pr (by lia) (λb x Q' hb hx hQ=>?_) (λb Q' hQ=>⟨_,rfl,hQ⟩) (λbs1 hb1 D1 nD1=>?_)⟩
 ·refine⟨_,rfl,b,_,_,_,rfl,rfl,SqT.of hb,rfl,_,rfl,rfl,_,rfl,?_⟩;rw [j0];exact hQ
 have s1:=aw.new nD1 (.lst (bs1.map V.ref));have hD1:(upd H D1 (.lst (bs1.map V.ref))) D1=some (.lst (bs1.map V.ref)):=ae;have hb1':=Paired.mapP hb1 λb x z=>s1 _ _ z;have hp1:=s1 _ _ hp;have pr1:=Paired.mapP pr λb x z=>s1 _ _ z;generalize upd H D1 (.lst (bs1.map V.ref))=H1 at s1 hD1 hb1' hp1 pr1;refine⟨_,rfl,_,.inl ⟨_,SqL.of hD1,rfl⟩,?_⟩;obtain⟨hh,as2,hh1,pr2,hl2,sel⟩:∃(hh:Addr) (as2:List Addr),H1 hh=some (.lst (as2.map V.ref))/\Paired (λ(b:Addr) (x:aD)=>H1 b=some (.tup (bp x))) as2 (cY a rs)/\(cY a rs).length<=200 /\
   ∀ R:VK,R (.ref hh) H1->if (!(bs1.map V.ref).isEmpty)=true then qJ 2 [some (.ref p),some (.str a),some (.ref D1),none,none] H1 R else qJ 0 [some (.ref p),some (.str a),some (.ref D1),none,none] H1 R:=by
  rw [ng];by_cases e:(rs.filter λe=>decide (e.2.1=a))=[]
  ·rw [Qf (λz=>z e)];rw [e] at hb1;cases hb1;exact⟨p,as,hp1,pr1,hlen,λR h=>bt ⟨_,rfl,h⟩⟩
  ·rw [Qn e];cases bs1 with
   | nil=>generalize (rs.filter λe=>decide (e.2.1=a))=l at hb1 e;cases hb1;exact Qs rfl e
   | cons b0 bs0=>exact⟨D1,_,hD1,hb1',QQ (Q2 _ _) hlen,λR h=>bM ⟨_,rfl,h⟩⟩
 refine sel _ ?_;refine⟨_,rfl,hh,rfl,⟨_,SqL.of hh1⟩,cP (c:=bp) (λe:aD=>decide (e.1=("bar":Str))) hh1 pr2 (by lia) (λb x Q' hb hx hQ=>?_) (λb Q' hQ=>⟨_,rfl,hQ⟩) (λbs3 hb3 D3 nD3=>?_)⟩
 ·refine⟨_,rfl,b,_,_,_,rfl,rfl,SqT.of hb,rfl,rfl,_,rfl,?_⟩;rw [j0];exact hQ
 have s2:=aw.new nD3 (.lst (bs3.map V.ref));have hD3:(upd H1 D3 (.lst (bs3.map V.ref))) D3=some (.lst (bs3.map V.ref)):=ae;have hb3':=Paired.mapP hb3 λb x z=>s2 _ _ z;have hh2:=s2 _ _ hh1;have pr3:=Paired.mapP pr2 λb x z=>s2 _ _ z;generalize upd H1 D3 (.lst (bs3.map V.ref))=H2 at s2 hD3 hb3' hh2 pr3;refine⟨_,rfl,_,.inl ⟨_,SqL.of hD3,rfl⟩,?_⟩;have q':∀ b,a6 bp H2 b (dr (cY a rs))->Q (.ref b) H2:=λb hb=>q b H2 (s1.trans s2) hb;rw [nh] at q';by_cases e:((cY a rs).filter λe=>decide (e.1=("bar":Str)))=[]
 ·rw [Qf (λz=>z e)] at q';rw [e] at hb3;cases hb3;exact bt ⟨_,rfl,q' hh ⟨as2,hh2,pr3⟩⟩
 ·rw [Qn e] at q';cases bs3 with
  | nil=>generalize ((cY a rs).filter λe=>decide (e.1=("bar":Str)))=l at hb3 e;cases hb3;exact Qs rfl e
  | cons b0 bs0=>exact bM ⟨_,rfl,q' D3 ⟨_,hD3,hb3'⟩⟩
theorem yE:aI ["rules","way","by_place","rule","place"] ["rules","way"] (am sZt):=⟨rfl,rfl,rfl,by decide +kernel,rfl,by decide +kernel,by decide +kernel⟩
theorem vp(D:bE K mg):aF P w K mg base CX0 1 D.fZt D.fdZt ["rules","way"] tm:=by
 refine D.FZt.ok yE (λvs H Q E h=>?_) (λcdv A outer s H vs Q E hr h=>?_)
 ·obtain⟨p,wl,rs,ways,rfl,_⟩:=h;rfl
 obtain⟨p,wl,rs,ways,rfl,⟨as,hp,pr⟩,hlen,hwl,q⟩:=h;have nd:=yE.nd;have hu:=cE hr;have hal:as.length=rs.length:=aL pr;refine⟨_,
  (ag (aH (i:=2) nd rfl (Or.inl rfl) je)
  (ag (bQ QM rfl (bi (pv 0)) (bj (i:=3) nd rfl (Or.inl rfl))
    (aj (aT (bR Qw QG QF bf (pC (pv 2) (ap ar (pv 3) (cI rfl D.gPLACE.choose_spec (v:=.int 3) ⟨_,rfl⟩) (λ_ _=>rfl)) (aU ai) ⟨rfl,rfl,rfl,rfl⟩) (aa rfl (pv 3) ai)))))
  (ag (bQ QM rfl (bi (pv 1)) (bj (i:=4) nd rfl (Or.inl rfl))
    (aj (aM (c9 (jd hu (pv 4) (pv 2)))
      (aj (av (a7 hu (pv 2) (pv 4) (λ_ _=>rfl))))
      ax)))
  (aj (av (aU ai))))))
  ,?_⟩
 intro d nd0;have B0:BP H (upd H d (.dK [])) d [] (adP as rs 0):=⟨aw.new nd0 _,ae,UP,UP,λe he=>Qs he (by simp),λz hz=>Qs rfl hz,nd0⟩;have hp0:=B0.same _ _ hp;refine⟨_,rfl,p,rfl,⟨_,SqL.of hp0⟩,b8 (K:=K) (xs:=as.map V.ref) (λi σ H1=>∃(v3:Option V) (E0:List df),σ=[some (.ref p),some (.ref wl),some (.ref d),v3,none]/\BP H H1 d E0 (adP as rs i)/\E0.length<=i)
  ⟨none,[],rfl,B0,Qk _⟩ (λi σ H1 _ ⟨_,_,_,B,_⟩=>SqL.of (B.same _ _ hp)) ?_ ?_⟩
 ·rintro i y σ H1 hy ⟨v3,E0,rfl,B,hel⟩;obtain⟨a,rfl,ha⟩:=fh hy;obtain⟨e,he,hta⟩:=br pr ha;have hi:i < rs.length:=(Qb.mp he).1;have hta1:=B.same _ _ hta;have gs:=tu ha he;refine⟨_,rfl,d,rfl,.inl ⟨_,.inl B.hd⟩,_,rfl,a,_,_,_,rfl,rfl,SqT.of hta1,rfl,(by show 0<=sizeLine;decide),λz nz=>?_⟩;have sz:=aw.new nz (.lst ([]:List V));have zd:d≠z:=ao B.hd nz;refine⟨_,(Sum.inl e.2.2.2:Key),sz _ _ B.hd,rfl,aB (by unfold pkv;rw [Qc];lia),λv hv=>?_,λhv=>?_⟩
  ·
   have hm:e.2.2.2∈E0.map (λe:df=>e.1):=by
    by_cases hm:e.2.2.2∈E0.map (λe:df=>e.1)
    ·exact hm
    ·rw [gT hm] at hv;cases hv
   obtain⟨⟨pl,b⟩,hE,epl⟩:=Qg.mp hm;have epl:pl=e.2.2.2:=epl;subst epl;have hv2:=gR B.nd hE;have hv3:v=.ref b:=Qt (hv.symm.trans hv2);subst hv3;have hb:=(B.ha _ hE).1;have hb':=sz _ _ hb;have hbl:((adP as rs i e.2.2.2).map V.ref).length<=200:=by
    rw [Qc];unfold adP;rw [Qc];refine QQ (Q2 _ _) ?_;rw [Q9,List.length_zip];lia
   refine⟨.inl ⟨rfl,_,SqL.of hb'⟩,_,rfl,b,_,_,rfl,rfl,hb',aB (QQ hbl (by decide)),?_⟩;have bz:b≠z:=ao hb nz;have hz0:H z=none:=B.same.free nz;have B1:BP H (upd H1 z (.lst [])) d E0 (adP as rs i):=⟨B.same.put hz0 _,sz _ _ B.hd,B.nd,B.na,λe' he'=>⟨sz _ _ (B.ha e' he').1,(B.ha e' he').2⟩,B.all,B.nd0⟩;exact⟨_,E0,rfl,B1.old (e:=(e.2.2.2,b)) hE (a:=a) gs,by lia⟩
  ·
   have hm:¬ e.2.2.2∈E0.map (λe:df=>e.1):=λhm=>by
    obtain⟨e',hE,epl⟩:=Qg.mp hm;have:=gR B.nd hE;rw [epl] at this;rw [this] at hv;cases hv
   have hz1:(upd (upd H1 z (.lst [])) d (.dK (cR (pkv E0) (Sum.inl e.2.2.2:Key) (.ref z)))) z=some (.lst []):=by rw [af zd.symm];exact ae
   refine⟨.inl ⟨rfl,_,SqL.of hz1⟩,_,rfl,z,_,_,rfl,rfl,hz1,(by decide),?_⟩;exact⟨_,_,rfl,B.add hm nz (a:=a) gs,by rw [Ql,Qz];lia⟩
 ·rintro σ H1 ⟨v3,E0,rfl,B,hel⟩;have hwl1:=B.same _ _ hwl;have gz:∀ z,Paired (λ(b:Addr) (x:aD)=>H1 b=some (.tup (bp x))) (adP as rs (as.map V.ref).length z) (atP rs z):=λz=>by
   unfold adP;rw [Qc,UJ (by rw [List.length_zip];lia)];exact Paired.mapP (pP pr z) λb x y=>B.same _ _ y
  refine⟨_,rfl,wl,rfl,⟨_,SqL.of hwl1⟩,b8 (K:=K) (xs:=a8 ways) (λi σ H2=>∃(v4:Option V),σ=[some (.ref p),some (.ref wl),some (.ref d),v3,v4]/\H2=H1/\iE rs ways=iE rs (ways.drop i))
   ⟨none,rfl,rfl,rfl⟩ (λi σ H2 _ ⟨_,_,e,_⟩=>by rw [e];exact SqL.of hwl1) ?_ ?_⟩
  ·rintro i y σ H2 hy ⟨v4,rfl,rfl,en⟩;obtain⟨x,rfl,hx⟩:∃ x:Nat,y=.int x/\ways[i]?=some x:=by
    unfold a8 at hy;rw [Qq] at hy;cases z:ways[i]? with
    | none=>rw [z] at hy;cases hy
    | some x=>rw [z] at hy;exact⟨x,(Qt hy).symm,rfl⟩
   have hil:=(Qb.mp hx).1;have ed:ways.drop i=x :: ways.drop (i+1):=by
    rw [Uw hil];rw [Qe hil] at hx;rw [Qt hx]
   rw [ed,iE] at en;refine⟨_,rfl,_,rfl,d,_,rfl,bG.k (k:=(Sum.inl (x:Int):Key)) B.hd,_,rfl,?_⟩;have gx:=gz (x:Int);by_cases hm:(x:Int)∈E0.map (λe:df=>e.1)
   ·obtain⟨⟨pl,b⟩,hE,epl⟩:=Qg.mp hm;have epl:pl=(x:Int):=epl;subst epl;have hv2:=gR B.nd hE;rw [hv2];refine bM ?_;have hb:=B.ha _ hE;have hne:atP rs (x:Int)≠[]:=λz=>by
     rw [z] at gx;generalize hg:adP as rs (as.map V.ref).length (x:Int)=l at gx;cases gx;exact hb.2.1 hg
    rw [Qf hne] at en;exact⟨_,rfl,_,rfl,d,_,rfl,by rw [<-hv2];exact bG.k (k:=(Sum.inl (x:Int):Key)) B.hd,q b H2 B.same ⟨_,hb.1,by rw [en];exact gx⟩⟩
   ·rw [gT hm];refine bt ?_;have hne:atP rs (x:Int)=[]:=by
     have:adP as rs (as.map V.ref).length (x:Int)=[]:=by
      cases z:adP as rs (as.map V.ref).length (x:Int) with
      | nil=>rfl
      | cons a l=>exact Qs (B.all _ (by rw [z];simp)) hm
     rw [this] at gx;generalize atP rs (x:Int)=l at gx;cases gx;rfl
    rw [Qn hne] at en;exact⟨_,rfl,rfl,en⟩
  ·rintro σ H2 ⟨v4,rfl,rfl,en⟩;rw [dP,List.drop_length] at en;refine⟨(by show 0<=sizeLine;decide),λr nr=>q r _ (B.same.put (B.same.free nr) _) ⟨[],ae,by rw [en];exact .nil⟩⟩
end
end G06
namespace G06
open PySem L2 G1 GH
seal PySem.wpAny
def zP:Pos:=match aE sZ3 with
 | [.Return (some (.Call _ _ [⟨_,.Lambda _ _ _ p,_⟩] _)) _]=>p
 | _=>⟨0,0,0,0⟩
def lt(T:Addr):LT:=⟨T,"told.<locals>.<lambda>",zP⟩
section
variable{P:Program} {w:World} {K:W.Frag} {mg:Str->Option Value} {base:Heap}
theorem yF:aI ["rules","roads"] ["rules","roads"] (am sZ3):=⟨rfl,rfl,rfl,by decide +kernel,rfl,by decide +kernel,by decide +kernel⟩
theorem vq(D:bE K mg)(T:Txt mg){T0:Addr}(L:Lx K mg base w (lt T0) D.fdZ3):aF P w K mg base CX0 2 D.fZ3 D.fdZ3 ["rules","roads"] (tw (lt T0)):=by
 obtain⟨c0,hc0,hcd0⟩:=L.co;refine okc D.FZ3 hc0 yF (λvs H Q E h=>?_) (λA outer s H vs Q E hr h=>?_)
 ·obtain⟨p,rd,rs,rows,rfl,_⟩:=h;rfl
 obtain⟨p,rd,rs,rows,rfl,⟨as,hp,pr⟩,hne,hrd,ndr,hrow,hin,hT,q⟩:=h;have nd:=yF.nd;have hu2:(A.deeper (PyProof.Rows.envOfC "told" (am sZ3) s.heap.objs.size D.fZ3 (.ref c0))).units+1+3+1 < cLine:=by have:=hr.un;lia
 refine⟨_,
  (aj (av (qC (c0:=c0) (T:=T0) (qual:="told.<locals>.<lambda>") (x:="rule") (xr:="roads") (j:=1) rfl hr rfl T.min (pv 0) rfl rfl rfl rfl hcd0 L.bm rfl rfl rfl ⟨rfl,rfl,rfl,rfl,rfl,by decide,by decide,by decide⟩ (λ_ _ _ _=>rfl)
   (λf c s1 H1=>bJ (aa rfl (aG (jW (K:=K) rfl) (by rfl) T.len QT (aa rfl (a7 hu2 (pv 1) (ap (bD (K:=K) rfl) (pv 0) (cI rfl D.gWHO.choose_spec (v:=.int 1) ⟨_,rfl⟩) (λ_ _=>rfl)) (λ_ _=>rfl)) ai))
    (aa rfl (a7 hu2 (pv 1) (ap (bD (K:=K) rfl) (pv 0) (cI rfl D.gWHO.choose_spec (v:=.int 1) ⟨_,rfl⟩) (λ_ _=>rfl)) (λ_ _=>rfl)) ai))) rfl)))
  ,?_⟩
 have hkey:∀{a:Addr} {e:aD},H a=some (.tup (bp e))->e∈rs->∃ ro,(e.2.1,ro,nbE rows e.2.1)∈rows:=λ{a e} ha he=>by
  obtain⟨r,hr',er⟩:=Qg.mp (hin e he);have er:r.1=e.2.1:=er;refine⟨r.2.1,?_⟩;rw [<-er,bo ndr hr'];exact hr'
 refine⟨_,rfl,p,_,.ref rd,yh H rows,rfl,rfl,SqL.of hp,λz=>hne ?_,hT,λx hx H1 sm=>?_,λx H1 hx hmin sm hT1=>?_⟩
 ·cases as with
  | nil=>cases pr;rfl
  | cons a as=>cases z
 ·obtain⟨a,ha,rfl⟩:=Qg.mp hx;obtain⟨i,hi⟩:=Q1 ha;obtain⟨e,he,hta⟩:=br pr hi;obtain⟨ro,hro⟩:=hkey hta (QC he);have hrd1:=sm _ _ hrd λps z=>by cases z
  have hta1:=sm _ _ hta λps z=>by cases z
  have hro1:=sm _ _ (hrow _ hro) λps z=>by cases z
  have dg:bG H1 rd (.str e.2.1) (some (.ref ro)):=by
   have:=bG.k (k:=(Sum.inr e.2.1:Key)) hrd1;rwa [show bL (ekv rows) (Sum.inr e.2.1:Key)=some (.ref ro) from bU ndr hro] at this
  rw [lQ hta];refine⟨_,rfl,_,rfl,a,_,_,_,rfl,rfl,SqT.of hta1,rfl,rd,_,rfl,dg,ro,_,rfl,.inl (SqL.of hro1),_,rfl,_,rfl,a,_,_,_,rfl,rfl,SqT.of hta1,rfl,rd,_,rfl,dg,(by show 2<=sizeLine;decide),λt nt=>?_⟩;have st:=aw.new nt (.tup [.int ((az (nbE rows e.2.1)).length:Int),.ref ro]);exact⟨t,ro,rfl,by rw [ae,ba],SqL.of (st _ _ hro1),st⟩
 ·obtain⟨a,ha,rfl⟩:=Qg.mp hx;obtain⟨i,hi⟩:=Q1 ha;obtain⟨e,he,hta⟩:=br pr hi;refine q e a H1 (QC he) (λe' he'=>?_) sm hT1 (sm _ _ hta λps z=>by cases z);obtain⟨j,hj⟩:=Q1 he';obtain⟨a',ha',hta'⟩:=fc pr hj;have:=hmin (.ref a') (QH (QC ha'));rwa [lQ hta,lQ hta'] at this
theorem yG:aI ["rules","links","name","right","way","roads","about","counting","decider","places"] ["rules","links","name","right","way"] (am sZy):=⟨rfl,rfl,rfl,by decide +kernel,rfl,by decide +kernel,by decide +kernel⟩
theorem vt(D:bE K mg)(T:Txt mg){T0:Addr}(L:Lx K mg base w (lt T0) D.fdZ3):aF P w K mg base CX0 3 D.fZy D.fdZy ["rules","links","name","right","way"] (tz (lt T0)):=by
 have GZl:aF P w K mg base CX0 1 D.fZl D.fdZl ["links","name"] lw:=nv D T;have GZt:aF P w K mg base CX0 1 D.fZt D.fdZt ["rules","way"] tm:=vp D;have GZ0:aF P w K mg base CX0 1 D.fZ0 D.fdZ0 ["rules","name"] tj:=vo D;have GZ3:aF P w K mg base CX0 2 D.fZ3 D.fdZ3 ["rules","roads"] (tw (lt T0)):=vq D T L;refine D.FZy.ok yG (λvs H Q E h=>?_) (λcdv A outer s H vs Q E hr h=>?_)
 ·obtain⟨p,d,wl,h,E0,a,r,j,U,rfl,_⟩:=h;rfl
 obtain⟨p,d,wl,h,E0,a,r,j,U,rfl,⟨as,hp,pr⟩,hand,hnb,hwl,hrl,hwn,hX,hT,q⟩:=h;have nd:=yG.nd;have hu:=cE hr;have hr1:=hr.mono (by decide:1<=2);have hr2:=hr;have hal:as.length=h.rules.length:=aL pr;refine⟨_,
  (ag (aH (i:=5) nd rfl (Or.inr rfl) (aP GZl hr1 rfl D.mZl D.FZl.kp D.bZl .nil bg (aa rfl (pv 1) (aa rfl (pv 2) ai))))
  (ag (dm (i:=6) nd rfl (Or.inl rfl) (by rfl) (sc:=am sZy) (N:=["rules","links","name","right","way","roads","about","counting","decider","places"]) (rest:=["rules","links","name","right","way","roads","about","counting","decider","places"]) (by decide +kernel) rfl rfl rfl (bi (pv 0)) (λ_ _ _ _ _=>(d5 (PW.pt (dZ (au aZ (ap (bD (K:=K) rfl) (pv 0) (cI rfl D.gRIGHT.choose_spec (v:=.int 2) ⟨_,rfl⟩) (λ_ _=>rfl)) (pv 4) (ay _)) (dC (c9 (jd hu (ap (bD (K:=K) rfl) (pv 0) (cI rfl D.gWHO.choose_spec (v:=.int 1) ⟨_,rfl⟩) (λ_ _=>rfl)) (pv 6)))))))) (λ_ _ _ _ _=>(pv 0)))
  (ag (aH (i:=7) nd rfl (Or.inl rfl) (aP GZt hr1 rfl D.mZt D.FZt.kp D.bZt .nil bg (aa rfl (pv 6) (aa rfl (pv 4) ai))))
  (ag (aM (bS (gt (pv 7) (λ_=>rfl)))
    (aj (av (bJ (aa rfl aq (aa rfl (aU ai) (aa rfl (fu gy (by rfl) T.list Ur (aa rfl (pv 4) ai)) (aa rfl nE ai)))))))
    ax)
  (ag (aH (i:=8) nd rfl (Or.inl rfl) (aP GZ3 hr2 rfl D.mZ3 D.FZ3.kp D.bZ3 .nil bg (aa rfl (aP GZ0 hr1 rfl D.mZ0 D.FZ0.kp D.bZ0 .nil bg (aa rfl (pv 7) (aa rfl (pv 2) ai))) (aa rfl (pv 5) ai))))
  (ag (aH (i:=9) nd rfl (Or.inl rfl) (cC kZ (pv 4) dh (di (aO eR (bR Qw PySem.F.slot_list_index PySem.F.type_list_index sX (pv 4) (aa rfl (ap ar (pv 8) (cI rfl D.gPLACE.choose_spec (v:=.int 3) ⟨_,rfl⟩) (λ_ _=>rfl)) ai)) ah))))
  (aj (av (bJ (aa rfl (sY L.an (by decide) rfl (ap ar (pv 8) (cI rfl D.gWORD.choose_spec (v:=.int 0) ⟨_,rfl⟩) (λ_ _=>rfl)) (λ_ _=>rfl) (by decide)) (aa rfl (a7 hu (pv 5) (ap ar (pv 8) (cI rfl D.gWHO.choose_spec (v:=.int 1) ⟨_,rfl⟩) (λ_ _=>rfl)) (λ_ _=>rfl)) (aa rfl (pv 9) (aa rfl (pv 8) ai)))))))))))))
  ,?_⟩
 refine⟨_,rfl,_,rfl,d,E0,a,U,rfl,hand,λrd rows H1 s1 nrd hrd hrow hnew hrl2 wk=>?_⟩;have hp1:=s1 _ _ hp;have pr1:=Paired.mapP pr λb x z=>s1 _ _ z;have ndr:(rows.map (λe:Row=>e.1)).Nodup:=by rw [<-dN];exact wk.nd
 have nbf:nbE E0=nbP h.links:=funext hnb;have rch:∀ x,x∈rows.map (λe:Row=>e.1) ↔ Rch h.links a x:=λx=>by rw [jw wk x,nbf];rfl
 refine⟨_,rfl,p,rfl,⟨_,SqL.of hp1⟩,cP (c:=bp) (λe:aD=>decide (e.2.2.1=r) && (bL (ekv rows) (Sum.inr e.2.1:Key)).isSome) hp1 pr1 (by lia) (λb x Q' hb hx hQ=>?_) (λb Q' hQ=>⟨_,rfl,hQ⟩) (λbs1 hb1 D1 nD1=>?_)⟩
 ·refine⟨_,rfl,b,_,_,_,rfl,rfl,SqT.of hb,rfl,_,rfl,rfl,_,rfl,?_⟩;rw [j0];by_cases er:x.2.2.1=r
  ·rw [Qh er,Bool.true_and] at hQ;refine cg er ?_;exact⟨_,rfl,b,_,_,_,rfl,rfl,SqT.of hb,rfl,_,rfl,rd,_,rfl,bG.k (k:=(Sum.inr x.2.1:Key)) hrd,_,rfl,hQ⟩
  ·rw [Qp er,Bool.false_and] at hQ;exact a9 er hQ
 have hf:∀ e:aD,(decide (e.2.2.1=r) && (bL (ekv rows) (Sum.inr e.2.1:Key)).isSome)=(decide (e.2.2.1=r) && @decide (Rch h.links a e.2.1) (Classical.propDecidable _)):=λe=>by
  congr 1
  by_cases hm:e.2.1∈rows.map (λe:Row=>e.1)
  ·obtain⟨r',hr',er⟩:=Qg.mp hm;have er:r'.1=e.2.1:=er;rw [<-er,bU ndr hr',er];exact(@Qh _ (Classical.propDecidable _) ((rch _).mp hm)).symm
  ·rw [cS hm];exact(@Qp _ (Classical.propDecidable _) (λz=>hm ((rch _).mpr z))).symm
 have atx:=tD (h:=h) (a:=a) (r:=r) hf;have hal2:(h.rules.filter λe:aD=>decide (e.2.2.1=r) && (bL (ekv rows) (Sum.inr e.2.1:Key)).isSome).length<=200:=QQ (Q2 _ _) hrl;generalize hab:(h.rules.filter λe:aD=>decide (e.2.2.1=r) && (bL (ekv rows) (Sum.inr e.2.1:Key)).isSome)=ab at hb1 atx hal2;have s2:=aw.new nD1 (.lst (bs1.map V.ref));have hD1:(upd H1 D1 (.lst (bs1.map V.ref))) D1=some (.lst (bs1.map V.ref)):=ae;have hb1':=Paired.mapP hb1 λb x z=>s2 _ _ z;have s12:=s1.trans s2;have hrd2:=s2 _ _ hrd;have hrow2:∀ e∈rows,(upd H1 D1 (.lst (bs1.map V.ref))) e.2.1=some (.lst (az e.2.2)):=λe he=>s2 _ _ (hrow e he);generalize upd H1 D1 (.lst (bs1.map V.ref))=H2 at s2 hD1 hb1' s12 hrd2 hrow2;refine⟨_,rfl,_,rfl,D1,wl,ab,bh h j,rfl,⟨bs1,hD1,hb1'⟩,hal2,s12 _ _ hwl,λnl H3 s3 hnl=>?_⟩;have s13:=s12.trans s3;obtain⟨ns,hnl1,pn⟩:=hnl;refine⟨_,rfl,_,.inl ⟨_,SqL.of hnl1,rfl⟩,?_⟩;rcases iF ab (bh h j) with⟨hn1,hn2⟩ | ⟨k,x,hk,hx1,hn1,hn2⟩
 ·
  rw [hn1] at pn;cases pn;refine bM ?_;have hse:bq h a r (bh h j)=([],bh h j):=fi λi q hq=>by rw [<-atx];exact hn2 i q hq
  refine⟨(by show 0<=sizeLine;decide),λro nro=>?_⟩;have s4:=aw.new nro (.lst ([]:List V));refine⟨_,rfl,wl,_,rfl,.inl (SqL.of (s4 _ _ (s13 _ _ hwl))),λpl npl=>?_⟩;have s5:=aw.new npl (.lst (a8 (bh h j)));refine⟨(by show 4<=sizeLine;decide),λt nt=>?_⟩;have s6:=aw.new nt (.tup [.str "none",.ref ro,.ref pl,.non]);have s46:=(s4.trans s5).trans s6;refine q (.ref t) _ (aV.of (s13.trans s46)) (cB.same hT (s13.trans s46)) ⟨t,ro,pl,"none",[],bh h j,none,.non,rfl,ae,s6 _ _ (s5 _ _ ae),s6 _ _ ae,rfl,?_,s13.free nro,(s13.trans s4).free npl⟩;have:=ce.none (h:=h) (a:=a) (r:=r) (p:=j) (by rw [hse]);rwa [hse] at this
 ·rw [hn1] at pn;have hse:bq h a r (bh h j)=(dA h a r x,(bh h j).take (k+1)):=il (λi q hi hq=>by rw [<-atx];exact hn2 i q hi hq) hk (by rw [<-atx];exact hx1);have hdec:dr (cY a (atP ab x))=dA h a r x:=by rw [atx];rfl
  have hlp:(atP ab (x:Int)).length<=200:=QQ (Q2 _ _) hal2;have hne:(!(ns.map V.ref).isEmpty)=true:=by
   cases ns with
   | nil=>generalize atP ab (x:Int)=l at pn hx1;cases pn;exact Qs rfl hx1
   | cons _ _=>rfl
  rw [hne];refine bt ?_;refine⟨_,rfl,_,rfl,nl,_,a,rfl,⟨ns,hnl1,pn⟩,hlp,λdc H4 s4 hdc=>?_⟩;rw [hdec] at hdc;have s24:=s3.trans s4;have s14:=s12.trans s24;have dsub:∀ e∈dA h a r x,e∈h.rules/\e.2.2.2=(x:Int)/\Rch h.links a e.2.1:=λe he=>by
   have h3:e∈aC h a r x:=im (dH he);unfold aC at h3;obtain⟨h4,h5⟩:=QX.mp h3;simp only [QO,Vg] at h5;exact⟨h4,h5.1,h5.2.2⟩
  have dne:dA h a r x≠[]:=by rw [<-hdec];exact tF (tE hx1)
  refine⟨_,rfl,dc,rd,dA h a r x,rows,rfl,hdc,dne,s24 _ _ hrd2,ndr,λe he=>s24 _ _ (hrow2 e he),λe he=>(rch _).mpr (dsub e he).2.2,cB.same hT s14,λe b H5 he hmin sT hT5 hb5=>?_⟩;obtain⟨he1,he2,he3⟩:=dsub e he;have nt:∀{c:Addr} {xs:List V},H4 c=some (.lst xs)->H5 c=some (.lst xs):=λhc=>sT _ _ hc λps z=>by cases z
  have hwl5:H5 wl=some (.lst ((((bh h j).map λn:Nat=>(n:Int))).map V.int)):=by
   rw [nt (s14 _ _ hwl)];unfold a8;rw [UK];rfl
  have hwl6:H5 wl=some (.lst (a8 (bh h j))):=nt (s14 _ _ hwl);have hrd5:H5 rd=some (.dK (ekv rows)):=sT _ _ (s24 _ _ hrd2) λps z=>by cases z
  obtain⟨⟨x0,ro,road⟩,hro,er⟩:=Qg.mp ((rch _).mpr he3);have er:x0=e.2.1:=er;subst er;have hro5:H5 ro=some (.lst (az road)):=nt (s24 _ _ (hrow2 _ hro));have dg:bG H5 rd (.str e.2.1) (some (.ref ro)):=by
   have:=bG.k (k:=(Sum.inr e.2.1:Key)) hrd5;rwa [show bL (ekv rows) (Sum.inr e.2.1:Key)=some (.ref ro) from bU ndr hro] at this
  have hkl:k < (bh h j).length:=(Qb.mp hk).1;refine⟨_,rfl,_,rfl,.inl ⟨rfl,_,SqL.of hwl6⟩,_,rfl,b,_,_,_,rfl,rfl,SqT.of hb5,rfl,wl,_,_,k,rfl,rfl,hwl5,?_,λm hm z=>?_,by lia,_,_,rfl,rfl,_,rfl,wl,_,rfl,SqL.of hwl6,λpl npl=>?_⟩
  ·rw [Qq,hk,he2];rfl
  ·rw [Qq] at z;cases z2:(bh h j)[m]? with
   | none=>rw [z2] at z;cases z
   | some y =>
    rw [z2] at z;have z:(y:Int)=e.2.2.2:=Qt z;have:=hn2 m y hm z2;rw [z,he2] at this;exact hx1 this
  have ecut:eZ (a8 (bh h j)) none (some ((k:Int)+1))=a8 ((bh h j).take (k+1)):=by
   rw [show((k:Int)+1)=((k+1:Nat):Int) by lia,fe];unfold a8;rw [Vo]
  have s5:=aw.new npl (.lst (eZ (a8 (bh h j)) none (some ((k:Int)+1))));have hb6:=s5 _ _ hb5;have hpl6:(upd H5 pl (.lst (eZ (a8 (bh h j)) none (some ((k:Int)+1))))) pl=some (.lst (a8 ((bh h j).take (k+1)))):=by rw [ae,ecut]
  have hro6:=s5 _ _ hro5;have hT6:=cB.same hT5 s5;have sT6:aV H (upd H5 pl (.lst (eZ (a8 (bh h j)) none (some ((k:Int)+1))))):=((aV.of s14).trans sT).trans (aV.of s5);have dg6:bG (upd H5 pl (.lst (eZ (a8 (bh h j)) none (some ((k:Int)+1))))) rd (.str e.2.1) (some (.ref ro)):=by
   have:=bG.k (k:=(Sum.inr e.2.1:Key)) (s5 _ _ hrd5);rwa [show bL (ekv rows) (Sum.inr e.2.1:Key)=some (.ref ro) from bU ndr hro] at this
  generalize upd H5 pl (.lst (eZ (a8 (bh h j)) none (some ((k:Int)+1))))=H6 at s5 hb6 hpl6 hro6 hT6 sT6 dg6;have ebest:Best ltS (nbP h.links) a e.2.1 road:=by
   rw [<-nbf];exact wk.best ordS (QH (f:=λe:Row=>(e.1,e.2.2)) hro)
  have enb:nbE rows e.2.1=road:=bo ndr hro;have isa:ce h a r j (if e.1="bar" then "barred" else "given") road (bq h a r (bh h j)).2 (some e):=by
   refine ce.some (by rw [hse];exact he) ebest λe' he' road' hbest' hsl=>?_;rw [hse] at he';obtain⟨⟨x1,ro1,road1⟩,hro1,er1⟩:=Qg.mp ((rch _).mpr (dsub e' he').2.2);have er1:x1=e'.2.1:=er1;subst er1;have b1:Best ltS (nbP h.links) a e'.2.1 road1:=by
    rw [<-nbf];exact wk.best ordS (QH (f:=λe:Row=>(e.1,e.2.2)) hro1)
   have:=hmin e' he';rw [enb,show nbE rows e'.2.1=road1 from bo ndr hro1,b1.uniq ordS hbest'] at this;rw [fK.mpr hsl] at this;cases this
  rw [hse] at isa;have done:∀(wd:Str),wd=(if e.1="bar" then ("barred":Str) else "given")->∀ t,H6 t=none->Q (.ref t) (upd H6 t (.tup [.str wd,.ref ro,.ref pl,.ref b])):=λwd ew t nt=>by
   have s7:=aw.new nt (.tup [.str wd,.ref ro,.ref pl,.ref b]);refine q (.ref t) _ (sT6.trans (aV.of s7)) (cB.same hT6 s7) ⟨t,ro,pl,wd,road,_,some e,.ref b,rfl,ae,s7 _ _ hro6,s7 _ _ hpl6,⟨b,rfl,s7 _ _ hb6⟩,?_,hnew _ hro,s14.free (sT.fr _ npl)⟩;rw [ew];exact isa
  rcases(hX.r e he1).1 with ew | ew
  ·refine⟨_,rfl,b,_,_,_,rfl,rfl,SqT.of hb6,rfl,.a (by rw [ew]) ?_⟩;exact⟨_,rfl,_,rfl,b,_,_,_,rfl,rfl,SqT.of hb6,rfl,rd,_,rfl,dg6,_,rfl,_,rfl,(by show 4<=sizeLine;decide),λt nt=>done _ (by rw [ew];decide) t nt⟩
  ·refine⟨_,rfl,b,_,_,_,rfl,rfl,SqT.of hb6,rfl,.b (by rw [ew]) ?_⟩;exact⟨_,rfl,_,rfl,b,_,_,_,rfl,rfl,SqT.of hb6,rfl,rd,_,rfl,dg6,_,rfl,_,rfl,(by show 4<=sizeLine;decide),λt nt=>done _ (by rw [ew];decide) t nt⟩
end
end G06
namespace G06
open PySem L2 G1 GH
seal PySem.wpAny
section
variable{P:Program} {w:World} {K:W.Frag} {mg:Str->Option Value} {base:Heap}
theorem yH:aI ["self","name","right","place","way"] ["self","name","right","place"] (am sYd):=⟨rfl,rfl,rfl,by decide +kernel,rfl,by decide +kernel,by decide +kernel⟩
theorem t6(D:bE K mg)(T:Txt mg){T0:Addr}(L:Lx K mg base w (lt T0) D.fdZ3):aF P w K mg base (CXo P w) 4 D.fYd D.fdYd ["self","name","right","place"] (ow D.CZb D.CZo (lt T0)):=by
 have GYe:aF P w K mg base (CXo P w) 1 D.fYe D.fdYe ["self","place"] (jL D.CZb D.CZo):=iy D T;have GYh:aF P w K mg base CX0 1 D.fYh D.fdYh ["parents","cuts","place"] we:=xx D;have GZy:aF P w K mg base CX0 3 D.fZy D.fdZy ["rules","links","name","right","way"] (tz (lt T0)):=vt D T L;refine okX D.FYd yH (λvs H Q E h=>?_) (λcdv A outer s H vs Q E hr h=>?_)
 ·obtain⟨x,dx,a1,a2,a3,a4,h,E0,a,r,p,U,rfl,_⟩:=h;rfl
 obtain⟨x,dx,a1,a2,a3,a4,h,E0,a,r,p,U,rfl,hA,q1,q2⟩:=h;have nd:=yH.nd;have hM:=hA.at';have hr1:=hr.mono (by decide:1<=3);have hr3:=hr;refine⟨_,
  (ag (aT (bn (pv 0) D.clsZo D.meYe GYe hr1 D.bYe .nil cH (aa rfl (pv 3) ai)))
  (ag (aH (i:=4) nd rfl (Or.inl rfl) (aP GYh hr1 rfl D.mYh D.FYh.kp D.bYh .nil bg (aa rfl (bI (pv 0) rfl) (aa rfl (bI (pv 0) rfl) (aa rfl (pv 3) ai)))))
  (aj (av (aP GZy hr3 rfl D.mZy D.FZy.kp D.bZy .nil bg (aa rfl (fu (lI rfl) (by rfl) T.list Ur (aa rfl (bI (pv 0) rfl) ai)) (aa rfl (bI (pv 0) rfl) (aa rfl (pv 1) (aa rfl (pv 2) (aa rfl (pv 4) ai))))))))))
  ,?_⟩
 refine⟨_,rfl,x,dx,_,rfl,hM.ins,rfl,_,rfl,x,dx,a1,a2,a3,a4,h,E0,p,rfl,hM,λhp=>?_,λhp=>q2 hp⟩;obtain⟨n,rfl,hn,en⟩:=hp.nat;obtain⟨l,hl⟩:=hA.ok.ups n hn;have hz:=hA.sz;have hwy:bh h n=cz h.cut l:=by unfold bh;rw [hl.upL]
 refine⟨_,rfl,x,_,dx,_,_,rfl,hM.ins,D.clsZo,D.naparents,rfl,_,rfl,x,_,dx,_,_,rfl,hM.ins,D.clsZo,D.nacuts,rfl,_,rfl,a1,a2,h.par,h.cut,n,l,rfl,hM.h1,hM.h2,hA.ok.len,hl,by have:=hz.1;lia,λwl H1 s1 nwl hwl=>?_⟩;have M1:=hM.same s1;refine⟨_,rfl,x,_,dx,_,_,rfl,M1.ins,D.clsZo,D.narules,rfl,a4,_,rfl,.inl M1.h4,λl4 as4 n4' ka=>?_⟩;have s2:=aw.new n4' (.lst (as4.map V.ref));have M2:=M1.same s2;have hUn:∀ y,∀ z∈nbE E0 y,z∈U:=λy z hz=>by
  rw [hM.nb] at hz;exact(hA.few.2.1 _ ((bY _ _ _).mpr hz)).2
 have few:∀ e∈E0,e.2.2.length < 64:=λe he=>by
  have e1:e.2.2=nbP h.links e.1:=by rw [<-hM.nb e.1,bo hM.h3.nd he]
  have:=bT (m:=U) (ij hA.ok.lnd e.1) (λu hu'=>hUn e.1 u (by rw [hM.nb];exact hu'));rw [e1];have:=hA.few.1;lia
 refine⟨_,rfl,x,_,dx,_,_,rfl,M2.ins,D.clsZo,D.nalinks,rfl,_,rfl,_,rfl,_,rfl,l4,a3,wl,h,E0,a,r,n,a :: U,rfl,⟨as4,ae,Paired.mapP (gh ka) λb r z=>s2 _ _ z⟩,⟨M2.h3,few,QJ,λy z hz=>QA _ (hUn y z hz),by have:=hA.few.1;simp only [QL];lia⟩,hM.nb,
  by rw [hwy];exact s2 _ _ hwl,by have:=hz.2.2;lia,by have:=kJ hA.ok hn;have:=hz.1;lia,hA.tx,cB.same hA.tab (s1.trans s2),λv H' sT hT' hv=>q1 hp v H' ((aV.of (s1.trans s2)).trans sT) hT' (hv.old (aV.of (s1.trans s2)))⟩
theorem t7(D:bE K mg)(T:Txt mg){T0:Addr}(L:Lx K mg base w (lt T0) D.fdZ3):aF P w K mg base (CXo P w) 6 D.fZ1 D.fdZ1 ["house","deed"] (pQ D.CZb D.CZ5 D.CZo (lt T0)):=by
 have GYi:aF P w K mg base (CXo P w) 2 D.fYi D.fdYi ["self","parent"] (cK D.CZb D.CZ5 D.CZo aYi):=xm D T;have GZ9:aF P w K mg base (CXo P w) 2 D.fZ9 D.fdZ9 ["self","place","parent"] (cK D.CZb D.CZ5 D.CZo aZ9):=xn D T;have GYb:aF P w K mg base (CXo P w) 2 D.fYb D.fdYb ["self","place","wanted"] (cK D.CZb D.CZ5 D.CZo aYb):=xo D T;have GZ6:aF P w K mg base (CXo P w) 3 D.fZ6 D.fdZ6 ["self","member","circle"] (cK D.CZb D.CZ5 D.CZo aZ6):=xt D T;have GZ8:aF P w K mg base CX0 1 D.fZ8 D.fdZ8 ["self","member","circle"] (cK D.CZb D.CZ5 D.CZo aZ8):=xu D T;have GYk:aF P w K mg base (CXo P w) 2 D.fYk D.fdYk ["self","rule"] (cK D.CZb D.CZ5 D.CZo aYk):=xp D T;have GYl:aF P w K mg base CX0 1 D.fYl D.fdYl ["self","rule"] (cK D.CZb D.CZ5 D.CZo aYl):=xq D T;have GYd:aF P w K mg base (CXo P w) 4 D.fYd D.fdYd ["self","name","right","place"] (ow D.CZb D.CZo (lt T0)):=t6 D T L;have GYj:aF P w K mg base (CXo P w) 5 D.fYj D.fdYj ["self","right","place"] d6:=dF;refine okX D.FZ1 vg (λvs H Q E h=>?_) (λcdv A outer s H vs Q E hr h=>?_)
 ·rcases h with⟨x,dx,a1,a2,a3,a4,h,E0,us,d,U,rfl,_,_,_,_,_,_,_,⟨t,rfl,_⟩,_⟩ | ⟨x,dx,a1,a2,a3,a4,h,E0,a,r,p,U,t,rfl,_⟩
  ·rfl
  ·rfl
 have nd:=vg.nd;have hr1:=hr.mono (by decide:1<=5);have hr2:=hr.mono (by decide:2<=5);have hr3:=hr.mono (by decide:3<=5);have hr4:=hr.mono (by decide:4<=5);have hr5:=hr;refine⟨_,
  (ag (aH (i:=2) nd rfl (Or.inl rfl) (ap ar (pv 1) ah (λ_ _=>rfl)))
  (ag (aM (au aZ (pv 2) aq (ay _))
    (aj (av (bn (pv 0) D.clsZo D.meYi GYi hr2 D.bYi .nil cH (aa rfl (ap ar (pv 1) ah (λ_ _=>rfl)) ai))))
    ax)
  (ag (aM (au aZ (pv 2) aq (ay _))
    (aj (av (bn (pv 0) D.clsZo D.meZ9 GZ9 hr2 D.bZ9 .nil cH (aa rfl (ap ar (pv 1) ah (λ_ _=>rfl)) (aa rfl (ap ar (pv 1) ah (λ_ _=>rfl)) ai)))))
    ax)
  (ag (aM (PW.pt (cL (au aZ (pv 2) aq (ay _)) (ca (au aZ (pv 2) aq (ay _)))))
    (aj (av (bn (pv 0) D.clsZo D.meYb GYb hr2 D.bYb .nil cH (aa rfl (ap ar (pv 1) ah (λ_ _=>rfl)) (aa rfl (bX aZ (pv 2) aq (ay _)) ai)))))
    ax)
  (ag (aM (au aZ (pv 2) aq (ay _))
    (aj (av (bn (pv 0) D.clsZo D.meZ6 GZ6 hr3 D.bZ6 .nil cH (aa rfl (ap ar (pv 1) ah (λ_ _=>rfl)) (aa rfl (ap ar (pv 1) ah (λ_ _=>rfl)) ai)))))
    ax)
  (ag (aM (au aZ (pv 2) aq (ay _))
    (aj (av (bn (pv 0) D.clsZo D.meZ8 GZ8 hr1 D.bZ8 .nil bg (aa rfl (ap ar (pv 1) ah (λ_ _=>rfl)) (aa rfl (ap ar (pv 1) ah (λ_ _=>rfl)) ai)))))
    ax)
  (ag (aM (PW.pt (cL (au aZ (pv 2) aq (ay _)) (ca (au aZ (pv 2) aq (ay _)))))
    (aj (av (bn (pv 0) D.clsZo D.meYk GYk hr2 D.bYk .nil cH (aa rfl (bJ (aa rfl (pv 2) (aa rfl (ap ar (pv 1) ah (λ_ _=>rfl)) (aa rfl (ap ar (pv 1) ah (λ_ _=>rfl)) (aa rfl (ap ar (pv 1) ah (λ_ _=>rfl)) ai))))) ai))))
    ax)
  (ag (aM (au aZ (pv 2) aq (ay _))
    (aj (av (bn (pv 0) D.clsZo D.meYl GYl hr1 D.bYl .nil bg (aa rfl (bJ (aa rfl (ap ar (pv 1) ah (λ_ _=>rfl)) (aa rfl (ap ar (pv 1) ah (λ_ _=>rfl)) (aa rfl (ap ar (pv 1) ah (λ_ _=>rfl)) (aa rfl (ap ar (pv 1) ah (λ_ _=>rfl)) ai))))) ai))))
    ax)
  (ag (aM (au aZ (pv 2) aq (ay _))
    (aj (av (bn (pv 0) D.clsZo D.meYd GYd hr4 D.bYd .nil cH (aa rfl (ap ar (pv 1) ah (λ_ _=>rfl)) (aa rfl (ap ar (pv 1) ah (λ_ _=>rfl)) (aa rfl (ap ar (pv 1) ah (λ_ _=>rfl)) ai))))))
    ax)
  (aj (av (bn (pv 0) D.clsZo D.meYj GYj hr5 D.bYj .nil cH (aa rfl (ap ar (pv 1) ah (λ_ _=>rfl)) (aa rfl (ap ar (pv 1) ah (λ_ _=>rfl)) ai))))))))))))))
  ,?_⟩
 rcases h with⟨x,dx,a1,a2,a3,a4,h,E0,us,d,U,rfl,hM,hO,hX,hZ,hF,hN,hk,⟨t,rfl,ht,ha⟩,q⟩ | ⟨x,dx,a1,a2,a3,a4,h,E0,a,r,p,U,t,rfl,hA,ht,q1,q2⟩
 rotate_left
 ·refine⟨_,rfl,t,_,_,_,rfl,rfl,SqT.of ht,rfl,?_⟩;refine⟨_,rfl,rfl,_,rfl,a9 (sne (by decide +kernel)) ?_⟩;refine⟨_,rfl,rfl,_,rfl,a9 (sne (by decide +kernel)) ?_⟩;refine⟨_,rfl,rfl,_,rfl,a9 (sne (by decide +kernel)) ⟨_,rfl,rfl,_,rfl,a9 (sne (by decide +kernel)) ?_⟩⟩;refine⟨_,rfl,rfl,_,rfl,a9 (sne (by decide +kernel)) ?_⟩;refine⟨_,rfl,rfl,_,rfl,a9 (sne (by decide +kernel)) ?_⟩;refine⟨_,rfl,rfl,_,rfl,a9 (sne (by decide +kernel)) ⟨_,rfl,rfl,_,rfl,a9 (sne (by decide +kernel)) ?_⟩⟩;refine⟨_,rfl,rfl,_,rfl,a9 (sne (by decide +kernel)) ?_⟩;refine⟨_,rfl,rfl,_,rfl,cg rfl ?_⟩;exact⟨_,rfl,x,dx,_,rfl,hA.at'.ins,rfl,_,rfl,t,_,_,_,rfl,rfl,SqT.of ht,rfl,_,rfl,t,_,_,_,rfl,rfl,SqT.of ht,rfl,_,rfl,t,_,_,_,rfl,rfl,SqT.of ht,rfl,x,dx,a1,a2,a3,a4,h,E0,a,r,p,U,rfl,hA,q1,q2⟩
 cases d with
 | add p =>
  refine⟨_,rfl,t,_,_,_,rfl,rfl,SqT.of ht,rfl,?_⟩;refine⟨_,rfl,rfl,_,rfl,cg rfl ?_⟩;exact⟨_,rfl,x,dx,_,rfl,hM.ins,rfl,_,rfl,t,_,_,_,rfl,rfl,SqT.of ht,rfl,x,dx,a1,a2,a3,a4,h,E0,_,_,U,rfl,hM,hO,hX,hZ,hF,hN,hk,⟨p,rfl,rfl⟩,q⟩
 | move p r =>
  refine⟨_,rfl,t,_,_,_,rfl,rfl,SqT.of ht,rfl,?_⟩;refine⟨_,rfl,rfl,_,rfl,a9 (sne (by decide +kernel)) ?_⟩;refine⟨_,rfl,rfl,_,rfl,cg rfl ?_⟩;exact⟨_,rfl,x,dx,_,rfl,hM.ins,rfl,_,rfl,t,_,_,_,rfl,rfl,SqT.of ht,rfl,_,rfl,t,_,_,_,rfl,rfl,SqT.of ht,rfl,x,dx,a1,a2,a3,a4,h,E0,_,_,U,rfl,hM,hO,hX,hZ,hF,hN,hk,⟨p,r,rfl,rfl⟩,q⟩
 | cutm b p =>
  have eb:decide (V.str (if b=true then "cut" else "mend")=V.str "cut")=b:=by
   cases b with
   | true=>exact Qh rfl
   | false=>exact Qp (sne (by decide +kernel))
  have nb:∀ x:Str,x≠"cut"->x≠"mend"->¬ V.str (if b=true then "cut" else "mend")=V.str x:=λx h1 h2=>by
   cases b with
   | true=>exact sne (Ne.symm h1)
   | false=>exact sne (Ne.symm h2)
  refine⟨_,rfl,t,_,_,_,rfl,rfl,SqT.of ht,rfl,?_⟩;refine⟨_,rfl,rfl,_,rfl,a9 (nb _ (by decide +kernel) (by decide +kernel)) ?_⟩;refine⟨_,rfl,rfl,_,rfl,a9 (nb _ (by decide +kernel) (by decide +kernel)) ?_⟩;refine⟨_,rfl,rfl,_,rfl,?_⟩;cases b with
  | true =>
   refine cg rfl (bM ?_);exact⟨_,rfl,x,dx,_,rfl,hM.ins,rfl,_,rfl,t,_,_,_,rfl,rfl,SqT.of ht,rfl,_,rfl,rfl,x,dx,a1,a2,a3,a4,h,E0,_,_,U,rfl,hM,hO,hX,hZ,hF,hN,hk,⟨p,true,by rw [eb];rfl,rfl⟩,q⟩
  | false =>
   refine a9 (sne (by decide +kernel)) ?_;refine⟨_,rfl,rfl,_,rfl,cg rfl ?_⟩;exact⟨_,rfl,x,dx,_,rfl,hM.ins,rfl,_,rfl,t,_,_,_,rfl,rfl,SqT.of ht,rfl,_,rfl,rfl,x,dx,a1,a2,a3,a4,h,E0,_,_,U,rfl,hM,hO,hX,hZ,hF,hN,hk,⟨p,false,by rw [eb];rfl,rfl⟩,q⟩
 | join a c =>
  refine⟨_,rfl,t,_,_,_,rfl,rfl,SqT.of ht,rfl,?_⟩;refine⟨_,rfl,rfl,_,rfl,a9 (sne (by decide +kernel)) ?_⟩;refine⟨_,rfl,rfl,_,rfl,a9 (sne (by decide +kernel)) ?_⟩;refine⟨_,rfl,rfl,_,rfl,a9 (sne (by decide +kernel)) ⟨_,rfl,rfl,_,rfl,a9 (sne (by decide +kernel)) ?_⟩⟩;refine⟨_,rfl,rfl,_,rfl,cg rfl ?_⟩;exact⟨_,rfl,x,dx,_,rfl,hM.ins,rfl,_,rfl,t,_,_,_,rfl,rfl,SqT.of ht,rfl,_,rfl,t,_,_,_,rfl,rfl,SqT.of ht,rfl,x,dx,a1,a2,a3,a4,h,E0,_,_,U,rfl,hM,hO,hX,hZ,hF,hN,hk,⟨a,c,rfl,rfl⟩,q⟩
 | leave a c =>
  refine⟨_,rfl,t,_,_,_,rfl,rfl,SqT.of ht,rfl,?_⟩;refine⟨_,rfl,rfl,_,rfl,a9 (sne (by decide +kernel)) ?_⟩;refine⟨_,rfl,rfl,_,rfl,a9 (sne (by decide +kernel)) ?_⟩;refine⟨_,rfl,rfl,_,rfl,a9 (sne (by decide +kernel)) ⟨_,rfl,rfl,_,rfl,a9 (sne (by decide +kernel)) ?_⟩⟩;refine⟨_,rfl,rfl,_,rfl,a9 (sne (by decide +kernel)) ?_⟩;refine⟨_,rfl,rfl,_,rfl,cg rfl ?_⟩;exact⟨_,rfl,x,dx,_,rfl,hM.ins,rfl,_,rfl,t,_,_,_,rfl,rfl,SqT.of ht,rfl,_,rfl,t,_,_,_,rfl,rfl,SqT.of ht,rfl,x,dx,a1,a2,a3,a4,h,E0,_,_,U,rfl,hM,hO,hX,hZ,hF,hN,hk,⟨a,c,rfl,rfl⟩,q.yes (qy h a c)⟩
 | put w a r p =>
  have nw:∀ x:Str,x≠"give"->x≠"bar"->¬ V.str w=V.str x:=λx h1 h2 z=>by
   rcases hk.1 with e | e
   ·rw [e] at z;exact h1 (V.str.inj z).symm
   ·rw [e] at z;exact h2 (V.str.inj z).symm
  refine⟨_,rfl,t,_,_,_,rfl,rfl,SqT.of ht,rfl,?_⟩;refine⟨_,rfl,rfl,_,rfl,a9 (nw _ (by decide +kernel) (by decide +kernel)) ?_⟩;refine⟨_,rfl,rfl,_,rfl,a9 (nw _ (by decide +kernel) (by decide +kernel)) ?_⟩;refine⟨_,rfl,rfl,_,rfl,a9 (nw _ (by decide +kernel) (by decide +kernel)) ⟨_,rfl,rfl,_,rfl,a9 (nw _ (by decide +kernel) (by decide +kernel)) ?_⟩⟩;refine⟨_,rfl,rfl,_,rfl,a9 (nw _ (by decide +kernel) (by decide +kernel)) ?_⟩;refine⟨_,rfl,rfl,_,rfl,a9 (nw _ (by decide +kernel) (by decide +kernel)) ?_⟩;refine⟨_,rfl,rfl,_,rfl,?_⟩;rcases hk.1 with e | e
  ·subst e;refine cg rfl (bM ?_);refine⟨_,rfl,x,dx,_,rfl,hM.ins,rfl,_,rfl,_,rfl,t,_,_,_,rfl,rfl,SqT.of ht,rfl,_,rfl,t,_,_,_,rfl,rfl,SqT.of ht,rfl,_,rfl,t,_,_,_,rfl,rfl,SqT.of ht,rfl,(by show 4<=sizeLine;decide),λt2 n2=>?_⟩;have s2:=aw.new n2 (.tup (bp ("give",a,r,p)));exact⟨x,dx,a1,a2,a3,a4,h,E0,_,_,U,rfl,hM.same s2,hO,hX,hZ,hF,hN,hk,⟨t2,"give",a,r,p,rfl,ae,rfl⟩,q.shift s2⟩
  ·subst e;refine a9 (sne (by decide +kernel)) ⟨_,rfl,rfl,_,rfl,cg rfl ?_⟩;refine⟨_,rfl,x,dx,_,rfl,hM.ins,rfl,_,rfl,_,rfl,t,_,_,_,rfl,rfl,SqT.of ht,rfl,_,rfl,t,_,_,_,rfl,rfl,SqT.of ht,rfl,_,rfl,t,_,_,_,rfl,rfl,SqT.of ht,rfl,(by show 4<=sizeLine;decide),λt2 n2=>?_⟩;have s2:=aw.new n2 (.tup (bp ("bar",a,r,p)));exact⟨x,dx,a1,a2,a3,a4,h,E0,_,_,U,rfl,hM.same s2,hO,hX,hZ,hF,hN,hk,⟨t2,"bar",a,r,p,rfl,ae,rfl⟩,q.shift s2⟩
 | lift w a r p =>
  refine⟨_,rfl,t,_,_,_,rfl,rfl,SqT.of ht,rfl,?_⟩;refine⟨_,rfl,rfl,_,rfl,a9 (sne (by decide +kernel)) ?_⟩;refine⟨_,rfl,rfl,_,rfl,a9 (sne (by decide +kernel)) ?_⟩;refine⟨_,rfl,rfl,_,rfl,a9 (sne (by decide +kernel)) ⟨_,rfl,rfl,_,rfl,a9 (sne (by decide +kernel)) ?_⟩⟩;refine⟨_,rfl,rfl,_,rfl,a9 (sne (by decide +kernel)) ?_⟩;refine⟨_,rfl,rfl,_,rfl,a9 (sne (by decide +kernel)) ?_⟩;refine⟨_,rfl,rfl,_,rfl,a9 (sne (by decide +kernel)) ⟨_,rfl,rfl,_,rfl,a9 (sne (by decide +kernel)) ?_⟩⟩;refine⟨_,rfl,rfl,_,rfl,cg rfl ?_⟩;refine⟨_,rfl,x,dx,_,rfl,hM.ins,rfl,_,rfl,t,_,_,_,rfl,rfl,SqT.of ht,rfl,_,rfl,t,_,_,_,rfl,rfl,SqT.of ht,rfl,_,rfl,t,_,_,_,rfl,rfl,SqT.of ht,rfl,_,rfl,t,_,_,_,rfl,rfl,SqT.of ht,rfl,(by show 4<=sizeLine;decide),λt2 n2=>?_⟩;have s2:=aw.new n2 (.tup (bp (w,a,r,p)));exact⟨x,dx,a1,a2,a3,a4,h,E0,_,_,U,rfl,hM.same s2,hO,hX,hZ,hF,hN,hk,⟨t2,w,a,r,p,rfl,ae,rfl⟩,(q.shift s2).yes (sM h w a r p)⟩
 | ask a r p=>cases ha
 | who r p=>cases ha
theorem t8(D:bE K mg)(T:Txt mg){T0:Addr}(L:Lx K mg base w (lt T0) D.fdZ3):aF P w K mg base CX0 7 D.fZu D.fdZu ["house","deed"] (pR D.CZo (lt T0)):=by
 have GZ1:aF P w K mg base (CXo P w) 6 D.fZ1 D.fdZ1 ["house","deed"] (pQ D.CZb D.CZ5 D.CZo (lt T0)):=t7 D T L;refine D.FZu.ok vm (λvs H Q E h=>?_) (λcdv A outer s H vs Q E hr h=>?_)
 ·rcases h with⟨x,dx,a1,a2,a3,a4,h,E0,t,d,U,rfl,_⟩ | ⟨x,dx,a1,a2,a3,a4,h,E0,a,r,p,U,t,rfl,_⟩
  ·rfl
  ·rfl
 have nd:=vm.nd;have hr6:=hr;refine⟨_,
  (aj (pB rfl rfl rfl D.exZb D.exZ5 rfl D.mCZb rfl D.mCZ5 D.missRingNoPlace (λ_ _ _ hp=>(aP GZ1 hr6 rfl D.mZ1 D.FZ1.kp D.bZ1 .nil hp (aa rfl (pv 0) (aa rfl (pv 1) ai))))))
  ,?_⟩
 rcases h with⟨x,dx,a1,a2,a3,a4,h,E0,t,d,U,rfl,hM,hO,hX,hZ,hF,hN,ht,hk,ha,q⟩ | ⟨x,dx,a1,a2,a3,a4,h,E0,a,r,p,U,t,rfl,hA,ht,q⟩
 ·refine⟨_,rfl,_,rfl,.inl ⟨x,dx,a1,a2,a3,a4,h,E0,_,d,U,rfl,hM,hO,hX,hZ,hF,hN,hk,⟨t,rfl,ht,ha⟩,λH' E' sb k kp=>?_⟩⟩;have fin:=q H' E' sb k kp;cases e:(step h d).2 with
  | num n=>rw [e] at fin;exact fin
  | yes b=>rw [e] at fin;exact fin
  | txt z =>
   rw [e] at fin;exact⟨λy=>.inl ⟨rfl,by rw [<-y];exact fin⟩,λy=>.inr ⟨rfl,by rw [<-y];exact fin⟩⟩
 ·exact⟨_,rfl,_,rfl,.inr ⟨x,dx,a1,a2,a3,a4,h,E0,a,r,p,U,t,rfl,hA,ht,λhp v H' sT hT' hv=>q v H' sT hT' (.inl ⟨hp,hv⟩),λhp=>.inl ⟨rfl,q _ H (aV.refl H) hA.tab (.inr ⟨hp,rfl⟩)⟩⟩⟩
end
end G06
namespace G06
open PySem L2 G1 GH
seal PySem.wpAny
section
variable{P:Program} {w:World} {K:W.Frag} {mg:Str->Option Value} {base:Heap}
theorem yI:aI ["self","found","member","circle","rule"] ["self"] (am sYf):=⟨rfl,rfl,rfl,by decide +kernel,rfl,by decide +kernel,by decide +kernel⟩
theorem xy(D:bE K mg)(T:Txt mg):aF P w K mg base CX0 2 D.fYf D.fdYf ["self"] (wg D.CZo):=by
 have GYa:aF P w K mg base CX0 1 D.fYa D.fdYa ["self"] (wb D.CZo):=xw D T;refine D.FYf.ok yI (λvs H Q E h=>?_) (λcdv A outer s H vs Q E hr h=>?_)
 ·obtain⟨x,dx,a1,a2,a3,a4,h,E0,U,rfl,_⟩:=h;rfl
 obtain⟨x,dx,a1,a2,a3,a4,h,E0,U,rfl,hM,hO,hZ,hU,hn,q⟩:=h;have nd:=yI.nd;have hu:=cE hr;have hr1:=hr;refine⟨_,
  (ag (aH (i:=1) nd rfl (Or.inl rfl) je)
  (ag (bQ QM rfl (bi (l9 (pv 0) D.clsZo D.meYa GYa hr1 D.bYa .nil bg)) (nF rfl (d8 (bj (i:=2) nd rfl (Or.inl rfl)) (d8 (bj (i:=3) nd rfl (Or.inl rfl)) kS)))
    (ag (fw hu (pv 1) (pv 2) bw rfl)
    (aj (fw hu (pv 1) (pv 3) bw rfl))))
  (ag (bQ QM rfl (tL (bI (pv 0) rfl)) (bj (i:=4) nd rfl (Or.inl rfl))
    (aj (fw hu (pv 1) (ap ar (pv 4) (cI rfl D.gWHO.choose_spec (v:=.int 1) ⟨_,rfl⟩) (λ_ _=>rfl)) bw rfl)))
  (mO (aj (av (aG (ir rfl) (by rfl) T.sorted Vd (aa rfl (pv 1) ai))))))))
  ,?_⟩
 intro fd nfd;have s1:=aw.new nfd (.dK []);have M1:=hM.same s1;refine⟨_,rfl,x,dx,_,rfl,M1.ins,rfl,x,dx,a1,a2,a3,a4,h,E0,rfl,M1,hO,hZ,λl ls H2 s2 nl hT hperm _=>?_⟩;obtain⟨as,has,pas⟩:=hT;have fdl:fd≠l:=ao ae nl;have inl:∀ e∈ls,e.1∈U/\e.2∈U:=λe he=>⟨hn _ ((du hperm _).mp (.inl ⟨e,he,.inl rfl⟩)),hn _ ((du hperm _).mp (.inl ⟨e,he,.inr rfl⟩))⟩;refine⟨l,rfl,⟨_,SqL.of has⟩,b8 (K:=K) (xs:=as.map V.ref) (λi σ H3=>∃(ns:List Str) (v2 v3:Option V),σ=[some (.ref x),some (.ref fd),v2,v3,none]/\aw H H3/\H3 fd=some (.dK (tkv ns))/\H3 l=some (.lst (as.map V.ref))/\Paired (λ(b:Addr) (e:Str × Str)=>H3 b=some (.tup (bN e))) as ls/\ns.Nodup/\∀ y,y∈ns ↔ ∃ e∈ls.take i,y=e.1\/y=e.2)
  ⟨[],_,_,rfl,s1.trans s2,s2 _ _ ae,has,pas,UP,λy=>⟨(λz=>by cases z),(λ⟨e,he,_⟩=>by rw [Vj] at he;cases he)⟩⟩ (λi σ H3 _ ⟨_,_,_,_,_,_,z,_⟩=>SqL.of z) ?_ ?_⟩
 ·rintro i y σ H3 hy ⟨ns,v2,v3,rfl,s3,hf3,hl3,p3,hnd,hm⟩;obtain⟨b,rfl,hbi⟩:=fh hy;obtain⟨e,hei,hbt⟩:=br p3 hbi;have tk:ls.take (i+1)=ls.take i++[e]:=by rw [Q3,hei];rfl
  have sub:∀ y∈ns,y∈U:=λy hy=>by
   obtain⟨e',he',z | z⟩:=(hm y).mp hy
   ·rw [z];exact(inl e' (UB he')).1
   ·rw [z];exact(inl e' (UB he')).2
  have l12:=fk hnd hU sub;refine⟨b,_,rfl,SqT.of hbt,rfl,_,_,rfl,_,_,rfl,rfl,?_⟩;refine⟨_,rfl,_,rfl,fd,_,rfl,iH.k (k:=(Sum.inr e.1:Key)) hf3 (aB (by rw [lV];lia)),?_⟩;show(_:Prop);rw [lU];have sub2:∀ y∈j3 ns e.1,y∈U:=λy hy=>by
   rcases gV.mp hy with z | z
   ·exact sub y z
   ·rw [z];exact(inl e (QC hei)).1
  have l12':=fk (iU hnd e.1) hU sub2;refine⟨_,rfl,_,rfl,fd,_,rfl,iH.k (k:=(Sum.inr e.2:Key)) ae (aB (by rw [lV];lia)),?_⟩;show(_:Prop);rw [lU,gj];refine⟨j3 (j3 ns e.1) e.2,_,_,rfl,s3.put nfd _,ae,by rw [af fdl.symm];exact hl3,Paired.mapP p3 λc y z=>by rw [af (be z hf3 (by intro q;cases q))];exact z,iU (iU hnd _) _,λy=>?_⟩;rw [gV,gV,hm,tk];constructor
  ·rintro((⟨e',he',z⟩ | z) | z)
   ·exact⟨e',QU _ he',z⟩
   ·exact⟨e,Qy _ QJ,.inl z⟩
   ·exact⟨e,Qy _ QJ,.inr z⟩
  ·rintro⟨e',he',z⟩;rcases Qr.mp he' with he' | he'
   ·exact .inl (.inl ⟨e',he',z⟩)
   ·rw [Qo.mp he'] at z;rcases z with z | z
    ·exact .inl (.inr z)
    ·exact .inr z
 rintro σ H3 ⟨ns,v2,v3,rfl,s3,hf3,_,_,hnd,hm⟩;rw [Qc,aL pas,Q5] at hm;have M3:=hM.same s3;have fd4:fd≠a4:=(ao hM.h4 nfd).symm;have inr:∀ e∈h.rules,e.2.1∈U:=λe he=>hn _ ((du hperm _).mp (.inr ⟨e,he,rfl⟩));refine⟨_,rfl,x,_,dx,_,_,rfl,M3.ins,D.clsZo,D.narules,rfl,a4,_,rfl,M3.h4,λo as4 ka=>?_⟩;have kr:=gh ka;refine w6 (a:=a4) (o:=o) (kvs:=rkv h.rules) (as:=as4) (λi σ H4=>∃(ns':List Str) (v4:Option V),σ=[some (.ref x),some (.ref fd),v2,v3,v4]/\H4 fd=some (.dK (tkv ns'))/\H4 a4=some (.frz o (.dT (rkv h.rules)))/\(∀ b u,H b=some u->b≠a4->H4 b=some u)/\Paired (λ(b:Addr) (r:aD)=>H4 b=some (.tup (bp r))) as4 h.rules/\ns'.Nodup/\∀ y,y∈ns' ↔ y∈ns\/∃ e∈h.rules.take i,y=e.2.1)
  ⟨ns,_,rfl,by rw [af fd4];exact hf3,ae,λb u hb n=>by rw [af n];exact s3 _ _ hb,Paired.mapP kr λb r z=>by rw [af (be z M3.h4 (by intro q;cases q))];exact z,hnd,λy=>⟨.inl,λz=>z.elim id λ⟨e,he,_⟩=>by rw [Vj] at he;cases he⟩⟩ (λi σ H4 _ ⟨_,_,_,_,z,_⟩=>z) ?_ ?_
 ·rintro i b σ H4 hbi ⟨ns',v4,rfl,hf4,ha4,sm4,p4,hnd4,hm4⟩;obtain⟨e,hei,hbt⟩:=br p4 hbi;have tk:h.rules.take (i+1)=h.rules.take i++[e]:=by rw [Q3,hei];rfl
  have sub:∀ y∈ns',y∈U:=λy hy=>by
   rcases(hm4 y).mp hy with z | ⟨e',he',z⟩
   ·obtain⟨e',he',z | z⟩:=(hm y).mp z
    ·rw [z];exact(inl e' he').1
    ·rw [z];exact(inl e' he').2
   ·rw [z];exact inr e' (UB he')
  have l12:=fk hnd4 hU sub;refine⟨_,rfl,_,rfl,b,_,_,_,rfl,rfl,SqT.of hbt,rfl,fd,_,rfl,iH.k (k:=(Sum.inr e.2.1:Key)) hf4 (aB (by rw [lV];lia)),?_⟩;show(_:Prop);rw [lU];refine⟨j3 ns' e.2.1,_,rfl,ae,by rw [af fd4.symm];exact ha4,λc u hc n=>by rw [af (ao hc nfd)];exact sm4 c u hc n,Paired.mapP p4 λc y z=>by rw [af (be z hf4 (by intro q;cases q))];exact z,iU hnd4 _,λy=>?_⟩;rw [gV,hm4,tk];constructor
  ·rintro((z | ⟨e',he',z⟩) | z)
   ·exact .inl z
   ·exact .inr ⟨e',QU _ he',z⟩
   ·exact .inr ⟨e,Qy _ QJ,z⟩
  ·rintro(z | ⟨e',he',z⟩)
   ·exact .inl (.inl z)
   ·rcases Qr.mp he' with he' | he'
    ·exact .inl (.inr ⟨e',he',z⟩)
    ·rw [Qo.mp he'] at z;exact .inr z
 rintro σ H4 ⟨ns',v4,rfl,hf4,ha4,sm4,p4,hnd4,hm4⟩;rw [aL kr,Q5] at hm4;have mem:∀ y,y∈ns' ↔ y∈cy h:=λy=>by rw [hm4,hm,<-du hperm]
 have l12:=fk hnd4 hU λy hy=>hn y ((mem y).mp hy);refine⟨a4,o,.dT (rkv h.rules),ha4,?_,trivial,?_⟩
 ·intro o' v' z;have z:H a4=some (.frz o' v'):=z;rw [hM.h4] at z;cases z
 have s4:aw H (upd H4 a4 (.dT (rkv h.rules))):=λb u hb=>by
  by_cases hb4:b=a4
  ·subst hb4;rw [hM.h4] at hb;cases hb;exact ae
  ·rw [af hb4];exact sm4 b u hb hb4
 refine⟨_,rfl,fd,_,ns',rfl,.inl (by rw [af fd4];exact hf4),tM ns',by lia,λl2 ss' nl2 hp hs=>?_⟩;exact q l2 ss' _ (s4.put (s4.free nl2) _) (s4.free nl2) ae hs (hp.nodup_iff.mpr hnd4) λy=>by rw [hp.mem_iff];exact mem y
end
end G06
namespace G06
open PySem L2 G1 GH
seal PySem.wpAny
section
variable{P:Program} {w:World} {K:W.Frag} {mg:Str->Option Value} {base:Heap}
theorem yJ:aI ["self","right","place"] ["self","right","place"] (am sYj):=⟨rfl,rfl,rfl,by decide +kernel,rfl,by decide +kernel,by decide +kernel⟩
theorem xz(D:bE K mg)(T:Txt mg){T0:Addr}(L:Lx K mg base w (lt T0) D.fdZ3):aF P w K mg base (CXo P w) 5 D.fYj D.fdYj ["self","right","place"] (tN D.CZb D.CZo (lt T0)):=by
 have GYe:aF P w K mg base (CXo P w) 1 D.fYe D.fdYe ["self","place"] (jL D.CZb D.CZo):=iy D T;have GYf:aF P w K mg base CX0 2 D.fYf D.fdYf ["self"] (wg D.CZo):=xy D T;have GYd:aF P w K mg base (CXo P w) 4 D.fYd D.fdYd ["self","name","right","place"] (ow D.CZb D.CZo (lt T0)):=t6 D T L;refine okX D.FYj yJ (λvs H Q E h=>?_) (λcdv A outer s H vs Q E hr h=>?_)
 ·obtain⟨x,dx,a1,a2,a3,a4,h,E0,r,p,U,rfl,_⟩:=h;rfl
 obtain⟨x,dx,a1,a2,a3,a4,h,E0,r,p,U,rfl,hW,q1,q2⟩:=h;have nd:=yJ.nd;have hM:=hW.ak.at';have hr1:=hr.mono (by decide:1<=4);have hr2:=hr.mono (by decide:2<=4);have hr4:=hr;refine⟨_,
  (ag (aT (bn (pv 0) D.clsZo D.meYe GYe hr1 D.bYe .nil cH (aa rfl (pv 2) ai)))
  (aj (av (dL (sc:=am sYj) (N:=["self","right","place"]) (rest:=["self","right","place"]) (by decide +kernel) rfl rfl rfl (bi (l9 (pv 0) D.clsZo D.meYf GYf hr2 D.bYf .nil bg)) (λ_ _ _ _ _=>(d5 (au aZ (ap (bD (K:=K) rfl) (bn (pv 1) D.clsZo D.meYd GYd hr4 D.bYd .nil yi (aa rfl (pv 0) (aa rfl (pv 2) (aa rfl (pv 3) ai)))) ah (λ_ _=>rfl)) aq (ay _)))) (λ_ _ _ _ _=>(pv 0))))))
  ,?_⟩
 refine⟨_,rfl,x,dx,_,rfl,hM.ins,rfl,_,rfl,x,dx,a1,a2,a3,a4,h,E0,p,rfl,hM,λhp=>?_,λhp=>q2 hp⟩;have hU:U.length<=12:=hW.ak.few.1;refine⟨_,rfl,x,dx,_,rfl,hM.ins,rfl,x,dx,a1,a2,a3,a4,h,E0,U,rfl,hM,hW.ak.ok,hW.sz,hU,hW.nm,λl ns H1 s1 nl hl hs hnd hmem=>?_⟩;have l12:=fk hnd hU λy hy=>hW.nm y ((hmem y).mp hy);have tx:=hW.ak.tx;refine⟨l,rfl,⟨_,SqL.of hl⟩,cJ (K:=K) (xs:=az ns) (λi ys H2=>aV H1 H2/\cB (lt T0) H2/\ys=az ((ns.take i).filter (cX h r p.toNat))/\∀ y∈ns.take i,∃ w road places rule,ce h y r p.toNat w road places rule)
  ⟨aV.refl _,hW.ak.tab.same s1,rfl,λy hy=>by rw [Vj] at hy;cases hy⟩ (λi ys H2 _ z=>SqL.of (z.1.to _ _ hl (λ_ q=>by cases q))) ?_ ?_⟩
 ·rintro i y ys H2 hy hi ⟨s2,hT2,rfl,hex⟩;obtain⟨nm,rfl,hnm⟩:=eK hy;have tk:ns.take (i+1)=ns.take i++[nm]:=by rw [Q3,hnm];rfl
  have A2:=(hW.ak.sameT (aV.of s1) (hW.ak.tab.same s1)).sameT s2 hT2;have hlen:((ns.take i).filter (cX h r p.toNat)).length<=12:=by
   have h1:=Q2 (cX h r p.toNat) (ns.take i);rw [Q9] at h1;lia
  refine⟨_,rfl,x,dx,_,rfl,A2.at'.ins,rfl,_,rfl,_,rfl,_,rfl,x,dx,a1,a2,a3,a4,h,E0,nm,r,p,U,rfl,A2,λ_ v H3 sT3 hT3 hv=>?_,λn=>Qs hp n⟩;obtain⟨t,ro,pl,w',road,places,rule,rv,rfl,b1,b2,b3,b4,I,_,_⟩:=hv;refine⟨t,_,_,_,rfl,rfl,SqT.of b1,rfl,rfl,_,rfl,?_⟩;have eg:=kO tx I;have hex':∀ y∈ns.take (i+1),∃ w road places rule,ce h y r p.toNat w road places rule:=by
   rw [tk];exact gU hex ⟨_,_,_,_,I⟩
  by_cases c:w'="given"
  ·refine cg (QW V.str c) ⟨_,rfl,aB (by rw [ba];lia),Nx.mk hi ⟨s2.trans sT3,hT3,?_,hex'⟩⟩;rw [tk,Ug,QS,Qn (by rw [eg];exact Qh c)];unfold az;rw [Qx];rfl
  ·refine a9 (sne c) (Nx.mk hi ⟨s2.trans sT3,hT3,?_,hex'⟩);rw [tk,Ug,QS,Qf (by rw [eg,Qp c];exact Qj),List.filter_nil,Uv]
 rintro ys H2 ⟨s2,hT2,rfl,hex⟩;rw [ba,Q5] at hex ⊢;intro l2 nl2;have w1:=aw.new nl2 (.lst (az (ns.filter (cX h r p.toNat))));exact q1 hp l2 _ _ (((aV.of s1).trans s2).trans (aV.of w1)) (hT2.same w1) (s1.free (s2.fr _ nl2)) ae (tO hs hnd hmem hex) (QQ (Q2 _ _) l12)
end
end G06
namespace G06
open PySem L2 G1 GH
seal PySem.wpAny
section
variable{P:Program} {w:World} {K:W.Frag} {mg:Str->Option Value} {base:Heap}
theorem oF(D:bE K mg)(T:Txt mg){T0:Addr}(L:Lx K mg base w (lt T0) D.fdZ3):aF P w K mg base (CXo P w) 6 D.fZ1 D.fdZ1 ["house","deed"] (tP D.CZb D.CZo (lt T0)):=by
 have GYi:aF P w K mg base (CXo P w) 2 D.fYi D.fdYi ["self","parent"] d6:=dF;have GZ9:aF P w K mg base (CXo P w) 2 D.fZ9 D.fdZ9 ["self","place","parent"] d6:=dF;have GYb:aF P w K mg base (CXo P w) 2 D.fYb D.fdYb ["self","place","wanted"] d6:=dF;have GZ6:aF P w K mg base (CXo P w) 3 D.fZ6 D.fdZ6 ["self","member","circle"] d6:=dF;have GZ8:aF P w K mg base CX0 1 D.fZ8 D.fdZ8 ["self","member","circle"] d6:=dF;have GYk:aF P w K mg base (CXo P w) 2 D.fYk D.fdYk ["self","rule"] d6:=dF;have GYl:aF P w K mg base CX0 1 D.fYl D.fdYl ["self","rule"] d6:=dF;have GYd:aF P w K mg base (CXo P w) 4 D.fYd D.fdYd ["self","name","right","place"] d6:=dF;have GYj:aF P w K mg base (CXo P w) 5 D.fYj D.fdYj ["self","right","place"] (tN D.CZb D.CZo (lt T0)):=xz D T L;refine okX D.FZ1 vg (λvs H Q E h=>?_) (λcdv A outer s H vs Q E hr h=>?_)
 ·obtain⟨x,dx,a1,a2,a3,a4,h,E0,r,p,U,t,rfl,_⟩:=h;rfl
 have nd:=vg.nd;have hr1:=hr.mono (by decide:1<=5);have hr2:=hr.mono (by decide:2<=5);have hr3:=hr.mono (by decide:3<=5);have hr4:=hr.mono (by decide:4<=5);have hr5:=hr;refine⟨_,
  (ag (aH (i:=2) nd rfl (Or.inl rfl) (ap ar (pv 1) ah (λ_ _=>rfl)))
  (ag (aM (au aZ (pv 2) aq (ay _))
    (aj (av (bn (pv 0) D.clsZo D.meYi GYi hr2 D.bYi .nil cH (aa rfl (ap ar (pv 1) ah (λ_ _=>rfl)) ai))))
    ax)
  (ag (aM (au aZ (pv 2) aq (ay _))
    (aj (av (bn (pv 0) D.clsZo D.meZ9 GZ9 hr2 D.bZ9 .nil cH (aa rfl (ap ar (pv 1) ah (λ_ _=>rfl)) (aa rfl (ap ar (pv 1) ah (λ_ _=>rfl)) ai)))))
    ax)
  (ag (aM (PW.pt (cL (au aZ (pv 2) aq (ay _)) (ca (au aZ (pv 2) aq (ay _)))))
    (aj (av (bn (pv 0) D.clsZo D.meYb GYb hr2 D.bYb .nil cH (aa rfl (ap ar (pv 1) ah (λ_ _=>rfl)) (aa rfl (bX aZ (pv 2) aq (ay _)) ai)))))
    ax)
  (ag (aM (au aZ (pv 2) aq (ay _))
    (aj (av (bn (pv 0) D.clsZo D.meZ6 GZ6 hr3 D.bZ6 .nil cH (aa rfl (ap ar (pv 1) ah (λ_ _=>rfl)) (aa rfl (ap ar (pv 1) ah (λ_ _=>rfl)) ai)))))
    ax)
  (ag (aM (au aZ (pv 2) aq (ay _))
    (aj (av (bn (pv 0) D.clsZo D.meZ8 GZ8 hr1 D.bZ8 .nil bg (aa rfl (ap ar (pv 1) ah (λ_ _=>rfl)) (aa rfl (ap ar (pv 1) ah (λ_ _=>rfl)) ai)))))
    ax)
  (ag (aM (PW.pt (cL (au aZ (pv 2) aq (ay _)) (ca (au aZ (pv 2) aq (ay _)))))
    (aj (av (bn (pv 0) D.clsZo D.meYk GYk hr2 D.bYk .nil cH (aa rfl (bJ (aa rfl (pv 2) (aa rfl (ap ar (pv 1) ah (λ_ _=>rfl)) (aa rfl (ap ar (pv 1) ah (λ_ _=>rfl)) (aa rfl (ap ar (pv 1) ah (λ_ _=>rfl)) ai))))) ai))))
    ax)
  (ag (aM (au aZ (pv 2) aq (ay _))
    (aj (av (bn (pv 0) D.clsZo D.meYl GYl hr1 D.bYl .nil bg (aa rfl (bJ (aa rfl (ap ar (pv 1) ah (λ_ _=>rfl)) (aa rfl (ap ar (pv 1) ah (λ_ _=>rfl)) (aa rfl (ap ar (pv 1) ah (λ_ _=>rfl)) (aa rfl (ap ar (pv 1) ah (λ_ _=>rfl)) ai))))) ai))))
    ax)
  (ag (aM (au aZ (pv 2) aq (ay _))
    (aj (av (bn (pv 0) D.clsZo D.meYd GYd hr4 D.bYd .nil cH (aa rfl (ap ar (pv 1) ah (λ_ _=>rfl)) (aa rfl (ap ar (pv 1) ah (λ_ _=>rfl)) (aa rfl (ap ar (pv 1) ah (λ_ _=>rfl)) ai))))))
    ax)
  (aj (av (bn (pv 0) D.clsZo D.meYj GYj hr5 D.bYj .nil cH (aa rfl (ap ar (pv 1) ah (λ_ _=>rfl)) (aa rfl (ap ar (pv 1) ah (λ_ _=>rfl)) ai))))))))))))))
  ,?_⟩
 obtain⟨x,dx,a1,a2,a3,a4,h,E0,r,p,U,t,rfl,hW,ht,q1,q2⟩:=h;refine⟨_,rfl,t,_,_,_,rfl,rfl,SqT.of ht,rfl,?_⟩;refine⟨_,rfl,rfl,_,rfl,a9 (sne (by decide +kernel)) ?_⟩;refine⟨_,rfl,rfl,_,rfl,a9 (sne (by decide +kernel)) ?_⟩;refine⟨_,rfl,rfl,_,rfl,a9 (sne (by decide +kernel)) ⟨_,rfl,rfl,_,rfl,a9 (sne (by decide +kernel)) ?_⟩⟩;refine⟨_,rfl,rfl,_,rfl,a9 (sne (by decide +kernel)) ?_⟩;refine⟨_,rfl,rfl,_,rfl,a9 (sne (by decide +kernel)) ?_⟩;refine⟨_,rfl,rfl,_,rfl,a9 (sne (by decide +kernel)) ⟨_,rfl,rfl,_,rfl,a9 (sne (by decide +kernel)) ?_⟩⟩;refine⟨_,rfl,rfl,_,rfl,a9 (sne (by decide +kernel)) ?_⟩;refine⟨_,rfl,rfl,_,rfl,a9 (sne (by decide +kernel)) ?_⟩;exact⟨_,rfl,x,dx,_,rfl,hW.ak.at'.ins,rfl,_,rfl,t,_,_,_,rfl,rfl,SqT.of ht,rfl,_,rfl,t,_,_,_,rfl,rfl,SqT.of ht,rfl,x,dx,a1,a2,a3,a4,h,E0,r,p,U,rfl,hW,q1,q2⟩
theorem oG(D:bE K mg)(T:Txt mg){T0:Addr}(L:Lx K mg base w (lt T0) D.fdZ3):aF P w K mg base CX0 7 D.fZu D.fdZu ["house","deed"] (tQ D.CZo (lt T0)):=by
 have GZ1:aF P w K mg base (CXo P w) 6 D.fZ1 D.fdZ1 ["house","deed"] (tP D.CZb D.CZo (lt T0)):=oF D T L;refine D.FZu.ok vm (λvs H Q E h=>?_) (λcdv A outer s H vs Q E hr h=>?_)
 ·obtain⟨x,dx,a1,a2,a3,a4,h,E0,r,p,U,t,rfl,_⟩:=h;rfl
 have nd:=vm.nd;have hr6:=hr;refine⟨_,
  (aj (pB rfl rfl rfl D.exZb D.exZ5 rfl D.mCZb rfl D.mCZ5 D.missRingNoPlace (λ_ _ _ hp=>(aP GZ1 hr6 rfl D.mZ1 D.FZ1.kp D.bZ1 .nil hp (aa rfl (pv 0) (aa rfl (pv 1) ai))))))
  ,?_⟩
 obtain⟨x,dx,a1,a2,a3,a4,h,E0,r,p,U,t,rfl,hW,ht,q⟩:=h;exact⟨_,rfl,_,rfl,x,dx,a1,a2,a3,a4,h,E0,r,p,U,t,rfl,hW,ht,λhp l ns H' sT hT' nl hl hw _=>q (.ref l) H' sT hT' (.inl ⟨hp,l,ns,rfl,nl,hl,hw⟩),λhp=>.inl ⟨rfl,q _ H (aV.refl H) hW.ak.tab (.inr ⟨hp,rfl⟩)⟩⟩
end
end G06
namespace G06
open PySem L2 G1 GH
seal PySem.wpAny
section
variable{P:Program} {w:World} {K:W.Frag} {mg:Str->Option Value} {base:Heap}
theorem yK:aI ["deeds","house","found","deed"] ["deeds"] (am sZc):=⟨rfl,rfl,rfl,by decide +kernel,rfl,by decide +kernel,by decide +kernel⟩
theorem ny(D:bE K mg)(T:Txt mg){T0:Addr}(L:Lx K mg base w (lt T0) D.fdZ3):aF P w K mg base CX0 8 D.fZc D.fdZc ["deeds"] (jP (lt T0)):=by
 have GZ4:aF P w K mg base CX0 1 D.fZ4 D.fdZ4 ["self"] (sQ D.CZo):=vf D;have GZu:aF P w K mg base CX0 7 D.fZu D.fdZu ["house","deed"] (λvs H Q E=>pR D.CZo (lt T0) vs H Q E\/tQ D.CZo (lt T0) vs H Q E):=zK (t8 D T L) (oG D T L);refine D.FZc.ok yK (λvs H Q E h=>?_) (λcdv A outer s H vs Q E hr h=>?_)
 ·obtain⟨p,ds,U,rfl,_⟩:=h;rfl
 obtain⟨p,ds,U,rfl,hd,hT,q⟩:=h;have nd:=yK.nd;have hr2:=hr.mono (by decide:2<=7);have hr7:=hr;refine⟨_,
  (ag (aH (i:=1) nd rfl (Or.inl rfl) (q5 D.mkZo GZ4 hr2 rfl D.mCZo D.bZ4 .nil bg))
  (ag (aH (i:=2) nd rfl (Or.inl rfl) (aU ai))
  (ag (bQ QM rfl (bi (pv 0)) (bj (i:=3) nd rfl (Or.inl rfl))
    (aj (aT (bR Qw QG QF bf (pv 2) (aa rfl (aP GZu hr7 rfl D.mZu D.FZu.kp D.bZu .nil bg (aa rfl (pv 1) (aa rfl (pv 3) ai))) ai)))))
  (aj (av (pv 2))))))
  ,?_⟩
 refine λx dx nx ndx ne=>⟨x,dx,rfl,ae,λa1 a2 a3 a4 H1 sb1 n1 n2 n3 n4 M1=>⟨rfl,?_⟩⟩;have old:∀{b:Addr},(upd (upd H dx (.own x)) x (.ins D.CZo dx [])) b=none->H b=none:=λ{b} hb=>by
  have bx:b≠x:=λz=>by rw [z,ae] at hb;cases hb
  rw [af bx] at hb;have bd:b≠dx:=λz=>by rw [z,ae] at hb;cases hb
  rw [af bd] at hb;exact hb
 have s1:aw H H1:=λb u hb=>sb1 b u (by rw [af (ao hb nx),af (ao hb ndx)];exact hb) (by simpa using ao hb nx);refine⟨(by show 0<=sizeLine;decide),λr nr=>?_⟩;have s2:=s1.put (s1.free nr) (.lst []);have M2:=M1.same (aw.new nr (.lst []));obtain⟨as,has,pas⟩:=hd.tups;have hlen:as.length=ds.length:=aL pas;have sz0:∀ i,Sz (GH.run bb (ds.take i)) 90:=λi=>by
  rw [fj];refine(Sz.new.run _).mono ?_;have h1:=hd.acts;have h2:((ds.take i).filter λd=>!d.asks).length<=(ds.filter λd=>!d.asks).length:=((VC i ds).filter _).length_le;lia
 refine⟨_,rfl,p,rfl,⟨_,SqL.of (s2 _ _ has)⟩,b8 (K:=K) (xs:=as.map V.ref) (λi σ H3=>∃(v3:Option V) (E0:List Row) (outs:List V),σ=[some (.ref p),some (.ref x),some (.ref r),v3]/\aV H H3/\cB (lt T0) H3/\PAt H3 D.CZo x dx a1 a2 a3 a4 (GH.run bb (ds.take i)) E0 /\
   H3 r=some (.lst outs)/\outs.length=i/\(∀(j:Nat) (d:aA) (v:V),ds[j]?=some d->outs[j]?=some v->iK H (r :: own a1 a2 a3 a4 E0) H3 (GH.run bb (ds.take j)) v d)/\(∀ b∈own a1 a2 a3 a4 E0,H b=none)/\(¬ r∈own a1 a2 a3 a4 E0)/\∀ e∈E0,e.1∈U)
  ⟨none,[],[],rfl,aV.of s2,cB.same hT s2,M2,ae,rfl,λj d v _ z=>Qs z (by simp),λb hb=>?_,M1.notown nr,λe he=>Qs he (by simp)⟩ (λi σ H3 _ ⟨_,_,_,_,s3,_⟩=>SqL.of (s3 _ _ has λps z=>by cases z)) ?_ ?_⟩
 ·simp only [own,List.map_nil,Qi,UM,or_false] at hb;rcases hb with e | e | e | e
  ·rw [e];exact old n1
  ·rw [e];exact old n2
  ·rw [e];exact old n3
  ·rw [e];exact old n4
 ·rintro i y σ H3 hy ⟨v3,E0,outs,rfl,s3,hT3,M3,hr3,hol,ho,hn,hrn,hU⟩;obtain⟨t,rfl,hti⟩:=fh hy;obtain⟨d,hdi,htd⟩:=br pas hti;have hdm:=QC hdi;have hil:i < ds.length:=(Qb.mp hdi).1;have hfew:=hd.few;have tk:ds.take (i+1)=ds.take i++[d]:=by rw [Q3,hdi];rfl
  have sub:∀ d'∈ds.take i,d'∈ds:=λd' h'=>UB h';have ht3:=s3 _ _ htd λps z=>by cases z
  have nr0:H r=none:=s1.free nr;have hFew:Few (GH.run bb (ds.take i)) E0 U:=⟨hd.unames,lL λd' h'=>hd.names d' (sub d' h'),hU⟩;have hTx:cG (GH.run bb (ds.take i)):=cG.new.run λd' h'=>hd.ok d' (sub d' h');have outs_get:∀{H4:Hp} {S:List Addr} {v:V},(∀(j:Nat) (d':aA) (v':V),ds[j]?=some d'->outs[j]?=some v'->iK H S H4 (GH.run bb (ds.take j)) v' d')->iK H S H4 (GH.run bb (ds.take i)) v d ->
    ∀(j:Nat) (d':aA) (v':V),ds[j]?=some d'->(outs++[v])[j]?=some v'->iK H S H4 (GH.run bb (ds.take j)) v' d':=λ{H4 S v} ha hv j d' v' h1 h2=>by
   by_cases hj:j < i
   ·rw [Q8 (by lia)] at h2;exact ha j d' v' h1 h2
   ·have hjl:=(Qb.mp h2).1;rw [Ql,hol,Qz] at hjl;have e:j=i:=by lia
    subst e;rw [hdi] at h1;cases h1;rw [List.getElem?_append_right (by lia),hol,Nat.sub_self] at h2;cases (Qt h2);exact hv
  cases hask:d.asks with
  | false =>
   refine⟨_,rfl,.inl ⟨rfl,_,SqL.of hr3⟩,_,rfl,_,rfl,.inl (.inl ⟨x,dx,a1,a2,a3,a4,_,E0,t,d,U,rfl,M3,cA.new.run _,hTx,sz0 i,hFew,hd.names d hdm,ht3,hd.ok d hdm,hask,λH4 E4 sb4 M4 kp=>?_⟩)⟩;have hr4:H4 r=some (.lst outs):=sb4 _ _ hr3 hrn;refine⟨r,_,_,rfl,rfl,hr4,aB (by lia),?_⟩;have rn4:¬ r∈own a1 a2 a3 a4 E4:=pS kp hr3 hrn;have on4:∀ b∈own a1 a2 a3 a4 E4,H b=none:=λb hb=>by
    rcases tG kp hb with z | z
    ·exact hn b z
    ·exact s3.fr _ z
   have sb3:aV H H4:=Sb.sameT s3 sb4 hn;have hT4:cB (lt T0) H4:=by
    rcases hT3 with z | ⟨c,z1,z2⟩
    ·exact .inl (sb4 _ _ z (M3.notmut z (λ_ q=>by cases q) (λ_ q=>by cases q) λ_ q=>by cases q))
    ·exact .inr ⟨c,sb4 _ _ z1 (M3.notmut z1 (λ_ q=>by cases q) (λ_ q=>by cases q) λ_ q=>by cases q),sb4 _ _ z2 (M3.notmut z2 (λ_ q=>by cases q) (λ_ q=>by cases q) λ_ q=>by cases q)⟩
   have r_new:∀{b:Addr} {o:HO},H4 b=some o->b≠r->(upd H4 r (.lst (outs++[ly (step (GH.run bb (ds.take i)) d).2]))) b=some o:=λhb n=>by rw [af n];exact hb
   refine⟨_,E4,outs++[_],rfl,?_,?_,?_,ae,by rw [Ql,hol];rfl,outs_get (λj d' v' h1 h2=>(ho j d' v' h1 h2).keep (λb xs hb nb=>?_) λb xs hb=>?_) (iK.plain rfl hask),on4,rn4,λe he=>(kp e he).2⟩
   ·exact⟨λb o hb n=>r_new (sb3 b o hb n) (ao hb nr0),λb hb=>sb3.fr b (by
     by_cases e:b=r
     ·rw [e,ae] at hb;cases hb
     ·rw [af e] at hb;exact hb)⟩
   ·exact cB.off hT4 hr4
   ·rw [tk,dO];exact M4.off hr4 rn4
   ·have n1:b≠r:=λz=>nb (by rw [z];exact QJ);have n2:¬ b∈own a1 a2 a3 a4 E0:=λz=>nb (QA _ z);refine⟨r_new (sb4 _ _ hb n2) n1,λz=>?_⟩;rcases Qi.mp z with z | z
    ·exact n1 z
    ·exact pS kp hb n2 z
   ·exact r_new (sb4 _ _ hb (M3.nottup hb)) (be hb hr3 (by intro z;cases z))
  | true =>
   cases d with
   | ask a q' p' =>
    refine⟨_,rfl,.inl ⟨rfl,_,SqL.of hr3⟩,_,rfl,_,rfl,.inl (.inr ⟨x,dx,a1,a2,a3,a4,_,E0,a,q',p',U,t,rfl,⟨M3,cA.new.run _,hTx,sz0 i,hFew,hT3⟩,ht3,λv H4 sT hT4 hv=>?_⟩)⟩;have keep:∀{b:Addr} {xs:List V},H3 b=some (.lst xs)->H4 b=some (.lst xs):=λhb=>sT _ _ hb λps z=>by cases z
    have hr4:=keep hr3;have M4:PAt H4 D.CZo x dx a1 a2 a3 a4 (GH.run bb (ds.take i)) E0:=M3.sameT sT;refine⟨r,_,_,rfl,rfl,hr4,aB (by lia),?_⟩;have r_new:∀{b:Addr} {o:HO},H4 b=some o->b≠r->(upd H4 r (.lst (outs++[v]))) b=some o:=λhb n=>by rw [af n];exact hb
    have kt:∀ b xs,H3 b=some (.tup xs)->(upd H4 r (.lst (outs++[v]))) b=some (.tup xs):=λb xs hb=>r_new (sT _ _ hb λps z=>by cases z) (be hb hr3 (by intro z;cases z));refine⟨_,E0,outs++[v],rfl,?_,?_,?_,ae,by rw [Ql,hol];rfl,outs_get (λj d' v' h1 h2=>(ho j d' v' h1 h2).keep (λb xs hb nb=>⟨r_new (keep hb) λz=>nb (by rw [z];exact QJ),nb⟩) kt) ?_,hn,hrn,hU⟩
    ·exact⟨λb o hb n=>r_new (sT _ _ (s3 b o hb n) n) (ao hb nr0),λb hb=>s3.fr b (sT.fr b (by
      by_cases e:b=r
      ·rw [e,ae] at hb;cases hb
      ·rw [af e] at hb;exact hb))⟩
    ·exact cB.off hT4 hr4
    ·rw [tk,dO];exact M4.off hr4 hrn
    ·rcases hv with⟨hp',t',ro,pl,w',road,places,rule,rv,e1,e2,e3,e4,e5,e6,e7,e8⟩ | hv
     ·have fresh:∀{b:Addr} {xs:List V},H3 b=none->H4 b=some (.lst xs)->(upd H4 r (.lst (outs++[v]))) b=some (.lst xs)/\¬ b∈r :: own a1 a2 a3 a4 E0:=λhb h4=>by
       have n1:=(ao hr3 hb).symm;refine⟨r_new h4 n1,λz=>?_⟩;rcases Qi.mp z with z | z
       ·exact n1 z
       ·exact M3.notown hb z
      refine .inl ⟨hp',t',ro,pl,w',road,places,rule,rv,e1,r_new e2 (be e2 hr4 (by intro z;cases z)),(fresh e7 e3).1,(fresh e8 e4).1,?_,e6,⟨(fresh e7 e3).2,s3.fr _ e7⟩,⟨(fresh e8 e4).2,s3.fr _ e8⟩⟩;cases rule with
      | none=>exact e5
      | some e=>obtain⟨b,f1,f2⟩:=e5;exact⟨b,f1,r_new f2 (be f2 hr4 (by intro z;cases z))⟩
     ·exact .inr hv
   | who r' p' =>
    have sz63:Sz (GH.run bb (ds.take i)) 63:=by
     rw [fj];refine(Sz.new.run _).mono ?_;have h1:=hd.acts;have h2:((ds.take i).filter λd=>!d.asks).length<=(ds.filter λd=>!d.asks).length:=((VC i ds).filter _).length_le;lia
    refine⟨_,rfl,.inl ⟨rfl,_,SqL.of hr3⟩,_,rfl,_,rfl,.inr ⟨x,dx,a1,a2,a3,a4,_,E0,r',p',U,t,rfl,⟨⟨M3,cA.new.run _,hTx,sz0 i,hFew,hT3⟩,kP λd' h'=>hd.names d' (sub d' h'),sz63⟩,ht3,λv H4 sT hT4 hv=>?_⟩⟩;have keep:∀{b:Addr} {xs:List V},H3 b=some (.lst xs)->H4 b=some (.lst xs):=λhb=>sT _ _ hb λps z=>by cases z
    have hr4:=keep hr3;have M4:PAt H4 D.CZo x dx a1 a2 a3 a4 (GH.run bb (ds.take i)) E0:=M3.sameT sT;refine⟨r,_,_,rfl,rfl,hr4,aB (by lia),?_⟩;have r_new:∀{b:Addr} {o:HO},H4 b=some o->b≠r->(upd H4 r (.lst (outs++[v]))) b=some o:=λhb n=>by rw [af n];exact hb
    have kt:∀ b xs,H3 b=some (.tup xs)->(upd H4 r (.lst (outs++[v]))) b=some (.tup xs):=λb xs hb=>r_new (sT _ _ hb λps z=>by cases z) (be hb hr3 (by intro z;cases z));refine⟨_,E0,outs++[v],rfl,?_,?_,?_,ae,by rw [Ql,hol];rfl,outs_get (λj d' v' h1 h2=>(ho j d' v' h1 h2).keep (λb xs hb nb=>⟨r_new (keep hb) λz=>nb (by rw [z];exact QJ),nb⟩) kt) ?_,hn,hrn,hU⟩
    ·exact⟨λb o hb n=>r_new (sT _ _ (s3 b o hb n) n) (ao hb nr0),λb hb=>s3.fr b (sT.fr b (by
      by_cases e:b=r
      ·rw [e,ae] at hb;cases hb
      ·rw [af e] at hb;exact hb))⟩
    ·exact cB.off hT4 hr4
    ·rw [tk,dO];exact M4.off hr4 hrn
    ·rcases hv with⟨hp',l',ns',e1,e2,e3,e4⟩ | hv
     ·have n1:=(ao hr3 e2).symm;refine .inl ⟨hp',l',ns',e1,r_new e3 n1,e4,λz=>?_⟩;rcases Qi.mp z with z | z
      ·exact n1 z
      ·exact M3.notown e2 z
     ·exact .inr hv
   | _=>cases hask
 ·rintro σ H3 ⟨v3,E0,outs,rfl,s3,hT3,M3,hr3,hol,ho,hn,hrn,hU⟩;rw [Qc,hlen] at hol;refine⟨_,rfl,q r outs H3 s3 hT3 (s1.free nr) hr3 hol (λi d v h1 h2=>(ho i d v h1 h2).out)⟩
end
end G06
namespace G06
open PySem L2 G1 GH
seal PySem.wpAny
section
variable{P:Program} {w:World} {K:W.Frag} {mg:Str->Option Value} {base:Heap}
theorem zQ:aI [] [] (am sYc):=⟨rfl,rfl,rfl,by decide +kernel,rfl,by decide +kernel,by decide +kernel⟩
theorem xA(D:bE K mg):aF P w K mg base CX0 1 D.fYc D.fdYc [] vY:=by
 refine D.FYc.ok zQ (λvs H Q E h=>?_) (λcdv A outer s H vs Q E hr h=>?_)
 ·obtain⟨rfl,_⟩:=h;rfl
 obtain⟨rfl,q⟩:=h;refine⟨_,
  (aj (av (k7 (eB aq (aU (aa rfl nE ai)) (eB aq (aU (aa rfl bw ai)) (eB aq (aU ai) (eB aq (aU ai) k6)))) rfl rfl (by simp) (by decide))))
  ,?_⟩
 intro m nm;have sm:=aw.new nm (.dK []);refine⟨(by show 1<=sizeLine;decide),λa1 n1=>⟨(by show 1<=sizeLine;decide),λa2 n2=>⟨(by show 0<=sizeLine;decide),λa3 n3=>⟨(by show 0<=sizeLine;decide),λa4 n4=>?_⟩⟩⟩⟩;have nm1:m≠a1:=ao ae n1;have s1:=sm.put (sm.free n1) (.lst [.non]);have s2:=s1.put (s1.free n2) (.lst [.bl false]);have s3:=s2.put (s2.free n3) (.lst []);have s4:=s3.put (s3.free n4) (.lst []);have e1:(upd (upd H m (.dK [])) a1 (.lst [.non])) a1=some (.lst [.non]):=ae;have n12:a1≠a2:=ao e1 n2;have e1':(upd (upd (upd H m (.dK [])) a1 (.lst [.non])) a2 (.lst [.bl false])) a1=some (.lst [.non]):=by rw [af n12];exact e1
 have n13:a1≠a3:=ao e1' n3;have n23:a2≠a3:=ao ae n3;have e1'':(upd (upd (upd (upd H m (.dK [])) a1 (.lst [.non])) a2 (.lst [.bl false])) a3 (.lst [])) a1=some (.lst [.non]):=by rw [af n13];exact e1'
 have e2'':(upd (upd (upd (upd H m (.dK [])) a1 (.lst [.non])) a2 (.lst [.bl false])) a3 (.lst [])) a2=some (.lst [.bl false]):=by rw [af n23];exact ae
 have n14:a1≠a4:=ao e1'' n4;have n24:a2≠a4:=ao e2'' n4;have n34:a3≠a4:=ao ae n4;have hm0:(upd (upd H m (.dK [])) a1 (.lst [.non])) m=some (.dK []):=by rw [af nm1];exact ae
 have nm2:m≠a2:=ao hm0 n2;have hm1:(upd (upd (upd H m (.dK [])) a1 (.lst [.non])) a2 (.lst [.bl false])) m=some (.dK []):=by rw [af nm2];exact hm0
 have nm3:m≠a3:=ao hm1 n3;have hm2:(upd (upd (upd (upd H m (.dK [])) a1 (.lst [.non])) a2 (.lst [.bl false])) a3 (.lst [])) m=some (.dK []):=by rw [af nm3];exact hm1
 have nm4:m≠a4:=ao hm2 n4;refine⟨by rw [af nm4];exact hm2,mkv a1 a2 a3 a4,rfl,(by show 4<=15;decide),?_⟩;refine q m a1 a2 a3 a4 _ (s4.put nm _) nm (sm.free n1) (s1.free n2) (s2.free n3) (s3.free n4) ⟨ae,?_,?_,⟨[],?_,.nil⟩,⟨[],?_,.nil⟩,n12,n13,n14,n23,n24,n34⟩
 ·rw [af nm1.symm,af n14];exact e1''
 ·rw [af nm2.symm,af n24];exact e2''
 ·rw [af nm3.symm,af n34];exact ae
 ·rw [af nm4.symm];exact ae
theorem yL:aI ["_law_links","_law_name","_law_far","_law_steps","_law_fresh","_law_later","_law_pair"] ["_law_links","_law_name"] (am sZf):=⟨rfl,rfl,rfl,by decide +kernel,rfl,by decide +kernel,by decide +kernel⟩
theorem iz(D:bE K mg)(T:Txt mg):aF P w K mg base CX0 1 D.fZf D.fdZf ["_law_links","_law_name"] gL:=by
 refine D.FZf.ok yL (λvs H Q E h=>?_) (λcdv A outer s0 H vs Q E0 hr h=>?_)
 ·obtain⟨p,ps,s,rfl,_⟩:=h;rfl
 obtain⟨p,ps,s,rfl,hP,hl,q⟩:=h;have nd:=yL.nd;have hu:=cE hr;refine⟨_,
  (ag (aH (i:=2) nd rfl (Or.inl rfl) (k7 (eB (pv 1) ah k6) rfl rfl (by simp) (by decide)))
  (ag (aH (i:=3) nd rfl (Or.inl rfl) ah)
  (ag (aH (i:=4) nd rfl (Or.inl rfl) (aU (aa rfl (pv 1) ai)))
  (ag (dI QM (au qU (aG aJ (by rfl) T.len QT (aa rfl (pv 4) ai)) ah (ay _))
    (ag (aH (i:=3) nd rfl (Or.inl rfl) (aO eR (pv 3) ah))
    (ag (aH (i:=5) nd rfl (Or.inl rfl) (aU ai))
    (ag (bQ QM rfl (bi (pv 0)) (bj (i:=6) nd rfl (Or.inl rfl))
      (aj (aM (PW.pt (dZ (au dG (ap ar (pv 6) ah (λ_ _=>rfl)) (pv 4) (by rfl)) (dC (c9 (hJ hu (ap ar (pv 6) ah (λ_ _=>rfl)) (pv 2))))))
        (ag (fw hu (pv 2) (ap ar (pv 6) ah (λ_ _=>rfl)) (pv 3) rfl)
        (aj (aT (bR Qw QG QF bf (pv 5) (aa rfl (ap ar (pv 6) ah (λ_ _=>rfl)) ai)))))
        ax)))
    (aj (aH (i:=4) nd rfl (Or.inl rfl) (pv 5)))))))
  (aj (av (pv 2)))))))
  ,?_⟩
 obtain⟨as,hp,hpair⟩:=hP;have hasl:as.length=ps.length:=aL hpair;intro fdr nfd;refine⟨_,rfl,ae,[((Sum.inr s:Key),V.int (0:Nat))],rfl,(by show 1<=15;decide),?_⟩;refine⟨_,rfl,(by show 1<=sizeLine;decide),λff nff=>?_⟩;have fdff:fdr≠ff:=ao ae nff;have nff':H ff=none:=by rw [af fdff.symm,af fdff.symm] at nff;exact nff
 let W:Nat->St->Hp->Prop:=λm σ H1=>∃(B:List (Str × Nat)) (F:List Str) (t:Nat) (ff:Addr) (v5 v6:Option V),m=2 * (102 - B.length)+(if F=[] then 0 else 1) /\
  σ=[some (.ref p),some (.str s),some (.ref fdr),some (.int (t:Nat)),some (.ref ff),v5,v6]/\aw H H1/\H1 fdr=some (.dK (bkv B))/\H1 ff=some (.lst (az F))/\Lev ps s B F t/\F.length<=101
 refine⟨W,⟨_,[(s,0)],[s],0,ff,none,none,rfl,rfl,(((aw.new nfd _).put nfd _).put nff' _),by rw [af fdff];exact ae,ae,Lev.start ps s,by simp⟩,?_⟩;rintro m σ H1 ⟨B,F,t,ff,v5,v6,rfl,rfl,sm,hfd,hff,lv,hFl⟩;have hB:=uJ lv;refine⟨_,rfl,ff,_,rfl,.inl (SqL.of hff),_,_,rfl,rfl,_,rfl,?_⟩;have eF:((az F).length:Int)=(F.length:Int):=by rw [ba]
 by_cases hF:F=[]
 ·have e1:(decide ((0:Int) < ((az F).length:Int)))=false:=by rw [eF,hF];decide
  refine cF (λz=>Qs (e1.symm.trans z) Qj) (λ_=>?_);refine⟨_,rfl,q fdr B t H1 sm nfd hfd (by lia) ?_⟩;rw [hF] at lv;exact lv
 ·have hFp:0 < F.length:=Va.mpr hF;have e1:(decide ((0:Int) < ((az F).length:Int)))=true:=by rw [eF];exact Qh (by lia)
  refine cF (λ_=>?_) (λz=>Qs e1 z);rw [Qf hF];refine⟨λσ' H'=>∃ m',m' < 2 * (102 - B.length)+1/\W m' σ' H',λ_ _ h=>h,?_⟩;refine⟨_,rfl,_,_,rfl,rfl,?_⟩;refine⟨(by show 0<=sizeLine;decide),λfl nfl=>?_⟩;have nfl':H fl=none:=sm.free nfl;have flff:ff≠fl:=ao hff nfl;have flfd:fdr≠fl:=ao hfd nfl;have fffd:ff≠fdr:=be hff hfd (by intro z;cases z);have sm1:=sm.put nfl' (.lst []);refine⟨_,rfl,p,rfl,⟨_,SqL.of (sm1 _ _ hp)⟩,b8 (K:=K) (xs:=as.map V.ref) (λj σ H2=>∃(B':List (Str × Nat)) (G:List Str) (v6:Option V),σ=[some (.ref p),some (.str s),some (.ref fdr),some (.int ((t:Int)+1)),some (.ref ff),some (.ref fl),v6] /\
    aw H H2/\H2 fdr=some (.dK (bkv B'))/\H2 ff=some (.lst (az F))/\H2 fl=some (.lst (az G))/\jv ps s B' F t (ps.take j) G/\B'.length=B.length+G.length)
   ⟨B,[],_,rfl,sm1,by rw [af flfd];exact hfd,by rw [af flff];exact hff,ae,lv.mid,by simp⟩ (λj σ H2 _ ⟨_,_,_,_,s2,_⟩=>SqL.of (s2 _ _ hp)) ?_ ?_⟩
  ·rintro j y σ H2 hy ⟨B',G,v6,rfl,s2,hfd2,hff2,hfl2,md,hBG⟩;obtain⟨a,rfl,ha⟩:∃ a,y=.ref a/\as[j]?=some a:=by
    rw [Qq] at hy;cases z:as[j]? with
    | none=>rw [z] at hy;cases hy
    | some a=>rw [z] at hy;exact⟨a,(Qt hy).symm,rfl⟩
   obtain⟨⟨x1,x2⟩,hpj,hta⟩:=br hpair ha;have hta:H a=some (.tup [.str x1,.str x2]):=hta;have hta2:=s2 _ _ hta;have hB':=pe md;have tk:ps.take (j+1)=ps.take j++[(x1,x2)]:=by rw [Q3,hpj];rfl
   refine⟨_,rfl,a,_,_,_,rfl,rfl,SqT.of hta2,rfl,_,rfl,ff,_,rfl,.inl (SqL.of hff2),rfl,cM _,_,rfl,?_⟩;have e2:(if false=true then !inV (V.str x1) (az F) else inV (V.str x1) (az F))=decide (x1∈F):=by rw [Qf Qj,dW]
   by_cases hx1:x1∈F
   ·refine cF (λ_=>?_) (λz=>Qs (e2.trans (Qh hx1)) z);refine⟨_,rfl,a,_,_,_,rfl,rfl,SqT.of hta2,rfl,_,rfl,fdr,_,rfl,bG.k (k:=(Sum.inr x2:Key)) hfd2,_,rfl,?_⟩;by_cases hx2:x2∈B'.map (·.1)
    ·obtain⟨⟨z,d⟩,hz,rfl⟩:=Qg.mp hx2;rw [eM md.nd hz];refine bt ?_;refine⟨B',G,_,rfl,s2,hfd2,hff2,hfl2,?_,hBG⟩;rw [tk];exact md.skip (.inr hx2)
    ·rw [eL hx2];refine bM ?_;refine⟨_,rfl,_,rfl,_,rfl,a,_,_,_,rfl,rfl,SqT.of hta2,rfl,fdr,_,rfl,iH.k (k:=(Sum.inr x2:Key)) hfd2 (aB (by rw [uI];lia)),?_⟩;have s3:=s2.put nfd (.dK (cR (bkv B') (Sum.inr x2:Key) (V.int ((t:Int)+1))));have hfl3:(upd H2 fdr (.dK (cR (bkv B') (Sum.inr x2:Key) (V.int ((t:Int)+1))))) fl=some (.lst (az G)):=by rw [af flfd.symm];exact hfl2
     refine⟨_,rfl,.inl ⟨rfl,_,SqL.of hfl3⟩,_,rfl,a,_,_,_,rfl,rfl,SqT.of (s3 _ _ hta),rfl,fl,_,_,rfl,rfl,hfl3,aB (by rw [ba];lia),?_⟩;refine⟨B'++[(x2,t+1)],G++[x2],_,rfl,s3.put nfl' _,?_,?_,?_,?_,?_⟩
     ·rw [af flfd,ae,eu _ (eL hx2),rT];rfl
     ·rw [af flff,af fffd];exact hff2
     ·rw [ae,cr]
     ·rw [tk];exact md.add (QC hpj) hx1 hx2
     ·simp only [Ql,Qz];lia
   ·refine cF (λz=>Qs (e2.symm.trans z) (by rw [Qp hx1];exact Qj)) (λ_=>bt ?_);refine⟨B',G,_,rfl,s2,hfd2,hff2,hfl2,?_,hBG⟩;rw [tk];exact md.skip (.inl hx1)
  ·rintro σ H2 ⟨B',G,v6,rfl,s2,hfd2,hff2,hfl2,md,hBG⟩;rw [Qc,hasl,Q5] at md;have hB':=pe md;refine⟨_,rfl,2 * (102 - B'.length)+(if G=[] then 0 else 1),?_,B',G,t+1,fl,_,_,rfl,rfl,s2,hfd2,hfl2,md.next,by lia⟩;by_cases hG:G=[]
   ·rw [Qn hG];rw [hG] at hBG;simp only [Vs] at hBG;lia
   ·have:=Va.mpr hG;rw [Qf hG];lia
theorem yM:aI ["_law_parents","_law_place","_law_row"] ["_law_parents","_law_place"] (am sZp):=⟨rfl,rfl,rfl,by decide +kernel,rfl,by decide +kernel,by decide +kernel⟩
theorem t9(D:bE K mg):aF P w K mg base CX0 1 D.fZp D.fdZp ["_law_parents","_law_place"] (pf K):=by
 refine D.FZp.ok yM (λvs H Q E h=>?_) (λcdv A outer s H vs Q E hr h=>?_)
 ·obtain⟨a,ps,j,l,rfl,_⟩:=h;rfl
 obtain⟨a,ps,j,l,rfl,hA,up,h200,q⟩:=h;have nd:=yM.nd;refine⟨_,
  (ag (aH (i:=2) nd rfl (Or.inl rfl) (aU (aa rfl (pv 1) ai)))
  (ag (dI QM (c9 (gm (ap aN (pv 0) (ap aN (pv 2) (dk ci ah) (λ_ _=>rfl)) (λ_ _=>rfl))))
    (aj (aT (bR Qw QG QF bf (pv 2) (aa rfl (ap aN (pv 0) (ap aN (pv 2) (dk ci ah) (λ_ _=>rfl)) (λ_ _=>rfl)) ai)))))
  (aj (av (pv 2)))))
  ,?_⟩
 have hl:=up.len;refine⟨_,rfl,(by show 1<=sizeLine;decide),λr nr=>?_⟩;refine⟨λm σ H1=>∃(pre:List Nat) (x:Nat) (lx:List Nat),lx.length=m/\σ=[some (.ref a),some (.int j),some (.ref r)]/\H1=upd H r (.lst (a8 (pre++[x])))/\Up ps x lx/\pre++lx=l,
  ⟨_,[],j,l,rfl,rfl,rfl,up,rfl⟩,?_⟩
 rintro m σ H1 ⟨pre,x,lx,rfl,rfl,rfl,ux,hp⟩;have hw:(upd H r (.lst (a8 (pre++[x])))) r=some (.lst (a8 pre++[.int (x:Nat)])):=by rw [ae,cO]
 have sA:SqL K (upd H r (.lst (a8 (pre++[x])))) a (cx ps):=(aw.new nr _).seq hA;have hpl:=QW List.length hp;rw [Ql] at hpl;cases ux with
 | top e =>
  refine⟨_,rfl,_,rfl,_,rfl,r,_,_,_,rfl,rfl,SqL.of hw,b9 _ _,a,_,_,_,rfl,rfl,sA,dX e,_,rfl,bt ?_⟩;refine⟨_,rfl,?_⟩;rw [hp];exact q r nr
 | @next _ i l' e t =>
  refine⟨_,rfl,_,rfl,_,rfl,r,_,_,_,rfl,rfl,SqL.of hw,b9 _ _,a,_,_,_,rfl,rfl,sA,dX e,_,rfl,bM ?_⟩;refine⟨λσ' H'=>∃ m',m' < (x :: l').length/\∃(pre:List Nat) (x:Nat) (lx:List Nat),lx.length=m'/\σ'=[some (.ref a),some (.int j),some (.ref r)]/\H'=upd H r (.lst (a8 (pre++[x])))/\Up ps x lx/\pre++lx=l,λ_ _ h=>h,?_⟩;refine⟨_,rfl,.inl ⟨rfl,_,SqL.of hw⟩,_,rfl,_,rfl,_,rfl,r,_,_,_,rfl,rfl,SqL.of hw,b9 _ _,a,_,_,_,rfl,rfl,sA,dX e,r,_,_,rfl,rfl,hw,?_,?_⟩
  ·rw [Ql,dP];exact aB (by simp only [Qz];lia)
  ·refine⟨l'.length,by simp,pre++[x],i,l',rfl,rfl,?_,t,by rw [QV];exact hp⟩;rw [gj,cO,cO];rfl
end
end G06
namespace G06
open PySem L2 G1 GH
seal PySem.wpAny
section
variable{P:Program} {w:World} {K:W.Frag} {mg:Str->Option Value} {base:Heap}
theorem yN:aI ["_law_model","_law_deed","_law_count","_law_place","_law_was"] ["_law_model","_law_deed"] (am sZr):=⟨rfl,rfl,rfl,by decide +kernel,rfl,by decide +kernel,by decide +kernel⟩
theorem vv(D:bE K mg)(T:Txt mg):aF P w K mg base CX0 2 D.fZr D.fdZr ["_law_model","_law_deed"] sf:=by
 have GZp:aF P w K mg base CX0 1 D.fZp D.fdZp ["_law_parents","_law_place"] (pf K):=t9 D;refine D.FZr.ok yN (λvs H Q E h=>?_) (λcdv A outer s H vs Q E hr h=>?_)
 ·obtain⟨m,a1,a2,a3,a4,h,t,d,rfl,_⟩:=h;rfl
 obtain⟨m,a1,a2,a3,a4,h,t,d,rfl,hM,hO,hZ,ht,hd,q⟩:=h;have nd:=yN.nd;have hu:=cE hr;have hr1:=hr;refine⟨_,
  (ag (aH (i:=2) nd rfl (Or.inl rfl) (aG aJ (by rfl) T.len QT (aa rfl (a7 hu (pv 0) aq (λ_ _=>rfl)) ai)))
  (ag (bQ QM rfl (qQ (cC f7 (pv 1) (di ah) dh)) (bj (i:=3) nd rfl (Or.inl rfl))
    (aj (aM (PW.pt (cL (au gq (pv 3) ah (ay _)) (ca (au oQ (pv 3) (pv 2) (ay _)))))
      (aj (av aq))
      ax)))
  (ag (aH (i:=3) nd rfl (Or.inl rfl) (ap ar (pv 1) ah (λ_ _=>rfl)))
  (ag (aM (au aZ (ap ar (pv 1) ah (λ_ _=>rfl)) aq (ay _))
    (ag (aT (bR Qw QG QF bf (a7 hu (pv 0) aq (λ_ _=>rfl)) (aa rfl (pv 3) ai)))
    (ag (aT (bR Qw QG QF bf (a7 hu (pv 0) aq (λ_ _=>rfl)) (aa rfl bw ai)))
    (aj (av (pv 2)))))
    ax)
  (ag (aM (au aZ (ap ar (pv 1) ah (λ_ _=>rfl)) aq (ay _))
    (ag (aM (au dG (pv 3) (aP GZp hr1 rfl D.mZp D.FZp.kp D.bZp .nil bg (aa rfl (a7 hu (pv 0) aq (λ_ _=>rfl)) (aa rfl (ap ar (pv 1) ah (λ_ _=>rfl)) ai))) (by rfl))
      (aj (av aq))
      ax)
    (ag (i0 (ap ar (pv 1) ah (λ_ _=>rfl)) (kU (a7 hu (pv 0) aq (λ_ _=>rfl)) (pv 3) gu))
    (aj (av bw))))
    ax)
  (ag (aH (i:=4) nd rfl (Or.inl rfl) (ap aN (a7 hu (pv 0) aq (λ_ _=>rfl)) (pv 3) (λ_ _=>rfl)))
  (ag (i0 (bX aZ (ap ar (pv 1) ah (λ_ _=>rfl)) aq (ay _)) (kU (a7 hu (pv 0) aq (λ_ _=>rfl)) (pv 3) gu))
  (aj (av (bX dS (pv 4) (bX aZ (ap ar (pv 1) ah (λ_ _=>rfl)) aq (ay _)) (ay _)))))))))))
  ,?_⟩
 refine⟨_,rfl,m,_,rfl,hM.g1,a1,_,rfl,.inl (SqL.of hM.h1),?_⟩;rw [bC];refine⟨_,rfl,_,rfl,t,_,rfl,SqT.of ht,r9 hd,λt2 n2=>?_⟩;rw [uK hd];have s2:=aw.new n2 (.tup (d.pls.map V.int));have M2:=hM.same s2;refine⟨t2,rfl,⟨_,SqT.of ae⟩,oK (K:=K) (xs:=d.pls.map V.int) (λj σ H1=>∃ v3:Option V,σ=[some (.ref m),some (.ref t),some (.int (h.par.length:Nat)),v3,none]/\H1=upd H t2 (.tup (d.pls.map V.int))/\∀ x∈d.pls.take j,inR h x)
  ⟨_,rfl,rfl,λx hx=>Qs hx (by simp)⟩ (λj σ H1 _ ⟨_,_,e,_⟩=>by rw [e];exact SqT.of ae) ?_ ?_⟩
 ·rintro j y σ H1 hy ⟨v3,rfl,rfl,hin⟩;rw [Qq] at hy;obtain⟨x,hx,rfl⟩:∃ x,d.pls[j]?=some x/\y=.int x:=by
   cases z:d.pls[j]? with
   | none=>rw [z] at hy;cases hy
   | some x=>rw [z] at hy;exact⟨x,rfl,(Qt hy).symm⟩
  have hxm:=QC hx;have bad:¬ inR h x->Q (.str "no place") (upd H t2 (.tup (d.pls.map V.int))):=λn=>by
   have e:=qm hd hxm n;rw [e] at q;exact q _ (Sb.of s2) M2
  refine⟨_,rfl,_,_,rfl,rfl,_,rfl,cF (λc=>?_) (λc=>?_)⟩
  ·have c:x < 0:=QI c;exact bM (bad λz=>by have:=z.1;lia)
  ·have c:¬ x < 0:=λz=>c (Qh z);refine⟨_,rfl,_,rfl,_,_,rfl,rfl,_,rfl,cF (λc2=>?_) (λc2=>?_)⟩
   ·have c2:(h.par.length:Int)<=x:=QI c2;exact bad λz=>by have:=z.2;lia
   ·have c2:¬ (h.par.length:Int)<=x:=λz=>c2 (Qh z);refine⟨_,rfl,rfl,λz hz=>?_⟩;rw [Q3,hx] at hz;rcases Qr.mp hz with hz | hz
    ·exact hin z hz
    ·rw [Qo.mp hz];exact⟨by lia,by lia⟩
 ·rintro σ H1 ⟨v3,rfl,rfl,hin⟩;rw [Qc,Q5] at hin;have ht2:=s2 _ _ ht;generalize hH2:upd H t2 (.tup (d.pls.map V.int))=H2 at s2 M2 ht2;cases d with
  | add p =>
   have hp:=hin p (by simp [aA.pls]);rw [cT,Qn hp] at q;have ep:oV (some p.toNat)=.int p:=by show V.int ((p.toNat:Nat):Int)=_;rw [Int.toNat_of_nonneg hp.1]
   refine⟨_,rfl,t,_,_,_,rfl,rfl,SqT.of ht2,rfl,?_⟩;refine⟨_,rfl,t,_,_,_,rfl,rfl,SqT.of ht2,rfl,rfl,_,rfl,cg rfl ?_⟩;refine⟨_,rfl,m,_,rfl,M2.g1,.inl ⟨rfl,_,SqL.of M2.h1⟩,_,rfl,a1,_,_,rfl,rfl,M2.h1,aB (by rw [bC];have:=hZ.1;lia),?_⟩;have M3:=M2.set1 (xs:=cx h.par++[.int p]) (ps:=h.par++[some p.toNat]) (by rw [kz,ep]);refine⟨_,rfl,m,_,rfl,M3.g2,.inl ⟨rfl,_,SqL.of M3.h2⟩,a2,_,_,rfl,rfl,M3.h2,aB (by rw [iS];show h.cut.length<=_;rw [hO.len];have:=hZ.1;lia),?_⟩;have M4:=M3.set2 (xs:=blV h.cut++[.bl false]) (cs:=h.cut++[false]) (mC _ _).symm;exact⟨_,rfl,q _ (((Sb.of s2).put (by simp) _).put (by simp) _) M4⟩
  | move p r =>
   have hp:=hin p (by simp [aA.pls]);have hr':=hin r (by simp [aA.pls]);rw [cu,Qn ⟨hp,hr'⟩] at q;obtain⟨n,rfl,hn,en⟩:=hp.nat;obtain⟨k,rfl,hk,ek⟩:=hr'.nat;rw [en,ek] at q;obtain⟨l,hl⟩:=hO.ups k hk;rw [hl.upL] at q;refine⟨_,rfl,t,_,_,_,rfl,rfl,SqT.of ht2,rfl,?_⟩;refine⟨_,rfl,t,_,_,_,rfl,rfl,SqT.of ht2,rfl,rfl,_,rfl,a9 (sne (by decide +kernel)) ?_⟩;refine⟨_,rfl,t,_,_,_,rfl,rfl,SqT.of ht2,rfl,rfl,_,rfl,cg rfl ?_⟩;refine⟨_,rfl,_,rfl,m,_,rfl,M2.g1,_,rfl,t,_,_,_,rfl,rfl,SqT.of ht2,rfl,a1,h.par,k,l,rfl,SqL.of M2.h1,hl,(by have:=hZ.1;lia),λr nr=>?_⟩;have s3:=aw.new nr (.lst (a8 l));have M3:=M2.same s3;have ht3:=s3 _ _ ht2;have s23:=s2.trans s3;refine⟨r,_,rfl,.inl (SqL.of ae),rfl,ql _,_,rfl,?_⟩;have e2:(if false=true then !inV (V.int (n:Nat)) (a8 l) else inV (V.int (n:Nat)) (a8 l))=decide (n∈l):=by rw [Qf Qj,uH]
   by_cases hx:n∈l
   ·rw [Qn hx] at q;refine cF (λ_=>?_) (λz=>Qs (e2.trans (Qh hx)) z);exact q _ (Sb.of s23) M3
   ·rw [Qf hx] at q;refine cF (λz=>Qs (e2.symm.trans z) (by rw [Qp hx];exact Qj)) (λ_=>?_);refine⟨_,rfl,t,_,_,_,rfl,rfl,SqT.of ht3,rfl,_,rfl,m,_,rfl,M3.g1,_,rfl,a1,_,_,n,rfl,rfl,M3.h1,lC (by rw [bC];exact hn),?_⟩;have M4:=M3.set1 (xs:=(cx h.par).set n (.int (k:Nat))) (ps:=h.par.set n (some k)) (mD h.par n (some k)).symm;exact q _ ((Sb.of s23).put (by simp) _) M4
  | cutm b p =>
   have hp:=hin p (by simp [aA.pls]);rw [cV,Qn hp] at q;obtain⟨n,rfl,hn,en⟩:=hp.nat;rw [en] at q;have hcl:n < h.cut.length:=by rw [hO.len];exact hn
   have hc:=Qe hcl;rw [hc] at q;have eb:decide (V.str (if b=true then "cut" else "mend")=V.str "cut")=b:=by
    cases b with
    | true=>exact Qh rfl
    | false=>exact Qp (sne (by decide +kernel))
   have nb:∀ x:Str,x≠"cut"->x≠"mend"->¬ V.str (if b=true then "cut" else "mend")=V.str x:=λx h1 h2=>by
    cases b with
    | true=>exact sne (Ne.symm h1)
    | false=>exact sne (Ne.symm h2)
   refine⟨_,rfl,t,_,_,_,rfl,rfl,SqT.of ht2,rfl,?_⟩;refine⟨_,rfl,t,_,_,_,rfl,rfl,SqT.of ht2,rfl,rfl,_,rfl,a9 (nb _ (by decide +kernel) (by decide +kernel)) ?_⟩;refine⟨_,rfl,t,_,_,_,rfl,rfl,SqT.of ht2,rfl,rfl,_,rfl,a9 (nb _ (by decide +kernel) (by decide +kernel)) ?_⟩;refine⟨_,rfl,m,_,rfl,M2.g2,_,rfl,a2,_,_,_,rfl,rfl,SqL.of M2.h2,n8 hc,?_⟩;refine⟨_,rfl,t,_,_,_,rfl,rfl,SqT.of ht2,rfl,rfl,_,rfl,m,_,rfl,M2.g2,_,rfl,a2,_,_,n,rfl,rfl,M2.h2,lC (by rw [iS];exact hcl),?_⟩;have M4:=M2.set2 (xs:=(blV h.cut).set n (.bl (decide (V.str (if b=true then "cut" else "mend")=V.str "cut")))) (cs:=h.cut.set n b) (by rw [eb];exact(pd _ _ _).symm);have ht4:(upd H2 a2 (.lst ((blV h.cut).set n (.bl (decide (V.str (if b=true then "cut" else "mend")=V.str "cut")))))) t=some (.tup (aA.cutm b (n:Nat)).vals):=by rw [af (be ht2 M2.h2 (by intro z;cases z))];exact ht2
   refine⟨_,rfl,_,rfl,t,_,_,_,rfl,rfl,SqT.of ht4,rfl,rfl,rfl,?_⟩;have:=q _ ((Sb.of s2).put (by simp) _) M4;have e5:V.bl (!decide (V.bl h.cut[n]=V.bl (decide (V.str (if b=true then "cut" else "mend")=V.str "cut"))))=V.bl ((some h.cut[n]).getD false != b):=by
    rw [eb];show _=V.bl (h.cut[n] != b);generalize h.cut[n]=c;cases c <;> cases b <;> simp
   show Q _ _;rw [e5];exact this
  | _=>cases hd
theorem yO:aI ["_law_model","_law_deed","_law_links","_law_there"] ["_law_model","_law_deed"] (am sZ2):=⟨rfl,rfl,rfl,by decide +kernel,rfl,by decide +kernel,by decide +kernel⟩
theorem vx(D:bE K mg)(T:Txt mg):aF P w K mg base CX0 2 D.fZ2 D.fdZ2 ["_law_model","_law_deed"] sg:=by
 have GZf:aF P w K mg base CX0 1 D.fZf D.fdZf ["_law_links","_law_name"] gL:=iz D T;refine D.FZ2.ok yO (λvs H Q E h=>?_) (λcdv A outer s H vs Q E hr h=>?_)
 ·obtain⟨m,a1,a2,a3,a4,h,t,d,rfl,_⟩:=h;rfl
 obtain⟨m,a1,a2,a3,a4,h,t,d,rfl,hM,hO,hX,hZ,ht,hk,hd,q⟩:=h;have nd:=yO.nd;have hu:=cE hr;have hr1:=hr;refine⟨_,
  (ag (aH (i:=2) nd rfl (Or.inl rfl) (a7 hu (pv 0) aq (λ_ _=>rfl)))
  (ag (aM (PW.pt (cL (au aZ (ap ar (pv 1) ah (λ_ _=>rfl)) aq (ay _)) (ca (au aZ (ap ar (pv 1) ah (λ_ _=>rfl)) aq (ay _)))))
    (ag (aH (i:=3) nd rfl (Or.inl rfl) (bX (rG hr.units70) (cC f7 (pv 1) (di ah) dh) (pv 2) (by rfl)))
    (ag (aM (au aZ (ap ar (pv 1) ah (λ_ _=>rfl)) aq (ay _))
      (ag (aM (bP (pv 3))
        (aj (aT (bR Qw VI VG (h9 hr.units70) (pv 2) (aa rfl (cC f7 (pv 1) (di ah) dh) ai))))
        ax)
      (aj (av (pv 3))))
      ax)
    (ag (aM (c9 (jd hu (ap ar (pv 1) ah (λ_ _=>rfl)) (aP GZf hr1 rfl D.mZf D.FZf.kp D.bZf .nil bg (aa rfl (pv 2) (aa rfl (ap ar (pv 1) ah (λ_ _=>rfl)) ai)))))
      (aj (av aq))
      ax)
    (ag (aM (bS (bP (pv 3)))
      (aj (aT (bR Qw QG QF bf (pv 2) (aa rfl (cC f7 (pv 1) (di ah) dh) ai))))
      ax)
    (aj (av (qN (pv 3))))))))
    ax)
  (ag (aM (au aZ (ap ar (pv 1) ah (λ_ _=>rfl)) aq (ay _))
    (ag (aM (au (km hr.units70) (cC f7 (pv 1) (di ah) dh) (a7 hu (pv 0) aq (λ_ _=>rfl)) (by rfl))
      (aj (av bw))
      ax)
    (ag (aT (bR Qw VI VG (h9 hr.units70) (a7 hu (pv 0) aq (λ_ _=>rfl)) (aa rfl (cC f7 (pv 1) (di ah) dh) ai)))
    (aj (av bw))))
    ax)
  (ag (aM (PW.pt (cL (au gq (ap ar (pv 1) ah (λ_ _=>rfl)) ah (ay _)) (ca (au oQ (ap ar (pv 1) ah (λ_ _=>rfl)) (aG aJ (by rfl) T.len QT (aa rfl (a7 hu (pv 0) aq (λ_ _=>rfl)) ai)) (ay _)))))
    (aj (av aq))
    ax)
  (ag (aM (au (rG hr.units70) (pv 1) (a7 hu (pv 0) aq (λ_ _=>rfl)) (by rfl))
    (aj (av bw))
    ax)
  (ag (aT (bR Qw QG QF bf (a7 hu (pv 0) aq (λ_ _=>rfl)) (aa rfl (pv 1) ai)))
  (aj (av bw))))))))
  ,?_⟩
 obtain⟨z1,z2,z3⟩:=hZ;refine⟨_,rfl,m,_,rfl,hM.g3,?_⟩;cases d with
 | leave a c =>
  rw [bZ] at q;refine⟨_,rfl,t,_,_,_,rfl,rfl,SqT.of ht,rfl,rfl,_,rfl,a9 (sne (by decide +kernel)) ?_⟩;refine⟨_,rfl,t,_,_,_,rfl,rfl,SqT.of ht,rfl,rfl,_,rfl,cg rfl ?_⟩;refine⟨_,rfl,_,rfl,t,_,rfl,SqT.of ht,pk,λt2 n2=>?_⟩;have s2:=aw.new n2 (.tup (bN (a,c)));have M2:=hM.same s2;have ht2:=s2 _ _ ht;obtain⟨as,e3,pr⟩:=M2.h3;refine⟨_,rfl,a3,_,cb (a,c),_,rfl,.inl (SqL.of e3),fE K ae,eW K (λ_ _ z=>fE K z) pr,dY hk.1 hk.2,hX.pairs,?_⟩;have e4:(if false=true then !((h.links.map cb).any λe=>e.eqv (cb (a,c))) else ((h.links.map cb).any λe=>e.eqv (cb (a,c))))=decide ((a,c)∈h.links):=by rw [Qf Qj,kA]
  rw [e4];refine⟨_,rfl,t,_,_,_,rfl,rfl,SqT.of ht2,rfl,rfl,_,rfl,cg rfl ?_⟩;by_cases hx:(a,c)∈h.links
  ·rw [Qn hx] at q;refine⟨_,rfl,_,rfl,cg hx ?_⟩;refine⟨_,rfl,.inl ⟨rfl,_,SqL.of e3⟩,_,rfl,_,rfl,t,_,rfl,SqT.of ht2,pk,λt3 n3=>?_⟩;have s3:=aw.new n3 (.tup (bN (a,c)));have M3:=M2.same s3;obtain⟨j,hit,hno,her⟩:=n9 jx hx;have pr3:=Paired.mapP pr λb x z=>s3 _ _ z;refine⟨a3,_,_,cb (a,c),_,j,rfl,rfl,s3 _ _ e3,fE K ae,eW K (λ_ _ z=>fE K z) pr3,dY hk.1 hk.2,hX.pairs,hit,hno,?_⟩;have M4:=M3.set3 (ps:=h.links.erase (a,c)) (as:=as.eraseIdx j) (by rw [her];exact eV j pr3) (fH V.ref as j);refine⟨_,rfl,?_⟩;rw [Qh hx];exact q _ ((Sb.of (s2.trans s3)).put (by simp) _) M4
  ·rw [Qf hx] at q;refine⟨_,rfl,_,rfl,a9 hx ?_⟩;refine⟨_,rfl,?_⟩;rw [Qp hx];exact q _ (Sb.of s2) M2
 | join a c =>
  rw [cN] at q;refine⟨_,rfl,t,_,_,_,rfl,rfl,SqT.of ht,rfl,rfl,_,rfl,cg rfl (bM ?_)⟩;refine⟨_,rfl,_,rfl,t,_,rfl,SqT.of ht,pk,λt2 n2=>?_⟩;have s2:=aw.new n2 (.tup (bN (a,c)));have M2:=hM.same s2;have ht2:=s2 _ _ ht;obtain⟨as,e3,pr⟩:=M2.h3;refine⟨_,rfl,a3,_,cb (a,c),_,rfl,.inl (SqL.of e3),fE K ae,eW K (λ_ _ z=>fE K z) pr,dY hk.1 hk.2,hX.pairs,?_⟩;have e4:(if false=true then !((h.links.map cb).any λe=>e.eqv (cb (a,c))) else ((h.links.map cb).any λe=>e.eqv (cb (a,c))))=decide ((a,c)∈h.links):=by rw [Qf Qj,kA]
  rw [e4];refine⟨_,rfl,t,_,_,_,rfl,rfl,SqT.of ht2,rfl,rfl,_,rfl,a9 (sne (by decide +kernel)) ?_⟩;refine⟨_,rfl,t,_,_,_,rfl,rfl,SqT.of ht2,rfl,_,rfl,_,rfl,t,_,_,_,rfl,rfl,SqT.of ht2,rfl,a3,h.links,c,rfl,M2.h3,by lia,λdd B tt H3 s3 nd3 hd3 hB lv=>?_⟩;have M3:=M2.same s3;have ht3:=s3 _ _ ht2;have hrch:=GH.Lev.rch lv a;refine⟨dd,_,rfl,bG.k (k:=(Sum.inr a:Key)) hd3,_,rfl,?_⟩;by_cases hx:Rch h.links c a
  ·rw [Qn hx] at q;obtain⟨⟨y,n⟩,hy,rfl⟩:=Qg.mp (hrch.mpr hx);rw [eM lv.nd hy];exact bM (q _ (Sb.of (s2.trans s3)) M3)
  ·rw [Qf hx] at q;rw [eL λz=>hx (hrch.mp z)];refine bt ?_;by_cases hl:(a,c)∈h.links
   ·rw [Qn hl] at q;refine⟨_,rfl,_,rfl,?_⟩;rw [Qh hl];refine bt ?_;exact⟨_,rfl,_,rfl,q _ (Sb.of (s2.trans s3)) M3⟩
   ·rw [Qf hl] at q;refine⟨_,rfl,_,rfl,?_⟩;rw [Qp hl];refine bM ?_;obtain⟨as3,e33,pr3⟩:=M3.h3;refine⟨_,rfl,.inl ⟨rfl,_,SqL.of e33⟩,_,rfl,_,rfl,t,_,rfl,SqT.of ht3,pk,λt4 n4=>?_⟩;have s4:=aw.new n4 (.tup (bN (a,c)));have M4:=M3.same s4;have hlen:=aL pr3;refine⟨a3,_,_,rfl,rfl,s4 _ _ e33,aB (by rw [Qc];lia),?_⟩;have M5:=M4.set3 (ps:=h.links++[(a,c)]) (as:=as3++[t4]) (bW (Paired.mapP pr3 λb x z=>s4 _ _ z) ae) (vs:=as3.map V.ref++[.ref t4]) (by rw [Qx];rfl);exact⟨_,rfl,_,rfl,q _ ((Sb.of ((s2.trans s3).trans s4)).put (by simp) _) M5⟩
 | lift w a r p =>
  rw [cw] at q;refine⟨_,rfl,t,_,_,_,rfl,rfl,SqT.of ht,rfl,rfl,_,rfl,a9 (sne (by decide +kernel)) ?_⟩;refine⟨_,rfl,t,_,_,_,rfl,rfl,SqT.of ht,rfl,rfl,_,rfl,a9 (sne (by decide +kernel)) ?_⟩;refine⟨_,rfl,t,_,_,_,rfl,rfl,SqT.of ht,rfl,rfl,_,rfl,cg rfl ?_⟩;refine⟨_,rfl,_,rfl,t,_,rfl,SqT.of ht,vZ,λt2 n2=>?_⟩;have s2:=aw.new n2 (.tup (bp (w,a,r,p)));have M2:=hM.same s2;have ht2:=s2 _ _ ht;obtain⟨as,e3,pr⟩:=M2.h4;have shp:=dq (x:=(w,a,r,p)) hk.1.tx hk.2.1 hk.2.2;refine⟨_,rfl,m,_,rfl,M2.g4,a4,_,bV (w,a,r,p),_,rfl,.inl (SqL.of e3),dE K ae,eW K (λ_ _ z=>dE K z) pr,shp,hX.ruls,?_⟩;have e4:(if true=true then !((h.rules.map bV).any λe=>e.eqv (bV (w,a,r,p))) else ((h.rules.map bV).any λe=>e.eqv (bV (w,a,r,p))))=!decide ((w,a,r,p)∈h.rules):=by rw [Qn rfl,ii]
  rw [e4];refine⟨_,rfl,?_⟩;by_cases hx:(w,a,r,p)∈h.rules
  ·rw [Qn hx] at q;rw [Qh hx];refine bt ?_;refine⟨_,rfl,m,_,rfl,M2.g4,.inl ⟨rfl,_,SqL.of e3⟩,_,rfl,_,rfl,t,_,rfl,SqT.of ht2,vZ,λt3 n3=>?_⟩;have s3:=aw.new n3 (.tup (bp (w,a,r,p)));have M3:=M2.same s3;obtain⟨j,hit,hno,her⟩:=n9 jy hx;have pr3:=Paired.mapP pr λb x z=>s3 _ _ z;refine⟨a4,_,_,bV (w,a,r,p),_,j,rfl,rfl,s3 _ _ e3,dE K ae,eW K (λ_ _ z=>dE K z) pr3,shp,hX.ruls,hit,hno,?_⟩;have M4:=M3.set4 (ps:=h.rules.erase (w,a,r,p)) (as:=as.eraseIdx j) (by rw [her];exact eV j pr3) (fH V.ref as j);exact q _ ((Sb.of (s2.trans s3)).put (by simp) _) M4
  ·rw [Qf hx] at q;rw [Qp hx];exact bM (q _ (Sb.of s2) M2)
 | put w a r p =>
  rw [dn] at q;have nw:∀ x:Str,x≠"give"->x≠"bar"->¬ V.str w=V.str x:=λx h1 h2 z=>by
   rcases hk.1 with e | e
   ·rw [e] at z;exact h1 (V.str.inj z).symm
   ·rw [e] at z;exact h2 (V.str.inj z).symm
  refine⟨_,rfl,t,_,_,_,rfl,rfl,SqT.of ht,rfl,rfl,_,rfl,a9 (nw _ (by decide +kernel) (by decide +kernel)) ?_⟩;refine⟨_,rfl,t,_,_,_,rfl,rfl,SqT.of ht,rfl,rfl,_,rfl,a9 (nw _ (by decide +kernel) (by decide +kernel)) ?_⟩;refine⟨_,rfl,t,_,_,_,rfl,rfl,SqT.of ht,rfl,rfl,_,rfl,a9 (nw _ (by decide +kernel) (by decide +kernel)) ?_⟩;refine⟨_,rfl,t,_,_,_,rfl,rfl,SqT.of ht,rfl,_,_,rfl,rfl,_,rfl,cF (λc=>bM ?_) (λc=>?_)⟩
  ·have c:p < 0:=QI c;rw [Qf (λz:inR h p=>by have:=z.1;lia)] at q;exact q _ (Sb.refl _ _) hM
  have c:¬ p < 0:=λz=>c (Qh z);refine⟨_,rfl,t,_,_,_,rfl,rfl,SqT.of ht,rfl,_,rfl,m,_,rfl,hM.g1,a1,_,rfl,.inl (SqL.of hM.h1),_,_,rfl,rfl,_,rfl,cF (λc2=>?_) (λc2=>?_)⟩
  ·have c2:(((cx h.par).length:Nat):Int)<=p:=QI c2;rw [bC] at c2;rw [Qf (λz:inR h p=>by have:=z.2;lia)] at q;exact q _ (Sb.refl _ _) hM
  have c2:¬ (((cx h.par).length:Nat):Int)<=p:=λz=>c2 (Qh z);rw [bC] at c2;rw [Qn (show inR h p from⟨by lia,by lia⟩)] at q;obtain⟨as,e3,pr⟩:=hM.h4;have shp:=dq (x:=(w,a,r,p)) hk.1.tx hk.2.1 hk.2.2;refine⟨_,rfl,_,rfl,m,_,rfl,hM.g4,a4,_,bV (w,a,r,p),_,rfl,.inl (SqL.of e3),dE K ht,eW K (λ_ _ z=>dE K z) pr,shp,hX.ruls,?_⟩;have e4:(if false=true then !((h.rules.map bV).any λe=>e.eqv (bV (w,a,r,p))) else ((h.rules.map bV).any λe=>e.eqv (bV (w,a,r,p))))=decide ((w,a,r,p)∈h.rules):=by rw [Qf Qj,ii]
  rw [e4];refine⟨_,rfl,?_⟩;by_cases hx:(w,a,r,p)∈h.rules
  ·rw [Qn hx] at q;exact cg hx (q _ (Sb.refl _ _) hM)
  ·rw [Qf hx] at q;refine a9 hx ?_;have hlen:=aL pr;refine⟨_,rfl,m,_,rfl,hM.g4,.inl ⟨rfl,_,SqL.of e3⟩,_,rfl,a4,_,_,rfl,rfl,e3,aB (by rw [Qc];lia),?_⟩;have M5:=hM.set4 (ps:=h.rules++[(w,a,r,p)]) (as:=as++[t]) (bW pr ht) (vs:=as.map V.ref++[.ref t]) (by rw [Qx];rfl);exact q _ ((Sb.refl _ _).put (by simp) _) M5
 | _=>cases hd
end
end G06
namespace G06
open PySem L2 G1 GH
seal PySem.wpAny
section
variable{P:Program} {w:World} {K:W.Frag} {mg:Str->Option Value} {base:Heap}
theorem yP:aI ["_law_model","_law_deed"] ["_law_model","_law_deed"] (am sYg):=⟨rfl,rfl,rfl,by decide +kernel,rfl,by decide +kernel,by decide +kernel⟩
theorem ua(D:bE K mg)(T:Txt mg):aF P w K mg base CX0 3 D.fYg D.fdYg ["_law_model","_law_deed"] rW:=by
 have GZr:aF P w K mg base CX0 2 D.fZr D.fdZr ["_law_model","_law_deed"] sf:=vv D T;have GZ2:aF P w K mg base CX0 2 D.fZ2 D.fdZ2 ["_law_model","_law_deed"] sg:=vx D T;refine D.FYg.ok yP (λvs H Q E h=>?_) (λcdv A outer s H vs Q E hr h=>?_)
 ·obtain⟨m,a1,a2,a3,a4,h,t,d,rfl,_⟩:=h;rfl
 obtain⟨m,a1,a2,a3,a4,h,t,d,rfl,hM,hO,hX,hZ,ht,hk,hd,q⟩:=h;have nd:=yP.nd;have hr2:=hr;refine⟨_,
  (ag (aM (au dG (ap ar (pv 1) ah (λ_ _=>rfl)) (aU (aa rfl aq (aa rfl aq (aa rfl aq (aa rfl aq ai))))) (by rfl))
    (aj (av (aP GZr hr2 rfl D.mZr D.FZr.kp D.bZr .nil bg (aa rfl (pv 0) (aa rfl (pv 1) ai)))))
    ax)
  (aj (av (aP GZ2 hr2 rfl D.mZ2 D.FZ2.kp D.bZ2 .nil bg (aa rfl (pv 0) (aa rfl (pv 1) ai))))))
  ,?_⟩
 refine⟨_,rfl,t,_,_,_,rfl,rfl,SqT.of ht,eO d,(by show 4<=sizeLine;decide),λl nl=>?_⟩;have s1:=aw.new nl (.lst (az ["add","move","cut","mend"]));refine⟨l,_,rfl,.inl (SqL.of ae),rfl,cM ["add","move","cut","mend"],_,rfl,?_⟩;have e2:(if false=true then !inV (V.str d.word) (az ["add","move","cut","mend"]) else inV (V.str d.word) (az ["add","move","cut","mend"]))=d.isPl:=by rw [Qf Qj,dW];exact uL hk
 by_cases hx:d.isPl=true
 ·refine cF (λ_=>?_) (λz=>Qs (e2.trans hx) z);exact⟨_,rfl,_,rfl,m,a1,a2,a3,a4,h,t,d,rfl,hM.same s1,hO,hZ,s1 _ _ ht,hx,λH' sb M=>q H' ((Sb.of s1).trans sb) M⟩
 ·refine cF (λz=>Qs (e2.symm.trans z) hx) (λ_=>?_);have hna:d.isNa=true:=by
   cases d <;> first | rfl | exact Qs rfl hx | cases hd
  exact⟨_,rfl,_,rfl,m,a1,a2,a3,a4,h,t,d,rfl,hM.same s1,hO,hX,hZ,s1 _ _ ht,hk,hna,λH' sb M=>q H' ((Sb.of s1).trans sb) M⟩
theorem yQ:aI ["_law_cells","_law_model","_law_deeds","_law_k","_law_deed"] ["_law_cells","_law_model"] (am sZj):=⟨rfl,rfl,rfl,by decide +kernel,rfl,by decide +kernel,by decide +kernel⟩
theorem uc(D:bE K mg)(T:Txt mg):aF P w K mg base CX0 4 D.fZj D.fdZj ["_law_cells","_law_model"] pq:=by
 have GYg:aF P w K mg base CX0 3 D.fYg D.fdYg ["_law_model","_law_deed"] rW:=ua D T;have GZg:aF P w K mg base CX0 2 D.fZg D.fdZg ["_law_cell","_law_k","_law_count"] mG:=qF D;refine D.FZj.ok yQ (λvs H Q E h=>?_) (λcdv A outer s H vs Q E hr h=>?_)
 ·obtain⟨c,ns,m,a1,a2,a3,a4,rfl,_⟩:=h;rfl
 obtain⟨c,ns,m,a1,a2,a3,a4,rfl,hc,h63,hM,hcn,q⟩:=h;have nd:=yQ.nd;have hu:=cE hr;have hr3:=hr;have hr2:bO 2 _:=hr.mono (by decide);refine⟨_,
  (ag (aH (i:=2) nd rfl (Or.inl rfl) (aU ai))
  (ag (bQ QM rfl (d9 rfl T.range (aa rfl (aG aJ (by rfl) T.len QT (aa rfl (pv 0) ai)) ai)) (bj (i:=3) nd rfl (Or.inl rfl))
    (ag (aH (i:=4) nd rfl (Or.inl rfl) (aP GZg hr2 rfl D.mZg D.FZg.kp D.bZg .nil bg (aa rfl (aO eR (ap aN (pv 0) (pv 3) (λ_ _=>rfl)) (aO cQ ah (pv 3))) (aa rfl (pv 3) (aa rfl (aG aJ (by rfl) T.len QT (aa rfl (a7 hu (pv 1) aq (λ_ _=>rfl)) ai)) ai)))))
    (ag (aM (au dS (ap ar (pv 4) ah (λ_ _=>rfl)) aq (ay _))
      (aj (aT (aP GYg hr3 rfl D.mYg D.FYg.kp D.bYg .nil bg (aa rfl (pv 1) (aa rfl (pv 4) ai)))))
      ax)
    (aj (aT (bR Qw QG QF bf (pv 2) (aa rfl (pv 4) ai)))))))
  (aj (av (pv 2)))))
  ,?_⟩
 refine⟨(by show 0<=sizeLine;decide),λp np=>?_⟩;have s1:=aw.new np (.lst []);have hcp:c≠p:=ao hc np;refine⟨_,rfl,c,_,rfl,.inl (SqL.of (s1 _ _ hc)),?_⟩;refine⟨_,rfl,?_,?_,?_⟩
 ·rw [Qc];lia
 ·rw [Qc];lia
 rw [Qc];have npS:=hM.notin np;refine ef (λi σ H1=>∃(ds:List aA) (v3 v4:Option V),σ=[some (.ref c),some (.ref m),some (.ref p),v3,v4]/\Sb [a1,a2,a3,a4] H H1/\a6 aA.vals H1 p ds/\(∀ d∈ds,d.small)/\ds.length=i/\MAt H1 m a1 a2 a3 a4 (GH.run bb ds))
  ⟨[],_,_,rfl,Sb.of s1,⟨[],ae,.nil⟩,λd hd=>Qs hd (by simp),rfl,hM.same s1⟩ ?_ ?_
 ·rintro i σ H1 hi ⟨ds,v3,v4,rfl,sb,hT,hsm,hl,M1⟩;obtain⟨z,hz⟩:=lA (ns:=ns) (k:=0+(i:Int)) (by lia) (by lia);have hc1:=sb _ _ hc hcn;have ok1:=cA.new.run ds;have tx1:=cG.new.run (λd hd=>(hsm d hd).ok);have sz1:=(Sz.new.run ds).mono (k:=90) (by lia);refine⟨_,rfl,_,rfl,c,_,_,_,rfl,rfl,SqL.of hc1,hz,_,rfl,_,_,rfl,rfl,.inl ⟨by decide,by decide⟩,_,_,rfl,rfl,_,rfl,_,rfl,m,_,rfl,M1.g1,a1,_,rfl,.inl (SqL.of M1.h1),_,_,_,rfl,?_,λt d H2 s2 nt ht hd=>?_⟩
  ·rw [bC];have:=ok1.pos;lia
  have M2:=M1.same s2;have hT2:=hT.same s2;have sb2:Sb [a1,a2,a3,a4] H H2:=sb.trans (Sb.of s2);have app:∀ H3 (as:List Addr),H3 p=some (.lst (as.map V.ref))->Paired (λ(a:Addr) (x:aA)=>H3 a=some (.tup x.vals)) as ds->H3 t=some (.tup d.vals)->a6 aA.vals (upd H3 p (.lst (as.map V.ref++[.ref t]))) p (ds++[d]):=λH3 as h1 h2 h3 =>
   ⟨as++[t],by rw [ae,Qx];rfl,bW (Paired.mapP h2 λb x z=>by rw [af (be z h1 (by intro e;cases e))];exact z) (by rw [af (be h3 h1 (by intro e;cases e))];exact h3)⟩
  have hsm':∀ x∈ds++[d],x.small:=λx hx=>by
   rcases Qr.mp hx with hx | hx
   ·exact hsm x hx
   ·rw [Qo.mp hx];exact hd
  refine⟨_,rfl,t,_,_,_,rfl,rfl,SqT.of ht,eO d,rfl,_,rfl,?_⟩;have goal:∀ H3,Sb [a1,a2,a3,a4] H H3->a6 aA.vals H3 p ds->H3 t=some (.tup d.vals)->MAt H3 m a1 a2 a3 a4 (GH.run bb (ds++[d]))->∃ as:List Addr,H3 p=some (.lst (as.map V.ref))/\as.length=ds.length /\
    Sb [a1,a2,a3,a4] H (upd H3 p (.lst (as.map V.ref++[.ref t])))/\a6 aA.vals (upd H3 p (.lst (as.map V.ref++[.ref t]))) p (ds++[d])/\MAt (upd H3 p (.lst (as.map V.ref++[.ref t]))) m a1 a2 a3 a4 (GH.run bb (ds++[d])):=λH3 sb3 hT3 ht3 M3=>by
   obtain⟨as,h1,h2⟩:=hT3;exact⟨as,h1,aL h2,sb3.new np _,app H3 as h1 h2 ht3,M3.other h1 npS⟩
  rw [uM hd.ok];by_cases ha:d.isAsk=true
  ·rw [ha];refine bt ?_;have es:GH.run bb (ds++[d])=GH.run bb ds:=by
    rw [dO];cases d <;> first | rfl | cases ha
   obtain⟨as,h1,h2,h3,h4,h5⟩:=goal H2 sb2 hT2 ht (by rw [es];exact M2);refine⟨_,rfl,.inl ⟨rfl,_,SqL.of h1⟩,_,rfl,p,_,_,rfl,rfl,h1,aB (by rw [Qc];lia),?_⟩;exact⟨ds++[d],_,_,rfl,h3,h4,hsm',by rw [Ql,Qz];lia,h5⟩
  ·have ha':d.isAsk=false:=by cases z:d.isAsk with | false=>rfl | true=>exact Qs z ha
   rw [ha'];refine bM ?_;have has:d.asks=false:=by
    cases d <;> first | rfl | exact Qs hd id | cases ha'
   refine⟨_,rfl,_,rfl,m,a1,a2,a3,a4,_,t,d,rfl,M2,ok1,tx1,sz1,ht,hd.ok,has,λH3 sb3 M3=>?_⟩;obtain⟨as,h1,h2,h3,h4,h5⟩:=goal H3 (sb2.trans sb3) (hT2.sb sb3 npS M2.lsts) (sb3 _ _ ht (M2.tup ht)) (by rw [dO];exact M3);refine⟨_,rfl,.inl ⟨rfl,_,SqL.of h1⟩,_,rfl,p,_,_,rfl,rfl,h1,aB (by rw [Qc];lia),?_⟩;exact⟨ds++[d],_,_,rfl,h3,h4,hsm',by rw [Ql,Qz];lia,h5⟩
 ·rintro σ H1 ⟨ds,v3,v4,rfl,sb,hT,hsm,hl,M1⟩;exact⟨_,rfl,q p ds H1 sb np hT hsm hl M1⟩
end
end G06
namespace G06
open PySem L2 G1 GH
seal PySem.wpAny
section
variable{P:Program} {w:World} {K:W.Frag} {mg:Str->Option Value} {base:Heap}
theorem zR:aI ["_law_found"] ["_law_found"] (am sZk):=⟨rfl,rfl,rfl,by decide +kernel,rfl,by decide +kernel,by decide +kernel⟩
theorem nA(D:bE K mg)(T:Txt mg):aF P w K mg base CX0 1 D.fZk D.fdZk ["_law_found"] lD:=by
 refine D.FZk.ok zR (λvs H Q E h=>?_) (λcdv A outer s H vs Q E hr h=>?_)
 ·obtain⟨i,rfl,_⟩:=h;rfl
 obtain⟨i,rfl,q⟩:=h;refine⟨_,
  (aj (av (kR (aG bu (by rfl) T.isinstance QR (aa rfl (pv 0) (aa rfl (cm rfl T.int PyProof.Rows.boot_int (v:=.ty "int") rfl) ai))) (iZ (qN (aG bu (by rfl) T.isinstance QR (aa rfl (pv 0) (aa rfl (cm rfl T.bool PyProof.Rows.boot_bool (v:=.ty "bool") rfl) ai))))))))
  ,?_⟩
 refine⟨_,rfl,_,_,_,_,rfl,.int i,bK _ _,_,rfl,bM ?_⟩;exact⟨_,rfl,_,_,_,_,rfl,.int i,k9 _,_,rfl,q⟩
end
end G06
namespace G06
open PySem L2 G1 GH
seal PySem.wpAny
section
variable{P:Program} {w:World} {K:W.Frag} {mg:Str->Option Value} {base:Heap}
theorem yR:aI ["_law_found","_law_part"] ["_law_found"] (am sZh):=⟨rfl,rfl,rfl,by decide +kernel,rfl,by decide +kernel,by decide +kernel⟩
theorem qG(D:bE K mg)(T:Txt mg):aF P w K mg base CX0 2 D.fZh D.fdZh ["_law_found"] mL:=by
 have GZk:aF P w K mg base CX0 1 D.fZk D.fdZk ["_law_found"] lD:=nA D T;refine D.FZh.ok yR (λvs H Q E h=>?_) (λcdv A outer s H vs Q E hr h=>?_)
 ·obtain⟨b,e,rfl,_⟩:=h;rfl
 obtain⟨b,e,rfl,hb,hw,q⟩:=h;have nd:=yR.nd;have hr1:=hr;refine⟨_,
  (ag (aM (PW.pt (cL (bS (bP (aG bu (by rfl) T.isinstance QR (aa rfl (pv 0) (aa rfl (cm rfl T.tuple PyProof.Rows.boot_tuple (v:=.ty "tuple") rfl) ai))))) (cL (au dS (aG aJ (by rfl) T.len QT (aa rfl (pv 0) ai)) ah (ay _)) (ca (bS (bP (aP GZk hr1 rfl D.mZk D.FZk.kp D.bZk .nil bg (aa rfl (ap ar (pv 0) ah (λ_ _=>rfl)) ai))))))))
    (aj (av bw))
    ax)
  (ag (bQ QM rfl (qQ (cC f7 (pv 0) dh (di ah))) (bj (i:=1) nd rfl (Or.inl rfl))
    (aj (aM (bS (bP (aG bu (by rfl) T.isinstance QR (aa rfl (pv 1) (aa rfl (cm rfl T.str UY (v:=.ty "str") rfl) ai)))))
      (aj (av bw))
      ax)))
  (aj (av (vD (bX aZ (ap ar (pv 0) ah (λ_ _=>rfl)) aq (ay _)) (iZ (bX aZ (ap ar (pv 0) ah (λ_ _=>rfl)) aq (ay _))))))))
  ,?_⟩
 refine⟨_,rfl,_,_,_,_,rfl,.tup hb,bK _ _,_,rfl,bt ?_⟩;refine⟨_,rfl,b,_,rfl,.inr (SqT.of hb),rfl,_,rfl,gC rfl ?_⟩;refine⟨_,rfl,b,_,_,_,rfl,rfl,SqT.of hb,rfl,_,rfl,_,rfl,bt ?_⟩;refine⟨_,rfl,_,rfl,b,_,rfl,SqT.of hb,wQ,λt2 n2=>?_⟩;have s2:=aw.new n2 (.tup [.str e.1,.str e.2.1,.str e.2.2.1]);have hb2:=s2 _ _ hb;refine⟨t2,rfl,⟨_,SqT.of ae⟩,oK (K:=K) (xs:=[.str e.1,.str e.2.1,.str e.2.2.1]) (λj σ H6=>∃ v:Option V,σ=[some (.ref b),v]/\H6=upd H t2 (.tup [.str e.1,.str e.2.1,.str e.2.2.1])) ⟨_,rfl,rfl⟩ (λj σ H6 _ ⟨_,_,z⟩=>by rw [z];exact SqT.of ae) ?_ ?_⟩
 ·rintro j y σ H6 hy ⟨v,rfl,rfl⟩;obtain⟨x,rfl⟩:∃ x,y=.str x:=by
   match j,hy with
   | 0,hy=>exact⟨_,(Qt hy).symm⟩
   | 1,hy=>exact⟨_,(Qt hy).symm⟩
   | 2,hy=>exact⟨_,(Qt hy).symm⟩
   | j+3,hy=>exact Qs hy (by simp)
  refine⟨_,rfl,_,_,_,_,rfl,.str x,bK _ _,_,rfl,bt ?_⟩;exact⟨_,rfl,rfl⟩
 rintro σ H6 ⟨v,rfl,e6⟩;have s6:aw H H6:=by rw [e6];exact s2
 have hb6:=s6 _ _ hb;refine⟨_,rfl,b,_,_,_,rfl,rfl,SqT.of hb6,rfl,rfl,_,rfl,?_⟩;rcases hw with ew | ew
 ·rw [ew];exact cg rfl (q _ s6)
 ·rw [ew];refine a9 (sne (by decide +kernel)) ?_;refine⟨_,rfl,b,_,_,_,rfl,rfl,SqT.of hb6,rfl,rfl,?_⟩;rw [ew];show Q (V.bl (decide (V.str "bar"=V.str "bar"))) _;rw [Qh rfl];exact q _ s6
theorem yS:aI ["_law_found","_law_name","_law_place"] ["_law_found"] (am sZa):=⟨rfl,rfl,rfl,by decide +kernel,rfl,by decide +kernel,by decide +kernel⟩
theorem nB(D:bE K mg)(T:Txt mg):aF P w K mg base CX0 3 D.fZa D.fdZa ["_law_found"] jG:=by
 have GZk:aF P w K mg base CX0 1 D.fZk D.fdZk ["_law_found"] lD:=nA D T;have GZh:aF P w K mg base CX0 2 D.fZh D.fdZh ["_law_found"] mL:=qG D T;refine D.FZa.ok yS (λvs H Q E h=>?_) (λcdv A outer s H vs Q E hr h=>?_)
 ·obtain⟨v,w,road,places,rule,rfl,_⟩:=h;rfl
 obtain⟨v,w',road,places,rule,rfl,⟨t,ro,pl,rv,rfl,ht,hro,hpl,hrv⟩,hrw,q⟩:=h;have nd:=yS.nd;have hr2:=hr;have hr1:bO 1 _:=hr.mono (by decide);refine⟨_,
  (ag (aM (PW.pt (cL (bS (bP (aG bu (by rfl) T.isinstance QR (aa rfl (pv 0) (aa rfl (cm rfl T.tuple PyProof.Rows.boot_tuple (v:=.ty "tuple") rfl) ai))))) (cL (au dS (aG aJ (by rfl) T.len QT (aa rfl (pv 0) ai)) ah (ay _)) (ca (bS (bP (aG bu (by rfl) T.isinstance QR (aa rfl (ap ar (pv 0) ah (λ_ _=>rfl)) (aa rfl (cm rfl T.str UY (v:=.ty "str") rfl) ai)))))))))
    (aj (av bw))
    ax)
  (ag (aM (PW.pt (cL (bS (bP (aG bu (by rfl) T.isinstance QR (aa rfl (ap ar (pv 0) ah (λ_ _=>rfl)) (aa rfl (cm rfl T.list Ur (v:=.ty "list") rfl) ai))))) (ca (bS (bP (aG bu (by rfl) T.isinstance QR (aa rfl (ap ar (pv 0) ah (λ_ _=>rfl)) (aa rfl (cm rfl T.list Ur (v:=.ty "list") rfl) ai))))))))
    (aj (av bw))
    ax)
  (ag (bQ QM rfl (bi (ap ar (pv 0) ah (λ_ _=>rfl))) (bj (i:=1) nd rfl (Or.inl rfl))
    (aj (aM (bS (bP (aG bu (by rfl) T.isinstance QR (aa rfl (pv 1) (aa rfl (cm rfl T.str UY (v:=.ty "str") rfl) ai)))))
      (aj (av bw))
      ax)))
  (ag (bQ QM rfl (bi (ap ar (pv 0) ah (λ_ _=>rfl))) (bj (i:=2) nd rfl (Or.inl rfl))
    (aj (aM (bS (bP (aP GZk hr1 rfl D.mZk D.FZk.kp D.bZk .nil bg (aa rfl (pv 2) ai))))
      (aj (av bw))
      ax)))
  (aj (av (vD (qL (qK (ap ar (pv 0) ah (λ_ _=>rfl)))) (iZ (aP GZh hr2 rfl D.mZh D.FZh.kp D.bZh .nil bg (aa rfl (ap ar (pv 0) ah (λ_ _=>rfl)) ai))))))))))
  ,?_⟩
 refine⟨_,rfl,_,_,_,_,rfl,.tup ht,bK _ _,_,rfl,bt ?_⟩;refine⟨_,rfl,t,_,rfl,.inr (SqT.of ht),rfl,_,rfl,gC rfl ?_⟩;refine⟨_,rfl,t,_,_,_,rfl,rfl,SqT.of ht,rfl,_,_,_,_,rfl,.str _,bK _ _,_,rfl,bt ?_⟩;refine⟨_,rfl,t,_,_,_,rfl,rfl,SqT.of ht,rfl,_,_,_,_,rfl,.lst hro,bK _ _,_,rfl,bt ?_⟩;refine⟨_,rfl,t,_,_,_,rfl,rfl,SqT.of ht,rfl,_,_,_,_,rfl,.lst hpl,bK _ _,_,rfl,bt ?_⟩;refine⟨_,rfl,t,_,_,_,rfl,rfl,SqT.of ht,rfl,ro,rfl,⟨_,SqL.of hro⟩,b8 (K:=K) (xs:=az road) (λj σ H6=>∃ v1:Option V,σ=[some (.ref t),v1,none]/\H6=H) ⟨_,rfl,rfl⟩ (λj σ H6 _ ⟨_,_,z⟩=>by rw [z];exact SqL.of hro) ?_ ?_⟩
 ·rintro j y σ H6 hy ⟨v1,rfl,rfl⟩;obtain⟨x,rfl,_⟩:=eK hy;refine⟨_,rfl,_,_,_,_,rfl,.str x,bK _ _,_,rfl,bt ?_⟩;exact⟨_,rfl,rfl⟩
 rintro σ H6 ⟨v1,rfl,rfl⟩;refine⟨_,rfl,t,_,_,_,rfl,rfl,SqT.of ht,rfl,pl,rfl,⟨_,SqL.of hpl⟩,b8 (K:=K) (xs:=a8 places) (λj σ H7=>∃ v2:Option V,σ=[some (.ref t),v1,v2]/\H7=H6) ⟨_,rfl,rfl⟩ (λj σ H7 _ ⟨_,_,z⟩=>by rw [z];exact SqL.of hpl) ?_ ?_⟩
 ·rintro j y σ H7 hy ⟨v2,rfl,rfl⟩;unfold a8 at hy;rw [Qq] at hy;obtain⟨x,rfl⟩:∃ x:Nat,y=.int x:=by
   cases z:places[j]? with
   | none=>rw [z] at hy;cases hy
   | some b=>rw [z] at hy;exact⟨b,(Qt hy).symm⟩
  refine⟨_,rfl,_,rfl,_,rfl,bt ?_⟩;exact⟨_,rfl,rfl⟩
 rintro σ H7 ⟨v2,rfl,rfl⟩;refine⟨_,rfl,t,_,_,_,rfl,rfl,SqT.of ht,rfl,_,rfl,?_⟩;cases rule with
 | none =>
  have hrv:rv=.non:=hrv;subst hrv;exact bM (q _ (aw.refl _))
 | some e =>
  obtain⟨b,rfl,hb⟩:=hrv;refine bt ?_;exact⟨_,rfl,t,_,_,_,rfl,rfl,SqT.of ht,rfl,b,e,rfl,hb,hrw e rfl,λH8 s8=>q _ s8⟩
end
end G06
namespace G06
open PySem L2 G1 GH
seal PySem.wpAny
section
variable{P:Program} {w:World} {K:W.Frag} {mg:Str->Option Value} {base:Heap}
theorem yT:aI ["_law_model","_law_place","_law_row"] ["_law_model","_law_place"] (am sZz):=⟨rfl,rfl,rfl,by decide +kernel,rfl,by decide +kernel,by decide +kernel⟩
theorem vy(D:bE K mg):aF P w K mg base CX0 1 D.fZz D.fdZz ["_law_model","_law_place"] sq:=by
 refine D.FZz.ok yT (λvs H Q E h=>?_) (λcdv A outer s H vs Q E hr h=>?_)
 ·obtain⟨m,a1,a2,a3,a4,h,j,rfl,_⟩:=h;rfl
 obtain⟨m,a1,a2,a3,a4,h,j,rfl,hM,hO,hZ,hj,q⟩:=h;have nd:=yT.nd;have hu:=cE hr;refine⟨_,
  (ag (aH (i:=2) nd rfl (Or.inl rfl) (aU (aa rfl (pv 1) ai)))
  (ag (dI QM (PW.pt (dZ (bS (bP (ap aN (a7 hu (pv 0) aq (λ_ _=>rfl)) (ap aN (pv 2) (dk ci ah) (λ_ _=>rfl)) (λ_ _=>rfl)))) (dC (c9 (gm (ap aN (a7 hu (pv 0) aq (λ_ _=>rfl)) (ap aN (pv 2) (dk ci ah) (λ_ _=>rfl)) (λ_ _=>rfl)))))))
    (aj (aT (bR Qw QG QF bf (pv 2) (aa rfl (ap aN (a7 hu (pv 0) aq (λ_ _=>rfl)) (ap aN (pv 2) (dk ci ah) (λ_ _=>rfl)) (λ_ _=>rfl)) ai)))))
  (aj (av (pv 2)))))
  ,?_⟩
 obtain⟨l,hl⟩:=hO.ups j hj;have hll:=hl.len;have hz:=hZ.1;refine⟨_,rfl,(by show 1<=sizeLine;decide),λr nr=>?_⟩;have ew:bh h j=cz h.cut l:=by unfold bh;rw [hl.upL]
 rw [ew] at q;refine⟨λk σ H1=>∃(pre:List Nat) (x:Nat) (lx:List Nat),lx.length=k/\σ=[some (.ref m),some (.int j),some (.ref r)]/\H1=upd H r (.lst (a8 (pre++[x])))/\Up h.par x lx/\pre++cz h.cut lx=cz h.cut l/\pre.length+lx.length<=l.length,
  ⟨_,[],j,l,rfl,rfl,rfl,hl,rfl,by simp⟩,?_⟩
 rintro k σ H1 ⟨pre,x,lx,rfl,rfl,rfl,ux,hp,hpl⟩;have hw:(upd H r (.lst (a8 (pre++[x])))) r=some (.lst (a8 pre++[.int (x:Nat)])):=by rw [ae,cO]
 have M1:=hM.same (aw.new nr (.lst (a8 (pre++[x]))));have hx:=ux.lt x ux.self;have hcl:x < h.cut.length:=by rw [hO.len];exact hx
 have hc:=Qe hcl;generalize h.cut[x]=b at hc;refine⟨_,rfl,m,_,rfl,M1.g2,_,rfl,_,rfl,r,_,_,_,rfl,rfl,SqL.of hw,b9 _ _,a2,_,_,_,rfl,rfl,SqL.of M1.h2,n8 hc,_,rfl,?_⟩;cases b with
 | true =>
  refine bt (bt ?_);refine⟨_,rfl,?_⟩;obtain⟨tl,rfl⟩:=ux.head;rw [cz,Qn hc] at hp;rw [hp];exact q r nr
 | false =>
  refine bM ?_;have hc':¬ h.cut[x]?=some true:=by rw [hc];simp
  cases ux with
  | top e =>
   refine⟨_,rfl,m,_,rfl,M1.g1,_,rfl,_,rfl,r,_,_,_,rfl,rfl,SqL.of hw,b9 _ _,a1,_,_,_,rfl,rfl,SqL.of M1.h1,dX e,_,rfl,bt ?_⟩;refine⟨_,rfl,?_⟩;rw [cz,Qf hc',cz] at hp;rw [hp];exact q r nr
  | @next _ i l' e t =>
   refine⟨_,rfl,m,_,rfl,M1.g1,_,rfl,_,rfl,r,_,_,_,rfl,rfl,SqL.of hw,b9 _ _,a1,_,_,_,rfl,rfl,SqL.of M1.h1,dX e,_,rfl,bM ?_⟩;refine⟨λσ' H'=>∃ m',m' < (x :: l').length/\∃(pre:List Nat) (x:Nat) (lx:List Nat),lx.length=m'/\σ'=[some (.ref m),some (.int j),some (.ref r)]/\H'=upd H r (.lst (a8 (pre++[x])))/\Up h.par x lx/\pre++cz h.cut lx=cz h.cut l/\pre.length+lx.length<=l.length,λ_ _ h=>h,?_⟩;refine⟨_,rfl,.inl ⟨rfl,_,SqL.of hw⟩,_,rfl,m,_,rfl,M1.g1,_,rfl,_,rfl,r,_,_,_,rfl,rfl,SqL.of hw,b9 _ _,a1,_,_,_,rfl,rfl,SqL.of M1.h1,dX e,r,_,_,rfl,rfl,hw,?_,?_⟩
   ·rw [Ql,dP];simp only [QL] at hpl;exact aB (by simp only [Qz];lia)
   ·rw [cz,Qf hc'] at hp;refine⟨l'.length,by simp,pre++[x],i,l',rfl,rfl,?_,t,by rw [QV];exact hp,by simp only [Ql,QL,Vs] at hpl ⊢;lia⟩;rw [gj,cO,cO];rfl
end
end G06
namespace G06
open PySem L2 G1 GH
seal PySem.wpAny
section
variable{P:Program} {w:World} {K:W.Frag} {mg:Str->Option Value} {base:Heap}
theorem zS:aI ["_law_script","_law_k"] ["_law_script","_law_k"] (am sAt):=⟨rfl,rfl,rfl,by decide +kernel,rfl,by decide +kernel,by decide +kernel⟩
theorem yU(D:bE K mg)(T:Txt mg):aF P w K mg base CX0 1 D.fAt D.fdAt ["_law_script","_law_k"] (x9 K):=by
 refine D.FAt.ok zS (λvs H Q E h=>?_) (λcdv A outer s H vs Q E hr h=>?_)
 ·obtain⟨a,ns,k,rfl,_⟩:=h;rfl
 obtain⟨a,ns,k,rfl,hS,h0,q⟩:=h;refine⟨_,
  (ag (aM (au gq (pv 1) (aG aJ (by rfl) T.len QT (aa rfl (pv 0) ai)) (ay _))
    (aj (av (ap aN (pv 0) (pv 1) (λ_ _=>rfl))))
    ax)
  (aj (av ah)))
  ,?_⟩
 refine⟨_,rfl,_,rfl,a,_,rfl,.inl hS,_,_,rfl,rfl,_,rfl,?_⟩;refine cF (λc=>?_) (λc=>?_)
 ·have c':k < (((ns.map V.int).length:Nat):Int):=QI c;rw [Qc] at c';obtain⟨v,hv⟩:=lA h0 c';exact⟨_,rfl,_,rfl,a,_,_,_,rfl,rfl,hS,hv,q v⟩
 ·exact q 0
end
end G06
namespace G06
open PySem L2 G1 GH
seal PySem.wpAny
section
variable{P:Program} {w:World} {K:W.Frag} {mg:Str->Option Value} {base:Heap}
theorem yV:aI ["_law_model","_law_name","_law_right","_law_place","_law_ways","_law_far","_law_k","_law_here"] ["_law_model","_law_name","_law_right","_law_place"] (am sZn):=⟨rfl,rfl,rfl,by decide +kernel,rfl,by decide +kernel,by decide +kernel⟩
theorem nC(D:bE K mg)(T:Txt mg):aF P w K mg base CX0 2 D.fZn D.fdZn ["_law_model","_law_name","_law_right","_law_place"] lN:=by
 have GZz:aF P w K mg base CX0 1 D.fZz D.fdZz ["_law_model","_law_place"] sq:=vy D;have GZf:aF P w K mg base CX0 1 D.fZf D.fdZf ["_law_links","_law_name"] gL:=iz D T;refine D.FZn.ok yV (λvs H Q E h=>?_) (λcdv A outer s H vs Q E hr h=>?_)
 ·obtain⟨m,a1,a2,a3,a4,h,a,r,j,rfl,_⟩:=h;rfl
 obtain⟨m,a1,a2,a3,a4,h,a,r,j,rfl,hM,hO,hZ,hj,q⟩:=h;have nd:=yV.nd;have hu:=cE hr;have hr1:=hr;refine⟨_,
  (ag (aH (i:=4) nd rfl (Or.inr rfl) (aP GZz hr1 rfl D.mZz D.FZz.kp D.bZz .nil bg (aa rfl (pv 0) (aa rfl (pv 3) ai))))
  (ag (aH (i:=5) nd rfl (Or.inr rfl) (aP GZf hr1 rfl D.mZf D.FZf.kp D.bZf .nil bg (aa rfl (a7 hu (pv 0) aq (λ_ _=>rfl)) (aa rfl (pv 1) ai))))
  (ag (bQ QM rfl (d9 rfl T.range (aa rfl (aG aJ (by rfl) T.len QT (aa rfl (pv 4) ai)) ai)) (bj (i:=6) nd rfl (Or.inr rfl))
    (ag (dm (i:=7) nd rfl (Or.inl rfl) (by rfl) (sc:=am sZn) (N:=["_law_model","_law_name","_law_right","_law_place","_law_ways","_law_far","_law_k","_law_here"]) (rest:=["_law_model","_law_name","_law_right","_law_place","_law_ways","_law_far","_law_k","_law_here"]) (by decide +kernel) rfl rfl rfl (bi (a7 hu (pv 0) aq (λ_ _=>rfl))) (λ_ _ _ _ _=>(d5 (au aZ (ap (bD (K:=K) rfl) (pv 0) ah (λ_ _=>rfl)) (ap (mn (K:=K) rfl) (pv 5) (pv 7) (λ_ _=>rfl)) (ay _)))) (λ_ _ _ _ _=>(pv 0)))
    (ag (dm (i:=7) nd rfl (Or.inl rfl) (by rfl) (sc:=am sZn) (N:=["_law_model","_law_name","_law_right","_law_place","_law_ways","_law_far","_law_k","_law_here"]) (rest:=["_law_model","_law_name","_law_right","_law_place","_law_ways","_law_far","_law_k","_law_here"]) (by decide +kernel) rfl rfl rfl (bi (pv 7)) (λ_ _ _ _ _=>(d5 (PW.pt (dZ (au aZ (ap (bD (K:=K) rfl) (pv 0) ah (λ_ _=>rfl)) (pv 3) (ay _)) (dC (c9 (jd hu (ap (bD (K:=K) rfl) (pv 0) ah (λ_ _=>rfl)) (pv 6)))))))) (λ_ _ _ _ _=>(pv 0)))
    (aj (aM (au qU (aG aJ (by rfl) T.len QT (aa rfl (pv 7) ai)) ah (ay _))
      (ag (aM (au dG (pv 1) (dL (sc:=am sZn) (N:=["_law_model","_law_name","_law_right","_law_place","_law_ways","_law_far","_law_k","_law_here"]) (rest:=["_law_model","_law_name","_law_right","_law_place","_law_ways","_law_far","_law_k","_law_here"]) (by decide +kernel) rfl rfl rfl (bi (pv 7)) (λ_ _ _ _ _=>ji) (λ_ _ _ _ _=>(ap (bD (K:=K) rfl) (pv 0) ah (λ_ _=>rfl)))) (by rfl))
        (aj (dm (i:=7) nd rfl (Or.inl rfl) (by rfl) (sc:=am sZn) (N:=["_law_model","_law_name","_law_right","_law_place","_law_ways","_law_far","_law_k","_law_here"]) (rest:=["_law_model","_law_name","_law_right","_law_place","_law_ways","_law_far","_law_k","_law_here"]) (by decide +kernel) rfl rfl rfl (bi (pv 7)) (λ_ _ _ _ _=>(d5 (au aZ (ap (bD (K:=K) rfl) (pv 0) ah (λ_ _=>rfl)) (pv 2) (ay _)))) (λ_ _ _ _ _=>(pv 0))))
        ax)
      (ag (aM (au dG aq (dL (sc:=am sZn) (N:=["_law_model","_law_name","_law_right","_law_place","_law_ways","_law_far","_law_k","_law_here"]) (rest:=["_law_model","_law_name","_law_right","_law_place","_law_ways","_law_far","_law_k","_law_here"]) (by decide +kernel) rfl rfl rfl (bi (pv 7)) (λ_ _ _ _ _=>ji) (λ_ _ _ _ _=>(ap (bD (K:=K) rfl) (pv 0) ah (λ_ _=>rfl)))) (by rfl))
        (aj (dm (i:=7) nd rfl (Or.inl rfl) (by rfl) (sc:=am sZn) (N:=["_law_model","_law_name","_law_right","_law_place","_law_ways","_law_far","_law_k","_law_here"]) (rest:=["_law_model","_law_name","_law_right","_law_place","_law_ways","_law_far","_law_k","_law_here"]) (by decide +kernel) rfl rfl rfl (bi (pv 7)) (λ_ _ _ _ _=>(d5 (au aZ (ap (bD (K:=K) rfl) (pv 0) ah (λ_ _=>rfl)) aq (ay _)))) (λ_ _ _ _ _=>(pv 0))))
        ax)
      (aj (av (bJ (aa rfl (pv 7) (aa rfl (cC kZ (pv 4) dh (di (aO eR (pv 6) ah))) ai)))))))
      ax)))))
  (aj (av (bJ (aa rfl (aU ai) (aa rfl (pv 4) ai))))))))
  ,?_⟩
 have hz:=hZ.1;have hwl:=kJ hO hj;refine⟨_,rfl,_,rfl,m,a1,a2,a3,a4,h,j,rfl,hM,hO,hZ,hj,λwl nwl=>?_⟩;generalize hw:bh h j=ways at q hwl;have s1:=aw.new nwl (.lst (a8 ways));have hwa:(upd H wl (.lst (a8 ways))) wl=some (.lst (a8 ways)):=ae;have M1:=hM.same s1;refine⟨_,rfl,m,_,rfl,M1.g3,_,rfl,a3,h.links,a,rfl,M1.h3,by have:=hZ.2.1;lia,λfd' B tt H2 s2 nfd hfd hB lv=>?_⟩;have s12:=s1.trans s2;have M2:=hM.same s12;have hwl2:=s2 _ _ hwa;have hrch:=λc=>GH.Lev.rch lv c;refine⟨_,rfl,wl,_,rfl,.inl (SqL.of hwl2),_,rfl,?_,?_,?_⟩
 ·rw [dP];lia
 ·rw [dP];lia
 rw [dP];obtain⟨rs,e4,pr4⟩:=M2.h4;have hrl:=hZ.2.2;refine ef (λi σ H3=>∃ vk vh:Option V,σ=[some (.ref m),some (.str a),some (.str r),some (.int (j:Nat)),some (.ref wl),some (.ref fd'),vk,vh]/\aw H2 H3/\∀ i' p,i' < i->ways[i']?=some p->aC h a r p=[])
  ⟨_,_,rfl,aw.refl _,λi' p hi _=>by lia⟩ ?_ ?_
 ·rintro i σ H3 hi ⟨vk,vh,rfl,s3,hno⟩;have hi':i < ways.length:=by lia
  have hpi:=Qe hi';generalize ways[i]=p at hpi;have hat:atI (a8 ways) (0+(i:Int))=some (.int (p:Nat)):=by rw [Int.zero_add];exact uG hpi
  have M3:=M2.same s3;have e43:=s3 _ _ e4;have pr43:=Paired.mapP pr4 λb x z=>s3 _ _ z;have hwl3:=s3 _ _ hwl2;have hfd3:=s3 _ _ hfd;refine⟨_,rfl,m,_,rfl,M3.g4,a4,rfl,⟨_,SqL.of e43⟩,cP (c:=bp) (λe:aD=>decide (e.2.2.2=(p:Int))) e43 pr43 (by lia) (λb x Q' hb hx hQ=>?_) (λb Q' hQ=>⟨_,rfl,hQ⟩) (λbs1 hb1 D1 nD1=>?_)⟩
  ·refine⟨_,rfl,b,_,_,_,rfl,rfl,SqT.of hb,rfl,_,rfl,_,rfl,wl,_,_,_,rfl,rfl,SqL.of hwl3,hat,rfl,_,rfl,?_⟩;rw [zJ];exact hQ
  have s4:=s3.put (s3.free nD1) (.lst (bs1.map V.ref));have s34:=aw.new nD1 (.lst (bs1.map V.ref));have hD1:(upd H3 D1 (.lst (bs1.map V.ref))) D1=some (.lst (bs1.map V.ref)):=ae;have hb1':=Paired.mapP hb1 λb x z=>s34 _ _ z;generalize upd H3 D1 (.lst (bs1.map V.ref))=H4 at s4 s34 hD1 hb1';have hfd4:=s4 _ _ hfd;have hl1:(h.rules.filter λe=>decide (e.2.2.2=(p:Int))).length<=90:=QQ (Q2 _ _) hrl;refine⟨_,rfl,D1,rfl,⟨_,SqL.of hD1⟩,cP (c:=bp) (λe:aD=>decide (e.2.2.1=r) && (bL (bkv B) (Sum.inr e.2.1:Key)).isSome) hD1 hb1' (by lia) (λb x Q' hb hx hQ=>?_) (λb Q' hQ=>⟨_,rfl,hQ⟩) (λbs2 hb2 D2 nD2=>?_)⟩
  ·refine⟨_,rfl,b,_,_,_,rfl,rfl,SqT.of hb,rfl,_,rfl,rfl,_,rfl,?_⟩;rw [j0];by_cases er:x.2.2.1=r
   ·rw [Qh er,Bool.true_and] at hQ;refine cg er ?_;exact⟨_,rfl,b,_,_,_,rfl,rfl,SqT.of hb,rfl,_,rfl,fd',_,rfl,bG.k (k:=(Sum.inr x.2.1:Key)) hfd4,_,rfl,hQ⟩
   ·rw [Qp er,Bool.false_and] at hQ;exact a9 er hQ
  rw [mY h a r p (λe=>by rw [wV lv])] at hb2;have s5:=s4.put (s4.free nD2) (.lst (bs2.map V.ref));have s45:=aw.new nD2 (.lst (bs2.map V.ref));have hD2:(upd H4 D2 (.lst (bs2.map V.ref))) D2=some (.lst (bs2.map V.ref)):=ae;have hb2':=Paired.mapP hb2 λb x z=>s45 _ _ z;generalize upd H4 D2 (.lst (bs2.map V.ref))=H5 at s5 s45 hD2 hb2';have hbl:=aL hb2';have hl2:(aC h a r p).length<=90:=QQ (Q2 _ _) hrl;refine⟨_,rfl,D2,_,rfl,.inl (SqL.of hD2),_,_,rfl,rfl,_,rfl,?_⟩;rw [Qc,hbl];by_cases hne:aC h a r p=[]
  ·refine a9 (by rw [hne];simp) ?_;refine⟨_,_,rfl,s5,λi' p' hi' hp'=>?_⟩;by_cases e:i'=i
   ·subst e;rw [hpi] at hp';cases hp';exact hne
   ·exact hno i' p' (by lia) hp'
  have hpos:0 < (aC h a r p).length:=Va.mpr hne;have hsr:=il hno hpi hne;refine cg (by lia) ?_;refine⟨_,rfl,_,rfl,D2,rfl,⟨_,SqL.of hD2⟩,fJ (c:=bp) (λe:aD=>e.2.1) hD2 hb2' (by lia) (λb x Q' hb hQ=>⟨_,rfl,b,_,_,_,rfl,rfl,SqT.of hb,rfl,hQ⟩) (λD3 nD3=>?_)⟩;have s6:=s5.put (s5.free nD3) (.lst (az ((aC h a r p).map λe:aD=>e.2.1)));have s56:=aw.new nD3 (.lst (az ((aC h a r p).map λe:aD=>e.2.1)));have hD3:(upd H5 D3 (.lst (az ((aC h a r p).map λe:aD=>e.2.1)))) D3=some (.lst (az ((aC h a r p).map λe:aD=>e.2.1))):=ae;generalize upd H5 D3 (.lst (az ((aC h a r p).map λe:aD=>e.2.1)))=H6 at s6 s56 hD3;have hD26:=s56 _ _ hD2;have hb26:=Paired.mapP hb2' λb x z=>s56 _ _ z;refine⟨D3,_,rfl,.inl (SqL.of hD3),rfl,cM _,_,rfl,?_⟩;have eo:(if false=true then !inV (V.str a) (az ((aC h a r p).map λe:aD=>e.2.1)) else inV (V.str a) (az ((aC h a r p).map λe:aD=>e.2.1)))=decide (a∈(aC h a r p).map λe:aD=>e.2.1):=by rw [Qf Qj,dW]
  rw [eo];by_cases hown:a∈(aC h a r p).map λe:aD=>e.2.1
  ·have ho:cY a (aC h a r p)=(aC h a r p).filter (λe=>decide (e.2.1=a))/\((aC h a r p).filter (λe=>decide (e.2.1=a))).length<=90:=⟨by unfold cY;rw [Qn hown],QQ (Q2 _ _) hl2⟩;refine cg hown ?_;refine⟨_,rfl,D2,rfl,⟨_,SqL.of hD26⟩,cP (c:=bp) (λe:aD=>decide (e.2.1=a)) hD26 hb26 (by lia) (λb x Q' hb hx hQ=>?_) (λb Q' hQ=>⟨_,rfl,hQ⟩) (λbs4 hb4 D4 nD4=>?_)⟩
   ·refine⟨_,rfl,b,_,_,_,rfl,rfl,SqT.of hb,rfl,_,rfl,rfl,_,rfl,?_⟩;rw [j0];exact hQ
   have s7:=s6.put (s6.free nD4) (.lst (bs4.map V.ref));have s67:=aw.new nD4 (.lst (bs4.map V.ref));have hD4:(upd H6 D4 (.lst (bs4.map V.ref))) D4=some (.lst (bs4.map V.ref)):=ae;have hb4':=Paired.mapP hb4 λb x z=>s67 _ _ z;generalize upd H6 D4 (.lst (bs4.map V.ref))=H7 at s7 s67 hD4 hb4';have hle1:((aC h a r p).filter (λe=>decide (e.2.1=a))).length<=90:=ho.2;refine⟨_,rfl,D4,rfl,⟨_,SqL.of hD4⟩,fJ (c:=bp) (λe:aD=>e.1) hD4 hb4' (by lia) (λb x Q' hb hQ=>⟨_,rfl,b,_,_,_,rfl,rfl,SqT.of hb,rfl,hQ⟩) (λE1 nE1=>?_)⟩;have sE:=s7.put (s7.free nE1) (.lst (az (((aC h a r p).filter (λe=>decide (e.2.1=a))).map λe:aD=>e.1)));have sE':=aw.new nE1 (.lst (az (((aC h a r p).filter (λe=>decide (e.2.1=a))).map λe:aD=>e.1)));have hE:(upd H7 E1 (.lst (az (((aC h a r p).filter (λe=>decide (e.2.1=a))).map λe:aD=>e.1)))) E1=some (.lst (az (((aC h a r p).filter (λe=>decide (e.2.1=a))).map λe:aD=>e.1))):=ae;generalize upd H7 E1 (.lst (az (((aC h a r p).filter (λe=>decide (e.2.1=a))).map λe:aD=>e.1)))=HE at sE sE' hE;have hDE:=sE' _ _ hD4;have hbE:=Paired.mapP hb4' λb x z=>sE' _ _ z;refine⟨E1,_,rfl,.inl (SqL.of hE),rfl,cM _,_,rfl,?_⟩;have eb:(if false=true then !inV (V.str "bar") (az (((aC h a r p).filter (λe=>decide (e.2.1=a))).map λe:aD=>e.1)) else inV (V.str "bar") (az (((aC h a r p).filter (λe=>decide (e.2.1=a))).map λe:aD=>e.1)))=decide (("bar":Str)∈((aC h a r p).filter (λe=>decide (e.2.1=a))).map λe:aD=>e.1):=by rw [Qf Qj,dW]
   rw [eb];by_cases hbar:("bar":Str)∈((aC h a r p).filter (λe=>decide (e.2.1=a))).map λe:aD=>e.1
   ·have hdec:dA h a r p=((aC h a r p).filter (λe=>decide (e.2.1=a))).filter (λe:aD=>decide (e.1=("bar":Str))):=by unfold dA;rw [ho.1];unfold dr;rw [Qn hbar]
    refine cg hbar ?_;refine⟨_,rfl,D4,rfl,⟨_,SqL.of hDE⟩,cP (c:=bp) (λe:aD=>decide (e.1="bar")) hDE hbE (by lia) (λb x Q' hb hx hQ=>?_) (λb Q' hQ=>⟨_,rfl,hQ⟩) (λbs5 hb5 D5 nD5=>?_)⟩
    ·refine⟨_,rfl,b,_,_,_,rfl,rfl,SqT.of hb,rfl,rfl,_,rfl,?_⟩;rw [j0];exact hQ
    have sF:=sE.put (sE.free nD5) (.lst (bs5.map V.ref));have sF':=aw.new nD5 (.lst (bs5.map V.ref));have hD5:(upd HE D5 (.lst (bs5.map V.ref))) D5=some (.lst (bs5.map V.ref)):=ae;have hb5':=Paired.mapP hb5 λb x z=>sF' _ _ z;generalize upd HE D5 (.lst (bs5.map V.ref))=HF at sF sF' hD5 hb5';refine⟨_,rfl,_,rfl,_,rfl,_,_,rfl,rfl,_,rfl,wl,_,rfl,SqL.of (sF _ _ hwl2),λwt nwt=>⟨(by show 2<=sizeLine;decide),λtr ntr=>?_⟩⟩;rw [show(0:Int)+(i:Int)+1=((i+1:Nat):Int) by lia,fe] at ntr ⊢;have ent:(a8 ways).take (i+1)=a8 (ways.take (i+1)):=by unfold a8;rw [<-Vo]
    rw [ent] at ntr ⊢;have sA:=sF.put (sF.free nwt) (.lst (a8 (ways.take (i+1))));have sB:=sA.put (sA.free ntr) (.tup [.ref D5,.ref wt]);have sC:aw HF (upd (upd HF wt (.lst (a8 (ways.take (i+1))))) tr (.tup [.ref D5,.ref wt])):=(aw.new nwt _).put ((aw.new nwt _).free ntr) _;refine q tr D5 wt _ (s12.trans sB) ae ?_ ?_
    ·rw [hsr,hdec];exact⟨_,sC _ _ hD5,Paired.mapP hb5' λb x z=>sC _ _ z⟩
    ·rw [hsr,af (ao ae ntr),ae]
   ·have hdec:dA h a r p=(aC h a r p).filter (λe=>decide (e.2.1=a)):=by unfold dA;rw [ho.1];unfold dr;rw [Qf hbar]
    refine a9 hbar ?_;refine⟨_,rfl,_,rfl,_,rfl,_,_,rfl,rfl,_,rfl,wl,_,rfl,SqL.of (sE _ _ hwl2),λwt nwt=>⟨(by show 2<=sizeLine;decide),λtr ntr=>?_⟩⟩;rw [show(0:Int)+(i:Int)+1=((i+1:Nat):Int) by lia,fe] at ntr ⊢;have ent:(a8 ways).take (i+1)=a8 (ways.take (i+1)):=by unfold a8;rw [<-Vo]
    rw [ent] at ntr ⊢;have sA:=sE.put (sE.free nwt) (.lst (a8 (ways.take (i+1))));have sB:=sA.put (sA.free ntr) (.tup [.ref D4,.ref wt]);have sC:aw HE (upd (upd HE wt (.lst (a8 (ways.take (i+1))))) tr (.tup [.ref D4,.ref wt])):=(aw.new nwt _).put ((aw.new nwt _).free ntr) _;refine q tr D4 wt _ (s12.trans sB) ae ?_ ?_
    ·rw [hsr,hdec];exact⟨_,sC _ _ hDE,Paired.mapP hbE λb x z=>sC _ _ z⟩
    ·rw [hsr,af (ao ae ntr),ae]
  ·have ho:cY a (aC h a r p)=aC h a r p/\(aC h a r p).length<=90:=⟨by unfold cY;rw [Qf hown],hl2⟩;refine a9 hown ?_;have hle2:(aC h a r p).length<=90:=ho.2;refine⟨_,rfl,D2,rfl,⟨_,SqL.of hD26⟩,fJ (c:=bp) (λe:aD=>e.1) hD26 hb26 (by lia) (λb x Q' hb hQ=>⟨_,rfl,b,_,_,_,rfl,rfl,SqT.of hb,rfl,hQ⟩) (λE1 nE1=>?_)⟩;have sE:=s6.put (s6.free nE1) (.lst (az ((aC h a r p).map λe:aD=>e.1)));have sE':=aw.new nE1 (.lst (az ((aC h a r p).map λe:aD=>e.1)));have hE:(upd H6 E1 (.lst (az ((aC h a r p).map λe:aD=>e.1)))) E1=some (.lst (az ((aC h a r p).map λe:aD=>e.1))):=ae;generalize upd H6 E1 (.lst (az ((aC h a r p).map λe:aD=>e.1)))=HE at sE sE' hE;have hDE:=sE' _ _ hD26;have hbE:=Paired.mapP hb26 λb x z=>sE' _ _ z;refine⟨E1,_,rfl,.inl (SqL.of hE),rfl,cM _,_,rfl,?_⟩;have eb:(if false=true then !inV (V.str "bar") (az ((aC h a r p).map λe:aD=>e.1)) else inV (V.str "bar") (az ((aC h a r p).map λe:aD=>e.1)))=decide (("bar":Str)∈(aC h a r p).map λe:aD=>e.1):=by rw [Qf Qj,dW]
   rw [eb];by_cases hbar:("bar":Str)∈(aC h a r p).map λe:aD=>e.1
   ·have hdec:dA h a r p=(aC h a r p).filter (λe:aD=>decide (e.1=("bar":Str))):=by unfold dA;rw [ho.1];unfold dr;rw [Qn hbar]
    refine cg hbar ?_;refine⟨_,rfl,D2,rfl,⟨_,SqL.of hDE⟩,cP (c:=bp) (λe:aD=>decide (e.1="bar")) hDE hbE (by lia) (λb x Q' hb hx hQ=>?_) (λb Q' hQ=>⟨_,rfl,hQ⟩) (λbs5 hb5 D5 nD5=>?_)⟩
    ·refine⟨_,rfl,b,_,_,_,rfl,rfl,SqT.of hb,rfl,rfl,_,rfl,?_⟩;rw [j0];exact hQ
    have sF:=sE.put (sE.free nD5) (.lst (bs5.map V.ref));have sF':=aw.new nD5 (.lst (bs5.map V.ref));have hD5:(upd HE D5 (.lst (bs5.map V.ref))) D5=some (.lst (bs5.map V.ref)):=ae;have hb5':=Paired.mapP hb5 λb x z=>sF' _ _ z;generalize upd HE D5 (.lst (bs5.map V.ref))=HF at sF sF' hD5 hb5';refine⟨_,rfl,_,rfl,_,rfl,_,_,rfl,rfl,_,rfl,wl,_,rfl,SqL.of (sF _ _ hwl2),λwt nwt=>⟨(by show 2<=sizeLine;decide),λtr ntr=>?_⟩⟩;rw [show(0:Int)+(i:Int)+1=((i+1:Nat):Int) by lia,fe] at ntr ⊢;have ent:(a8 ways).take (i+1)=a8 (ways.take (i+1)):=by unfold a8;rw [<-Vo]
    rw [ent] at ntr ⊢;have sA:=sF.put (sF.free nwt) (.lst (a8 (ways.take (i+1))));have sB:=sA.put (sA.free ntr) (.tup [.ref D5,.ref wt]);have sC:aw HF (upd (upd HF wt (.lst (a8 (ways.take (i+1))))) tr (.tup [.ref D5,.ref wt])):=(aw.new nwt _).put ((aw.new nwt _).free ntr) _;refine q tr D5 wt _ (s12.trans sB) ae ?_ ?_
    ·rw [hsr,hdec];exact⟨_,sC _ _ hD5,Paired.mapP hb5' λb x z=>sC _ _ z⟩
    ·rw [hsr,af (ao ae ntr),ae]
   ·have hdec:dA h a r p=aC h a r p:=by unfold dA;rw [ho.1];unfold dr;rw [Qf hbar]
    refine a9 hbar ?_;refine⟨_,rfl,_,rfl,_,rfl,_,_,rfl,rfl,_,rfl,wl,_,rfl,SqL.of (sE _ _ hwl2),λwt nwt=>⟨(by show 2<=sizeLine;decide),λtr ntr=>?_⟩⟩;rw [show(0:Int)+(i:Int)+1=((i+1:Nat):Int) by lia,fe] at ntr ⊢;have ent:(a8 ways).take (i+1)=a8 (ways.take (i+1)):=by unfold a8;rw [<-Vo]
    rw [ent] at ntr ⊢;have sA:=sE.put (sE.free nwt) (.lst (a8 (ways.take (i+1))));have sB:=sA.put (sA.free ntr) (.tup [.ref D2,.ref wt]);have sC:aw HE (upd (upd HE wt (.lst (a8 (ways.take (i+1))))) tr (.tup [.ref D2,.ref wt])):=(aw.new nwt _).put ((aw.new nwt _).free ntr) _;refine q tr D2 wt _ (s12.trans sB) ae ?_ ?_
    ·rw [hsr,hdec];exact⟨_,sC _ _ hDE,Paired.mapP hbE λb x z=>sC _ _ z⟩
    ·rw [hsr,af (ao ae ntr),ae]
 rintro σ H3 ⟨vk,vh,rfl,s3,hno⟩;have hsr:=fi (h:=h) (a:=a) (r:=r) (ways:=ways) λi p hp=>hno i p (by
  have:=(Qb.mp hp).1;lia) hp
 refine⟨(by show 0<=sizeLine;decide),λel nel=>⟨_,rfl,(by show 2<=sizeLine;decide),λtr ntr=>?_⟩⟩;have s4:=s3.put (s3.free nel) (.lst []);have s5:=s4.put (s4.free ntr) (.tup [.ref el,.ref wl]);refine q tr el wl _ (s12.trans s5) ae ?_ ?_
 ·rw [hsr];exact⟨[],by rw [af (ao ae ntr)];exact ae,.nil⟩
 ·rw [hsr];exact s5 _ _ hwl2
end
end G06
namespace G06
open PySem L2 G1 GH
seal PySem.wpAny
section
variable{P:Program} {w:World} {K:W.Frag} {mg:Str->Option Value} {base:Heap}
theorem yW:aI ["_law_links","_law_name","_law_who","_law_back","_law_row","_law_near","_law_them"] ["_law_links","_law_name","_law_who"] (am sZi):=⟨rfl,rfl,rfl,by decide +kernel,rfl,by decide +kernel,by decide +kernel⟩
theorem ud(D:bE K mg)(T:Txt mg):aF P w K mg base CX0 2 D.fZi D.fdZi ["_law_links","_law_name","_law_who"] pL:=by
 have GZf:aF P w K mg base CX0 1 D.fZf D.fdZf ["_law_links","_law_name"] gL:=iz D T;generalize hD:D=D0 at GZf;subst hD;refine D.FZi.ok yW (λvs H Q E h=>?_) (λcdv A outer s0 H vs Q E0 hr h=>?_)
 ·obtain⟨p,ps,s,w,rfl,_⟩:=h;rfl
 obtain⟨p,ps,s,w,rfl,hP,hpl,hroad,q⟩:=h;have hnb:=bY ps;generalize hnbe:nbP ps=nb at hnb q;have hr1:=hr;have nd:=yW.nd;have hu:=cE hr;obtain⟨as,hp,hpair⟩:=hP;have hpair:Paired (λ(a:Addr) (q:Str × Str)=>H a=some (.tup [.str q.1,.str q.2])) as ps:=hpair;have hasl:as.length=ps.length:=aL hpair;refine⟨_,
  (ag (aH (i:=3) nd rfl (Or.inr rfl) (aP GZf hr1 rfl D.mZf D.FZf.kp D.bZf .nil bg (aa rfl (dL (sc:=am sZi) (N:=["_law_links","_law_name","_law_who","_law_back","_law_row","_law_near","_law_them"]) (rest:=["_law_links","_law_name","_law_who","_law_back","_law_row","_law_near","_law_them"]) (by decide +kernel) rfl rfl rfl (bi (pv 0)) (λ_ _ _ _ _=>ji) (λ_ _ _ _ _=>(bJ (aa rfl (ap (bD (K:=K) rfl) (pv 0) ah (λ_ _=>rfl)) (aa rfl (ap (bD (K:=K) rfl) (pv 0) ah (λ_ _=>rfl)) ai))))) (aa rfl (pv 2) ai))))
  (ag (aH (i:=4) nd rfl (Or.inr rfl) (aU (aa rfl (pv 1) ai)))
  (ag (dI QM (au dS (ap aN (pv 4) (dk ci ah) (λ_ _=>rfl)) (pv 2) (ay _))
    (ag (aH (i:=5) nd rfl (Or.inr rfl) (aO i5 (a7 hu (pv 3) (ap aN (pv 4) (dk ci ah) (λ_ _=>rfl)) (λ_ _=>rfl)) ah))
    (ag (dm (i:=6) nd rfl (Or.inl rfl) (by rfl) (sc:=am sZi) (N:=["_law_links","_law_name","_law_who","_law_back","_law_row","_law_near","_law_them"]) (rest:=["_law_links","_law_name","_law_who","_law_back","_law_row","_law_near","_law_them"]) (by decide +kernel) rfl rfl rfl (bi (pv 0)) (λ_ _ _ _ _=>(d5 (au aZ (ap (bD (K:=K) rfl) (pv 0) ah (λ_ _=>rfl)) (ap (mn (K:=K) rfl) (pv 5) (dk ci ah) (λ_ _=>rfl)) (ay _)))) (λ_ _ _ _ _=>(ap (bD (K:=K) rfl) (pv 0) ah (λ_ _=>rfl))))
    (aj (aT (bR Qw QG QF bf (pv 4) (aa rfl (aG (jV rfl) (by rfl) T.min PyProof.Rows.boot_min (aa rfl (dL (sc:=am sZi) (N:=["_law_links","_law_name","_law_who","_law_back","_law_row","_law_near","_law_them"]) (rest:=["_law_links","_law_name","_law_who","_law_back","_law_row","_law_near","_law_them"]) (by decide +kernel) rfl rfl rfl (bi (pv 6)) (λ_ _ _ _ _=>(d5 (au aZ (gB hu (pv 4) (pv 0) (dk ci ah) ⟨rfl,rfl,rfl,rfl⟩) (pv 6) (ay _)))) (λ_ _ _ _ _=>(pv 0))) ai)) ai)))))))
  (aj (av (pv 4))))))
  ,?_⟩
 refine⟨_,rfl,p,rfl,⟨_,SqL.of hp⟩,cJ (K:=K) (xs:=as.map V.ref) (λj ys H2=>∃ bs:List Addr,ys=bs.map V.ref/\aw H H2/\Paired (λ(a:Addr) (q:Str × Str)=>H2 a=some (.tup [.str q.1,.str q.2])) bs ((ps.take j).map swp))
  ⟨[],rfl,aw.refl H,.nil⟩ (λj ys H2 _ ⟨_,_,s2,_⟩=>SqL.of (s2 _ _ hp)) ?_ ?_⟩
 ·rintro j y ys H2 hy hj ⟨bs,rfl,s2,pr⟩;obtain⟨a,rfl,ha⟩:∃ a,y=.ref a/\as[j]?=some a:=by
   rw [Qq] at hy;cases z:as[j]? with
   | none=>rw [z] at hy;cases hy
   | some a=>rw [z] at hy;exact⟨a,(Qt hy).symm,rfl⟩
  obtain⟨⟨x1,x2⟩,hpj,hta⟩:=br hpair ha;have hta2:=s2 _ _ hta;have hbl:=aL pr;rw [Qc,Q9] at hbl;refine bM ?_;refine⟨_,rfl,a,_,_,_,rfl,rfl,SqT.of hta2,rfl,_,rfl,a,_,_,_,rfl,rfl,SqT.of hta2,rfl,(by show 2<=sizeLine;decide),λt nt=>⟨?_,Nx.mk hj ⟨bs++[t],?_,s2.put (s2.free nt) _,?_⟩⟩⟩
  ·rw [Qc];exact aB (by lia)
  ·rw [Qx];rfl
  ·rw [Q3,hpj,Qx];exact bW (Paired.mapP pr λc r z=>by rw [af (ao z nt)];exact z) ae
 ·rintro ys H2 ⟨bs,rfl,s2,pr⟩;intro Da nD;rw [Qc,hasl,Q5] at pr;have s3:=s2.put (s2.free nD) (.lst (bs.map V.ref));refine⟨_,rfl,Da,ps.map swp,w,rfl,⟨bs,ae,Paired.mapP pr λc r z=>by rw [af (ao z nD)];exact z⟩,by rw [Qc];lia,λbd B t H3 s4 _ hbd hBl lv=>?_⟩;have s5:aw H H3:=s3.trans s4;have steps:eJ nb w B:=lv.steps λx y=>(uR x y).trans (hnb x y);have hp3:=s5 _ _ hp;refine⟨_,rfl,(by show 1<=sizeLine;decide),λra nra=>?_⟩;obtain⟨r0,hr0⟩:=hroad;rw [hnbe] at hr0;obtain⟨d0,hd0,_⟩:=steps.low hr0.cd;have hdB:∀{x:Str} {d:Nat},(x,d)∈B->d+1<=102:=λ{x d} h=>by
   have:=qz steps h;lia
  let W:Nat->St->Hp->Prop:=λm σ H4=>∃(pre:List Str) (u:Str) (v5 v6:Option V),σ=[some (.ref p),some (.str s),some (.str w),some (.ref bd),some (.ref ra),v5,v6]/\aw H3 H4/\H4 ra=some (.lst (az pre++[.str u]))/\(u,m)∈B /\
   (∀ t,Best ltS nb u w t->Best ltS nb s w (pre++t))/\pre.length+m<=200
  refine⟨W,⟨d0,[],s,_,_,rfl,aw.new nra _,ae,hd0,λt z=>z,by have:=hdB hd0;simp only [Vs];lia⟩,?_⟩;rintro m σ H4 ⟨pre,u,v5,v6,rfl,s6,hra,hum,hbest,hlen⟩;refine⟨_,rfl,_,rfl,ra,_,_,_,rfl,rfl,SqL.of hra,b9 _ _,_,rfl,rfl,_,rfl,?_⟩;by_cases huw:u=w
  ·have e1:(!decide (V.str u=V.str w))=false:=by rw [huw];simp
   rw [e1];refine bt ?_;refine⟨_,rfl,q ra (pre++[u]) H4 (s5.trans s6) (by rw [hra,cr]) (hbest [u] (by rw [huw];exact Best.self ordS nb w)) (by simp only [Ql,Qz];lia)⟩
  ·have e1:(!decide (V.str u=V.str w))=true:=by rw [Qp (λz=>huw (V.str.inj z))];rfl
   rw [e1];refine bM ?_;cases m with
   | zero=>exact Qs (steps.zero' u hum) huw
   | succ m =>
    refine⟨λσ' H'=>∃ m',m' < m+1/\W m' σ' H',λ_ _ h=>h,?_⟩;have hbd4:=s6 _ _ hbd;refine⟨_,rfl,_,rfl,_,rfl,ra,_,_,_,rfl,rfl,SqL.of hra,b9 _ _,bd,_,rfl,(eM steps.nd hum ▸ bG.k (k:=(Sum.inr u:Key)) hbd4:bG H4 bd (.str u) (some (.int ((m+1:Nat):Int)))),_,_,rfl,rfl,?_⟩;have hp4:=s6 _ _ hp3;refine⟨_,rfl,p,rfl,⟨_,SqL.of hp4⟩,cJ (K:=K) (xs:=as.map V.ref) (λj ys H5=>ys=az (thm (ps.take j) u)/\H5=H4) ⟨rfl,rfl⟩ (λj ys H5 _ z=>by rw [z.2];exact SqL.of hp4) ?_ ?_⟩
    ·rintro j y ys H5 hy hj ⟨rfl,rfl⟩;obtain⟨a,rfl,ha⟩:∃ a,y=.ref a/\as[j]?=some a:=by
      rw [Qq] at hy;cases z:as[j]? with
      | none=>rw [z] at hy;cases hy
      | some a=>rw [z] at hy;exact⟨a,(Qt hy).symm,rfl⟩
     obtain⟨⟨x1,x2⟩,hpj,hta⟩:=br hpair ha;have hta2:=s6 _ _ (s5 _ _ hta);refine⟨_,rfl,a,_,_,_,rfl,rfl,SqT.of hta2,rfl,_,rfl,_,rfl,ra,_,_,_,rfl,rfl,SqL.of hra,b9 _ _,rfl,_,rfl,?_⟩;have tk:=sS (u:=u) hpj;by_cases e:x1=u
     ·rw [Qn e] at tk;refine cF (λ_=>?_) (λz=>Qs (Qh (show V.str x1=V.str u by rw [e])) z);refine⟨_,rfl,a,_,_,_,rfl,rfl,SqT.of hta2,rfl,?_,Nx.mk hj ⟨?_,rfl⟩⟩
      ·have:=pK (ps.take j) u;rw [Q9] at this;rw [ba];exact aB (by lia)
      ·rw [tk,cr]
     ·rw [Qf e,Uv] at tk;refine cF (λz=>Qs (V.str.inj (QI z)) e) (λ_=>Nx.mk hj ⟨?_,rfl⟩);rw [tk]
    ·rintro ys H5 ⟨rfl,rfl⟩;intro D2 nD2;rw [Qc,hasl,Q5];have hra2:(upd H5 D2 (.lst (az (thm ps u)))) ra=some (.lst (az pre++[.str u])):=by rw [af (ao hra nD2)];exact hra
     have hbd5:(upd H5 D2 (.lst (az (thm ps u)))) bd=some (.dK (bkv B)):=by rw [af (ao hbd4 nD2)];exact hbd4
     refine⟨_,rfl,.inl ⟨rfl,_,SqL.of hra2⟩,_,rfl,D2,rfl,⟨_,SqL.of ae⟩,cJ (K:=K) (xs:=az (thm ps u)) (λj ys H6=>ys=az (((thm ps u).take j).filter λx=>decide ((x,m)∈B))/\H6=upd H5 D2 (.lst (az (thm ps u))))
      ⟨rfl,rfl⟩ (λj ys H6 _ z=>by rw [z.2];exact SqL.of ae) ?_ ?_⟩
     ·rintro j y ys H6 hy hj ⟨rfl,rfl⟩;obtain⟨x,rfl,hx⟩:=eK hy;obtain⟨z,ez,hz⟩:=qA steps.nd x m;have tk:((thm ps u).take (j+1)).filter (λx=>decide ((x,m)∈B))=((thm ps u).take j).filter (λx=>decide ((x,m)∈B))++(if (x,m)∈B then [x] else []):=by
       rw [Q3,hx,Ug];congr 1
       show [x].filter (λx=>decide ((x,m)∈B))=_;by_cases e:(x,m)∈B
       ·rw [Qn e];simp [e]
       ·rw [Qf e];simp [e]
      refine⟨_,rfl,bd,rfl,.inl ⟨_,.inl hbd5⟩,_,rfl,_,rfl,_,bG.k (k:=(Sum.inr x:Key)) hbd5,_,rfl,?_⟩;have key:wy ((bL (bkv B) (Sum.inr x:Key)).getD (.int (-1))) (.int (((m+1:Nat):Int) - 1))=true/\(decide ((bL (bkv B) (Sum.inr x:Key)).getD (.int (-1))=V.int (((m+1:Nat):Int) - 1))=decide ((x,m)∈B)):=by
       rw [ez];refine⟨rfl,?_⟩;rw [Ua,Q4,Q4,<-hz];constructor
       ·intro e;have:=V.int.inj e;lia
       ·intro e;rw [e];congr 1;lia
      refine⟨key.1,_,rfl,?_⟩;by_cases e:(x,m)∈B
      ·rw [Qn e] at tk;refine cF (λ_=>?_) (λz=>Qs (key.2.trans (Qh e)) z);refine⟨_,rfl,?_,Nx.mk hj ⟨?_,rfl⟩⟩
       ·have h1:=pK ps u;have h2:=Q2 (λx=>decide ((x,m)∈B)) ((thm ps u).take j);rw [Q9] at h2;rw [ba];exact aB (by lia)
       ·rw [tk,cr]
      ·rw [Qf e,Uv] at tk;refine cF (λz=>Qs (key.2.symm.trans z) (by rw [Qp e];exact Qj)) (λ_=>Nx.mk hj ⟨?_,rfl⟩);rw [tk]
     ·rintro ys H6 ⟨rfl,rfl⟩;intro D3 nD3;rw [ba,Q5];obtain⟨y0,hy0,hyd0⟩:=steps.down u m hum;have hne:(thm ps u).filter (λx=>decide ((x,m)∈B))≠[]:=by
       refine List.ne_nil_of_mem (a:=y0) (QX.mpr ⟨lM.mpr ((hnb u y0).mpr hy0),Qh hyd0⟩)
      refine⟨D3,_,rfl,SqL.of ae,hne,λy hy least=>?_⟩;obtain⟨hy1,hy2⟩:=QX.mp hy;have hynb:y∈nb u:=(hnb u y).mp (lM.mp hy1);have hyB:(y,m)∈B:=QI hy2;have hra3:(upd (upd H5 D2 (.lst (az (thm ps u)))) D3 (.lst (az ((thm ps u).filter λx=>decide ((x,m)∈B))))) ra=some (.lst (az pre++[.str u])):=by rw [af (ao hra2 nD3)];exact hra2
      refine⟨ra,_,_,rfl,rfl,hra3,?_,?_⟩
      ·rw [Ql,ba,Qz];exact aB (by lia)
      have s7:aw H3 (upd H5 D2 (.lst (az (thm ps u)))):=s6.put (s6.free nD2) _;have s8:=s7.put (s7.free nD3) (.lst (az ((thm ps u).filter λx=>decide ((x,m)∈B))));refine⟨m,by lia,pre++[u],y,_,_,rfl,s8.put nra _,?_,hyB,λt ht=>?_,by simp only [Ql,Qz];lia⟩
      ·rw [ae,cr]
      ·have:=hbest (u :: t) (steps.step ordS hum hynb hyB (λz hz hzB=>least z (QX.mpr ⟨lM.mpr ((hnb u z).mpr hz),Qh hzB⟩)) ht);rw [QV];exact this
end
end G06
namespace G06
open PySem L2 G1 GH
seal PySem.wpAny
section
variable{P:Program} {w:World} {K:W.Frag} {mg:Str->Option Value} {base:Heap}
theorem yX:aI ["_law_found","_law_model","_law_deed","_law_here","_law_ways","_law_least","_law_rule","_law_row"] ["_law_found","_law_model","_law_deed"] (am sZe):=⟨rfl,rfl,rfl,by decide +kernel,rfl,by decide +kernel,by decide +kernel⟩
theorem oH(D:bE K mg)(T:Txt mg):aF P w K mg base CX0 4 D.fZe D.fdZe ["_law_found","_law_model","_law_deed"] kL:=by
 have GZn:aF P w K mg base CX0 2 D.fZn D.fdZn ["_law_model","_law_name","_law_right","_law_place"] lN:=nC D T;have GZi:aF P w K mg base CX0 2 D.fZi D.fdZi ["_law_links","_law_name","_law_who"] pL:=ud D T;have GZa:aF P w K mg base CX0 3 D.fZa D.fdZa ["_law_found"] jG:=nB D T;refine D.FZe.ok yX (λvs H Q E h=>?_) (λcdv A outer s H vs Q E hr h=>?_)
 ·obtain⟨v,m,a1,a2,a3,a4,t,h,a,r,j,w',road,places,rule,rfl,_⟩:=h;rfl
 obtain⟨v,m,a1,a2,a3,a4,t,h,a,r,j,w',road,places,rule,rfl,hA,hM,hO,hX,hZ,ht,hj,hTa,hI,q⟩:=h;have nd:=yX.nd;have hu:=cE hr;have hr3:=hr;have hr2:bO 2 _:=hr.mono (by decide);refine⟨_,
  (ag (i0 (aP GZn hr2 rfl D.mZn D.FZn.kp D.bZn .nil bg (aa rfl (pv 1) (aa rfl (ap ar (pv 2) ah (λ_ _=>rfl)) (aa rfl (ap ar (pv 2) ah (λ_ _=>rfl)) (aa rfl (ap ar (pv 2) ah (λ_ _=>rfl)) ai))))) (nF rfl (d8 (bj (i:=3) nd rfl (Or.inl rfl)) (d8 (bj (i:=4) nd rfl (Or.inl rfl)) kS))))
  (ag (aM (PW.pt (cL (bS (bP (aP GZa hr3 rfl D.mZa D.FZa.kp D.bZa .nil bg (aa rfl (pv 0) ai)))) (ca (au (wL hr.units) (ap ar (pv 0) ah (λ_ _=>rfl)) (pv 4) (ay _)))))
    (aj (av bw))
    ax)
  (ag (aM (au (lc hr.units) (pv 3) (aU ai) (ay _))
    (aj (av (kR (bX aZ (ap ar (pv 0) ah (λ_ _=>rfl)) aq (ay _)) (kR (bX (lc hr.units) (ap ar (pv 0) ah (λ_ _=>rfl)) (aU ai) (ay _)) (iZ (qL (qK (ap ar (pv 0) ah (λ_ _=>rfl)))))))))
    ax)
  (ag (aM (au (km hr.units70) (ap ar (pv 0) ah (λ_ _=>rfl)) (pv 3) (by rfl))
    (aj (av bw))
    ax)
  (ag (aM (au dS (ap ar (pv 0) ah (λ_ _=>rfl)) (ap aN (aU (aa rfl aq (aa rfl aq ai))) (fu m9 (by rfl) T.int PyProof.Rows.boot_int (aa rfl (bX aZ (ap ar (ap ar (pv 0) ah (λ_ _=>rfl)) ah (λ_ _=>rfl)) aq (ay _)) ai)) (λ_ _=>rfl)) (ay _))
    (aj (av bw))
    ax)
  (ag (aH (i:=5) nd rfl (Or.inl rfl) (aU ai))
  (ag (bQ QM rfl (bi (pv 3)) (bj (i:=6) nd rfl (Or.inl rfl))
    (ag (aH (i:=7) nd rfl (Or.inl rfl) (aP GZi hr2 rfl D.mZi D.FZi.kp D.bZi .nil bg (aa rfl (a7 hu (pv 1) aq (λ_ _=>rfl)) (aa rfl (ap ar (pv 2) ah (λ_ _=>rfl)) (aa rfl (ap ar (pv 6) ah (λ_ _=>rfl)) ai)))))
    (aj (aM (PW.pt (cL (au (lc hr.units) (pv 5) (aU ai) (ay _)) (ca (au (tH hr.units100) (bJ (aa rfl (aG aJ (by rfl) T.len QT (aa rfl (pv 7) ai)) (aa rfl (pv 7) ai))) (bJ (aa rfl (aG aJ (by rfl) T.len QT (aa rfl (pv 5) ai)) (aa rfl (pv 5) ai))) (ay _)))))
      (aj (aH (i:=5) nd rfl (Or.inl rfl) (pv 7)))
      ax))))
  (aj (av (kR (bX (lc hr.units) (ap ar (pv 0) ah (λ_ _=>rfl)) (pv 5) (ay _)) (iZ (bX aZ (ap aN (ap ar (pv 0) ah (λ_ _=>rfl)) (dk ci ah) (λ_ _=>rfl)) (ap ar (ap ar (pv 0) ah (λ_ _=>rfl)) ah (λ_ _=>rfl)) (ay _)))))))))))))
  ,?_⟩
 refine⟨_,rfl,_,rfl,t,_,_,_,rfl,rfl,SqT.of ht,rfl,_,rfl,t,_,_,_,rfl,rfl,SqT.of ht,rfl,_,rfl,t,_,_,_,rfl,rfl,SqT.of ht,rfl,m,a1,a2,a3,a4,h,a,r,j,rfl,hM,hO,hZ,hj,λt2 b1 b2 H1 s1 ht2 hb1 hb2=>?_⟩;refine⟨t2,_,rfl,SqT.of ht2,rfl,_,_,rfl,_,_,rfl,rfl,?_⟩;have hsub:=(jM (h:=h) (a:=a) (r:=r) (ways:=bh h j)).2;have hpl:places=(bq h a r (bh h j)).2:=hI.uniq;generalize hse:(bq h a r (bh h j)).1=rs at hb1 hsub;rw [<-hpl] at hb2;have A1:=hA.same s1;have hw:∀ e,rule=some e->cW e.1:=λe he=>by
  cases hI with
  | none _=>cases he
  | some he' _ _ =>
   cases he;rw [hse] at he';exact(hX.r _ (hsub _ he').1).1
 refine⟨_,rfl,v,w',road,places,rule,rfl,A1,hw,λH2 s2=>⟨_,rfl,bt ?_⟩⟩;have A2:=A1.same s2;have hb2':=s2 _ _ hb2;obtain⟨t0,ro,pl,rv,rfl,h0,hro,hpl0,hrv⟩:=A2;have gp:=qE places;refine⟨_,rfl,t0,_,_,_,rfl,rfl,SqT.of h0,rfl,_,rfl,_,_,.lst (SqL.of hpl0) (lR K _ places),.lst (SqL.of hb2') (lR K _ places),gp.shaped (by lia),gp.shaped (by lia),_,rfl,?_⟩;rw [SeqAt.eqv_refl _ gp.1];refine bt ?_;have hb12:=hb1.same s2;have gr:=ox (l:=rs) λe he=>hX.rule (hsub e he).1;have gn:=ni;refine⟨_,rfl,(by show 0<=sizeLine;decide),λe0 n0=>?_⟩;have s3:=aw.new n0 (.lst []);refine⟨_,_,uN K (λ_ _ z=>dE K z) (hb12.same s3),.lst (SqL.of ae) .nil,gr.shaped (by lia),gn.shaped (by lia),_,rfl,?_⟩;rw [pT];obtain⟨H3,e3⟩:∃ H3,H3=upd H2 e0 (.lst []):=⟨_,rfl⟩;rw [<-e3] at s3 ⊢;clear e3;have s03:=(s1.trans s2).trans s3;have h0':=s3 _ _ h0;have hro':=s3 _ _ hro;cases hI with
 | none hnil =>
  rw [hse] at hnil;subst hnil;refine cg rfl ?_;have hrv:rv=.non:=hrv;subst hrv;refine⟨_,rfl,t0,_,_,_,rfl,rfl,SqT.of h0',rfl,rfl,_,rfl,cg rfl ?_⟩;refine⟨_,rfl,t0,_,_,_,rfl,rfl,SqT.of h0',rfl,(by show 0<=sizeLine;decide),λe1 n1=>?_⟩;have s4:=aw.new n1 (.lst []);refine⟨_,_,.lst (SqL.of (s4 _ _ hro')) .nil,.lst (SqL.of ae) .nil,gn.shaped (by lia),gn.shaped (by lia),_,rfl,bM ?_⟩;exact⟨_,rfl,t0,_,_,_,rfl,rfl,SqT.of (s4 _ _ h0'),rfl,q _ (s03.trans s4)⟩
 | @some e road he hbest hmin =>
  rw [hse] at he hmin;have hne:¬ rs.map bV=[]:=λz=>by
   rw [List.map_eq_nil_iff.mp z] at he;cases he
  refine a9 hne ?_;obtain⟨b,rfl,hb⟩:=hrv;have hb3':=s3 _ _ hb;have hb13:=hb12.same s3;obtain⟨as,has,pas⟩:=hb13;refine⟨_,rfl,t0,_,_,_,rfl,rfl,SqT.of h0',rfl,_,rfl,b1,_,_,_,rfl,.inl (SqL.of has),dE K hb3',eW K (λa x z=>dE K z) pas,?_,?_,_,rfl,?_⟩
  ·have:=hX.rule (hsub e he).1;exact dq this.1 this.2.1 this.2.2
  ·intro d hd;obtain⟨e',he',rfl⟩:=Qg.mp hd;have:=hX.rule (hsub e' he').1;exact dq this.1 this.2.1 this.2.2
  rw [Qn rfl,ii,Qh he];refine bt ?_;refine⟨_,rfl,t0,_,_,_,rfl,rfl,SqT.of h0',rfl,(by show 2<=sizeLine;decide),λl1 n1=>?_⟩;have s4:=aw.new n1 (.lst [.str "given",.str "barred"]);refine⟨_,rfl,t0,_,_,_,rfl,rfl,SqT.of (s4 _ _ h0'),rfl,b,_,_,_,rfl,rfl,SqT.of (s4 _ _ hb3'),rfl,rfl,_,rfl,l1,_,_,_,rfl,rfl,SqL.of ae,uX e.1,rfl,_,rfl,?_⟩;rw [show(!decide (V.str (if e.1="bar" then "barred" else "given")=V.str (uW e.1)))=false by rw [Qh (show V.str (if e.1="bar" then "barred" else "given")=V.str (uW e.1) from rfl)];rfl];refine bt ?_;refine⟨(by show 0<=sizeLine;decide),λe1 n1'=>?_⟩;obtain⟨G,eG⟩:∃ G,G=upd (upd H3 l1 (.lst [.str "given",.str "barred"])) e1 (.lst []):=⟨_,rfl⟩;rw [<-eG];have sG:aw H3 G:=by rw [eG];exact s4.trans (aw.new n1' _)
  have hG:G e1=some (.lst (az [])):=by rw [eG];exact ae
  clear eG;have hasG:=sG _ _ has;have pasG:=Paired.mapP pas λb x z=>sG _ _ z;have s0G:=s03.trans sG;refine⟨_,rfl,b1,rfl,⟨_,SqL.of hasG⟩,b8 (K:=K) (xs:=as.map V.ref) (λi σ H5=>∃(v6 v7:Option V) (la:Addr) (ls:List Str),σ=[some (.ref t0),some (.ref m),some (.ref t),some (.ref b1),some (.ref b2),some (.ref la),v6,v7]/\aw G H5/\H5 la=some (.lst (az ls))/\uY h a rs i ls)
   ⟨_,_,e1,[],rfl,aw.refl _,hG,.inl ⟨rfl,rfl⟩⟩ (λi σ H5 _ ⟨_,_,_,_,_,s5,_⟩=>SqL.of (s5 _ _ hasG)) ?_ ?_⟩
  ·rintro i y σ H5 hy ⟨v6,v7,la,ls,rfl,s5,hla,hls⟩;obtain⟨b',rfl,hbi⟩:=fh hy;obtain⟨e',hei,hbt⟩:=br pasG hbi;have he':=QC hei;have tk:rs.take (i+1)=rs.take i++[e']:=by rw [Q3,hei];rfl
   have M5:=hM.same (s0G.trans s5);have ht5:=s5 _ _ (s0G _ _ ht);have hbt5:=s5 _ _ hbt;refine⟨_,rfl,m,_,rfl,M5.g3,_,rfl,t,_,_,_,rfl,rfl,SqT.of ht5,rfl,_,rfl,b',_,_,_,rfl,rfl,SqT.of hbt5,rfl,a3,h.links,a,e'.2.1,rfl,M5.h3,by have:=hZ.2.1;lia,(hsub e' he').2,λra rr H6 s6 hra hbr hrl=>?_⟩;have s56:=s5.trans s6;have hla6:=s6 _ _ hla;refine⟨_,rfl,(by show 0<=sizeLine;decide),λe2 n2=>?_⟩;have s7:=aw.new n2 (.lst []);have hlst:∀ x∈ls,Tx x:=by
    rcases hls with⟨_,rfl⟩ | ⟨_,⟨e3,_,hb3⟩,_⟩
    ·intro x hx;cases hx
    ·exact pU hX hTa hb3.1
   have gl:=kM hlst;refine⟨_,_,.lst (SqL.of (s7 _ _ hla6)) (fg K _ ls),.lst (SqL.of ae) .nil,gl.shaped (by lia),ni.shaped (by lia),_,rfl,?_⟩;rw [pT];rcases hls with⟨rfl,rfl⟩ | ⟨hi0,⟨e3,he3,hb3⟩,hmin3⟩
   ·refine cg rfl (bM ?_);refine⟨_,rfl,_,_,ra,rr,rfl,s56.trans s7,s7 _ _ hra,.inr ⟨by lia,⟨e',by rw [tk];simp,hbr⟩,λe4 he4 p hp=>?_⟩⟩;rw [tk] at he4;have e4e:e4=e':=by simpa using he4
    subst e4e;rw [Best.uniq ordS hp hbr];exact ie ordS _
   ·have hlne:¬ ls.map PyData.str=[]:=λz=>by
     have:=hb3.1.pos;rw [List.map_eq_nil_iff.mp z] at this;exact Qs this (by decide)
    refine a9 hlne ?_;have hra7:=s7 _ _ hra;have hla7:=s7 _ _ hla6;refine⟨_,rfl,ra,_,rfl,.inl (SqL.of hra7),_,rfl,(by show 2<=sizeLine;decide),λp1 m1=>?_⟩;have s8:=aw.new m1 (.tup [.int ((az rr).length:Nat),.ref ra]);refine⟨_,rfl,la,_,rfl,.inl (SqL.of (s8 _ _ hla7)),_,rfl,(by show 2<=sizeLine;decide),λp2 m2=>?_⟩;have s9:=aw.new m2 (.tup [.int ((az ls).length:Nat),.ref la]);refine⟨p1,p2,ra,la,rr,ls,rfl,rfl,?_,?_,s9 _ _ (s8 _ _ hra7),s9 _ _ (s8 _ _ hla7),_,rfl,?_⟩
    ·rw [s9 _ _ ae,ba]
    ·rw [ae,ba]
    have s59:=((s56.trans s7).trans s8).trans s9;cases hsl:slB rr ls with
    | true =>
     refine bM ?_;have hsl:=fK.mp hsl;refine⟨_,rfl,_,_,ra,rr,rfl,s59,s9 _ _ (s8 _ _ hra7),.inr ⟨by lia,⟨e',by rw [tk];simp,hbr⟩,λe4 he4 p hp=>?_⟩⟩;rw [tk] at he4;rcases Qr.mp he4 with z | z
     ·intro hz;exact hmin3 e4 z p hp (sl_tr ordS hz hsl)
     ·have e4e:e4=e':=by simpa using z
      subst e4e;rw [Best.uniq ordS hp hbr];exact ie ordS _
    | false =>
     refine bt ?_;have hsl:¬ sl ltS rr ls:=λz=>by rw [fK.mpr z] at hsl;cases hsl
     refine⟨_,_,la,ls,rfl,s59,s9 _ _ (s8 _ _ hla7),.inr ⟨by lia,⟨e3,by rw [tk];exact QU _ he3,hb3⟩,λe4 he4 p hp=>?_⟩⟩;rw [tk] at he4;rcases Qr.mp he4 with z | z
     ·exact hmin3 e4 z p hp
     ·have e4e:e4=e':=by simpa using z
      subst e4e;rw [Best.uniq ordS hp hbr];exact hsl
  ·rintro σ H5 ⟨v6,v7,la,ls,rfl,s5,hla,hls⟩;rw [Qc,aL pas] at hls;have hrs0:rs.length≠0:=λz=>by rw [List.length_eq_zero_iff.mp z] at he;cases he
   rcases hls with⟨z,_⟩ | ⟨_,⟨e3,he3,hb3⟩,hmin3⟩
   ·exact Qs z hrs0
   rw [Q5] at he3 hmin3;have er:road=ls:=by
    rcases ju ordS road ls with z | z | z
    ·exact Qs z (hmin3 e he road hbest)
    ·exact z
    ·exact Qs z (hmin e3 he3 ls hb3)
   subst er;have gl:=kM (pU hX hTa hbest.1);have hro5:=s5 _ _ (sG _ _ hro');have h05:=s5 _ _ (sG _ _ h0');have hb5:=s5 _ _ (sG _ _ hb3');refine⟨_,rfl,t0,_,_,_,rfl,rfl,SqT.of h05,rfl,_,rfl,_,_,.lst (SqL.of hro5) (fg K _ road),.lst (SqL.of hla) (fg K _ road),gl.shaped (by lia),gl.shaped (by lia),_,rfl,?_⟩;rw [SeqAt.eqv_refl _ gl.1];refine bM ?_;obtain⟨pre,hpre⟩:=hbest.1.last;have hlast:atI (az road) (-1)=some (.str e.2.1):=by
    rw [hpre,cr];exact b9 _ _
   refine⟨_,rfl,t0,_,_,_,rfl,rfl,SqT.of h05,rfl,_,rfl,ro,_,_,_,rfl,rfl,SqL.of hro5,hlast,_,rfl,t0,_,_,_,rfl,rfl,SqT.of h05,rfl,b,_,_,_,rfl,rfl,SqT.of hb5,rfl,rfl,?_⟩;show Q (V.bl (decide (V.str e.2.1=V.str e.2.1))) _;rw [Qh rfl];exact q _ (s0G.trans s5)
end
end G06
namespace G06
open PySem L2 G1 GH
seal PySem.wpAny
section
variable{P:Program} {w:World} {K:W.Frag} {mg:Str->Option Value} {base:Heap}
theorem yY:aI ["_law_script","_law_count","_law_asks","_law_k","_law_cell","_law_name","_law_right"] ["_law_script","_law_count"] (am sZw):=⟨rfl,rfl,rfl,by decide +kernel,rfl,by decide +kernel,by decide +kernel⟩
theorem vz(D:bE K mg)(T:Txt mg):aF P w K mg base CX0 2 D.fZw D.fdZw ["_law_script","_law_count"] (tJ K):=by
 have GAt:aF P w K mg base CX0 1 D.fAt D.fdAt ["_law_script","_law_k"] (x9 K):=yU D T;have GZm:aF P w K mg base CX0 1 D.fZm D.fdZm [] lz:=nu D;refine D.FZw.ok yY (λvs H Q E h=>?_) (λcdv A outer s H vs Q E hr h=>?_)
 ·obtain⟨a,ns,n,rfl,_⟩:=h;rfl
 obtain⟨a,ns,n,rfl,hS,hn,q⟩:=h;have nd:=yY.nd;have hr1:=hr;refine⟨_,
  (ag (aH (i:=2) nd rfl (Or.inl rfl) (aU ai))
  (ag (bQ QM rfl (d9 rfl T.range (aa rfl ah ai)) (bj (i:=3) nd rfl (Or.inl rfl))
    (ag (aH (i:=4) nd rfl (Or.inl rfl) (aO eR (aP GAt hr1 rfl D.mAt D.FAt.kp D.bAt .nil bg (aa rfl (pv 0) (aa rfl (pv 3) ai))) (aO cQ ah (pv 3))))
    (ag (aH (i:=5) nd rfl (Or.inl rfl) (ap aN (aO nR (eY GZm hr1 rfl D.mZm D.FZm.kp D.bZm .nil bg) (aU (aa rfl aq ai))) (aO bH (aO bH (aO cQ (pv 4) ah) ah) ah) (λ_ _=>rfl)))
    (ag (aH (i:=6) nd rfl (Or.inl rfl) (ap aN (aU (aa rfl aq (aa rfl (aO eT (aO eU aq ah) aq) (aa rfl aq ai)))) (aO bH (aO bH (aO cQ (pv 4) ah) ah) ah) (λ_ _=>rfl)))
    (aj (aT (bR Qw QG QF bf (pv 2) (aa rfl (bJ (aa rfl aq (aa rfl (pv 5) (aa rfl (pv 6) (aa rfl (aO bH (aO bH (aO cQ (aO eR (pv 4) (pv 3)) ah) ah) (pv 1)) ai))))) ai))))))))
  (aj (av (pv 2)))))
  ,?_⟩
 refine⟨(by show 0<=sizeLine;decide),λp np=>?_⟩;have s1:=aw.new np (.lst []);refine⟨(10:Int),rfl,by decide,by decide,?_⟩;refine ef (n:=10) (λi σ H1=>∃(ds:List aA) (v3 v4 v5 v6:Option V),σ=[some (.ref a),some (.int (n:Int)),some (.ref p),v3,v4,v5,v6]/\aw H H1/\a6 aA.vals H1 p ds/\(∀ d∈ds,kN dQ n d)/\ds.length=i)
  ⟨[],_,_,_,_,rfl,s1,⟨[],ae,.nil⟩,λd hd=>Qs hd (by simp),rfl⟩ ?_ ?_
 ·rintro i σ H1 hi ⟨ds,v3,v4,v5,v6,rfl,sb,hT,hsm,hl⟩;refine⟨_,rfl,_,rfl,a,ns,_,rfl,hS.sameT (aV.of sb),by lia,λz=>?_⟩;refine⟨_,rfl,_,_,rfl,rfl,.inl ⟨by decide,by decide⟩,_,_,rfl,rfl,?_⟩;generalize z+3 * (0+(i:Int))=zc;refine dt [some (.ref a),some (.int (n:Int)),some (.ref p),some (.int (0+(i:Int))),some (.int zc),v5,v6] rfl ?_;refine⟨rfl,λl1 n1=>⟨(by show 1<=sizeLine;decide),λl2 n2=>?_⟩⟩;have w1:=aw.new n1 (.lst (az b7));have w2:=aw.new n2 (.lst [.str "nobody"]);refine⟨l1,l2,_,_,rfl,rfl,w2 _ _ ae,ae,(by show 8<=sizeLine;decide),λl3 n3=>?_⟩;have w3:=aw.new n3 (.lst (az dQ));obtain⟨nm,hnm,enm⟩:=fF (ns:=dQ) (db (zc * 48271 % 1051) (m:=8) (by decide)).1 (db (zc * 48271 % 1051) (m:=8) (by decide)).2;refine⟨_,rfl,_,_,rfl,rfl,.inr ⟨by decide,by decide⟩,_,_,rfl,rfl,(by show(0:Int) < 1051;decide),_,_,rfl,rfl,(by show(0:Int) < 8;decide),l3,_,_,_,rfl,rfl,SqL.of ae,enm,?_⟩;refine dt [some (.ref a),some (.int (n:Int)),some (.ref p),some (.int (0+(i:Int))),some (.int zc),some (.str nm),v6] rfl ?_;obtain⟨H2,e2⟩:∃ G,G=upd (upd (upd H1 l1 (.lst (az b7))) l2 (.lst [.str "nobody"])) l3 (.lst (az dQ)):=⟨_,rfl⟩;show(_:Prop);rw [show upd (upd (upd H1 l1 (.lst (az b7))) l2 (.lst [.str "nobody"])) l3 (.lst (az b7++[.str "nobody"]))=H2 from e2.symm];have s12:aw H1 H2:=by rw [e2];exact(w1.trans w2).trans w3
  clear e2 w1 w2 w3 n1 n2 n3;refine⟨_,_,rfl,rfl,rZ,_,_,rfl,rfl,r6,(by show 3<=sizeLine;decide),λl4 n4=>?_⟩;have w4:=aw.new n4 (.lst (az lT));obtain⟨rt,hrt,ert⟩:=fF (ns:=lT) (db (zc * 48271 % 1061) (m:=3) (by decide)).1 (db (zc * 48271 % 1061) (m:=3) (by decide)).2;refine⟨_,rfl,_,_,rfl,rfl,.inr ⟨by decide,by decide⟩,_,_,rfl,rfl,(by show(0:Int) < 1061;decide),_,_,rfl,rfl,(by show(0:Int) < 3;decide),l4,_,_,_,rfl,rfl,SqL.of ae,ert,?_⟩;refine dt [some (.ref a),some (.int (n:Int)),some (.ref p),some (.int (0+(i:Int))),some (.int zc),some (.str nm),some (.str rt)] rfl ?_;have s03:=(sb.trans s12).trans w4;have T3:=(hT.same s12).same w4;obtain⟨as,h1,h2⟩:=T3;obtain⟨j,ej,hj⟩:∃ j:Nat,(zc+(0+(i:Int))) * 48271 % 1063 % (n:Int)=(j:Int)/\j < n:=by
   have:=db ((zc+(0+(i:Int))) * 48271 % 1063) (m:=(n:Int)) (by lia);exact⟨((zc+(0+(i:Int))) * 48271 % 1063 % (n:Int)).toNat,by lia,by lia⟩
  refine⟨_,rfl,.inl ⟨rfl,_,SqL.of h1⟩,_,rfl,_,rfl,_,rfl,_,rfl,_,_,rfl,rfl,_,_,rfl,rfl,.inr ⟨by decide,by decide⟩,_,_,rfl,rfl,(by show(0:Int) < 1063;decide),_,rfl,_,_,rfl,rfl,(by show(0:Int) < (n:Int);lia),(by show 4<=sizeLine;decide),λt nt=>?_⟩;show(_:Prop);rw [ej];have w5:=aw.new nt (.tup (aA.ask nm rt (j:Int)).vals);refine⟨p,_,_,rfl,rfl,w5 _ _ h1,aB (by rw [Qc,aL h2];lia),?_⟩;refine⟨ds++[.ask nm rt (j:Int)],_,_,_,_,rfl,(s03.trans w5).put np _,a6.snoc (w5 _ _ h1) (Paired.mapP h2 λb x z=>w5 _ _ z) ae,gU hsm ⟨nm,rt,j,rfl,hnm,tx3 _ hrt,hj⟩,by rw [Ql,hl];rfl⟩
 ·rintro σ H1 ⟨ds,v3,v4,v5,v6,rfl,sb,hT,hsm,hl⟩;exact⟨_,rfl,q p ds H1 sb np hT hsm hl⟩
end
end G06
namespace G06
open PySem L2 G1 GH
seal PySem.wpAny
section
variable{P:Program} {w:World} {K:W.Frag} {mg:Str->Option Value} {base:Heap}
theorem yZ:aI ["_law_found","_law_due","_law_k"] ["_law_found","_law_due"] (am sZv):=⟨rfl,rfl,rfl,by decide +kernel,rfl,by decide +kernel,by decide +kernel⟩
theorem vA(D:bE K mg)(T:Txt mg):aF P w K mg base CX0 1 D.fZv D.fdZv ["_law_found","_law_due"] tW:=by
 refine D.FZv.ok yZ (λvs H Q E h=>?_) (λcdv A outer s H vs Q E hr h=>?_)
 ·obtain⟨l,l',ns,rfl,_⟩:=h;rfl
 obtain⟨l,l',ns,rfl,hl,hl',hn,q⟩:=h;have nd:=yZ.nd;refine⟨_,
  (ag (aM (PW.pt (cL (bS (bP (aG bu (by rfl) T.isinstance QR (aa rfl (pv 0) (aa rfl (cm rfl T.list Ur (v:=.ty "list") rfl) ai))))) (ca (au dS (aG aJ (by rfl) T.len QT (aa rfl (pv 0) ai)) (aG aJ (by rfl) T.len QT (aa rfl (pv 1) ai)) (ay _)))))
    (aj (av bw))
    ax)
  (ag (bQ QM rfl (d9 rfl T.range (aa rfl (aG aJ (by rfl) T.len QT (aa rfl (pv 1) ai)) ai)) (bj (i:=2) nd rfl (Or.inl rfl))
    (aj (aM (PW.pt (cL (bS (bP (aG bu (by rfl) T.isinstance QR (aa rfl (ap aN (pv 0) (pv 2) (λ_ _=>rfl)) (aa rfl (cm rfl T.str UY (v:=.ty "str") rfl) ai))))) (ca (au dS (ap aN (pv 0) (pv 2) (λ_ _=>rfl)) (ap aN (pv 1) (pv 2) (λ_ _=>rfl)) (ay _)))))
      (aj (av bw))
      ax)))
  (aj (av bw))))
  ,?_⟩
 refine⟨_,rfl,_,_,_,_,rfl,.lst hl,bK _ _,_,rfl,bt ?_⟩;refine⟨_,rfl,l,_,rfl,.inl (SqL.of hl),_,rfl,l',_,rfl,.inl (SqL.of hl'),rfl,_,rfl,gC rfl ?_⟩;refine⟨_,rfl,l',_,rfl,.inl (SqL.of hl'),?_⟩;rw [ba];refine⟨_,rfl,by lia,by lia,?_⟩;rw [Int.toNat_natCast];refine ef (λk σ G=>∃(v2:Option V),σ=[some (.ref l),some (.ref l'),v2]/\G=H) ⟨_,rfl,rfl⟩ ?_ ?_
 ·rintro k σ G hk ⟨v2,rfl,rfl⟩;rw [Int.zero_add];have hfk:(az ns)[k]?=some (.str ns[k]):=by unfold az;rw [Qq,Qe hk];rfl
  refine⟨_,rfl,_,rfl,l,_,_,_,rfl,rfl,SqL.of hl,cn hfk,_,_,_,_,rfl,.str _,bK _ _,_,rfl,bt ?_⟩;exact⟨_,rfl,_,rfl,l,_,_,_,rfl,rfl,SqL.of hl,cn hfk,_,rfl,_,rfl,l',_,_,_,rfl,rfl,SqL.of hl',cn hfk,rfl,_,rfl,gC rfl ⟨_,rfl,rfl⟩⟩
 ·rintro σ G ⟨v2,rfl,rfl⟩;exact q _ (aw.refl _)
theorem y6:aI ["_law_model","_law_deed","_law_them","_law_pair","_law_due","_law_name","_law_here"] ["_law_model","_law_deed"] (am sZx):=⟨rfl,rfl,rfl,by decide +kernel,rfl,by decide +kernel,by decide +kernel⟩
theorem vB(D:bE K mg)(T:Txt mg):aF P w K mg base CX0 3 D.fZx D.fdZx ["_law_model","_law_deed"] tV:=by
 have GZn:aF P w K mg base CX0 2 D.fZn D.fdZn ["_law_model","_law_name","_law_right","_law_place"] lN:=nC D T;refine D.FZx.ok y6 (λvs H Q E h=>?_) (λcdv A outer s H vs Q E hr h=>?_)
 ·obtain⟨m,a1,a2,a3,a4,t,h,r,j,ns,rfl,_⟩:=h;rfl
 obtain⟨m,a1,a2,a3,a4,t,h,r,j,ns,rfl,hM,hO,hX,hZ,hZ2,ht,hj,hW,q⟩:=h;have nd:=y6.nd;have hu:=cE hr;have hr2:=hr;refine⟨_,
  (ag (aH (i:=2) nd rfl (Or.inl rfl) (aU ai))
  (ag (bQ QM rfl (bi (a7 hu (pv 0) aq (λ_ _=>rfl))) (bj (i:=3) nd rfl (Or.inl rfl))
    (aj (aT (bR Qw VJ VH g9 (pv 2) (aa rfl (aU (aa rfl (ap ar (pv 3) ah (λ_ _=>rfl)) (aa rfl (ap ar (pv 3) ah (λ_ _=>rfl)) ai))) ai)))))
  (ag (aT (bR Qw VJ VH g9 (pv 2) (aa rfl (dL (sc:=am sZx) (N:=["_law_model","_law_deed","_law_them","_law_pair","_law_due","_law_name","_law_here"]) (rest:=["_law_model","_law_deed","_law_them","_law_pair","_law_due","_law_name","_law_here"]) (by decide +kernel) rfl rfl rfl (bi (a7 hu (pv 0) aq (λ_ _=>rfl))) (λ_ _ _ _ _=>ji) (λ_ _ _ _ _=>(ap (bD (K:=K) rfl) (pv 0) ah (λ_ _=>rfl)))) ai)))
  (ag (aH (i:=4) nd rfl (Or.inl rfl) (aU ai))
  (ag (bQ QM rfl (bi (aG iw (by rfl) T.sorted Vd (aa rfl (pv 2) ai))) (bj (i:=5) nd rfl (Or.inl rfl))
    (ag (aH (i:=6) nd rfl (Or.inl rfl) (ap ar (aP GZn hr2 rfl D.mZn D.FZn.kp D.bZn .nil bg (aa rfl (pv 0) (aa rfl (pv 5) (aa rfl (ap ar (pv 1) ah (λ_ _=>rfl)) (aa rfl (ap ar (pv 1) ah (λ_ _=>rfl)) ai))))) ah (λ_ _=>rfl)))
    (aj (aM (PW.pt (dZ (au gw (pv 5) (pv 4) (by rfl)) (dZ (au qU (aG aJ (by rfl) T.len QT (aa rfl (pv 6) ai)) ah (ay _)) (dC (au aZ (ap ar (ap aN (pv 6) ah (λ_ _=>rfl)) ah (λ_ _=>rfl)) aq (ay _))))))
      (aj (aT (bR Qw QG QF bf (pv 4) (aa rfl (pv 5) ai))))
      ax))))
  (aj (av (pv 4))))))))
  ,?_⟩
 refine⟨(by show 0<=sizeLine;decide),λth nth=>?_⟩;have s1:=aw.new nth (.lst []);obtain⟨la,hla,pla⟩:=hM.h3;have lal:la.length=h.links.length:=aL pla;refine⟨_,rfl,m,_,rfl,(hM.same s1).g3,a3,rfl,⟨_,SqL.of (s1 _ _ hla)⟩,b8 (K:=K) (xs:=la.map V.ref) (λi σ G=>∃(xs:List Str) (v3:Option V),σ=[some (.ref m),some (.ref t),some (.ref th),v3,none,none,none]/\aw H G/\G th=some (.lst (az xs))/\xs.length=2 * i/\∀ y,y∈xs ↔ ∃ e∈h.links.take i,y=e.1\/y=e.2)
  ⟨[],_,rfl,s1,ae,rfl,λy=>⟨(λz=>by cases z),(λ⟨e,he,_⟩=>by rw [Vj] at he;cases he)⟩⟩ (λi σ G _ ⟨_,_,_,sG,_⟩=>SqL.of (sG _ _ hla)) ?_ ?_⟩
 ·rintro i y σ G hy ⟨xs,v3,rfl,sG,hth,hlen,hm⟩;obtain⟨b,rfl,hbi⟩:=fh hy;obtain⟨e,hei,hbt0⟩:=br pla hbi;have hbt:=sG _ _ hbt0;have hil:i < h.links.length:=(Qb.mp hei).1;have tk:h.links.take (i+1)=h.links.take i++[e]:=by rw [Q3,hei];rfl
  refine⟨_,rfl,.inl ⟨rfl,_,SqL.of hth⟩,_,rfl,b,_,_,_,rfl,rfl,SqT.of hbt,rfl,_,rfl,b,_,_,_,rfl,rfl,SqT.of hbt,rfl,(by show 2<=sizeLine;decide),λl2 nl2=>?_⟩;have w1:=aw.new nl2 (.lst (az [e.1,e.2]));have hz2:=hZ.2.1;refine⟨th,l2,_,_,rfl,rfl,w1 _ _ hth,ae,?_,?_⟩
  ·rw [ba];exact UV (aB (by show _+2<=1000;lia))
  refine⟨xs++[e.1,e.2],_,rfl,(sG.trans w1).put nth _,by rw [ae];unfold az;rw [Qx];rfl,by rw [Ql,hlen];show _+2=_;lia,λy=>?_⟩;rw [Qr,hm,tk];simp only [Qr,Qi,UM,or_false];constructor
  ·rintro(⟨e',he',z⟩ | z)
   ·exact⟨e',.inl he',z⟩
   ·exact⟨e,.inr rfl,z⟩
  ·rintro⟨e',he' | he',z⟩
   ·exact .inl ⟨e',he',z⟩
   ·subst he';exact .inr z
 rintro σ G ⟨xs,v3,rfl,sG,hth,hlen,hm⟩;rw [Qc,lal] at hlen hm;rw [Q5] at hm;obtain⟨lb,hlb,plb⟩:=hM.h4;have hlbG:=sG _ _ hlb;have plbG:=Paired.mapP plb λb x z=>sG _ _ z;refine⟨_,rfl,.inl ⟨rfl,_,SqL.of hth⟩,_,rfl,m,_,rfl,(hM.same sG).g4,a4,rfl,⟨_,SqL.of hlbG⟩,fJ (c:=bp) (λe:aD=>e.2.1) hlbG plbG (by have:=hZ.2.2;lia) (λb x Q' hb hQ=>⟨_,rfl,b,_,_,_,rfl,rfl,SqT.of hb,rfl,hQ⟩) (λcl ncl=>?_)⟩;have w1:=aw.new ncl (.lst (az (h.rules.map λe:aD=>e.2.1)));refine⟨th,cl,_,_,rfl,rfl,w1 _ _ hth,ae,?_,?_⟩
 ·rw [ba,ba,Qc];exact UV (aB (by lia))
 have e1:az xs++az (h.rules.map λe:aD=>e.2.1)=az (xs++h.rules.map λe:aD=>e.2.1):=by unfold az;rw [Qx]
 rw [e1];obtain⟨ys,eys⟩:∃ ys,ys=xs++h.rules.map λe:aD=>e.2.1:=⟨_,rfl⟩;rw [<-eys];have ylen:ys.length < 128:=by rw [eys,Ql,Qc,hlen];lia
 have ymem:∀ y,y∈ys ↔ y∈cy h:=λy=>by
  rw [eys,Qr,hm,<-du (List.Perm.refl _),Qg];constructor
  ·rintro(z | ⟨e,he,z⟩)
   ·exact .inl z
   ·exact .inr ⟨e,he,z.symm⟩
  ·rintro(z | ⟨e,he,z⟩)
   ·exact .inl z
   ·exact .inr ⟨e,he,z.symm⟩
 have s2:=(sG.trans w1).put nth (.lst (az ys));have hth2:upd (upd G cl (.lst (az (h.rules.map λe:aD=>e.2.1)))) th (.lst (az ys)) th=some (.lst (az ys)):=ae;generalize upd (upd G cl (.lst (az (h.rules.map λe:aD=>e.2.1)))) th (.lst (az ys))=G2 at s2 hth2;clear w1 ncl eys e1 hlbG plbG;refine⟨(by show 0<=sizeLine;decide),λdl ndl=>?_⟩;have u1:=aw.new ndl (.lst (az []));refine⟨_,rfl,th,ys,rfl,SqL.of (u1 _ _ hth2),ylen,λl6 ss n6 hperm hsort=>?_⟩;have u3:=aw.new n6 (.lst (az ss));have ndl0:H dl=none:=s2.free ndl;have dl6:dl≠l6:=ao (show upd G2 dl (.lst (az [])) dl=some (.lst (az [])) from ae) n6;have ssm:∀ y,y∈ss ↔ y∈cy h:=λy=>by rw [hperm.mem_iff];exact ymem y
 have lss:ss.length < 128:=by rw [hperm.length_eq];exact ylen
 refine⟨l6,rfl,⟨_,SqL.of ae⟩,b8 (K:=K) (xs:=az ss) (λi σ G3=>∃(due:List Str) (v5 v6:Option V),σ=[some (.ref m),some (.ref t),some (.ref th),v3,some (.ref dl),v5,v6]/\aw H G3/\G3 l6=some (.lst (az ss))/\G3 dl=some (.lst (az due))/\due.length<=i/\dM due/\due.Nodup/\∀ z,z∈due ↔ z∈ss.take i/\cX h r j z=true)
  ⟨[],_,_,rfl,(s2.trans u1).trans u3,ae,u3 _ _ ae,Qk _,List.Pairwise.nil,UP,λz=>⟨(λz=>by cases z),(λ⟨z,_⟩=>by rw [Vj] at z;cases z)⟩⟩ (λi σ G3 _ ⟨_,_,_,_,_,z,_⟩=>SqL.of z) ?_ ?_⟩
 ·rintro i y σ G3 hy ⟨due,v5,v6,rfl,s3,hl6,hd3,dlen,d1,d2,d3⟩;obtain⟨y,rfl,hyi⟩:=eK hy;have M6:=hM.same s3;have hil:i < ss.length:=(Qb.mp hyi).1;have ht3:=s3 _ _ ht;refine⟨_,rfl,_,rfl,_,rfl,t,_,_,_,rfl,rfl,SqT.of ht3,rfl,_,rfl,t,_,_,_,rfl,rfl,SqT.of ht3,rfl,m,a1,a2,a3,a4,h,y,r,j,rfl,M6,hO,hZ.mono (by lia),hj,λt' b1 b2 G4 s4 ht' hb1 hb2=>⟨t',_,_,_,rfl,rfl,SqT.of ht',rfl,?_⟩⟩;refine dt [some (.ref m),some (.ref t),some (.ref th),v3,some (.ref dl),some (.str y),some (.ref b1)] rfl ?_;have eg:=oz hX (hW.2.2.2 y ((ssm y).mp (QC hyi)));obtain⟨rs,ers⟩:∃ rs,rs=(bq h y r (bh h j)).1:=⟨_,rfl⟩;rw [<-ers] at eg hb1;obtain⟨as,has,pas⟩:=hb1;have hl64:=s4 _ _ hl6;have hd4:=s4 _ _ hd3;have s34:=s3.trans s4;obtain⟨n1,n2⟩:=tX (g:=cX h r j) hsort hyi d1 d2 d3;have no:y∈due\/cX h r j y=false->∃(due:List Str) (v5 v6:Option V),[some (.ref m),some (.ref t),some (.ref th),v3,some (.ref dl),some (.str y),some (.ref b1)]=[some (.ref m),some (.ref t),some (.ref th),v3,some (.ref dl),v5,v6]/\aw H G4/\G4 l6=some (.lst (az ss))/\G4 dl=some (.lst (az due))/\due.length<=i+1/\dM due/\due.Nodup/\∀ z,z∈due ↔ z∈ss.take (i+1)/\cX h r j z=true:=λz=>⟨due,_,_,rfl,s34,hl64,hd4,by lia,d1,d2,n1 z⟩;refine⟨_,rfl,_,rfl,dl,_,rfl,.inl (SqL.of hd4),rfl,cM due,_,rfl,?_⟩;rw [Qn rfl,dW];by_cases c0:y∈due
  ·rw [Qh c0];exact bt (bt (no (.inl c0)))
  rw [Qp c0];refine bM ?_;cases pas with
  | nil=>exact⟨_,rfl,b1,_,rfl,.inl (SqL.of has),_,_,rfl,rfl,_,rfl,bt (bt (no (.inr eg)))⟩
  | @cons b e as' rs' hb pas' =>
   refine⟨_,rfl,b1,_,rfl,.inl (SqL.of has),_,_,rfl,rfl,_,rfl,cg ?_ ⟨_,rfl,b1,_,_,_,rfl,rfl,SqL.of has,at0 _ _,b,_,_,_,rfl,rfl,SqT.of hb,rfl,rfl,_,rfl,?_⟩⟩
   ·show(0:Int) < (((V.ref b :: as'.map V.ref).length:Nat):Int);rw [QL];lia
   by_cases c:e.1="give"
   ·obtain⟨p1,p2,p3⟩:=n2 c0 (by rw [eg];exact Qh c);refine cg (QW V.str c) ⟨_,rfl,.inl ⟨rfl,_,SqL.of hd4⟩,_,rfl,dl,_,_,rfl,rfl,hd4,aB (by rw [ba];lia),?_⟩;exact⟨due++[y],_,_,rfl,s34.put ndl0 _,by rw [af dl6.symm];exact hl64,by rw [ae];unfold az;rw [Qx];rfl,by rw [Ql];show _+1<=_;lia,p1,p2,p3⟩
   ·exact a9 (sne c) (no (.inr (by rw [eg];exact Qp c)))
 rintro σ G3 ⟨due,v5,v6,rfl,s3,hl6,hd3,dlen,d1,d2,d3⟩;rw [ba,Q5] at d3;have ed:due=ns:=jn d1 hW.1 ((List.perm_ext_iff_of_nodup d2 hW.2.1).mpr λx=>by rw [d3,ssm,hW.2.2.1,jO]);subst ed;exact⟨_,rfl,q dl G3 s3 ndl0 hd3⟩
end
end G06
namespace G06
open PySem L2 G1 GH
seal PySem.wpAny
section
variable{P:Program} {w:World} {K:W.Frag} {mg:Str->Option Value} {base:Heap}
theorem y7:aI ["_law_script","_law_model","_law_deeds","_law_asks","_law_handed","_law_deed","_law_told","_law_k"] ["_law_script"] (am sZ7):=⟨rfl,rfl,rfl,by decide +kernel,rfl,by decide +kernel,by decide +kernel⟩
theorem xB(D:bE K mg)(T:Txt mg){T0:Addr}(L:Lx K mg base w (lt T0) D.fdZ3):aF P w K mg base CX0 9 D.fZ7 D.fdZ7 ["_law_script"] (lS K T0):=by
 have GYc:aF P w K mg base CX0 1 D.fYc D.fdYc [] vY:=xA D;have GZj:aF P w K mg base CX0 4 D.fZj D.fdZj ["_law_cells","_law_model"] pq:=uc D T;have GYg:aF P w K mg base CX0 3 D.fYg D.fdYg ["_law_model","_law_deed"] rW:=ua D T;have GZe:aF P w K mg base CX0 4 D.fZe D.fdZe ["_law_found","_law_model","_law_deed"] kL:=oH D T;have GZw:aF P w K mg base CX0 2 D.fZw D.fdZw ["_law_script","_law_count"] (tJ K):=vz D T;have GZx:aF P w K mg base CX0 3 D.fZx D.fdZx ["_law_model","_law_deed"] tV:=vB D T;have GZv:aF P w K mg base CX0 1 D.fZv D.fdZv ["_law_found","_law_due"] tW:=vA D T;have GZc:aF P w K mg base CX0 8 D.fZc D.fdZc ["deeds"] (jP (lt T0)):=ny D T L;refine D.FZ7.ok y7 (λvs H Q E h=>?_) (λcdv A outer s H vs Q E hr h=>?_)
 ·obtain⟨a,ns,rfl,_⟩:=h;rfl
 obtain⟨a,ns,rfl,hS,h63,hTb,q⟩:=h;have nd:=y7.nd;have hu:=cE hr;have hr8:=hr;have hr4:bO 4 _:=hr.mono (by decide);have hr3:bO 3 _:=hr.mono (by decide);have hr2:bO 2 _:=hr.mono (by decide);have hr1:bO 1 _:=hr.mono (by decide);refine⟨_,
  (ag (aH (i:=1) nd rfl (Or.inl rfl) (eY GYc hr1 rfl D.mYc D.FYc.kp D.bYc .nil bg))
  (ag (aH (i:=2) nd rfl (Or.inl rfl) (aP GZj hr4 rfl D.mZj D.FZj.kp D.bZj .nil bg (aa rfl (cC kZ (pv 0) dh (di ah)) (aa rfl (pv 1) ai))))
  (ag (aH (i:=3) nd rfl (Or.inl rfl) (aP GZw hr2 rfl D.mZw D.FZw.kp D.bZw .nil bg (aa rfl (pv 0) (aa rfl (aG aJ (by rfl) T.len QT (aa rfl (a7 hu (pv 1) aq (λ_ _=>rfl)) ai)) ai))))
  (ag (aH (i:=4) nd rfl (Or.inl rfl) (aU ai))
  (ag (bQ QM rfl (bi (aO nR (pv 2) (pv 3))) (bj (i:=5) nd rfl (Or.inl rfl))
    (ag (aT (bR Qw QG QF bf (pv 4) (aa rfl (pv 5) ai)))
    (aj (aM (PW.pt (dZ (au aZ (ap ar (pv 5) ah (λ_ _=>rfl)) aq (ay _)) (dC (au aZ (aO bH (aG aJ (by rfl) T.len QT (aa rfl (pv 4) ai)) ah) ah (ay _)))))
      (aj (aT (bR Qw QG QF bf (pv 4) (aa rfl (bJ (aa rfl aq (aa rfl (ap ar (pv 5) ah (λ_ _=>rfl)) (aa rfl (ap ar (pv 5) ah (λ_ _=>rfl)) ai)))) ai))))
      ax))))
  (ag (aH (i:=6) nd rfl (Or.inl rfl) (aP GZc hr8 rfl D.mZc D.FZc.kp D.bZc .nil bg (aa rfl (fu gy (by rfl) T.list Ur (aa rfl (pv 4) ai)) ai)))
  (ag (aM (PW.pt (cL (bS (bP (aG bu (by rfl) T.isinstance QR (aa rfl (pv 6) (aa rfl (cm rfl T.list Ur (v:=.ty "list") rfl) ai))))) (ca (au dS (aG aJ (by rfl) T.len QT (aa rfl (pv 6) ai)) (aG aJ (by rfl) T.len QT (aa rfl (pv 4) ai)) (ay _)))))
    (aj (av bw))
    ax)
  (ag (aH (i:=1) nd rfl (Or.inl rfl) (eY GYc hr1 rfl D.mYc D.FYc.kp D.bYc .nil bg))
  (ag (bQ QM rfl (d9 rfl T.range (aa rfl (aG aJ (by rfl) T.len QT (aa rfl (pv 4) ai)) ai)) (bj (i:=7) nd rfl (Or.inl rfl))
    (ag (aH (i:=5) nd rfl (Or.inl rfl) (ap aN (pv 4) (pv 7) (λ_ _=>rfl)))
    (aj (aM (PW.pt (dZ (au dS (ap ar (pv 5) ah (λ_ _=>rfl)) aq (ay _)) (dC (au dS (ap ar (pv 5) ah (λ_ _=>rfl)) aq (ay _)))))
      (aj (aT (aP GYg hr3 rfl D.mYg D.FYg.kp D.bYg .nil bg (aa rfl (pv 1) (aa rfl (pv 5) ai)))))
      (aj (aM (PW.pt (cL (au gq (ap ar (pv 5) (dk ci ah) (λ_ _=>rfl)) ah (ay _)) (ca (au oQ (ap ar (pv 5) (dk ci ah) (λ_ _=>rfl)) (aG aJ (by rfl) T.len QT (aa rfl (a7 hu (pv 1) aq (λ_ _=>rfl)) ai)) (ay _)))))
        (aj (aM (PW.pt (cL (bS (bP (aG bu (by rfl) T.isinstance QR (aa rfl (ap aN (pv 6) (pv 7) (λ_ _=>rfl)) (aa rfl (cm rfl T.str UY (v:=.ty "str") rfl) ai))))) (ca (au dS (ap aN (pv 6) (pv 7) (λ_ _=>rfl)) aq (ay _)))))
          (aj (av bw))
          ax))
        (aj (aM (au aZ (ap ar (pv 5) ah (λ_ _=>rfl)) aq (ay _))
          (aj (aM (bS (bP (aP GZv hr1 rfl D.mZv D.FZv.kp D.bZv .nil bg (aa rfl (ap aN (pv 6) (pv 7) (λ_ _=>rfl)) (aa rfl (aP GZx hr3 rfl D.mZx D.FZx.kp D.bZx .nil bg (aa rfl (pv 1) (aa rfl (pv 5) ai))) ai)))))
            (aj (av bw))
            ax))
          (aj (aM (bS (bP (aP GZe hr4 rfl D.mZe D.FZe.kp D.bZe .nil bg (aa rfl (ap aN (pv 6) (pv 7) (λ_ _=>rfl)) (aa rfl (pv 1) (aa rfl (pv 5) ai))))))
            (aj (av bw))
            ax))))))))))
  (aj (av bw)))))))))))
  ,?_⟩
 refine⟨rfl,λm a1 a2 a3 a4 H1 s1 nm n1 n2 n3 n4 M1=>?_⟩;obtain⟨ms,ems,hms⟩:=qq ns h63;refine⟨_,rfl,_,rfl,a,_,rfl,hS.sameT (aV.of s1),λc nc=>?_⟩;rw [ems];have sc:=aw.new nc (.lst (ms.map V.int));refine⟨_,rfl,c,ms,m,a1,a2,a3,a4,rfl,ae,hms,M1.same sc,M1.notin nc,λp ds H2 sb np hT hsm hl M2=>?_⟩;have nS:∀ b∈[a1,a2,a3,a4],H b=none:=λb hb=>by
  simp only [Qi,UM,or_false] at hb;rcases hb with e | e | e | e <;> (rw [e];assumption)
 have s2:aw H H2:=sb.same (s1.trans sc) nS;have hds:ds.length<=63:=by lia
 have ok0:cA (GH.run bb ds):=cA.new.run ds;clear sb sc nc M1 np s1 nm n1 n2 n3 n4 ems hms hl nS;refine⟨_,rfl,_,rfl,m,_,rfl,M2.g1,a1,_,rfl,.inl (SqL.of M2.h1),a,ns,_,rfl,hS.sameT (aV.of s2),(by rw [bC];exact ok0.pos),λal as H3 s23 nal hA hask has=>?_⟩;refine dt [some (.ref a),some (.ref m),some (.ref p),some (.ref al),none,none,none,none] rfl ?_;have s03:=s2.trans s23;obtain⟨dd,hdd,pdd⟩:=hT.same s23;obtain⟨ak,hak,pak⟩:=hA;have hddl:dd.length=ds.length:=aL pdd;have hakl:ak.length=10:=by rw [aL pak];exact has
 clear s2 s23 M2 hT nal ok0;refine⟨(by show 0<=sizeLine;decide),λhl nhl=>?_⟩;have w1:=aw.new nhl (.lst []);refine⟨_,rfl,_,rfl,p,al,_,_,rfl,rfl,w1 _ _ hdd,w1 _ _ hak,?_,λc1 nc1=>?_⟩
 ·rw [Qc,Qc,hddl,hakl];exact UV (aB (by lia))
 have w2:=aw.new nc1 (.lst (dd.map V.ref++ak.map V.ref));have hlc:hl≠c1:=ao ae nc1;have pall:Paired (λ(b:Addr) (x:aA)=>H3 b=some (.tup x.vals)) (dd++ak) (ds++as):=gf pdd pak;have gall:∀ d∈ds++as,tY d:=uZ (λd hd=>⟨(hsm d hd).ok,((hsm d hd).fit λx hx=>QU _ hx).2.1⟩) λd hd=>⟨((hask d hd).fit tx8).1,((hask d hd).fit tx8).2.1⟩;have lall:(ds++as).length<=73:=by rw [Ql,has];lia
 refine⟨c1,rfl,⟨_,SqL.of ae⟩,?_⟩;rw [show dd.map V.ref++ak.map V.ref=(dd++ak).map V.ref from Qx.symm] at w2 ⊢;refine b8 (K:=K) (xs:=(dd++ak).map V.ref) (λi σ G=>∃(hs:List aA) (v5:Option V),σ=[some (.ref a),some (.ref m),some (.ref p),some (.ref al),some (.ref hl),v5,none,none]/\aw H3 G/\G c1=some (.lst ((dd++ak).map V.ref))/\a6 aA.vals G hl hs/\(∀ d∈hs,tY d)/\hs.length<=2 * i/\hs.filter (λd=>!d.asks)=((ds++as).take i).filter (λd=>!d.asks))
  ⟨[],_,rfl,w1.trans w2,ae,⟨[],w2 _ _ ae,.nil⟩,(λd hd=>by cases hd),Qk _,rfl⟩ (λi σ G _ ⟨_,_,_,_,z,_⟩=>SqL.of z) ?_ ?_
 ·rintro i y σ G hy ⟨hs,v5,rfl,sG,hc1,hT,hg,hlen,hf⟩;obtain⟨b,rfl,hbi⟩:=fh hy;obtain⟨d,hdi,hbt0⟩:=br pall hbi;have hbt:=sG _ _ hbt0;have gd:=gall d (QC hdi);have hil:i < (ds++as).length:=(Qb.mp hdi).1;have tk:(ds++as).take (i+1)=(ds++as).take i++[d]:=by rw [Q3,hdi];rfl
  obtain⟨ha,hha,pha⟩:=hT;have hhal:ha.length=hs.length:=aL pha;refine⟨_,rfl,.inl ⟨rfl,_,SqL.of hha⟩,_,rfl,hl,_,_,rfl,rfl,hha,aB (by rw [Qc];lia),?_⟩;have T2:a6 aA.vals (upd G hl (.lst (ha.map V.ref++[.ref b]))) hl (hs++[d]):=a6.snoc hha pha hbt;have s2:aw H3 (upd G hl (.lst (ha.map V.ref++[.ref b]))):=sG.put nhl _;have hc2:upd G hl (.lst (ha.map V.ref++[.ref b])) c1=some (.lst ((dd++ak).map V.ref)):=by rw [af hlc.symm];exact hc1
  have hl2:upd G hl (.lst (ha.map V.ref++[.ref b])) hl=some (.lst ((ha++[b]).map V.ref)):=by rw [ae,Qx];rfl
  generalize upd G hl (.lst (ha.map V.ref++[.ref b]))=G2 at T2 s2 hc2 hl2;have hbt2:=s2 _ _ hbt0;have lsn:(hs++[d]).length=hs.length+1:=by rw [Ql];rfl
  have gsn:=gU hg gd;have fsn:(hs++[d]).filter (λd=>!d.asks)=((ds++as).take (i+1)).filter (λd=>!d.asks):=by rw [tk];exact t5 hf
  have done:∃(hs:List aA) (v5:Option V),[some (.ref a),some (.ref m),some (.ref p),some (.ref al),some (.ref hl),some (.ref b),none,none]=[some (.ref a),some (.ref m),some (.ref p),some (.ref al),some (.ref hl),v5,none,none]/\aw H3 G2/\G2 c1=some (.lst ((dd++ak).map V.ref))/\a6 aA.vals G2 hl hs/\(∀ d∈hs,tY d)/\hs.length<=2 * (i+1)/\hs.filter (λd=>!d.asks)=((ds++as).take (i+1)).filter (λd=>!d.asks):=⟨hs++[d],_,rfl,s2,hc2,T2,gsn,by lia,fsn⟩;refine⟨_,rfl,b,_,_,_,rfl,rfl,SqT.of hbt2,eO d,rfl,_,rfl,?_⟩;rw [j0,mH gd.1];by_cases hk:d.isAsk=true
  ·rw [hk];refine bM ⟨_,rfl,hl,_,rfl,.inl (SqL.of hl2),_,_,rfl,rfl,(by show(0:Int) < 3;decide),rfl,_,rfl,cF (λcc=>?_) (λcc=>done)⟩;cases d with
   | ask x r pp =>
    obtain⟨ha2,hha2,pha2⟩:=T2;rw [hl2] at hha2;refine⟨_,rfl,.inl ⟨rfl,_,SqL.of hl2⟩,_,rfl,b,_,_,_,rfl,rfl,SqT.of hbt2,rfl,_,rfl,b,_,_,_,rfl,rfl,SqT.of hbt2,rfl,(by show 3<=sizeLine;decide),λt nt=>?_⟩;have w3:=aw.new nt (.tup (aA.who r pp).vals);refine⟨hl,_,_,rfl,rfl,w3 _ _ hl2,aB (by rw [Qc,Ql];show _+1<=1000;lia),?_⟩;refine⟨hs++[.ask x r pp]++[.who r pp],_,rfl,(s2.trans w3).put nhl _,by rw [af hlc.symm];exact w3 _ _ hc2,?_,gU gsn (x:=aA.who r pp) ⟨gd.1.2,λx hx=>by cases hx⟩,by rw [Ql,lsn];show _+1<=_;lia,by rw [tZ rfl];exact fsn⟩;have e2:ha++[b]=ha2:=by
     have:=HO.lst.inj (Qt hha2);exact List.map_inj_right (λx y z=>V.ref.inj z) |>.mp this
    rw [e2] at hl2 ⊢;exact a6.snoc (w3 _ _ hl2) (Paired.mapP pha2 λb x z=>w3 _ _ z) ae
   | _=>cases hk
  ·have hk':d.isAsk=false:=by cases z:d.isAsk with | false=>rfl | true=>exact Qs z hk
   rw [hk'];exact bt (bt done)
 rintro σ G ⟨hs,v5,rfl,sG,_,hT,hg,hlen,hf⟩;rw [Qc,aL pall,Q5] at hf;rw [Qc,aL pall] at hlen;have hf63:(hs.filter λd=>!d.asks).length<=63:=by
  have efa:as.filter (λd=>!d.asks)=[]:=List.filter_eq_nil_iff.mpr λd hd=>by rw [(hask d hd).asks];simp
  rw [hf,Ug,efa,Uv];exact QQ (Q2 _ _) hds
 obtain⟨ha,hha,pha⟩:=hT;have hhal:ha.length=hs.length:=aL pha;have s0G:=s03.trans sG;clear pall gall hdd pdd hak pak w1 w2 nhl nc1 hlc;refine⟨_,rfl,hl,_,rfl,.inl (SqL.of hha),λl2 nl2=>?_⟩;have w1:=aw.new nl2 (.lst (ha.map V.ref));refine⟨l2,hs,dQ,rfl,oA ⟨ha,ae,Paired.mapP pha λb x z=>w1 _ _ z⟩ (by show 8<=12;decide) (by lia) hf63 hg,cB.same (.inl hTb) (s0G.trans w1),λr out H9 sT hT9 nr hr9 hol hout=>?_⟩;have s19:aV G H9:=(aV.of w1).trans sT;have hha9:H9 hl=some (.lst (ha.map V.ref)):=s19.to _ _ hha (λ_ z=>by cases z);have pha9:=Paired.mapP pha λb x z=>(s19.to _ _ z (λ_ z=>by cases z):H9 b=some (.tup x.vals));refine dt [some (.ref a),some (.ref m),some (.ref p),some (.ref al),some (.ref hl),v5,some (.ref r),none] rfl ?_;refine⟨_,rfl,_,_,_,_,rfl,.lst hr9,bK _ _,_,rfl,bt ?_⟩;refine⟨_,rfl,r,_,rfl,.inl (SqL.of hr9),_,rfl,hl,_,rfl,.inl (SqL.of hha9),rfl,_,rfl,gC (QW V.int (by rw [Qc,hhal,hol])) ?_⟩;clear w1 nl2 sT hT9 nr hha pha s19 s0G sG s03;refine⟨rfl,λm' a1' a2' a3' a4' H10 s910 _ n1 n2 n3 n4 M10=>?_⟩;have nS:∀ b∈[a1',a2',a3',a4'],H9 b=none:=λb hb=>by
  simp only [Qi,UM,or_false] at hb;rcases hb with e | e | e | e <;> (rw [e];assumption)
 refine dt [some (.ref a),some (.ref m'),some (.ref p),some (.ref al),some (.ref hl),v5,some (.ref r),none] rfl ?_;refine⟨_,rfl,hl,_,rfl,.inl (SqL.of (s910 _ _ hha9)),?_⟩;rw [Qc,hhal];refine⟨_,rfl,by lia,by lia,?_⟩;rw [Int.toNat_natCast];refine ef (λk σ G=>∃(v5 v7:Option V),σ=[some (.ref a),some (.ref m'),some (.ref p),some (.ref al),some (.ref hl),v5,some (.ref r),v7]/\aw H9 G/\MAt G m' a1' a2' a3' a4' (GH.run bb (hs.take k))) ⟨_,_,rfl,s910,M10⟩ ?_ ?_
 rotate_left
 ·rintro σ G ⟨_,_,rfl,_⟩;exact q _
 rintro k σ G hk ⟨v5,v7,rfl,s9,MG⟩;rw [Int.zero_add];have hdk:hs[k]?=some hs[k]:=Qe hk;obtain⟨d,ed⟩:∃ d,d=hs[k]:=⟨_,rfl⟩;rw [<-ed] at hdk;obtain⟨b,hb,hbt9⟩:=fc pha9 hdk;have hbt:=s9 _ _ hbt9;obtain⟨v,hv⟩:∃ v,out[k]?=some v:=⟨out[k]'(by lia),Qe (by lia)⟩;have ov:=hout k d v hdk hv;have gd:=hg d (QC hdk);have tk:hs.take (k+1)=hs.take k++[d]:=by rw [Q3,hdk];rfl
 have actk:((hs.take k).filter λd=>!d.asks).length<=63:=QQ (((VC k hs).filter _).length_le) hf63;have okk:cA (GH.run bb (hs.take k)):=cA.new.run _;have txk:cG (GH.run bb (hs.take k)):=cG.new.run λd hd=>(hg d (UB hd)).1;have szk:Sz (GH.run bb (hs.take k)) 63:=by
  have:=Sz.new.acts (hs.take k);exact this.mono (by lia)
 have cnt:=QQ (oC (hs.take k)) actk;obtain⟨h1,eh1⟩:∃ h1,h1=GH.run bb (hs.take k):=⟨_,rfl⟩;rw [<-eh1] at MG ov okk txk szk cnt;refine⟨_,rfl,_,rfl,hl,_,_,_,rfl,rfl,SqL.of (s9 _ _ hha9),cn (by rw [Qq,hb];rfl),?_⟩;refine dt [some (.ref a),some (.ref m'),some (.ref p),some (.ref al),some (.ref hl),some (.ref b),some (.ref r),some (.int (k:Int))] rfl ?_;have atr:atI out (k:Int)=some v:=cn hv;have hrG:=s9 _ _ hr9;have same:d.asks=true->GH.run bb (hs.take (k+1))=h1:=λz=>by
  rw [tk,dO,eh1];cases d <;> first | rfl | cases z
 cases hask':d.asks with
 | false =>
  obtain⟨w1,w2⟩:=ym gd.1 hask';refine⟨_,rfl,b,_,_,_,rfl,rfl,SqT.of hbt,eO d,rfl,_,rfl,?_⟩;rw [j0,Qp w1];refine bM ⟨_,rfl,b,_,_,_,rfl,rfl,SqT.of hbt,eO d,rfl,_,rfl,?_⟩;rw [j0,Qp w2];refine bM ⟨_,rfl,_,rfl,m',a1',a2',a3',a4',h1,b,d,rfl,MG,okk,txk,szk.mono (by lia),hbt,gd.1,hask',λG2 sb2 M2=>⟨_,_,rfl,?_,?_⟩⟩
  ·exact sb2.same s9 nS
  ·rw [tk,dO,<-eh1];exact M2
 | true =>
  cases d with
  | ask x rt pp =>
   refine⟨_,rfl,b,_,_,_,rfl,rfl,SqT.of hbt,rfl,rfl,_,rfl,bt (bt ?_)⟩;rcases ov with⟨hin,ov⟩ | ⟨hn,rfl⟩
   rotate_left
   ·have np:∃(v5 v7:Option V),[some (.ref a),some (.ref m'),some (.ref p),some (.ref al),some (.ref hl),some (.ref b),some (.ref r),some (.int (k:Int))]=[some (.ref a),some (.ref m'),some (.ref p),some (.ref al),some (.ref hl),v5,some (.ref r),v7]/\aw H9 G/\MAt G m' a1' a2' a3' a4' (GH.run bb (hs.take (k+1))):=⟨_,_,rfl,s9,by rw [same rfl];exact MG⟩;refine⟨_,rfl,_,rfl,b,_,_,_,rfl,rfl,SqT.of hbt,rfl,_,_,rfl,rfl,_,rfl,?_⟩;by_cases c0:pp < 0
    ·refine cg c0 (bM ?_);exact⟨_,rfl,_,rfl,r,_,_,_,rfl,rfl,SqL.of hrG,atr,_,_,_,_,rfl,.str _,bK _ _,_,rfl,bt ⟨_,rfl,_,rfl,r,_,_,_,rfl,rfl,SqL.of hrG,atr,rfl,_,rfl,gC rfl np⟩⟩
    ·refine a9 c0 ⟨_,rfl,_,rfl,b,_,_,_,rfl,rfl,SqT.of hbt,rfl,_,rfl,m',_,rfl,MG.g1,a1',_,rfl,.inl (SqL.of MG.h1),_,_,rfl,rfl,_,rfl,cg ?_ ?_⟩
     ·show((cx h1.par).length:Int)<=pp;rw [bC];have:¬ pp < ((h1.par.length:Nat):Int):=λz=>hn ⟨by lia,z⟩;lia
     ·exact⟨_,rfl,_,rfl,r,_,_,_,rfl,rfl,SqL.of hrG,atr,_,_,_,_,rfl,.str _,bK _ _,_,rfl,bt ⟨_,rfl,_,rfl,r,_,_,_,rfl,rfl,SqL.of hrG,atr,rfl,_,rfl,gC rfl np⟩⟩
   obtain⟨j,rfl,hj,ej⟩:=hin.nat;rw [ej] at ov;refine⟨_,rfl,_,rfl,b,_,_,_,rfl,rfl,SqT.of hbt,rfl,_,_,rfl,rfl,_,rfl,a9 (by lia) ⟨_,rfl,_,rfl,b,_,_,_,rfl,rfl,SqT.of hbt,rfl,_,rfl,m',_,rfl,MG.g1,a1',_,rfl,.inl (SqL.of MG.h1),_,_,rfl,rfl,_,rfl,a9 ?_ ?_⟩⟩
   ·show ¬ ((cx h1.par).length:Int)<=(j:Int);rw [bC];lia
   refine⟨_,rfl,b,_,_,_,rfl,rfl,SqT.of hbt,rfl,rfl,_,rfl,a9 (sne (by decide +kernel)) ?_⟩;obtain⟨t,ro,pl,w',road,places,rule,rv,rfl,x2,x3,x4,x5,I⟩:=ov;have A:jF G (.ref t) w' road places rule:=jF.same ⟨t,ro,pl,rv,rfl,x2,x3,x4,x5⟩ s9;exact⟨_,rfl,_,rfl,r,_,_,_,rfl,rfl,SqL.of hrG,atr,_,rfl,_,rfl,.ref t,m',a1',a2',a3',a4',b,h1,x,rt,j,w',road,places,rule,rfl,A,MG,okk,txk,szk.mono (by lia),hbt,hj,gd.1.1,I,λG2 s2=>⟨_,rfl,bt ⟨_,_,rfl,s9.trans s2,by rw [same rfl];exact MG.same s2⟩⟩⟩
  | who rt pp =>
   refine⟨_,rfl,b,_,_,_,rfl,rfl,SqT.of hbt,rfl,rfl,_,rfl,bM ⟨_,rfl,b,_,_,_,rfl,rfl,SqT.of hbt,rfl,rfl,_,rfl,bt ?_⟩⟩;rcases ov with⟨hin,ov⟩ | ⟨hn,rfl⟩
   rotate_left
   ·have np:∃(v5 v7:Option V),[some (.ref a),some (.ref m'),some (.ref p),some (.ref al),some (.ref hl),some (.ref b),some (.ref r),some (.int (k:Int))]=[some (.ref a),some (.ref m'),some (.ref p),some (.ref al),some (.ref hl),v5,some (.ref r),v7]/\aw H9 G/\MAt G m' a1' a2' a3' a4' (GH.run bb (hs.take (k+1))):=⟨_,_,rfl,s9,by rw [same rfl];exact MG⟩;refine⟨_,rfl,_,rfl,b,_,_,_,rfl,rfl,SqT.of hbt,rfl,_,_,rfl,rfl,_,rfl,?_⟩;by_cases c0:pp < 0
    ·refine cg c0 (bM ?_);exact⟨_,rfl,_,rfl,r,_,_,_,rfl,rfl,SqL.of hrG,atr,_,_,_,_,rfl,.str _,bK _ _,_,rfl,bt ⟨_,rfl,_,rfl,r,_,_,_,rfl,rfl,SqL.of hrG,atr,rfl,_,rfl,gC rfl np⟩⟩
    ·refine a9 c0 ⟨_,rfl,_,rfl,b,_,_,_,rfl,rfl,SqT.of hbt,rfl,_,rfl,m',_,rfl,MG.g1,a1',_,rfl,.inl (SqL.of MG.h1),_,_,rfl,rfl,_,rfl,cg ?_ ?_⟩
     ·show((cx h1.par).length:Int)<=pp;rw [bC];have:¬ pp < ((h1.par.length:Nat):Int):=λz=>hn ⟨by lia,z⟩;lia
     ·exact⟨_,rfl,_,rfl,r,_,_,_,rfl,rfl,SqL.of hrG,atr,_,_,_,_,rfl,.str _,bK _ _,_,rfl,bt ⟨_,rfl,_,rfl,r,_,_,_,rfl,rfl,SqL.of hrG,atr,rfl,_,rfl,gC rfl np⟩⟩
   obtain⟨j,rfl,hj,ej⟩:=hin.nat;rw [ej] at ov;refine⟨_,rfl,_,rfl,b,_,_,_,rfl,rfl,SqT.of hbt,rfl,_,_,rfl,rfl,_,rfl,a9 (by lia) ⟨_,rfl,_,rfl,b,_,_,_,rfl,rfl,SqT.of hbt,rfl,_,rfl,m',_,rfl,MG.g1,a1',_,rfl,.inl (SqL.of MG.h1),_,_,rfl,rfl,_,rfl,a9 ?_ ?_⟩⟩
   ·show ¬ ((cx h1.par).length:Int)<=(j:Int);rw [bC];lia
   refine⟨_,rfl,b,_,_,_,rfl,rfl,SqT.of hbt,rfl,rfl,_,rfl,cg rfl ?_⟩;obtain⟨l,fs,rfl,hlf,hW⟩:=ov;have hlG:=s9 _ _ hlf;refine⟨_,rfl,_,rfl,r,_,_,_,rfl,rfl,SqL.of hrG,atr,_,rfl,_,rfl,m',a1',a2',a3',a4',b,h1,rt,j,fs,rfl,MG,okk,txk,szk,cnt,hbt,hj,hW,λl3 G2 s2 _ hl3=>⟨l,l3,fs,rfl,s2 _ _ hlG,hl3,?_,λG3 s3=>⟨_,rfl,bt ⟨_,_,rfl,(s9.trans s2).trans s3,by rw [same rfl];exact(MG.same s2).same s3⟩⟩⟩⟩;have:=bT hW.2.1 (m:=dQ) λy hy=>(show y∈dQ from by
    have hy':=((hW.2.2.1 y).mp hy).1;rw [eh1] at hy';exact kP (λd hd=>(hg d (UB hd)).2) y hy')
   have e8:dQ.length=8:=rfl;lia
  | _=>cases hask'
end
end G06
namespace G06
open PySem L2 GH
theorem y8{us:List Value}(h:us.length=0):us=[]:=List.length_eq_zero_iff.mp h
theorem oI{us:List Value}(h:us.length=1):∃ a0,us=[a0]:=match us,h with | [_],_=>⟨_,rfl⟩
theorem d7{us:List Value}(h:us.length=2):∃ a0 a1,us=[a0,a1]:=match us,h with | [_,_],_=>⟨_,_,rfl⟩
theorem iN{us:List Value}(h:us.length=3):∃ a0 a1 a2,us=[a0,a1,a2]:=match us,h with | [_,_,_],_=>⟨_,_,_,rfl⟩
theorem y9{us:List Value}(h:us.length=4):∃ a0 a1 a2 a3,us=[a0,a1,a2,a3]:=match us,h with | [_,_,_,_],_=>⟨_,_,_,_,rfl⟩
theorem zT{us:List Value}(h:us.length=5):∃ a0 a1 a2 a3 a4,us=[a0,a1,a2,a3,a4]:=match us,h with | [_,_,_,_,_],_=>⟨_,_,_,_,_,rfl⟩
theorem all_mk{l:W.OpenLaw}{w:World}{K:W.Frag}{h:Heap}{mg:Str->Option Value}{fa CZb CZ5 CZo fZk fAt fZm fZd fZg fYc fZf fZp fZr fZ2 fYg fZj fZh fZa fZz fZi fZn fZe fZw fZl fZq fYh fZs fZ4 fYe fYi fZ9 fYb fZ6 fZ8 fYk fYl fYd fYj fYf fYa fZ1 fZu fZc fZy fZt fZ0 fZ3 fZx fZv fZ7 dAN c0 T0:Addr}(X:K.In h)(G:h.Ns mainGlobals mg)(hfa:mg "law"=some (.ref fa))
  {odZk anZk odAt anAt odZm anZm odZd anZd odZg anZg odYc anYc odZf anZf odZp anZp odZr anZr odZ2 anZ2 odYg anYg odZj anZj odZh anZh odZa anZa odZz anZz odZi anZi odZn anZn odZe anZe odZw anZw odZl anZl odZq anZq odYh anYh odZs anZs odZ4 anZ4 odYe anYe odYi anYi odZ9 anZ9 odYb anYb odZ6 anZ6 odZ8 anZ8 odYk anYk odYl anYl odYd anYd odYj anYj odYf anYf odYa anYa odZ1 anZ1 odZu anZu odZc anZc odZy anZy odZt anZt odZ0 anZ0 odZ3 anZ3 odZx anZx odZv anZv odZ7 anZ7:Option Addr} {slZk slAt slZm slZd slZg slYc slZf slZp slZr slZ2 slYg slZj slZh slZa slZz slZi slZn slZe slZw slZl slZq slYh slZs slZ4 slYe slYi slZ9 slYb slZ6 slZ8 slYk slYl slYd slYj slYf slYa slZ1 slZu slZc slZy slZt slZ0 slZ3 slZx slZv slZ7:Array (Option Value)} {ocZk kVZk dcZk pmZk ctZk cdZk ocAt kVAt dcAt pmAt ctAt cdAt ocZm kVZm dcZm pmZm ctZm cdZm ocZd kVZd dcZd pmZd ctZd cdZd ocZg kVZg dcZg pmZg ctZg cdZg ocYc kVYc dcYc pmYc ctYc cdYc ocZf kVZf dcZf pmZf ctZf cdZf ocZp kVZp dcZp pmZp ctZp cdZp ocZr kVZr dcZr pmZr ctZr cdZr ocZ2 kVZ2 dcZ2 pmZ2 ctZ2 cdZ2 ocYg kVYg dcYg pmYg ctYg cdYg ocZj kVZj dcZj pmZj ctZj cdZj ocZh kVZh dcZh pmZh ctZh cdZh ocZa kVZa dcZa pmZa ctZa cdZa ocZz kVZz dcZz pmZz ctZz cdZz ocZi kVZi dcZi pmZi ctZi cdZi ocZn kVZn dcZn pmZn ctZn cdZn ocZe kVZe dcZe pmZe ctZe cdZe ocZw kVZw dcZw pmZw ctZw cdZw ocZl kVZl dcZl pmZl ctZl cdZl ocZq kVZq dcZq pmZq ctZq cdZq ocYh kVYh dcYh pmYh ctYh cdYh ocZs kVZs dcZs pmZs ctZs cdZs ocZ4 kVZ4 dcZ4 pmZ4 ctZ4 cdZ4 ocYe kVYe dcYe pmYe ctYe cdYe ocYi kVYi dcYi pmYi ctYi cdYi ocZ9 kVZ9 dcZ9 pmZ9 ctZ9 cdZ9 ocYb kVYb dcYb pmYb ctYb cdYb ocZ6 kVZ6 dcZ6 pmZ6 ctZ6 cdZ6 ocZ8 kVZ8 dcZ8 pmZ8 ctZ8 cdZ8 ocYk kVYk dcYk pmYk ctYk cdYk ocYl kVYl dcYl pmYl ctYl cdYl ocYd kVYd dcYd pmYd ctYd cdYd ocYj kVYj dcYj pmYj ctYj cdYj ocYf kVYf dcYf pmYf ctYf cdYf ocYa kVYa dcYa pmYa ctYa cdYa ocZ1 kVZ1 dcZ1 pmZ1 ctZ1 cdZ1 ocZu kVZu dcZu pmZu ctZu cdZu ocZc kVZc dcZc pmZc ctZc cdZc ocZy kVZy dcZy pmZy ctZy cdZy ocZt kVZt dcZt pmZt ctZt cdZt ocZ0 kVZ0 dcZ0 pmZ0 ctZ0 cdZ0 ocZ3 kVZ3 dcZ3 pmZ3 ctZ3 ocZx kVZx dcZx pmZx ctZx cdZx ocZv kVZv dcZv pmZv ctZv cdZv ocZ7 kVZ7 dcZ7 pmZ7 ctZ7 cdZ7:Value} {tWORD tWHO tRIGHT tPLACE tA1 tA2 tA3 tA4:Tok}
  {nAN:Nat}
  (aCZb:W.nsIn K mainGlobals "NoPlace"=some (some (.ref CZb)))
  (xCZb:W.excIn K CZb bmV "ValueError.__new__"=true)
  (aCZ5:W.nsIn K mainGlobals "Ring"=some (some (.ref CZ5)))
  (xCZ5:W.excIn K CZ5 bmV "ValueError.__new__"=true)
  (miRingNoPlace:W.mroIn K CZ5 (.ref CZb)=some false)
  (aCZo:W.nsIn K mainGlobals "House"=some (some (.ref CZo)))
  (pgZo:W.plainGet K CZo Str.empty=true)
  (hdZo:W.hasDictIn K CZo=true)
  (poZo:W.plainOver K CZo=true)
  (saZo:W.findIn K (.ref CZo) "__setattr__"=some (some (.builtin "object.__setattr__")))
  (noparents:W.findIn K (.ref CZo) "parents"=some none)
  (nocuts:W.findIn K (.ref CZo) "cuts"=some none)
  (nolinks:W.findIn K (.ref CZo) "links"=some none)
  (norules:W.findIn K (.ref CZo) "rules"=some none)
  (iWORD:W.nsIn K mainGlobals "WORD"=some (some (.int 0 tWORD)))
  (iWHO:W.nsIn K mainGlobals "WHO"=some (some (.int 1 tWHO)))
  (iRIGHT:W.nsIn K mainGlobals "RIGHT"=some (some (.int 2 tRIGHT)))
  (iPLACE:W.nsIn K mainGlobals "PLACE"=some (some (.int 3 tPLACE)))
  (aZk:W.nsIn K mainGlobals "_law_whole"=some (some (.ref fZk)))
  (lZk:K.lookup fZk=some ⟨ocZk,odZk,.func (W.fnOf "_law_whole" "_law_whole" (aK sZk) (aE sZk) (am sZk) .none kVZk dcZk pmZk anZk cdZk ctZk),slZk⟩)
  (cZk:W.codeIn K cdZk "_law_whole"=true)
  (kZk:W.keepIn K (.ref fZk)=true)
  (aAt:W.nsIn K mainGlobals "_law_at"=some (some (.ref fAt)))
  (lAt:K.lookup fAt=some ⟨ocAt,odAt,.func (W.fnOf "_law_at" "_law_at" (aK sAt) (aE sAt) (am sAt) .none kVAt dcAt pmAt anAt cdAt ctAt),slAt⟩)
  (cAt:W.codeIn K cdAt "_law_at"=true)
  (kAt:W.keepIn K (.ref fAt)=true)
  (aZm:W.nsIn K mainGlobals "_law_names"=some (some (.ref fZm)))
  (lZm:K.lookup fZm=some ⟨ocZm,odZm,.func (W.fnOf "_law_names" "_law_names" (aK sZm) (aE sZm) (am sZm) .none kVZm dcZm pmZm anZm cdZm ctZm),slZm⟩)
  (cZm:W.codeIn K cdZm "_law_names"=true)
  (kZm:W.keepIn K (.ref fZm)=true)
  (aZd:W.nsIn K mainGlobals "_law_place_of"=some (some (.ref fZd)))
  (lZd:K.lookup fZd=some ⟨ocZd,odZd,.func (W.fnOf "_law_place_of" "_law_place_of" (aK sZd) (aE sZd) (am sZd) .none kVZd dcZd pmZd anZd cdZd ctZd),slZd⟩)
  (cZd:W.codeIn K cdZd "_law_place_of"=true)
  (kZd:W.keepIn K (.ref fZd)=true)
  (aZg:W.nsIn K mainGlobals "_law_deed_of"=some (some (.ref fZg)))
  (lZg:K.lookup fZg=some ⟨ocZg,odZg,.func (W.fnOf "_law_deed_of" "_law_deed_of" (aK sZg) (aE sZg) (am sZg) .none kVZg dcZg pmZg anZg cdZg ctZg),slZg⟩)
  (cZg:W.codeIn K cdZg "_law_deed_of"=true)
  (kZg:W.keepIn K (.ref fZg)=true)
  (aYc:W.nsIn K mainGlobals "_law_new"=some (some (.ref fYc)))
  (lYc:K.lookup fYc=some ⟨ocYc,odYc,.func (W.fnOf "_law_new" "_law_new" (aK sYc) (aE sYc) (am sYc) .none kVYc dcYc pmYc anYc cdYc ctYc),slYc⟩)
  (cYc:W.codeIn K cdYc "_law_new"=true)
  (kYc:W.keepIn K (.ref fYc)=true)
  (aZf:W.nsIn K mainGlobals "_law_within"=some (some (.ref fZf)))
  (lZf:K.lookup fZf=some ⟨ocZf,odZf,.func (W.fnOf "_law_within" "_law_within" (aK sZf) (aE sZf) (am sZf) .none kVZf dcZf pmZf anZf cdZf ctZf),slZf⟩)
  (cZf:W.codeIn K cdZf "_law_within"=true)
  (kZf:W.keepIn K (.ref fZf)=true)
  (aZp:W.nsIn K mainGlobals "_law_all_above"=some (some (.ref fZp)))
  (lZp:K.lookup fZp=some ⟨ocZp,odZp,.func (W.fnOf "_law_all_above" "_law_all_above" (aK sZp) (aE sZp) (am sZp) .none kVZp dcZp pmZp anZp cdZp ctZp),slZp⟩)
  (cZp:W.codeIn K cdZp "_law_all_above"=true)
  (kZp:W.keepIn K (.ref fZp)=true)
  (aZr:W.nsIn K mainGlobals "_law_about_places"=some (some (.ref fZr)))
  (lZr:K.lookup fZr=some ⟨ocZr,odZr,.func (W.fnOf "_law_about_places" "_law_about_places" (aK sZr) (aE sZr) (am sZr) .none kVZr dcZr pmZr anZr cdZr ctZr),slZr⟩)
  (cZr:W.codeIn K cdZr "_law_about_places"=true)
  (kZr:W.keepIn K (.ref fZr)=true)
  (aZ2:W.nsIn K mainGlobals "_law_about_names"=some (some (.ref fZ2)))
  (lZ2:K.lookup fZ2=some ⟨ocZ2,odZ2,.func (W.fnOf "_law_about_names" "_law_about_names" (aK sZ2) (aE sZ2) (am sZ2) .none kVZ2 dcZ2 pmZ2 anZ2 cdZ2 ctZ2),slZ2⟩)
  (cZ2:W.codeIn K cdZ2 "_law_about_names"=true)
  (kZ2:W.keepIn K (.ref fZ2)=true)
  (aYg:W.nsIn K mainGlobals "_law_due_answer"=some (some (.ref fYg)))
  (lYg:K.lookup fYg=some ⟨ocYg,odYg,.func (W.fnOf "_law_due_answer" "_law_due_answer" (aK sYg) (aE sYg) (am sYg) .none kVYg dcYg pmYg anYg cdYg ctYg),slYg⟩)
  (cYg:W.codeIn K cdYg "_law_due_answer"=true)
  (kYg:W.keepIn K (.ref fYg)=true)
  (aZj:W.nsIn K mainGlobals "_law_drawn"=some (some (.ref fZj)))
  (lZj:K.lookup fZj=some ⟨ocZj,odZj,.func (W.fnOf "_law_drawn" "_law_drawn" (aK sZj) (aE sZj) (am sZj) .none kVZj dcZj pmZj anZj cdZj ctZj),slZj⟩)
  (cZj:W.codeIn K cdZj "_law_drawn"=true)
  (kZj:W.keepIn K (.ref fZj)=true)
  (aZh:W.nsIn K mainGlobals "_law_is_rule"=some (some (.ref fZh)))
  (lZh:K.lookup fZh=some ⟨ocZh,odZh,.func (W.fnOf "_law_is_rule" "_law_is_rule" (aK sZh) (aE sZh) (am sZh) .none kVZh dcZh pmZh anZh cdZh ctZh),slZh⟩)
  (cZh:W.codeIn K cdZh "_law_is_rule"=true)
  (kZh:W.keepIn K (.ref fZh)=true)
  (aZa:W.nsIn K mainGlobals "_law_is_answer"=some (some (.ref fZa)))
  (lZa:K.lookup fZa=some ⟨ocZa,odZa,.func (W.fnOf "_law_is_answer" "_law_is_answer" (aK sZa) (aE sZa) (am sZa) .none kVZa dcZa pmZa anZa cdZa ctZa),slZa⟩)
  (cZa:W.codeIn K cdZa "_law_is_answer"=true)
  (kZa:W.keepIn K (.ref fZa)=true)
  (aZz:W.nsIn K mainGlobals "_law_ways_from"=some (some (.ref fZz)))
  (lZz:K.lookup fZz=some ⟨ocZz,odZz,.func (W.fnOf "_law_ways_from" "_law_ways_from" (aK sZz) (aE sZz) (am sZz) .none kVZz dcZz pmZz anZz cdZz ctZz),slZz⟩)
  (cZz:W.codeIn K cdZz "_law_ways_from"=true)
  (kZz:W.keepIn K (.ref fZz)=true)
  (aZi:W.nsIn K mainGlobals "_law_least_road"=some (some (.ref fZi)))
  (lZi:K.lookup fZi=some ⟨ocZi,odZi,.func (W.fnOf "_law_least_road" "_law_least_road" (aK sZi) (aE sZi) (am sZi) .none kVZi dcZi pmZi anZi cdZi ctZi),slZi⟩)
  (cZi:W.codeIn K cdZi "_law_least_road"=true)
  (kZi:W.keepIn K (.ref fZi)=true)
  (aZn:W.nsIn K mainGlobals "_law_deciding"=some (some (.ref fZn)))
  (lZn:K.lookup fZn=some ⟨ocZn,odZn,.func (W.fnOf "_law_deciding" "_law_deciding" (aK sZn) (aE sZn) (am sZn) .none kVZn dcZn pmZn anZn cdZn ctZn),slZn⟩)
  (cZn:W.codeIn K cdZn "_law_deciding"=true)
  (kZn:W.keepIn K (.ref fZn)=true)
  (aZe:W.nsIn K mainGlobals "_law_is_right"=some (some (.ref fZe)))
  (lZe:K.lookup fZe=some ⟨ocZe,odZe,.func (W.fnOf "_law_is_right" "_law_is_right" (aK sZe) (aE sZe) (am sZe) .none kVZe dcZe pmZe anZe cdZe ctZe),slZe⟩)
  (cZe:W.codeIn K cdZe "_law_is_right"=true)
  (kZe:W.keepIn K (.ref fZe)=true)
  (aZw:W.nsIn K mainGlobals "_law_some_asks"=some (some (.ref fZw)))
  (lZw:K.lookup fZw=some ⟨ocZw,odZw,.func (W.fnOf "_law_some_asks" "_law_some_asks" (aK sZw) (aE sZw) (am sZw) .none kVZw dcZw pmZw anZw cdZw ctZw),slZw⟩)
  (cZw:W.codeIn K cdZw "_law_some_asks"=true)
  (kZw:W.keepIn K (.ref fZw)=true)
  (aZl:W.nsIn K mainGlobals "roads_from"=some (some (.ref fZl)))
  (lZl:K.lookup fZl=some ⟨ocZl,odZl,.func (W.fnOf "roads_from" "roads_from" (aK sZl) (aE sZl) (am sZl) .none kVZl dcZl pmZl anZl cdZl ctZl),slZl⟩)
  (cZl:W.codeIn K cdZl "roads_from"=true)
  (kZl:W.keepIn K (.ref fZl)=true)
  (aZq:W.nsIn K mainGlobals "road"=some (some (.ref fZq)))
  (lZq:K.lookup fZq=some ⟨ocZq,odZq,.func (W.fnOf "road" "road" (aK sZq) (aE sZq) (am sZq) .none kVZq dcZq pmZq anZq cdZq ctZq),slZq⟩)
  (cZq:W.codeIn K cdZq "road"=true)
  (kZq:W.keepIn K (.ref fZq)=true)
  (aYh:W.nsIn K mainGlobals "way_up"=some (some (.ref fYh)))
  (lYh:K.lookup fYh=some ⟨ocYh,odYh,.func (W.fnOf "way_up" "way_up" (aK sYh) (aE sYh) (am sYh) .none kVYh dcYh pmYh anYh cdYh ctYh),slYh⟩)
  (cYh:W.codeIn K cdYh "way_up"=true)
  (kYh:W.keepIn K (.ref fYh)=true)
  (aZs:W.nsIn K mainGlobals "lies_in"=some (some (.ref fZs)))
  (lZs:K.lookup fZs=some ⟨ocZs,odZs,.func (W.fnOf "lies_in" "lies_in" (aK sZs) (aE sZs) (am sZs) .none kVZs dcZs pmZs anZs cdZs ctZs),slZs⟩)
  (cZs:W.codeIn K cdZs "lies_in"=true)
  (kZs:W.keepIn K (.ref fZs)=true)
  (aZ4:W.findIn K (.ref CZo) "__init__"=some (some (.ref fZ4)))
  (lZ4:K.lookup fZ4=some ⟨ocZ4,odZ4,.func (W.fnOf "__init__" "House.__init__" (aK sZ4) (aE sZ4) (am sZ4) .none kVZ4 dcZ4 pmZ4 anZ4 cdZ4 ctZ4),slZ4⟩)
  (cZ4:W.codeIn K cdZ4 "House.__init__"=true)
  (kZ4:W.keepIn K (.ref fZ4)=true)
  (nZ4:W.isFn K (.ref fZ4)=true)
  (mkZ4:W.makesIn K CZo=true)
  (kcZ4:W.keepIn K (.ref CZo)=true)
  (aYe:W.findIn K (.ref CZo) "check_place"=some (some (.ref fYe)))
  (lYe:K.lookup fYe=some ⟨ocYe,odYe,.func (W.fnOf "check_place" "House.check_place" (aK sYe) (aE sYe) (am sYe) .none kVYe dcYe pmYe anYe cdYe ctYe),slYe⟩)
  (cYe:W.codeIn K cdYe "House.check_place"=true)
  (kYe:W.keepIn K (.ref fYe)=true)
  (nYe:W.isFn K (.ref fYe)=true)
  (aYi:W.findIn K (.ref CZo) "add_place"=some (some (.ref fYi)))
  (lYi:K.lookup fYi=some ⟨ocYi,odYi,.func (W.fnOf "add_place" "House.add_place" (aK sYi) (aE sYi) (am sYi) .none kVYi dcYi pmYi anYi cdYi ctYi),slYi⟩)
  (cYi:W.codeIn K cdYi "House.add_place"=true)
  (kYi:W.keepIn K (.ref fYi)=true)
  (nYi:W.isFn K (.ref fYi)=true)
  (aZ9:W.findIn K (.ref CZo) "move_place"=some (some (.ref fZ9)))
  (lZ9:K.lookup fZ9=some ⟨ocZ9,odZ9,.func (W.fnOf "move_place" "House.move_place" (aK sZ9) (aE sZ9) (am sZ9) .none kVZ9 dcZ9 pmZ9 anZ9 cdZ9 ctZ9),slZ9⟩)
  (cZ9:W.codeIn K cdZ9 "House.move_place"=true)
  (kZ9:W.keepIn K (.ref fZ9)=true)
  (nZ9:W.isFn K (.ref fZ9)=true)
  (aYb:W.findIn K (.ref CZo) "set_cut"=some (some (.ref fYb)))
  (lYb:K.lookup fYb=some ⟨ocYb,odYb,.func (W.fnOf "set_cut" "House.set_cut" (aK sYb) (aE sYb) (am sYb) .none kVYb dcYb pmYb anYb cdYb ctYb),slYb⟩)
  (cYb:W.codeIn K cdYb "House.set_cut"=true)
  (kYb:W.keepIn K (.ref fYb)=true)
  (nYb:W.isFn K (.ref fYb)=true)
  (aZ6:W.findIn K (.ref CZo) "add_link"=some (some (.ref fZ6)))
  (lZ6:K.lookup fZ6=some ⟨ocZ6,odZ6,.func (W.fnOf "add_link" "House.add_link" (aK sZ6) (aE sZ6) (am sZ6) .none kVZ6 dcZ6 pmZ6 anZ6 cdZ6 ctZ6),slZ6⟩)
  (cZ6:W.codeIn K cdZ6 "House.add_link"=true)
  (kZ6:W.keepIn K (.ref fZ6)=true)
  (nZ6:W.isFn K (.ref fZ6)=true)
  (aZ8:W.findIn K (.ref CZo) "drop_link"=some (some (.ref fZ8)))
  (lZ8:K.lookup fZ8=some ⟨ocZ8,odZ8,.func (W.fnOf "drop_link" "House.drop_link" (aK sZ8) (aE sZ8) (am sZ8) .none kVZ8 dcZ8 pmZ8 anZ8 cdZ8 ctZ8),slZ8⟩)
  (cZ8:W.codeIn K cdZ8 "House.drop_link"=true)
  (kZ8:W.keepIn K (.ref fZ8)=true)
  (nZ8:W.isFn K (.ref fZ8)=true)
  (aYk:W.findIn K (.ref CZo) "put_rule"=some (some (.ref fYk)))
  (lYk:K.lookup fYk=some ⟨ocYk,odYk,.func (W.fnOf "put_rule" "House.put_rule" (aK sYk) (aE sYk) (am sYk) .none kVYk dcYk pmYk anYk cdYk ctYk),slYk⟩)
  (cYk:W.codeIn K cdYk "House.put_rule"=true)
  (kYk:W.keepIn K (.ref fYk)=true)
  (nYk:W.isFn K (.ref fYk)=true)
  (aYl:W.findIn K (.ref CZo) "lift_rule"=some (some (.ref fYl)))
  (lYl:K.lookup fYl=some ⟨ocYl,odYl,.func (W.fnOf "lift_rule" "House.lift_rule" (aK sYl) (aE sYl) (am sYl) .none kVYl dcYl pmYl anYl cdYl ctYl),slYl⟩)
  (cYl:W.codeIn K cdYl "House.lift_rule"=true)
  (kYl:W.keepIn K (.ref fYl)=true)
  (nYl:W.isFn K (.ref fYl)=true)
  (aYd:W.findIn K (.ref CZo) "ask"=some (some (.ref fYd)))
  (lYd:K.lookup fYd=some ⟨ocYd,odYd,.func (W.fnOf "ask" "House.ask" (aK sYd) (aE sYd) (am sYd) .none kVYd dcYd pmYd anYd cdYd ctYd),slYd⟩)
  (cYd:W.codeIn K cdYd "House.ask"=true)
  (kYd:W.keepIn K (.ref fYd)=true)
  (nYd:W.isFn K (.ref fYd)=true)
  (aYj:W.findIn K (.ref CZo) "who_may"=some (some (.ref fYj)))
  (lYj:K.lookup fYj=some ⟨ocYj,odYj,.func (W.fnOf "who_may" "House.who_may" (aK sYj) (aE sYj) (am sYj) .none kVYj dcYj pmYj anYj cdYj ctYj),slYj⟩)
  (cYj:W.codeIn K cdYj "House.who_may"=true)
  (kYj:W.keepIn K (.ref fYj)=true)
  (nYj:W.isFn K (.ref fYj)=true)
  (aYf:W.findIn K (.ref CZo) "all_names"=some (some (.ref fYf)))
  (lYf:K.lookup fYf=some ⟨ocYf,odYf,.func (W.fnOf "all_names" "House.all_names" (aK sYf) (aE sYf) (am sYf) .none kVYf dcYf pmYf anYf cdYf ctYf),slYf⟩)
  (cYf:W.codeIn K cdYf "House.all_names"=true)
  (kYf:W.keepIn K (.ref fYf)=true)
  (nYf:W.isFn K (.ref fYf)=true)
  (aYa:W.findIn K (.ref CZo) "link_pairs"=some (some (.ref fYa)))
  (lYa:K.lookup fYa=some ⟨ocYa,odYa,.func (W.fnOf "link_pairs" "House.link_pairs" (aK sYa) (aE sYa) (am sYa) .none kVYa dcYa pmYa anYa cdYa ctYa),slYa⟩)
  (cYa:W.codeIn K cdYa "House.link_pairs"=true)
  (kYa:W.keepIn K (.ref fYa)=true)
  (nYa:W.isFn K (.ref fYa)=true)
  (aZ1:W.nsIn K mainGlobals "done"=some (some (.ref fZ1)))
  (lZ1:K.lookup fZ1=some ⟨ocZ1,odZ1,.func (W.fnOf "done" "done" (aK sZ1) (aE sZ1) (am sZ1) .none kVZ1 dcZ1 pmZ1 anZ1 cdZ1 ctZ1),slZ1⟩)
  (cZ1:W.codeIn K cdZ1 "done"=true)
  (kZ1:W.keepIn K (.ref fZ1)=true)
  (aZu:W.nsIn K mainGlobals "answered"=some (some (.ref fZu)))
  (lZu:K.lookup fZu=some ⟨ocZu,odZu,.func (W.fnOf "answered" "answered" (aK sZu) (aE sZu) (am sZu) .none kVZu dcZu pmZu anZu cdZu ctZu),slZu⟩)
  (cZu:W.codeIn K cdZu "answered"=true)
  (kZu:W.keepIn K (.ref fZu)=true)
  (aZc:W.nsIn K mainGlobals "answers"=some (some (.ref fZc)))
  (lZc:K.lookup fZc=some ⟨ocZc,odZc,.func (W.fnOf "answers" "answers" (aK sZc) (aE sZc) (am sZc) .none kVZc dcZc pmZc anZc cdZc ctZc),slZc⟩)
  (cZc:W.codeIn K cdZc "answers"=true)
  (kZc:W.keepIn K (.ref fZc)=true)
  (aZy:W.nsIn K mainGlobals "answer_for"=some (some (.ref fZy)))
  (lZy:K.lookup fZy=some ⟨ocZy,odZy,.func (W.fnOf "answer_for" "answer_for" (aK sZy) (aE sZy) (am sZy) .none kVZy dcZy pmZy anZy cdZy ctZy),slZy⟩)
  (cZy:W.codeIn K cdZy "answer_for"=true)
  (kZy:W.keepIn K (.ref fZy)=true)
  (aZt:W.nsIn K mainGlobals "nearest"=some (some (.ref fZt)))
  (lZt:K.lookup fZt=some ⟨ocZt,odZt,.func (W.fnOf "nearest" "nearest" (aK sZt) (aE sZt) (am sZt) .none kVZt dcZt pmZt anZt cdZt ctZt),slZt⟩)
  (cZt:W.codeIn K cdZt "nearest"=true)
  (kZt:W.keepIn K (.ref fZt)=true)
  (aZ0:W.nsIn K mainGlobals "deciding"=some (some (.ref fZ0)))
  (lZ0:K.lookup fZ0=some ⟨ocZ0,odZ0,.func (W.fnOf "deciding" "deciding" (aK sZ0) (aE sZ0) (am sZ0) .none kVZ0 dcZ0 pmZ0 anZ0 cdZ0 ctZ0),slZ0⟩)
  (cZ0:W.codeIn K cdZ0 "deciding"=true)
  (kZ0:W.keepIn K (.ref fZ0)=true)
  (aZ3:W.nsIn K mainGlobals "told"=some (some (.ref fZ3)))
  (lZ3:K.lookup fZ3=some ⟨ocZ3,odZ3,.func (W.fnOf "told" "told" (aK sZ3) (aE sZ3) (am sZ3) .none kVZ3 dcZ3 pmZ3 anZ3 (.ref c0) ctZ3),slZ3⟩)
  (cZ3:W.codeIn K (.ref c0) "told"=true)
  (kZ3:W.keepIn K (.ref fZ3)=true)
  (aZx:W.nsIn K mainGlobals "_law_who_may"=some (some (.ref fZx)))
  (lZx:K.lookup fZx=some ⟨ocZx,odZx,.func (W.fnOf "_law_who_may" "_law_who_may" (aK sZx) (aE sZx) (am sZx) .none kVZx dcZx pmZx anZx cdZx ctZx),slZx⟩)
  (cZx:W.codeIn K cdZx "_law_who_may"=true)
  (kZx:W.keepIn K (.ref fZx)=true)
  (aZv:W.nsIn K mainGlobals "_law_are_names"=some (some (.ref fZv)))
  (lZv:K.lookup fZv=some ⟨ocZv,odZv,.func (W.fnOf "_law_are_names" "_law_are_names" (aK sZv) (aE sZv) (am sZv) .none kVZv dcZv pmZv anZv cdZv ctZv),slZv⟩)
  (cZv:W.codeIn K cdZv "_law_are_names"=true)
  (kZv:W.keepIn K (.ref fZv)=true)
  (aZ7:W.nsIn K mainGlobals "law"=some (some (.ref fZ7)))
  (lZ7:K.lookup fZ7=some ⟨ocZ7,odZ7,.func (W.fnOf "law" "law" (aK sZ7) (aE sZ7) (am sZ7) .none kVZ7 dcZ7 pmZ7 anZ7 cdZ7 ctZ7),slZ7⟩)
  (cZ7:W.codeIn K cdZ7 "law"=true)
  (kZ7:W.keepIn K (.ref fZ7)=true)
  (z0:W.nsIn K mainGlobals "len"=some none)
  (z1:W.nsIn K mainGlobals "range"=some none)
  (z2:W.nsIn K mainGlobals "min"=some none)
  (z3:W.nsIn K mainGlobals "list"=some none)
  (z4:W.nsIn K mainGlobals "isinstance"=some none)
  (z5:W.nsIn K mainGlobals "str"=some none)
  (z6:W.nsIn K mainGlobals "int"=some none)
  (z7:W.nsIn K mainGlobals "bool"=some none)
  (z8:W.nsIn K mainGlobals "tuple"=some none)
  (z9:W.nsIn K mainGlobals "sorted"=some none)
  (z10:W.nsIn K mainGlobals "dict"=some none)
  (aAN:W.nsIn K mainGlobals "ANSWERED"=some (some (.ref dAN)))
  (lAN:K.lookup dAN=some { cls:=.type "dict",data:=.dict #[{ hash:=PyData.keyHash w.params "give",key:=.str "give" tA1,val:=.str "given" tA2 },{ hash:=PyData.keyHash w.params "bar",key:=.str "bar" tA3,val:=.str "barred" tA4 }] nAN })
  (hdT:W.codeHdIn K c0 T0=true)
  (hnt:W.noTabs K=true)
  : ∃(fd:FuncData) (c0:Addr),W.codeHdIn K c0 T0=true/\W.noTabs K=true/\(∀(s:Shared) (v:Value),BindsTo s fd ⟨[v],[]⟩ [("_law_script",v)])/\∀ base:Heap,K.In base->base.Ns mainGlobals mg->gQ mg base->aF l.prog w K mg base CX0 9 fa fd ["_law_script"] (lS K T0):=by
 have e:=hfa.symm.trans (W.mg_of X G aZ7);cases e;have T:Txt mg:=⟨W.mg_none_of X G z0,W.mg_none_of X G z1,W.mg_none_of X G z2,W.mg_none_of X G z3,W.mg_none_of X G z4,W.mg_none_of X G z5,W.mg_none_of X G z6,W.mg_none_of X G z7,W.mg_none_of X G z8,W.mg_none_of X G z9,W.mg_none_of X G z10⟩;have FZk:=aQ (st:=sZk) lZk cZk kZk;have bZk:=FZk.binds (ps:=["_law_found"]) λ_ _ _ _ _ _ us hl=>by obtain⟨_,rfl⟩:=oI hl;rfl
 have FAt:=aQ (st:=sAt) lAt cAt kAt;have bAt:=FAt.binds (ps:=["_law_script","_law_k"]) λ_ _ _ _ _ _ us hl=>by obtain⟨_,_,rfl⟩:=d7 hl;rfl
 have FZm:=aQ (st:=sZm) lZm cZm kZm;have bZm:=FZm.binds (ps:=[]) λ_ _ _ _ _ _ us hl=>by obtain⟨rfl⟩:=y8 hl;rfl
 have FZd:=aQ (st:=sZd) lZd cZd kZd;have bZd:=FZd.binds (ps:=["_law_cell","_law_k","_law_count"]) λ_ _ _ _ _ _ us hl=>by obtain⟨_,_,_,rfl⟩:=iN hl;rfl
 have FZg:=aQ (st:=sZg) lZg cZg kZg;have bZg:=FZg.binds (ps:=["_law_cell","_law_k","_law_count"]) λ_ _ _ _ _ _ us hl=>by obtain⟨_,_,_,rfl⟩:=iN hl;rfl
 have FYc:=aQ (st:=sYc) lYc cYc kYc;have bYc:=FYc.binds (ps:=[]) λ_ _ _ _ _ _ us hl=>by obtain⟨rfl⟩:=y8 hl;rfl
 have FZf:=aQ (st:=sZf) lZf cZf kZf;have bZf:=FZf.binds (ps:=["_law_links","_law_name"]) λ_ _ _ _ _ _ us hl=>by obtain⟨_,_,rfl⟩:=d7 hl;rfl
 have FZp:=aQ (st:=sZp) lZp cZp kZp;have bZp:=FZp.binds (ps:=["_law_parents","_law_place"]) λ_ _ _ _ _ _ us hl=>by obtain⟨_,_,rfl⟩:=d7 hl;rfl
 have FZr:=aQ (st:=sZr) lZr cZr kZr;have bZr:=FZr.binds (ps:=["_law_model","_law_deed"]) λ_ _ _ _ _ _ us hl=>by obtain⟨_,_,rfl⟩:=d7 hl;rfl
 have FZ2:=aQ (st:=sZ2) lZ2 cZ2 kZ2;have bZ2:=FZ2.binds (ps:=["_law_model","_law_deed"]) λ_ _ _ _ _ _ us hl=>by obtain⟨_,_,rfl⟩:=d7 hl;rfl
 have FYg:=aQ (st:=sYg) lYg cYg kYg;have bYg:=FYg.binds (ps:=["_law_model","_law_deed"]) λ_ _ _ _ _ _ us hl=>by obtain⟨_,_,rfl⟩:=d7 hl;rfl
 have FZj:=aQ (st:=sZj) lZj cZj kZj;have bZj:=FZj.binds (ps:=["_law_cells","_law_model"]) λ_ _ _ _ _ _ us hl=>by obtain⟨_,_,rfl⟩:=d7 hl;rfl
 have FZh:=aQ (st:=sZh) lZh cZh kZh;have bZh:=FZh.binds (ps:=["_law_found"]) λ_ _ _ _ _ _ us hl=>by obtain⟨_,rfl⟩:=oI hl;rfl
 have FZa:=aQ (st:=sZa) lZa cZa kZa;have bZa:=FZa.binds (ps:=["_law_found"]) λ_ _ _ _ _ _ us hl=>by obtain⟨_,rfl⟩:=oI hl;rfl
 have FZz:=aQ (st:=sZz) lZz cZz kZz;have bZz:=FZz.binds (ps:=["_law_model","_law_place"]) λ_ _ _ _ _ _ us hl=>by obtain⟨_,_,rfl⟩:=d7 hl;rfl
 have FZi:=aQ (st:=sZi) lZi cZi kZi;have bZi:=FZi.binds (ps:=["_law_links","_law_name","_law_who"]) λ_ _ _ _ _ _ us hl=>by obtain⟨_,_,_,rfl⟩:=iN hl;rfl
 have FZn:=aQ (st:=sZn) lZn cZn kZn;have bZn:=FZn.binds (ps:=["_law_model","_law_name","_law_right","_law_place"]) λ_ _ _ _ _ _ us hl=>by obtain⟨_,_,_,_,rfl⟩:=y9 hl;rfl
 have FZe:=aQ (st:=sZe) lZe cZe kZe;have bZe:=FZe.binds (ps:=["_law_found","_law_model","_law_deed"]) λ_ _ _ _ _ _ us hl=>by obtain⟨_,_,_,rfl⟩:=iN hl;rfl
 have FZw:=aQ (st:=sZw) lZw cZw kZw;have bZw:=FZw.binds (ps:=["_law_script","_law_count"]) λ_ _ _ _ _ _ us hl=>by obtain⟨_,_,rfl⟩:=d7 hl;rfl
 have FZl:=aQ (st:=sZl) lZl cZl kZl;have bZl:=FZl.binds (ps:=["links","name"]) λ_ _ _ _ _ _ us hl=>by obtain⟨_,_,rfl⟩:=d7 hl;rfl
 have FZq:=aQ (st:=sZq) lZq cZq kZq;have bZq:=FZq.binds (ps:=["links","name","circle"]) λ_ _ _ _ _ _ us hl=>by obtain⟨_,_,_,rfl⟩:=iN hl;rfl
 have FYh:=aQ (st:=sYh) lYh cYh kYh;have bYh:=FYh.binds (ps:=["parents","cuts","place"]) λ_ _ _ _ _ _ us hl=>by obtain⟨_,_,_,rfl⟩:=iN hl;rfl
 have FZs:=aQ (st:=sZs) lZs cZs kZs;have bZs:=FZs.binds (ps:=["parents","place","other"]) λ_ _ _ _ _ _ us hl=>by obtain⟨_,_,_,rfl⟩:=iN hl;rfl
 have FZ4:=aQ (st:=sZ4) lZ4 cZ4 kZ4;have bZ4:=FZ4.binds (ps:=["self"]) λ_ _ _ _ _ _ us hl=>by obtain⟨_,rfl⟩:=oI hl;rfl
 have FYe:=aQ (st:=sYe) lYe cYe kYe;have bYe:=FYe.binds (ps:=["self","place"]) λ_ _ _ _ _ _ us hl=>by obtain⟨_,_,rfl⟩:=d7 hl;rfl
 have FYi:=aQ (st:=sYi) lYi cYi kYi;have bYi:=FYi.binds (ps:=["self","parent"]) λ_ _ _ _ _ _ us hl=>by obtain⟨_,_,rfl⟩:=d7 hl;rfl
 have FZ9:=aQ (st:=sZ9) lZ9 cZ9 kZ9;have bZ9:=FZ9.binds (ps:=["self","place","parent"]) λ_ _ _ _ _ _ us hl=>by obtain⟨_,_,_,rfl⟩:=iN hl;rfl
 have FYb:=aQ (st:=sYb) lYb cYb kYb;have bYb:=FYb.binds (ps:=["self","place","wanted"]) λ_ _ _ _ _ _ us hl=>by obtain⟨_,_,_,rfl⟩:=iN hl;rfl
 have FZ6:=aQ (st:=sZ6) lZ6 cZ6 kZ6;have bZ6:=FZ6.binds (ps:=["self","member","circle"]) λ_ _ _ _ _ _ us hl=>by obtain⟨_,_,_,rfl⟩:=iN hl;rfl
 have FZ8:=aQ (st:=sZ8) lZ8 cZ8 kZ8;have bZ8:=FZ8.binds (ps:=["self","member","circle"]) λ_ _ _ _ _ _ us hl=>by obtain⟨_,_,_,rfl⟩:=iN hl;rfl
 have FYk:=aQ (st:=sYk) lYk cYk kYk;have bYk:=FYk.binds (ps:=["self","rule"]) λ_ _ _ _ _ _ us hl=>by obtain⟨_,_,rfl⟩:=d7 hl;rfl
 have FYl:=aQ (st:=sYl) lYl cYl kYl;have bYl:=FYl.binds (ps:=["self","rule"]) λ_ _ _ _ _ _ us hl=>by obtain⟨_,_,rfl⟩:=d7 hl;rfl
 have FYd:=aQ (st:=sYd) lYd cYd kYd;have bYd:=FYd.binds (ps:=["self","name","right","place"]) λ_ _ _ _ _ _ us hl=>by obtain⟨_,_,_,_,rfl⟩:=y9 hl;rfl
 have FYj:=aQ (st:=sYj) lYj cYj kYj;have bYj:=FYj.binds (ps:=["self","right","place"]) λ_ _ _ _ _ _ us hl=>by obtain⟨_,_,_,rfl⟩:=iN hl;rfl
 have FYf:=aQ (st:=sYf) lYf cYf kYf;have bYf:=FYf.binds (ps:=["self"]) λ_ _ _ _ _ _ us hl=>by obtain⟨_,rfl⟩:=oI hl;rfl
 have FYa:=aQ (st:=sYa) lYa cYa kYa;have bYa:=FYa.binds (ps:=["self"]) λ_ _ _ _ _ _ us hl=>by obtain⟨_,rfl⟩:=oI hl;rfl
 have FZ1:=aQ (st:=sZ1) lZ1 cZ1 kZ1;have bZ1:=FZ1.binds (ps:=["house","deed"]) λ_ _ _ _ _ _ us hl=>by obtain⟨_,_,rfl⟩:=d7 hl;rfl
 have FZu:=aQ (st:=sZu) lZu cZu kZu;have bZu:=FZu.binds (ps:=["house","deed"]) λ_ _ _ _ _ _ us hl=>by obtain⟨_,_,rfl⟩:=d7 hl;rfl
 have FZc:=aQ (st:=sZc) lZc cZc kZc;have bZc:=FZc.binds (ps:=["deeds"]) λ_ _ _ _ _ _ us hl=>by obtain⟨_,rfl⟩:=oI hl;rfl
 have FZy:=aQ (st:=sZy) lZy cZy kZy;have bZy:=FZy.binds (ps:=["rules","links","name","right","way"]) λ_ _ _ _ _ _ us hl=>by obtain⟨_,_,_,_,_,rfl⟩:=zT hl;rfl
 have FZt:=aQ (st:=sZt) lZt cZt kZt;have bZt:=FZt.binds (ps:=["rules","way"]) λ_ _ _ _ _ _ us hl=>by obtain⟨_,_,rfl⟩:=d7 hl;rfl
 have FZ0:=aQ (st:=sZ0) lZ0 cZ0 kZ0;have bZ0:=FZ0.binds (ps:=["rules","name"]) λ_ _ _ _ _ _ us hl=>by obtain⟨_,_,rfl⟩:=d7 hl;rfl
 have FZ3:=aQ (st:=sZ3) lZ3 cZ3 kZ3;have bZ3:=FZ3.binds (ps:=["rules","roads"]) λ_ _ _ _ _ _ us hl=>by obtain⟨_,_,rfl⟩:=d7 hl;rfl
 have FZx:=aQ (st:=sZx) lZx cZx kZx;have bZx:=FZx.binds (ps:=["_law_model","_law_deed"]) λ_ _ _ _ _ _ us hl=>by obtain⟨_,_,rfl⟩:=d7 hl;rfl
 have FZv:=aQ (st:=sZv) lZv cZv kZv;have bZv:=FZv.binds (ps:=["_law_found","_law_due"]) λ_ _ _ _ _ _ us hl=>by obtain⟨_,_,rfl⟩:=d7 hl;rfl
 have FZ7:=aQ (st:=sZ7) lZ7 cZ7 kZ7
 let D:bE K mg:={
  CZb:=CZb,
  exZb:=⟨xCZb⟩,
  mCZb:=W.mg_of X G aCZb,
  CZ5:=CZ5,
  exZ5:=⟨xCZ5⟩,
  mCZ5:=W.mg_of X G aCZ5,
  missRingNoPlace:=miRingNoPlace,
  CZo:=CZo,
  clsZo:=⟨pgZo,hdZo,poZo,saZo⟩,
  mCZo:=W.mg_of X G aCZo,
  naparents:=noparents,
  nacuts:=nocuts,
  nalinks:=nolinks,
  narules:=norules,
  gWORD:=⟨tWORD,W.mg_of X G iWORD⟩,
  gWHO:=⟨tWHO,W.mg_of X G iWHO⟩,
  gRIGHT:=⟨tRIGHT,W.mg_of X G iRIGHT⟩,
  gPLACE:=⟨tPLACE,W.mg_of X G iPLACE⟩,
  fZk:=fZk,
  fdZk:=_,
  FZk:=FZk,
  bZk:=bZk,
  mZk:=W.mg_of X G aZk,
  fAt:=fAt,
  fdAt:=_,
  FAt:=FAt,
  bAt:=bAt,
  mAt:=W.mg_of X G aAt,
  fZm:=fZm,
  fdZm:=_,
  FZm:=FZm,
  bZm:=bZm,
  mZm:=W.mg_of X G aZm,
  fZd:=fZd,
  fdZd:=_,
  FZd:=FZd,
  bZd:=bZd,
  mZd:=W.mg_of X G aZd,
  fZg:=fZg,
  fdZg:=_,
  FZg:=FZg,
  bZg:=bZg,
  mZg:=W.mg_of X G aZg,
  fYc:=fYc,
  fdYc:=_,
  FYc:=FYc,
  bYc:=bYc,
  mYc:=W.mg_of X G aYc,
  fZf:=fZf,
  fdZf:=_,
  FZf:=FZf,
  bZf:=bZf,
  mZf:=W.mg_of X G aZf,
  fZp:=fZp,
  fdZp:=_,
  FZp:=FZp,
  bZp:=bZp,
  mZp:=W.mg_of X G aZp,
  fZr:=fZr,
  fdZr:=_,
  FZr:=FZr,
  bZr:=bZr,
  mZr:=W.mg_of X G aZr,
  fZ2:=fZ2,
  fdZ2:=_,
  FZ2:=FZ2,
  bZ2:=bZ2,
  mZ2:=W.mg_of X G aZ2,
  fYg:=fYg,
  fdYg:=_,
  FYg:=FYg,
  bYg:=bYg,
  mYg:=W.mg_of X G aYg,
  fZj:=fZj,
  fdZj:=_,
  FZj:=FZj,
  bZj:=bZj,
  mZj:=W.mg_of X G aZj,
  fZh:=fZh,
  fdZh:=_,
  FZh:=FZh,
  bZh:=bZh,
  mZh:=W.mg_of X G aZh,
  fZa:=fZa,
  fdZa:=_,
  FZa:=FZa,
  bZa:=bZa,
  mZa:=W.mg_of X G aZa,
  fZz:=fZz,
  fdZz:=_,
  FZz:=FZz,
  bZz:=bZz,
  mZz:=W.mg_of X G aZz,
  fZi:=fZi,
  fdZi:=_,
  FZi:=FZi,
  bZi:=bZi,
  mZi:=W.mg_of X G aZi,
  fZn:=fZn,
  fdZn:=_,
  FZn:=FZn,
  bZn:=bZn,
  mZn:=W.mg_of X G aZn,
  fZe:=fZe,
  fdZe:=_,
  FZe:=FZe,
  bZe:=bZe,
  mZe:=W.mg_of X G aZe,
  fZw:=fZw,
  fdZw:=_,
  FZw:=FZw,
  bZw:=bZw,
  mZw:=W.mg_of X G aZw,
  fZl:=fZl,
  fdZl:=_,
  FZl:=FZl,
  bZl:=bZl,
  mZl:=W.mg_of X G aZl,
  fZq:=fZq,
  fdZq:=_,
  FZq:=FZq,
  bZq:=bZq,
  mZq:=W.mg_of X G aZq,
  fYh:=fYh,
  fdYh:=_,
  FYh:=FYh,
  bYh:=bYh,
  mYh:=W.mg_of X G aYh,
  fZs:=fZs,
  fdZs:=_,
  FZs:=FZs,
  bZs:=bZs,
  mZs:=W.mg_of X G aZs,
  fZ4:=fZ4,
  fdZ4:=_,
  FZ4:=FZ4,
  bZ4:=bZ4,
  mkZo:=⟨mkZ4,aZ4,nZ4,kcZ4⟩,
  fYe:=fYe,
  fdYe:=_,
  FYe:=FYe,
  bYe:=bYe,
  meYe:=⟨aYe,nYe,kYe⟩,
  fYi:=fYi,
  fdYi:=_,
  FYi:=FYi,
  bYi:=bYi,
  meYi:=⟨aYi,nYi,kYi⟩,
  fZ9:=fZ9,
  fdZ9:=_,
  FZ9:=FZ9,
  bZ9:=bZ9,
  meZ9:=⟨aZ9,nZ9,kZ9⟩,
  fYb:=fYb,
  fdYb:=_,
  FYb:=FYb,
  bYb:=bYb,
  meYb:=⟨aYb,nYb,kYb⟩,
  fZ6:=fZ6,
  fdZ6:=_,
  FZ6:=FZ6,
  bZ6:=bZ6,
  meZ6:=⟨aZ6,nZ6,kZ6⟩,
  fZ8:=fZ8,
  fdZ8:=_,
  FZ8:=FZ8,
  bZ8:=bZ8,
  meZ8:=⟨aZ8,nZ8,kZ8⟩,
  fYk:=fYk,
  fdYk:=_,
  FYk:=FYk,
  bYk:=bYk,
  meYk:=⟨aYk,nYk,kYk⟩,
  fYl:=fYl,
  fdYl:=_,
  FYl:=FYl,
  bYl:=bYl,
  meYl:=⟨aYl,nYl,kYl⟩,
  fYd:=fYd,
  fdYd:=_,
  FYd:=FYd,
  bYd:=bYd,
  meYd:=⟨aYd,nYd,kYd⟩,
  fYj:=fYj,
  fdYj:=_,
  FYj:=FYj,
  bYj:=bYj,
  meYj:=⟨aYj,nYj,kYj⟩,
  fYf:=fYf,
  fdYf:=_,
  FYf:=FYf,
  bYf:=bYf,
  meYf:=⟨aYf,nYf,kYf⟩,
  fYa:=fYa,
  fdYa:=_,
  FYa:=FYa,
  bYa:=bYa,
  meYa:=⟨aYa,nYa,kYa⟩,
  fZ1:=fZ1,
  fdZ1:=_,
  FZ1:=FZ1,
  bZ1:=bZ1,
  mZ1:=W.mg_of X G aZ1,
  fZu:=fZu,
  fdZu:=_,
  FZu:=FZu,
  bZu:=bZu,
  mZu:=W.mg_of X G aZu,
  fZc:=fZc,
  fdZc:=_,
  FZc:=FZc,
  bZc:=bZc,
  mZc:=W.mg_of X G aZc,
  fZy:=fZy,
  fdZy:=_,
  FZy:=FZy,
  bZy:=bZy,
  mZy:=W.mg_of X G aZy,
  fZt:=fZt,
  fdZt:=_,
  FZt:=FZt,
  bZt:=bZt,
  mZt:=W.mg_of X G aZt,
  fZ0:=fZ0,
  fdZ0:=_,
  FZ0:=FZ0,
  bZ0:=bZ0,
  mZ0:=W.mg_of X G aZ0,
  fZ3:=fZ3,
  fdZ3:=_,
  FZ3:=FZ3,
  bZ3:=bZ3,
  mZ3:=W.mg_of X G aZ3,
  fZx:=fZx,
  fdZx:=_,
  FZx:=FZx,
  bZx:=bZx,
  mZx:=W.mg_of X G aZx,
  fZv:=fZv,
  fdZv:=_,
  FZv:=FZv,
  bZv:=bZv,
  mZv:=W.mg_of X G aZv,
  fZ7:=_,
  fdZ7:=_,
  FZ7:=FZ7 }
 exact⟨W.fnOf "law" "law" (aK sZ7) (aE sZ7) (am sZ7) .none kVZ7 dcZ7 pmZ7 anZ7 cdZ7 ctZ7,c0,hdT,hnt,λs v=>.of_eq rfl,λbase _ _ bm=>xB D T (T0:=T0) ⟨bm,⟨c0,rfl,hdT⟩,⟨dAN,tA1,tA2,tA3,tA4,nAN,W.mg_of X G aAN,lAN⟩⟩⟩
theorem walk{T0:Addr}{l:W.OpenLaw}{q:Program}{loose:List Str}{XP:(Str->Option Value)->Heap->Prop}{YP:World->Heap->Prop}{d:DefRec}{K:Params->W.Frag}(hn:l.most=some 63)(hdf:d.params.defaults=[])
  (hY:∀(w:World) (h:Heap),YP w h->(K w.params).In h) (hY2:∀(w:World) (h:Heap),YP w h->h.get? T0=some (W.tabObj #[]))
  (F:∀(w:World) (mg:Str->Option Value) (fa:Addr) (h:Heap),(K w.params).In h->h.Ns mainGlobals mg->mg d.name=some (.ref fa) ->
   ∃(fd:FuncData) (c0:Addr),W.codeHdIn (K w.params) c0 T0=true/\W.noTabs (K w.params)=true/\(∀(s:Shared) (u:Value),BindsTo s fd ⟨[u],[]⟩ [("_law_script",u)])/\∀ base:Heap,(K w.params).In base->base.Ns mainGlobals mg->gQ mg base->aF l.prog w (K w.params) mg base CX0 9 fa fd ["_law_script"] (lS (K w.params) T0)) :
  W.WalkO q loose XP YP l.row.toRowW d [] (λf vs=>PySem.call f vs) :=
 L2.walk_ofT (T:=T0) (n:=63) (k:=9) (x:="_law_script") (CX:=λ_=>CX0) (sp:=λw=>lS (K w.params) T0) hn (by decide) hdf ⟨rfl,by decide,by decide⟩ hY hY2 F (λ_ _ a ns hl ht hS=>⟨a,ns,rfl,hS,hl,ht,λ_=>rfl⟩) λ_ _ _ _ _ z=>z
end G06
open PySem PySem.W PyProof.Rows
set_option maxRecDepth 100000 in
set_option maxHeartbeats 0 in
theorem PySem.Challenge.cw_gatebook_k06_whole_answer_and_reason_holds : PySem.Challenge.rw_gatebook_k06_whole_answer_and_reason.Holds := by
 w_on;o_law;k_head;(case hw=>w_witness2)
 k_fill
 refine G06.walk (l:=PySem.Challenge.rw_gatebook_k06_whole_answer_and_reason) rfl rfl (λw h Y=>W.km_in_of Y) (λw h Y=>W.km_tabs_of Y _ (List.Mem.head _)) ?F
 case F =>
  intro w mg fa h KX G hmg
  refine' G06.all_mk KX G hmg ?aCZb ?xCZb ?aCZ5 ?xCZ5 ?miRingNoPlace ?aCZo ?pgZo ?hdZo ?poZo ?saZo ?noparents ?nocuts ?nolinks ?norules ?iWORD ?iWHO ?iRIGHT ?iPLACE ?aZk ?lZk ?cZk ?kZk ?aAt ?lAt ?cAt ?kAt ?aZm ?lZm ?cZm ?kZm ?aZd ?lZd ?cZd ?kZd ?aZg ?lZg ?cZg ?kZg ?aYc ?lYc ?cYc ?kYc ?aZf ?lZf ?cZf ?kZf ?aZp ?lZp ?cZp ?kZp ?aZr ?lZr ?cZr ?kZr ?aZ2 ?lZ2 ?cZ2 ?kZ2 ?aYg ?lYg ?cYg ?kYg ?aZj ?lZj ?cZj ?kZj ?aZh ?lZh ?cZh ?kZh ?aZa ?lZa ?cZa ?kZa ?aZz ?lZz ?cZz ?kZz ?aZi ?lZi ?cZi ?kZi ?aZn ?lZn ?cZn ?kZn ?aZe ?lZe ?cZe ?kZe ?aZw ?lZw ?cZw ?kZw ?aZl ?lZl ?cZl ?kZl ?aZq ?lZq ?cZq ?kZq ?aYh ?lYh ?cYh ?kYh ?aZs ?lZs ?cZs ?kZs ?aZ4 ?lZ4 ?cZ4 ?kZ4 ?nZ4 ?mkZ4 ?kcZ4 ?aYe ?lYe ?cYe ?kYe ?nYe ?aYi ?lYi ?cYi ?kYi ?nYi ?aZ9 ?lZ9 ?cZ9 ?kZ9 ?nZ9 ?aYb ?lYb ?cYb ?kYb ?nYb ?aZ6 ?lZ6 ?cZ6 ?kZ6 ?nZ6 ?aZ8 ?lZ8 ?cZ8 ?kZ8 ?nZ8 ?aYk ?lYk ?cYk ?kYk ?nYk ?aYl ?lYl ?cYl ?kYl ?nYl ?aYd ?lYd ?cYd ?kYd ?nYd ?aYj ?lYj ?cYj ?kYj ?nYj ?aYf ?lYf ?cYf ?kYf ?nYf ?aYa ?lYa ?cYa ?kYa ?nYa ?aZ1 ?lZ1 ?cZ1 ?kZ1 ?aZu ?lZu ?cZu ?kZu ?aZc ?lZc ?cZc ?kZc ?aZy ?lZy ?cZy ?kZy ?aZt ?lZt ?cZt ?kZt ?aZ0 ?lZ0 ?cZ0 ?kZ0 ?aZ3 ?lZ3 ?cZ3 ?kZ3 ?aZx ?lZx ?cZx ?kZx ?aZv ?lZv ?cZv ?kZv ?aZ7 ?lZ7 ?cZ7 ?kZ7 ?z0 ?z1 ?z2 ?z3 ?z4 ?z5 ?z6 ?z7 ?z8 ?z9 ?z10 ?aAN ?lAN ?hdT ?hnt
  (case aCZb=>k_is)
  (case xCZb=>k_exc)
  (case aCZ5=>k_is)
  (case xCZ5=>k_exc)
  (case miRingNoPlace=>k_is)
  (case aCZo=>k_is)
  (case pgZo=>k_is)
  (case hdZo=>k_is)
  (case poZo=>k_is)
  (case saZo=>k_is)
  (case noparents=>k_is)
  (case nocuts=>k_is)
  (case nolinks=>k_is)
  (case norules=>k_is)
  (case iWORD=>k_is)
  (case iWHO=>k_is)
  (case iRIGHT=>k_is)
  (case iPLACE=>k_is)
  (case aZk=>k_is)
  (case lZk=>k_is)
  (case cZk=>k_is)
  (case kZk=>k_is)
  (case aAt=>k_is)
  (case lAt=>k_is)
  (case cAt=>k_is)
  (case kAt=>k_is)
  (case aZm=>k_is)
  (case lZm=>k_is)
  (case cZm=>k_is)
  (case kZm=>k_is)
  (case aZd=>k_is)
  (case lZd=>k_is)
  (case cZd=>k_is)
  (case kZd=>k_is)
  (case aZg=>k_is)
  (case lZg=>k_is)
  (case cZg=>k_is)
  (case kZg=>k_is)
  (case aYc=>k_is)
  (case lYc=>k_is)
  (case cYc=>k_is)
  (case kYc=>k_is)
  (case aZf=>k_is)
  (case lZf=>k_is)
  (case cZf=>k_is)
  (case kZf=>k_is)
  (case aZp=>k_is)
  (case lZp=>k_is)
  (case cZp=>k_is)
  (case kZp=>k_is)
  (case aZr=>k_is)
  (case lZr=>k_is)
  (case cZr=>k_is)
  (case kZr=>k_is)
  (case aZ2=>k_is)
  (case lZ2=>k_is)
  (case cZ2=>k_is)
  (case kZ2=>k_is)
  (case aYg=>k_is)
  (case lYg=>k_is)
  (case cYg=>k_is)
  (case kYg=>k_is)
  (case aZj=>k_is)
  (case lZj=>k_is)
  (case cZj=>k_is)
  (case kZj=>k_is)
  (case aZh=>k_is)
  (case lZh=>k_is)
  (case cZh=>k_is)
  (case kZh=>k_is)
  (case aZa=>k_is)
  (case lZa=>k_is)
  (case cZa=>k_is)
  (case kZa=>k_is)
  (case aZz=>k_is)
  (case lZz=>k_is)
  (case cZz=>k_is)
  (case kZz=>k_is)
  (case aZi=>k_is)
  (case lZi=>k_is)
  (case cZi=>k_is)
  (case kZi=>k_is)
  (case aZn=>k_is)
  (case lZn=>k_is)
  (case cZn=>k_is)
  (case kZn=>k_is)
  (case aZe=>k_is)
  (case lZe=>k_is)
  (case cZe=>k_is)
  (case kZe=>k_is)
  (case aZw=>k_is)
  (case lZw=>k_is)
  (case cZw=>k_is)
  (case kZw=>k_is)
  (case aZl=>k_is)
  (case lZl=>k_is)
  (case cZl=>k_is)
  (case kZl=>k_is)
  (case aZq=>k_is)
  (case lZq=>k_is)
  (case cZq=>k_is)
  (case kZq=>k_is)
  (case aYh=>k_is)
  (case lYh=>k_is)
  (case cYh=>k_is)
  (case kYh=>k_is)
  (case aZs=>k_is)
  (case lZs=>k_is)
  (case cZs=>k_is)
  (case kZs=>k_is)
  (case aZ4=>k_is)
  (case lZ4=>k_is)
  (case cZ4=>k_is)
  (case kZ4=>k_is)
  (case nZ4=>k_is)
  (case mkZ4=>k_is)
  (case kcZ4=>k_is)
  (case aYe=>k_is)
  (case lYe=>k_is)
  (case cYe=>k_is)
  (case kYe=>k_is)
  (case nYe=>k_is)
  (case aYi=>k_is)
  (case lYi=>k_is)
  (case cYi=>k_is)
  (case kYi=>k_is)
  (case nYi=>k_is)
  (case aZ9=>k_is)
  (case lZ9=>k_is)
  (case cZ9=>k_is)
  (case kZ9=>k_is)
  (case nZ9=>k_is)
  (case aYb=>k_is)
  (case lYb=>k_is)
  (case cYb=>k_is)
  (case kYb=>k_is)
  (case nYb=>k_is)
  (case aZ6=>k_is)
  (case lZ6=>k_is)
  (case cZ6=>k_is)
  (case kZ6=>k_is)
  (case nZ6=>k_is)
  (case aZ8=>k_is)
  (case lZ8=>k_is)
  (case cZ8=>k_is)
  (case kZ8=>k_is)
  (case nZ8=>k_is)
  (case aYk=>k_is)
  (case lYk=>k_is)
  (case cYk=>k_is)
  (case kYk=>k_is)
  (case nYk=>k_is)
  (case aYl=>k_is)
  (case lYl=>k_is)
  (case cYl=>k_is)
  (case kYl=>k_is)
  (case nYl=>k_is)
  (case aYd=>k_is)
  (case lYd=>k_is)
  (case cYd=>k_is)
  (case kYd=>k_is)
  (case nYd=>k_is)
  (case aYj=>k_is)
  (case lYj=>k_is)
  (case cYj=>k_is)
  (case kYj=>k_is)
  (case nYj=>k_is)
  (case aYf=>k_is)
  (case lYf=>k_is)
  (case cYf=>k_is)
  (case kYf=>k_is)
  (case nYf=>k_is)
  (case aYa=>k_is)
  (case lYa=>k_is)
  (case cYa=>k_is)
  (case kYa=>k_is)
  (case nYa=>k_is)
  (case aZ1=>k_is)
  (case lZ1=>k_is)
  (case cZ1=>k_is)
  (case kZ1=>k_is)
  (case aZu=>k_is)
  (case lZu=>k_is)
  (case cZu=>k_is)
  (case kZu=>k_is)
  (case aZc=>k_is)
  (case lZc=>k_is)
  (case cZc=>k_is)
  (case kZc=>k_is)
  (case aZy=>k_is)
  (case lZy=>k_is)
  (case cZy=>k_is)
  (case kZy=>k_is)
  (case aZt=>k_is)
  (case lZt=>k_is)
  (case cZt=>k_is)
  (case kZt=>k_is)
  (case aZ0=>k_is)
  (case lZ0=>k_is)
  (case cZ0=>k_is)
  (case kZ0=>k_is)
  (case aZ3=>k_is)
  (case lZ3=>k_is)
  (case cZ3=>k_is)
  (case kZ3=>k_is)
  (case aZx=>k_is)
  (case lZx=>k_is)
  (case cZx=>k_is)
  (case kZx=>k_is)
  (case aZv=>k_is)
  (case lZv=>k_is)
  (case cZv=>k_is)
  (case kZv=>k_is)
  (case aZ7=>k_is)
  (case lZ7=>k_is)
  (case cZ7=>k_is)
  (case kZ7=>k_is)
  (case z0=>k_is)
  (case z1=>k_is)
  (case z2=>k_is)
  (case z3=>k_is)
  (case z4=>k_is)
  (case z5=>k_is)
  (case z6=>k_is)
  (case z7=>k_is)
  (case z8=>k_is)
  (case z9=>k_is)
  (case z10=>k_is)
  (case aAN=>k_is)
  (case lAN=>k_is)
  (case hdT=>kernel_rfl)
  (case hnt=>kernel_rfl)
