import PyProof.Rows.All
import Wide.All
import OpenK.AllK
import Wide.FinOn
import Lean
import PyProof.EqAt
import PyProof.EqKinds
import PyProof.TupleCall
import PySem.Challenge.RW_outweave_k28_whole_rows_of_a_text
set_option Elab.async false
set_option linter.all false
set_option maxRecDepth 100000
set_option maxHeartbeats 4000000
section
open PySem PyProof.Rows
abbrev za:=@wpAny_bind
abbrev zb:=@wpAny_pure
abbrev zc:=@Nat.le_refl
abbrev zd:=@List.length_append
abbrev ze:=@List.length_map
abbrev zf:=@List.getElem?_set_ne
abbrev zg:=@Heap.lt_size
abbrev zh:=@List.mem_cons
abbrev zj:=@List.getElem?_eq_some_iff
abbrev zk:=@List.append_assoc
abbrev zl:=@List.mem_singleton
abbrev zm:=@Bool.false_ne_true
abbrev zn:=@List.length_cons
abbrev zo:=@Heap.get?_push_of_some
abbrev zp:=@List.mem_cons_self
abbrev zq:=@List.getElem?_cons_zero
abbrev zr:=@List.mem_cons_of_mem
abbrev zt:=@Nat.ne_of_lt
abbrev zu:=@List.mem_append
abbrev zv:=@List.getElem?_append_right
abbrev zw:=@List.length_nil
abbrev zx:=@List.map_cons
abbrev zy:=@Bool.and_eq_true
abbrev zz:=@decide_eq_false
abbrev zA:=@List.size_toArray
abbrev zB:=@List.append_nil
abbrev zC:=@List.getElem?_append_left
abbrev zD:=@List.getElem?_eq_getElem
abbrev zE:=@List.getElem?_cons_succ
abbrev zF:=@Heap.get?_push_size
abbrev zG:=@List.getElem?_map
abbrev zH:=@decide_eq_true
abbrev zI:=@List.map_append
abbrev zJ:=@Nat.lt_of_lt_of_le
abbrev zK:=@Nat.le_trans
abbrev zL:=@List.length_singleton
abbrev zM:=@List.nil_append
abbrev zN:=@List.getElem_mem
abbrev zO:=@List.set_cons_succ
abbrev zP:=@List.set_cons_zero
abbrev zQ:=@Option.some.inj
abbrev zR:=@List.getElem?_set_self
abbrev zS:=@List.mem_of_getElem?
abbrev zT:=@List.mem_map
abbrev zU:=@wpAny_rule
abbrev zV:=@List.mem_append_right
abbrev zW:=@List.map_nil
abbrev zX:=@Nat.lt_irrefl
abbrev zY:=@wpAny_mono
abbrev zZ:=@Nat.zero_add
abbrev jc:=@List.mem_of_mem_drop
abbrev jd:=@wpAny_holding
abbrev je:=@of_decide_eq_true
abbrev jf:=@List.flatten_append
abbrev jg:=@Nat.lt_succ_self
abbrev jh:=@List.length_set
abbrev ji:=@Nat.le_add_right
abbrev jj:=@codeAny_builtin
abbrev jk:=@List.mem_append_left
abbrev jl:=@List.getD_eq_getElem?_getD
abbrev jm:=@Nat.lt_succ_of_lt
abbrev jn:=@List.map_congr_left
abbrev jo:=@List.getElem?_eq_none
abbrev jp:=@Int.emod_lt_of_pos
end
namespace PySem.W.Fast
abbrev tw14749012048914359784:=()
abbrev tw9322326543679001768:=()
abbrev tw5141365791123563526:=()
abbrev tw10670127991864769837:=()
abbrev tw6973742659519616162:=()
abbrev tw8187671628955378604:=()
abbrev tw10582018004332357800:=()
abbrev tw787755491123657864:=()
abbrev tw17687125355618751475:=()
abbrev tw9286511387162592523:=()
abbrev tw4433766645425281814:=()
abbrev tw13079421691960242842:=()
abbrev tw17451352391587946549:=()
abbrev tw7896432360896022437:=()
abbrev tw10185494108511119442:=()
abbrev tw17084042789527373386:=()
abbrev tw11085782449361268678:=()
abbrev tw11847727076996083865:=()
abbrev tw1772225100594853402:=()
abbrev tw6491345792705979839:=()
abbrev tw15484187314066030935:=()
abbrev tw8898058703584300702:=()
abbrev tw1998228969433357853:=()
abbrev tw6632957245600388602:=()
abbrev tw671106662323004513:=()
abbrev tw14012225462394523406:=()
abbrev tw18353162265526392041:=()
abbrev tw14857300115040117285:=()
abbrev tw9354305644617039133:=()
abbrev tw6625630994986127852:=()
abbrev tw1683169724911927409:=()
abbrev tw14343989570757399772:=()
abbrev tw10221061053030736881:=()
abbrev tw869351773683192416:=()
abbrev tw5882483852786654556:=()
abbrev tw10547233853397409891:=()
abbrev tw2514498557196780377:=()
abbrev tw17367015900729543433:=()
abbrev tw8851748128012706058:=()
abbrev tw13594931255711868312:=()
abbrev tw15550022937943405405:=()
abbrev tw10793335014524289346:=()
abbrev tw18319237691413128358:=()
abbrev tw12121155403375733258:=()
abbrev tw17503760217596279934:=()
abbrev tw15180715483605458265:=()
abbrev tw12863779560020645514:=()
abbrev tw12530382708122931245:=()
abbrev tw8804485486718401546:=()
abbrev tw15293419166305872337:=()
abbrev tw3110749150737742477:=()
abbrev tw2567693449313366603:=()
abbrev tw7987264191808268076:=()
abbrev tw11426982336567955095:=()
abbrev tw2876821032409415046:=()
abbrev tw4479175008597677216:=()
abbrev tw8586843882478110703:=()
abbrev tw4063854527307523467:=()
abbrev tw17012198826639270819:=()
abbrev tw1909701481780273870:=()
abbrev tw318099862658580305:=()
abbrev tw3635745433533193147:=()
abbrev tw16347840153319133416:=()
abbrev tw14127151227765519749:=()
abbrev tw1679572896021496256:=()
abbrev tw9637664283618195757:=()
abbrev tw10061463033221918556:=()
abbrev tw10102322517274003200:=()
abbrev tw6812126041506432063:=()
abbrev tw1072082459729954865:=()
abbrev tw12095062691941993428:=()
abbrev tw4129457395024308029:=()
abbrev tw10294254108577825642:=()
abbrev tw9454073492797561146:=()
abbrev tw1331177511032811091:=()
abbrev tw5173870542083904245:=()
abbrev tw14251661153847588368:=()
abbrev tw7237659166611145864:=()
abbrev tw6482540465819260876:=()
abbrev tw13845461025961700588:=()
abbrev tw3081562366738181400:=()
abbrev tw13191588037965587558:=()
abbrev tw1123728777223765660:=()
abbrev tw10132090327923602673:=()
abbrev tw13683228426557043773:=()
abbrev tw10192473994109181339:=()
abbrev tw3882861914874263724:=()
abbrev tw18233739023086426845:=()
abbrev tw6555434419641254737:=()
abbrev tw14394054293388054995:=()
abbrev tw12625705389808516884:=()
abbrev tw6989555803455978786:=()
abbrev tw7359891234498048776:=()
abbrev tw16125084679754194389:=()
abbrev tw17810259172360561853:=()
abbrev tw17719747917180659641:=()
abbrev tw15724368454990994182:=()
abbrev tw10154403088906585397:=()
abbrev tw10492219166136774748:=()
abbrev tw10527280047300922708:=()
abbrev tw13711542172534549905:=()
abbrev tw4137375213821436542:=()
abbrev tw9606759352666175107:=()
abbrev tw15648411887340269606:=()
abbrev tw3735419424216451701:=()
abbrev tw17719891897855019320:=()
abbrev tw8670724358524695668:=()
abbrev tw10614884357161940386:=()
abbrev tw8472595634537589969:=()
abbrev tw18049879058421513989:=()
abbrev tw10291006218906370273:=()
abbrev tw10723182750930017562:=()
abbrev tw7840608391818325021:=()
abbrev tw122514714962857106:=()
abbrev tw7355611879758800273:=()
abbrev tw15496113209006895417:=()
abbrev tw5685067453677954957:=()
abbrev tw14217638366019794123:=()
abbrev tw10010798289776603131:=()
abbrev tw6704840735490635228:=()
abbrev tw145970461820485515:=()
abbrev tw15632832782271312052:=()
abbrev tw78031507495031742:=()
abbrev tw2002494583623399962:=()
abbrev tw6033897643504735201:=()
abbrev tw10466880456654004491:=()
abbrev tw9619392660221886737:=()
abbrev tw462346483817961099:=()
abbrev tw16306277355751053012:=()
abbrev tw13848261856951274858:=()
abbrev tw3802939919408964188:=()
abbrev tw13845211325990236251:=()
abbrev tw9444897550662225100:=()
abbrev tw11229385011819649311:=()
abbrev tw12364956067627816800:=()
abbrev tw5766558621260276389:=()
abbrev tw10266908607889284860:=()
abbrev tw6061383972166030831:=()
abbrev tw288047101817785079:=()
abbrev tw8784705806311499983:=()
abbrev tw15489384473371892804:=()
abbrev tw11216938424804647910:=()
abbrev tw15688654953175415015:=()
abbrev tw3965382234888940664:=()
abbrev tw8473088882341316952:=()
abbrev tw9418856197919845947:=()
abbrev tw6018248212626407612:=()
abbrev tw9484824198306048998:=()
abbrev tw12509209005701884640:=()
abbrev tw16028989565696489347:=()
abbrev tw9461015918033217611:=()
abbrev tw15346333609369096509:=()
abbrev tw8801098596160818534:=()
abbrev tw10656784436337750539:=()
abbrev tw15022725348421337280:=()
abbrev tw15826129939475235905:=()
abbrev tw3803319943363871892:=()
abbrev tw11162928532000804900:=()
abbrev tw1109222984354202903:=()
abbrev tw4622354198436334466:=()
abbrev tw7611683834687348695:=()
abbrev tw8978359031386926882:=()
abbrev tw13002862529295108476:=()
abbrev tw6695712124758291224:=()
abbrev tw7706001471726066055:=()
abbrev tw8346563859559019103:=()
abbrev tw3013341501537370445:=()
abbrev tw6956027891227120148:=()
abbrev tw12399539175108682005:=()
abbrev tw2744080700493022237:=()
abbrev tw661187119064974732:=()
abbrev tw9979908587488006772:=()
abbrev tw17608306950647886271:=()
abbrev tw3257989427362662357:=()
abbrev tw13428408985365935948:=()
abbrev tw1495549643675102177:=()
abbrev tw13710199028630032636:=()
abbrev tw15580950041379762984:=()
abbrev tw5055817039270999462:=()
abbrev tw14348072452245222376:=()
abbrev tw7858627855722352776:=()
abbrev tw7883108021206077271:=()
abbrev tw13800500814019275371:=()
abbrev tw571607849791118127:=()
abbrev tw6090086019664463409:=()
abbrev tw4071395850535175983:=()
abbrev tw9780941137608163042:=()
abbrev tw13768521602129999947:=()
abbrev tw5903202106060529854:=()
abbrev tw12193165080934435661:=()
abbrev tw5231684668504620457:=()
abbrev tw2955252891080352180:=()
abbrev tw13196103698863569479:=()
abbrev tw822275755232899299:=()
abbrev tw2771012310567615040:=()
abbrev tw4885042821301193822:=()
abbrev tw16401108724135593445:=()
abbrev tw11530745682836352079:=()
abbrev tw17168865328290012112:=()
abbrev tw17080512630313850229:=()
abbrev tw7525241756552797036:=()
abbrev tw9729183925448301712:=()
abbrev tw207334135259034190:=()
abbrev tw10476621560541714461:=()
abbrev tw12826447436352736447:=()
abbrev tw2495869509602769008:=()
abbrev tw10146154626828769730:=()
abbrev tw4161773351835347828:=()
abbrev tw9666730787847904532:=()
abbrev tw3490018012498705867:=()
abbrev tw9261495400166833882:=()
abbrev tw2140438152479983333:=()
abbrev tw5449089602072119294:=()
abbrev tw4373385179457710342:=()
abbrev tw8011216194941762873:=()
abbrev tw12941972975411518062:=()
abbrev tw13589317467741622491:=()
abbrev tw9414652693451955783:=()
abbrev tw8457998554049206486:=()
abbrev tw13855811511439490308:=()
abbrev tw7813939462686970621:=()
abbrev tw14223819655900056232:=()
abbrev tw13059359264039177778:=()
abbrev tw15102942093417640196:=()
abbrev tw14073586974318240694:=()
abbrev tw17562239960130580452:=()
abbrev tw11457781887894987127:=()
abbrev tw2379793427866276062:=()
abbrev tw3583758502172697323:=()
abbrev tw3738862771860704569:=()
abbrev tw10875358096184624226:=()
abbrev tw16840287457633585608:=()
abbrev tw8529670016367247075:=()
abbrev tw6029280076218128314:=()
abbrev tw8705015792474199541:=()
abbrev tw3545456742682223519:=()
abbrev tw10659490714221108499:=()
abbrev tw2058251277513077373:=()
abbrev tw468047699152134268:=()
abbrev tw17926687547228902174:=()
abbrev tw10797711126116823503:=()
abbrev tw13658910285805144613:=()
abbrev tw17177825539847541536:=()
abbrev tw18186851343219371093:=()
abbrev tw16250909938909065035:=()
abbrev tw7414654852068458180:=()
abbrev tw665255041853055046:=()
abbrev tw12623976603475609380:=()
abbrev tw2084840716074209158:=()
abbrev tw15432077794646705256:=()
abbrev tw2976325354595989544:=()
abbrev tw1187260198753791593:=()
abbrev tw7692894908968218565:=()
abbrev tw7364972458920910868:=()
end PySem.W.Fast
namespace PySem.W.Fast
end PySem.W.Fast
namespace L2
open PySem PySem.Spec PyProof.Rows
abbrev Key:=Sum Int Str
def GX:Key->Value->Bool
 | .inl k,v=>Value.isInt k v
 | .inr x,v=>Value.isStrOf x v
def Pg(w:World):Key->Int
 | .inl k=>hashInt k
 | .inr x=>hashStr w x
theorem lF:∀{k:Key}{v:Value},GX k v=true->(∃i t,k=Sum.inl i/\v=Value.int i t)\/(∃x t,k=Sum.inr x/\v=Value.str x t)
 | .inl i,v,h=>by
  obtain⟨t,e⟩:=Value.isInt_shape (k:=i) (v:=v) h;exact .inl ⟨i,t,rfl,e⟩
 | .inr x,v,h=>by
  obtain⟨t,e⟩:=Value.isStrOf_shape (x:=x) (v:=v) h;exact .inr ⟨x,t,rfl,e⟩
theorem Ph(a b:Int):decide ((Sum.inl a:Key)=Sum.inl b)=(a == b):=by
 by_cases e:a=b
 ·subst e;simp
 ·have h:¬(Sum.inl a:Key)=Sum.inl b:=λq=>e (Sum.inl.inj q)
  rw[zz h];exact(beq_eq_false_iff_ne.mpr e).symm
theorem Pj(a b:Str):decide ((Sum.inr a:Key)=Sum.inr b)=decide (a=b):=by
 by_cases e:a=b
 ·subst e;simp
 ·have h:¬(Sum.inr a:Key)=Sum.inr b:=λq=>e (Sum.inr.inj q)
  rw[zz h,zz e]
theorem Pk(a:Int)(b:Str):decide ((Sum.inl a:Key)=Sum.inr b)=false:=zz (λq=>nomatch q)
theorem Pn(a:Str)(b:Int):decide ((Sum.inr a:Key)=Sum.inl b)=false:=zz (λq=>nomatch q)
def qU(prog:Program)(w:World):PySem.KeyKind prog w Key where
 is:=GX
 hash:=Pg w
 inj:=λv a b ha hb=>by
  rcases lF ha with⟨i,t,rfl,rfl⟩ | ⟨x,t,rfl,rfl⟩
  ·rcases lF hb with⟨j,u,rfl,e⟩ | ⟨y,u,rfl,e⟩
   ·injection e with e1 _;rw[e1]
   ·exact nomatch e
  ·rcases lF hb with⟨j,u,rfl,e⟩ | ⟨y,u,rfl,e⟩
   ·exact nomatch e
   ·injection e with e1 _;rw[e1]
 byValue:=λk v h=>by
  rcases lF h with⟨i,t,rfl,rfl⟩ | ⟨x,t,rfl,rfl⟩<;>rfl
 pyHash:=λhv h=>by
  rcases lF hv with⟨i,t,rfl,rfl⟩ | ⟨x,t,rfl,rfl⟩
  ·exact wpAny_pyHash_int h
  ·exact wpAny_pyHash_str h
 eqBool:=λhu hv h=>by
  rcases lF hu with⟨i,t,rfl,rfl⟩ | ⟨x,t,rfl,rfl⟩
  ·rcases lF hv with⟨j,u,rfl,rfl⟩ | ⟨y,u,rfl,rfl⟩
   ·rw[Ph] at h;exact wpAny_eqBool_int h
   ·rw[Pk] at h;exact SeqAt.EqAt.int_str i t y u _ _ _ _ h
  ·rcases lF hv with⟨j,u,rfl,rfl⟩ | ⟨y,u,rfl,rfl⟩
   ·rw[Pn] at h;exact SeqAt.EqAt.str_int x t j u _ _ _ _ h
   ·rw[Pj] at h;exact wpAny_eqBool_str h
 «strs»:=λk x t v h=>by
  rcases lF h with⟨i,u,rfl,e⟩ | ⟨y,u,rfl,e⟩
  ·exact nomatch e
  ·injection e with e1 _
   subst e1
   cases v<;>rfl
inductive V where
 | non | bl (b:Bool) | int (i:Int) | str (x:Str) | byt (b:Array UInt8) | flt (b:UInt64) | ref (a:Addr) | ty (n:String)
 deriving DecidableEq
def RelV:V->Value->Prop
 | .non,u=>u=Value.none
 | .bl b,u=>u=Value.bool b
 | .int i,u=>∃t,u=Value.int i t
 | .str x,u=>∃t,u=Value.str x t
 | .byt b,u=>∃t,u=Value.bytes b t
 | .flt b,u=>∃t,u=Value.float b t
 | .ref a,u=>u=Value.ref a
 | .ty n,u=>u=Value.type n
abbrev aV:List V->List Value->Prop:=Paired RelV
theorem aV.length{xs:List V}{us:List Value}(r:aV xs us):xs.length=us.length:=Paired.length r
theorem aV.get:∀{xs:List V}{us:List Value}{i:Nat}{x:V},aV xs us->xs[i]?=some x->∃u,us[i]?=some u/\RelV x u
 | _,_,_,_,.nil,e=>by simp at e
 | _,_,0,_,.cons r _,e=>by simp at e;subst e;exact⟨_,rfl,r⟩
 | _,_,i+1,x,.cons _ t,e=>by
  obtain⟨u,h1,h2⟩:=aV.get (i:=i) (x:=x) t (by simpa using e);exact⟨u,by simpa using h1,h2⟩
theorem aV.append:∀{xs ys:List V}{us c:List Value},aV xs us->aV ys c->aV (xs++ys) (us++c)
 | _,_,_,_,.nil,s=>s
 | _,_,_,_,.cons r t,s=>.cons r (aV.append t s)
theorem aV.take:∀{xs:List V}{us:List Value} (n:Nat),aV xs us->aV (xs.take n) (us.take n)
 | _,_,0,_=>.nil
 | _,_,_+1,.nil=>.nil
 | _,_,n+1,.cons r t=>.cons r (aV.take n t)
theorem aV.drop:∀{xs:List V}{us:List Value} (n:Nat),aV xs us->aV (xs.drop n) (us.drop n)
 | _,_,0,r=>r
 | _,_,_+1,.nil=>.nil
 | _,_,n+1,.cons _ t=>aV.drop n t
def kI:Option V->Option Value->Prop
 |some v,some u=>RelV v u
 |none,none=>True
 | _,_=>False
def KV{κ:Type}:List (κ×V)->List (κ×Value)->Prop:=Paired λ(p:κ×V) (q:κ×Value)=>p.1=q.1/\RelV p.2 q.2
def kV:Key->V
 | .inl i=>.int i
 | .inr x=>.str x
section
variable {prog:Program}{w:World}{K:Type}[DecidableEq K](knd:KeyKind prog w K)(ik:Int->K)
def g8(h:Heap)(k:Int×List K)(a:Addr):Prop:=∃o items n u c,h.get? a=some o/\o.cls=.type "tuple"/\o.data=.seq items n/\items.toList=[u,.ref c]/\knd.is (ik k.1) u=true/\IsTupleKey knd h k.2 c
variable {knd ik}
theorem g8.typeIs{s:Shared}{k:Int×List K}{a:Addr}(x:g8 knd ik s.heap k a):s.TypeIs (.ref a) "tuple":=let ⟨o,_,_,_,_,ho,hc,_⟩:=x;⟨o,ho,hc⟩
theorem g8.inj(C:∀i j,ik i=ik j->i=j){h:Heap}{a:Addr}{x y:Int×List K}(I:g8 knd ik h x a)(H:g8 knd ik h y a):x=y:=by
 obtain⟨o,items,n,u,c,L,_,hd,P,J,O⟩:=I;obtain⟨G,q,T,R,U,t,_,m,l,r,B⟩:=H;obtain rfl:o=G:=zQ (L.symm.trans t);rw[hd] at m
 injection m with h1 _
 subst h1;rw[P] at l
 injection l with Q d
 injection d with d _
 injection d with d
 subst Q d;have F:=C _ _ (knd.inj _ _ _ J r);have E:=O.inj B;exact Prod.ext F E
theorem g8.keeps{h h':Heap}{k:Int×List K}{a d:Addr}{o:Obj}{es ep}(x:g8 knd ik h k a)(r:h.get? d=some o)(hd:o.data=.dict es ep)(hs:Heap.SameBut d h h'):g8 knd ik h' k a:=by
 obtain⟨q,items,n,u,c,l,C,j,B,t,y⟩:=x
 have m:a≠d:=by
  rintro rfl;obtain rfl:q=o:=zQ (l.symm.trans r);rw[hd] at j;exact nomatch j
 exact⟨q,items,n,u,c,(hs.2 a m).trans l,C,j,B,t,y.keeps r hd hs⟩
variable {A:Around}{E:Value->Shared->Prop}{s:Shared}
def wZ(knd:KeyKind prog w K)(ik:Int->K)(k:Int×List K):Int:=reduceHash (Builtin.Tuple.tupleHashOf [knd.hash (ik k.1),tupleKeyHash knd k.2])
theorem Pq{k:Int×List K}{a:Addr}{Q:Int->Shared->Prop}(j:A.units+1<cLine)(y:g8 knd ik s.heap k a)(h:Q (wZ knd ik k) {s with toks:=s.toks+(k.2.length+3)}):
  wpAny (model prog w) A (pyHash (.ref a)) Q E s:=by
 have l:=y.typeIs;have B:A.units<cLine:=Nat.lt_of_le_of_lt (ji _ 1) j;obtain⟨o,items,n,u,c,C,_,hd,G,r,t⟩:=y;unfold pyHash
 first | unfold pyHashByItsType | skip
 first | refine za (wpAny_cRoomFor_or (.inr B) ?_) | skip
 refine za (wpAny_specialOf l F.slot_tuple_hash.lookup ?_);show wpAny _ _ (if(some (Value.builtin "tuple.__hash__") == some Value.none)=true then _ else _) Q E s;rw[if_neg (by rw[beq_builtin_none];exact zm)];refine za (wpAny_specialOf l F.slot_tuple_hash.lookup ?_);show wpAny _ _ (callSpecialIfBoundUnlessNone? (.ref a) "__hash__" _ >>= _) Q E s;refine za (wpAny_callSpecialIfBoundUnlessNone?_slot l F.slot_tuple_hash (wpAny_call_entry F.slot_tuple_hash l F.entry_tuple_hash ?_ (F.args_tuple_hash_1 _)));show wpAny _ _ (Builtin.Tuple.tupleItemsOf (.ref a) >>= _) _ _ s;refine za (wpAny_tupleItemsOf C hd ?_)
 refine za ?_;rw[<-Array.forIn_toList,G];refine wpAny_forIn_list _
  (λrest (b:Array Int) s'=>(rest=[u,.ref c]/\b.toList=[]/\s'=s)\/(rest=[.ref c]/\b.toList=[knd.hash (ik k.1)]/\s' = {s with toks:=s.toks+1})\/(rest=[]/\b.toList=[knd.hash (ik k.1),tupleKeyHash knd k.2]/\s' = {s with toks:=s.toks+(k.2.length+2)}))
  _ ?_ ?_ _ _ (.inl ⟨rfl,rfl,rfl⟩)
 ·rintro x rest b s' (⟨d,hb,rfl⟩ | ⟨d,hb,rfl⟩ | ⟨d,hb,rfl⟩)
  ·injection d with q m
   subst q m;refine za (knd.pyHash r ?_)
   first
    | exact zb (.inr (.inl ⟨rfl,by simp[hb],rfl⟩))
    | exact za (zb (zb (.inr (.inl ⟨rfl,by simp[hb],rfl⟩))))
  ·injection d with q m
   subst q m;refine za (wpAny_pyHash_tuple (tupleKind_room_in1 (knd:=knd) j) (s:={s with toks:=s.toks+1}) t ?_)
   first
    | exact zb (.inr (.inr ⟨rfl,by simp[hb],by simp[Nat.add_assoc,Nat.add_comm];omega⟩))
    | exact za (zb (zb (.inr (.inr ⟨rfl,by simp[hb],by simp[Nat.add_assoc,Nat.add_comm];omega⟩))))
  ·cases d
 ·rintro b s' (⟨d,hb,rfl⟩ | ⟨d,hb,rfl⟩ | ⟨d,hb,rfl⟩)
  ·cases d
  ·cases d
  ·show wpAny _ _ (retInt (Builtin.Tuple.tupleHashOf b.toList)) _ _ _;rw[hb];refine wpAny_ret_mkInt ?_;show wpAny _ _ (if(decide (-(2:Int) ^ 63<=Builtin.Tuple.tupleHashOf [knd.hash (ik k.1),tupleKeyHash knd k.2])&&decide (Builtin.Tuple.tupleHashOf [knd.hash (ik k.1),tupleKeyHash knd k.2]<2 ^ 63))=true then _ else _) Q E _;unfold wZ reduceHash at h
   by_cases d:(decide (-(2:Int) ^ 63<=Builtin.Tuple.tupleHashOf [knd.hash (ik k.1),tupleKeyHash knd k.2])&&decide (Builtin.Tuple.tupleHashOf [knd.hash (ik k.1),tupleKeyHash knd k.2]<2 ^ 63))=true
   ·rw[if_pos d];rw[if_pos d] at h;exact zb (by simpa [Nat.add_assoc] using h)
   ·rw[if_neg d];rw[if_neg d] at h;exact za (zU (zb (by simpa [Nat.add_assoc] using h)))
theorem Pu(R:∀i j,ik i=ik j->i=j)(hu:A.units+2<cLine){x y:Int×List K}{a b:Addr}{P:Fin->Shared->Prop}(hx:g8 knd ik s.heap x a)(hy:g8 knd ik s.heap y b)(h:P (.done (.ret (.bool (decide (x=y))))) s):
  wpAny (model prog w) A (Builtin.«tuple.__eq__» ⟨[.ref a,.ref b],[]⟩) P E s:=by
 have hTb:=hy.typeIs;obtain⟨oa,B,na,ua,ca,Q,_,U,n,Z,Y⟩:=hx;obtain⟨ob,t,nb,ub,cb,O,_,T,m,X,W⟩:=hy
 have L:(B.size == t.size)=true:=by
  have h1:B.toList.length=2:=by rw[n];rfl
  have h2:t.toList.length=2:=by rw[m];rfl
  rw[Array.length_toList] at h1 h2;rw[h1,h2];rfl
 show wpAny _ _ (isInstance (.ref b) (.type "tuple") >>= _) _ _ s;refine za (wpAny_isInstance hTb isSubtype_tuple_tuple ?_);simp only[Bool.not_true,Bool.false_eq_true,if_false];refine za (wpAny_tupleItemsOf Q U ?_);refine za (wpAny_tupleItemsOf O T ?_);refine za ?_;rw[n,m];refine wpAny_forIn_list _
  (λrest r C=>r.1=none/\C=s/\(rest=[(ua,ub),(.ref ca,.ref cb)]\/(rest=[(.ref ca,.ref cb)]/\x.1=y.1)\/(rest=[]/\x.1=y.1/\x.2=y.2)))
  _ ?_ ?_ _ _ ⟨rfl,rfl,.inl rfl⟩
 ·rintro⟨u,v⟩ rest r C ⟨I,rfl,(c | ⟨c,F⟩ | ⟨c,_⟩)⟩
  ·injection c with l H
   injection l with l G
   subst l H G;refine za (knd.eqBool (a:=ik x.1) (b:=ik y.1) Z X ?_)
   by_cases d:x.1=y.1
   ·rw[zH (by rw[d])];simp only[Bool.not_true,Bool.false_eq_true,if_false];exact zb ⟨by simp,by simp,.inr (.inl ⟨by simp,d⟩)⟩
   ·rw[zz (λz=>d (R _ _ z))];simp only[Bool.not_false,if_true]
    have J:decide (x=y)=false:=zz λz=>d (by rw[z])
    rw[J] at h;exact za (zb (zb (zb h)))
  ·injection c with l H
   injection l with l G
   subst l H G;refine za (wpAny_eqBool_tuple (by omega) Y W ?_)
   by_cases d:x.2=y.2
   ·rw[zH d];simp only[Bool.not_true,Bool.false_eq_true,if_false];exact zb ⟨by simp,by simp,.inr (.inr ⟨by simp,F,d⟩)⟩
   ·rw[zz d];simp only[Bool.not_false,if_true]
    have J:decide (x=y)=false:=zz λz=>d (by rw[z])
    rw[J] at h;exact za (zb (zb (zb h)))
  ·cases c
 ·rintro⟨r1,r2⟩ C ⟨I,rfl,(c | ⟨c,F⟩ | ⟨c,F,e2⟩)⟩
  ·cases c
  ·cases c
  ·simp only at I;subst I;refine zb ?_
   have q:(B.size == t.size)=decide (x=y):=by rw[L,zH (Prod.ext F e2)]
   show P (.done (.ret (.bool (B.size == t.size)))) C;rw[q];exact h
theorem Px(d:∀i j,ik i=ik j->i=j){x y:Int×List K}{a b:Addr}{Q:Bool->Shared->Prop}(t:A.units+4<cLine)(l:g8 knd ik s.heap x a)(m:g8 knd ik s.heap y b)(h:Q (decide (x=y)) s):
  wpAny (model prog w) A (eqBool (.ref a) (.ref b)) Q E s:=by
 have r:A.units<cLine:=by omega
 have q:A.in1.units+2<cLine:=by
  show A.units+1+2<cLine;omega
 have n:A.units+2<cLine:=by omega
 unfold eqBool
 try with_reducible refine jd ?_
 show wpAny _ _ (if(Value.ref a == Value.ref b)=true then _ else _) Q E s
 by_cases c:(Value.ref a == Value.ref b)=true
 ·rw[if_pos c]
  have e:a=b:=by have:=eq_of_beq c;injection this
  subst e;obtain rfl:=l.inj d m;exact za (zU (zb (by simpa using h)))
 ·rw[if_neg c]
  exact za (wpAny_richCompare_same_room (op:=.Eq) l.typeIs m.typeIs F.slot_tuple_eq
   (wpAny_call_entry F.slot_tuple_eq l.typeIs F.entry_tuple_eq (Pu d (by first | exact q | exact n) l m ⟨_,rfl,(λe=>nomatch e),wpAny_truthy_bool h⟩) (F.args_tuple_eq_2 _ _)) r)
theorem Py{m:Nat}{t:List K}{a:Addr}{Q:Bool->Shared->Prop}(l:IsTupleKey knd s.heap t a)(h:Q true s):wpAny (model prog w) A (eqIsQuiet (m+1) (.ref a)) Q E s:=by
 have q:=l.typeIs;obtain⟨o,items,n,x,_,hd,y⟩:=l;unfold eqIsQuiet;refine za (wpAny_specialOf q F.slot_tuple_eq.lookup ?_);show wpAny _ _ (isInstance (.ref a) (.type "tuple") >>= _) _ _ s;refine za (wpAny_isInstance q isSubtype_tuple_tuple ?_);simp only[Bool.not_true,Bool.false_eq_true,if_false];refine za (wpAny_seqItems x hd ?_);refine za ?_;show wpAny _ _ (forIn items _ _) _ _ s;rw[<-Array.forIn_toList];refine wpAny_forIn_list _ (λrest r c=>r.1=none/\c=s/\∀v∈rest,carriedByValue v=true) _ ?_ ?_ _ _ ⟨rfl,rfl,y.byValue⟩
 ·rintro v rest r c ⟨d,rfl,hall⟩;rw[eqIsQuiet_byValue _ (hall v zp)];refine za (zb ?_);simp only[Bool.not_true,Bool.false_eq_true,if_false];exact zb ⟨rfl,rfl,λu j=>hall u (zr _ j)⟩
 ·rintro⟨C,B⟩ c ⟨d,rfl,_⟩;simp only at d;subst d;exact zb h
theorem Pz{k:Int×List K}{a:Addr}{Q:Bool->Shared->Prop}(t:g8 knd ik s.heap k a)(h:Q true s):wpAny (model prog w) A (eqIsQuiet 8 (.ref a)) Q E s:=by
 have x:=t.typeIs;obtain⟨o,items,n,u,c,B,_,hd,C,m,q⟩:=t;unfold eqIsQuiet;refine za (wpAny_specialOf x F.slot_tuple_eq.lookup ?_);show wpAny _ _ (isInstance (.ref a) (.type "tuple") >>= _) _ _ s;refine za (wpAny_isInstance x isSubtype_tuple_tuple ?_);simp only[Bool.not_true,Bool.false_eq_true,if_false];refine za (wpAny_seqItems B hd ?_);refine za ?_;show wpAny _ _ (forIn items _ _) _ _ s;rw[<-Array.forIn_toList,C];refine wpAny_forIn_list _ (λrest r j=>r.1=none/\j=s/\∀v∈rest,v=u\/v=.ref c) _ ?_ ?_ _ _ ⟨rfl,rfl,λv y=>by simpa using y⟩
 ·rintro v rest r j ⟨l,rfl,hall⟩
  rcases hall v zp with e | e
  ·rw[e,eqIsQuiet_byValue _ (knd.byValue _ _ m)];refine za (zb ?_);simp only[Bool.not_true,Bool.false_eq_true,if_false];exact zb ⟨rfl,rfl,λu d=>hall u (zr _ d)⟩
  ·rw[e];refine za (Py q ?_);simp only[Bool.not_true,Bool.false_eq_true,if_false];exact zb ⟨rfl,rfl,λu d=>hall u (zr _ d)⟩
 ·rintro⟨H,G⟩ j ⟨l,rfl,_⟩;simp only at l;subst l;exact zb h
end
abbrev NK:=Int×List Key
def PB(prog:Program)(w:World):HeapKind prog w NK where
 is:=g8 (qU prog w) Sum.inl
 hash:=wZ (qU prog w) Sum.inl
 draws:=λk=>k.2.length+3
 room:=λA=>A.units+4<cLine
 inj:=λhx hy=>hx.inj (λ_ _ e=>Sum.inl.inj e) hy
 keeps:=λx ho hd hs=>x.keeps ho hd hs
 pyHash:=λhu hk h=>Pq (by omega) hk h
 eqBool:=λhu hx hy h=>Px (λ_ _ e=>Sum.inl.inj e) hu hx hy h
 quiet:=λhk h=>Pz hk h
inductive HO where
  | lst (xs:List V)
  | tup (xs:List V)
  | dK (kvs:List (Key×V)) | dT (kvs:List (List Key×V))
  | dN (K:List (Addr×Obj)) (kvs:List (NK×V))
  | set (S:Int->Bool) (n:Nat)
  | ins (C dx:Addr) (fs:List (Str×V))
  | own (x:Addr)
  | xd (fs:List (Str×V))
  | met (f x:Addr)
  | rng (lo hi:Int)
  | frz (o:Obj) (u:HO)
  | tbl (ps:Array Value)
  | ext (φ:Heap->Prop)
abbrev Hp:=Addr->Option HO
def upd(H:Hp)(a:Addr)(o:HO):Hp:=λb=>if b=a then some o else H b
theorem dG{H:Hp}{a:Addr}{o:HO}:upd H a o a=some o:=by unfold upd;rw[if_pos rfl]
theorem bj{H:Hp}{a b:Addr}{o:HO}(h:b≠a):upd H a o b=H b:=by unfold upd;rw[if_neg h]
theorem dC{H:Hp}{a b:Addr}{o:HO}(h:H a=some o)(h':H b=none):a≠b:=by
 intro e;subst e;rw[h] at h';cases h'
def NAt(K:List (Addr×Obj))(H:Hp)(k:NK)(b:Addr):Prop:=∃c,H b=some (.tup [.int k.1,.ref c]) /\
 (H c=some (.tup (k.2.map kV))\/∃(o:Obj) (d:Array Value) (n:Nat),K.lookup c=some o/\o.cls=.type "tuple"/\o.data=.seq d n/\d.size<=sizeLine/\aV (k.2.map kV) d.toList)
theorem NAt.mono{K:List (Addr×Obj)}{H h:Hp}{k:NK}{b:Addr}(x:NAt K H k b)(d:∀b xs,H b=some (.tup xs)->h b=some (.tup xs)):NAt K h k b:=by
 obtain⟨c,h1,h2⟩:=x;exact⟨c,d _ _ h1,h2.imp (d _ _) id⟩
section
variable (P:Program)(w:World)
def fC(H:Hp)(h:Heap)(a:Addr):HO->Prop
 | .lst c=>c.length<=sizeLine/\∃(d:List Value) (n:Nat),aV c d/\h.get? a=some {cls:=.type "list",data:=.seq d.toArray n}
 | .tup c=>c.length<=sizeLine/\∃d:List Value,aV c d/\IsTup h a d.toArray
 | .dK kvs=>kvs.length<=sizeLine/\(a == sysModules)=false/\∃r,KV kvs r/\h.DictOf (qU P w) a r
 | .dT kvs=>kvs.length<=sizeLine/\(a == sysModules)=false/\∃c:List (List Key×Addr×Value),
   Paired (λ(p:List Key×V) (q:List Key×Addr×Value)=>p.1=q.1/\H q.2.1=some (.tup (p.1.map kV))/\RelV p.2 q.2.2) kvs c /\
   ∃o l m,h.get? a=some o/\o.ExactDict/\o.data=.dict l m/\l.toList=c.map (entryOfKey (tupleKind (qU P w)))/\(c.map (·.1)).Nodup
 | .dN K kvs=>kvs.length<=sizeLine/\(a == sysModules)=false/\∃c:List (NK×Addr×Value),
   Paired (λ(p:NK×V) (q:NK×Addr×Value)=>p.1=q.1/\NAt K H p.1 q.2.1/\RelV p.2 q.2.2) kvs c /\
   ∃o l m,h.get? a=some o/\o.ExactDict/\o.data=.dict l m/\l.toList=c.map (entryOfKey (PB P w))/\(c.map (·.1)).Nodup
 | .set S n=>h.SetOf (intKind P w) a S n
 | .ins C dx fs=>H dx=some (.own a)/\fs.length<=1000/\dx≠a/\h.get? a=some (PySem.W.instObj C dx) /\
   ∃j,h.Ns1 dx j/\(∀f,kI (fs.lookup f) (j f))/\PySem.Within j (fs.map (·.1))
 | .own _=>∃o,h.get? a=some o
 | .xd fs=>∃j,h.Ns1 a j/\∀f,kI (fs.lookup f) (j f)
 | .rng lo hi=>∃t u v,h.get? a=some {cls:=.type "range",data:=.fields #[.int lo t,.int hi u,.int 1 v]}
 | .frz o u=>h.get? a=some o/\fC H h a u
 | .tbl ps=>h.get? a=some {cls:=.none,data:=.fields ps}
 | .met f x=>h.get? a=some (PySem.W.methodObj (.ref f) (.ref x))
 | .ext φ=>φ h/\(∃o,h.get? a=some o)/\∀h1 h2:Heap,φ h1->(∀o,h1.get? a=some o->h2.get? a=some o)->φ h2
def HOk(H:Hp)(h:Heap):Prop:=∀a o,H a=some o->fC P w H h a o
end
section
variable {P:Program}{w:World}{H H':Hp}{h h':Heap}{a:Addr}{o:HO}
theorem fC.lt(x:fC P w H h a o):a<h.objs.size:=by
 cases o with
 |lst d=>obtain⟨_,_,_,_,e⟩:=x;exact zg e
 |tup d=>obtain⟨_,_,_,p⟩:=x;exact p.lt
 |dK c=>obtain⟨_,_,_,_,o,_,_,e,_⟩:=x;exact zg e
 |dT c=>obtain⟨_,_,_,_,o,_,_,e,_⟩:=x;exact zg e
 |dN K c=>obtain⟨_,_,_,_,o,_,_,e,_⟩:=x;exact zg e
 |set S n=>obtain⟨o,_,_,_,e,_⟩:=x;exact zg e
 |ins C m fs=>obtain⟨_,_,_,e,_⟩:=x;exact zg e
 |own y=>obtain⟨_,e⟩:=x;exact zg e
 |xd fs=>obtain⟨_,⟨_,_,_,e,_⟩,_⟩:=x;exact zg e
 |rng lo l=>obtain⟨_,_,_,e⟩:=x;exact zg e
 |frz ob u=>obtain⟨e,_⟩:=x;exact zg e
 |tbl j=>exact zg (show h.get? a=some _ from x)
 |met f y=>exact zg (show h.get? a=some _ from x)
 |ext φ=>obtain⟨_,⟨_,e⟩,_⟩:=x;exact zg e
theorem Paired.mapP{α β:Type}{F G:α->β->Prop}:∀{l₁:List α}{c:List β},Paired F l₁ c->(∀a b,F a b->G a b)->Paired G l₁ c
 | _,_,.nil,_=>.nil
 | _,_,.cons r t,f=>.cons (f _ _ r) (Paired.mapP t f)
theorem fC.stay(x:fC P w H h a o)(k:∀b u,(b=a\/H b=some (.own a))->h.get? b=some u->h'.get? b=some u)
  (L:∀b,H b=some (.own a)->H' b=some (.own a)) (G:∀b xs,H b=some (.tup xs)->H' b=some (.tup xs)):fC P w H' h' a o:=by
 induction o with
 |lst xs=>obtain⟨z,m,n,r,e⟩:=x;exact⟨z,m,n,r,k _ _ (.inl rfl) e⟩
 |tup xs=>obtain⟨z,m,r,ob,e,c⟩:=x;exact⟨z,m,r,ob,k _ _ (.inl rfl) e,c⟩
 |dK B=>obtain⟨z,y,I,r,ob,j,l,e,c⟩:=x;exact⟨z,y,I,r,ob,j,l,k _ _ (.inl rfl) e,c⟩
 |dT B =>
  obtain⟨z,y,xs,r,ob,j,l,e,c⟩:=x;exact⟨z,y,xs,Paired.mapP r λp q z=>⟨z.1,G _ _ z.2.1,z.2.2⟩,ob,j,l,k _ _ (.inl rfl) e,c⟩
 |dN K B =>
  obtain⟨z,y,xs,r,ob,j,l,e,c⟩:=x;exact⟨z,y,xs,Paired.mapP r λp q z=>⟨z.1,z.2.1.mono G,z.2.2⟩,ob,j,l,k _ _ (.inl rfl) e,c⟩
 |set S n=>obtain⟨ob,j,l,t,e,c⟩:=x;exact⟨ob,j,l,t,k _ _ (.inl rfl) e,c⟩
 |ins C dx fs =>
  obtain⟨d,z,ne,e,F,⟨E,j,l,O,c⟩,r⟩:=x;exact⟨L _ d,z,ne,k _ _ (.inl rfl) e,F,⟨E,j,l,k _ _ (.inr d) O,c⟩,r⟩
 |own y=>obtain⟨ob,e⟩:=x;exact⟨ob,k _ _ (.inl rfl) e⟩
 |xd fs=>obtain⟨F,⟨E,j,l,e,c⟩,r⟩:=x;exact⟨F,⟨E,j,l,k _ _ (.inl rfl) e,c⟩,r⟩
 |rng lo Q=>obtain⟨t,u,v,e⟩:=x;exact⟨t,u,v,k _ _ (.inl rfl) e⟩
 |frz ob u J=>obtain⟨e,q⟩:=x;exact⟨k _ _ (.inl rfl) e,J q⟩
 |tbl ps =>
  have e:h.get? a=some {cls:=.none,data:=.fields ps}:=x;show h'.get? a=some {cls:=.none,data:=.fields ps};exact k a _ (.inl rfl) e
 |met f y =>
  have e:h.get? a=some (PySem.W.methodObj (.ref f) (.ref y)):=x;show h'.get? a=some (PySem.W.methodObj (.ref f) (.ref y));exact k a _ (.inl rfl) e
 |ext φ=>obtain⟨p,⟨o,e⟩,st⟩:=x;exact⟨st _ _ p λo q=>k _ _ (.inl rfl) q,⟨o,k _ _ (.inl rfl) e⟩,st⟩
theorem HOk.lt(x:HOk P w H h)(e:H a=some o):a<h.objs.size:=(x a o e).lt
theorem HOk.fresh(x:HOk P w H h)(e:h.objs.size<=a):H a=none:=by
 cases q:H a with
 |none=>rfl
 |some u=>exact absurd (zJ (x.lt q) e) (zX _)
theorem HOk.kept(x:HOk P w H h)(k:∀b u,h.get? b=some u->h'.get? b=some u):HOk P w H h':=λa o e =>
 (x a o e).stay (λb u _ q=>k b u q) (λ_ q=>q) λ_ _ q=>q
theorem HOk.laid(x:HOk P w H h)(k:∀b u,h.get? b=some u->h'.get? b=some u)(m:h.objs.size<=a)(d:fC P w (upd H a o) h' a o):HOk P w (upd H a o) h':=λb u e=>by
 have j:=x.fresh m
 by_cases l:b=a
 ·subst l;rw[dG] at e;cases e;exact d
 ·rw[bj l] at e
  exact(x b u e).stay (λc v _ q=>k c v q) (λc q=>by rw[bj (dC q j)];exact q) λc n q=>by rw[bj (dC q j)];exact q
end
def Rd(H:Hp)(a:Addr)(u:HO):Prop:=H a=some u\/∃o,H a=some (.frz o u)
theorem Rd.ok{P:Program}{w:World}{H:Hp}{h:Heap}{a:Addr}{u:HO}(r:Rd H a u)(x:HOk P w H h):fC P w H h a u:=by
 rcases r with r | ⟨o,r⟩
 ·exact x a u r
 ·obtain⟨_,q⟩:=x a _ r;exact q
def Mut:Option HO->Prop
 |some (.lst _)=>True
 |some (.dK _)=>True
 |some (.dT _)=>True
 |some (.dN _ _)=>True
 |some (.set _ _)=>True
 |some (.ins _ _ _)=>True
 |some (.ext _)=>True
 | _=>False
section
variable {P:Program}{w:World}{H:Hp}{h h':Heap}{x e:Addr}{o':HO}
theorem HOk.write(ok:HOk P w H h)(m:Mut (H x))(C:e=x\/H e=some (.own x))(k:∀b u,b≠e->h.get? b=some u->h'.get? b=some u)(B:∃u,h'.get? e=some u)
  (t:fC P w (upd H x o') h' x o'):HOk P w (upd H x o') h':=λb u q=>by
 have j:∀c y,H c=some (.own y)->c≠x:=λc y r z=>by subst z;rw[r] at m;exact m
 have l:∀c xs,H c=some (.tup xs)->c≠x:=λc xs r z=>by subst z;rw[r] at m;exact m
 by_cases hb:b=x
 ·subst hb;rw[dG] at q;cases q;exact t
 ·rw[bj hb] at q
  by_cases d:b=e
  ·have q':H b=some (.own x):=by
    rcases C with z | z
    ·exact absurd (d.trans z) hb
    ·rw[d];exact z
   rw[q] at q';cases q';obtain⟨v,E⟩:=B;exact⟨v,by rw[d];exact E⟩
  ·refine(ok b u q).stay (λc v n r=>k c v ?_ r) (λc r=>by rw[bj (j c b r)];exact r) λc xs r=>by rw[bj (l c xs r)];exact r
   rcases n with rfl | n
   ·exact d
   ·rintro rfl
    rcases C with z | z
    ·exact j c b n z
    ·rw[n] at z;cases z;exact hb rfl
end
structure Un(fs ex:List Addr)(H H':Hp)(h h':Heap):Prop where
 keep:∀b o,h.get? b=some o->H b=none->b∉fs->b∉ex->h'.get? b=some o
 slot:∀b o,h.get? b=some o->H b=none->b∈fs->b∉ex->∃sl,h'.get? b=some {o with slots:=sl}
 free:∀b o,h.get? b=some o->H b=none->b∉ex->H' b=none
 there:∀b o,h.get? b=some o->b∉ex->∃o',h'.get? b=some o'
 tups:∀b xs,H b=some (.tup xs)->H' b=some (.tup xs)
 frzs:∀b o u,H b=some (.frz o u)->H' b=some (.frz o u)
 tbls:∀b ps,H b=some (.tbl ps)->∃more,H' b=some (.tbl (ps++more))
section
variable {fs fs' ex ex':List Addr}{H H1 H2:Hp}{h h1 h2 h':Heap}{a x e:Addr}{o:HO}
theorem Un.any(u:Un fs ex H H1 h h1){b:Addr}{ob:Obj}(q:h.get? b=some ob)(n:H b=none)(c:b∉ex):∃sl,h1.get? b=some {ob with slots:=sl}:=by
 by_cases d:b∈fs
 ·exact u.slot b ob q n d c
 ·exact⟨ob.slots,u.keep b ob q n d c⟩
theorem Un.kept(k:∀b u,h.get? b=some u->h'.get? b=some u):Un fs ex H H h h' :=
 ⟨λb ob q _ _ _=>k b ob q,λb ob q _ _ _=>⟨ob.slots,k b ob q⟩,λ_ _ _ n _=>n,λb ob q _=>⟨ob,k b ob q⟩,λ_ _ q=>q,λ_ _ _ q=>q,λ_ c q=>⟨#[],by rw[q];simp⟩⟩
theorem Un.refl:Un fs ex H H h h:=Un.kept λ_ _ q=>q
theorem Un.laid(k:∀b u,h.get? b=some u->h'.get? b=some u)(hp:h.objs.size<=a)(hn:H a=none):Un fs ex H (upd H a o) h h' where
 keep:=λb u q _ _ _=>k b u q
 slot:=λb u q _ _ _=>⟨u.slots,k b u q⟩
 free:=λb u q n _=>by rw[bj (zt (zJ (zg q) hp))];exact n
 there:=λb u q _=>⟨u,k b u q⟩
 tups:=λb xs q=>by rw[bj (dC q hn)];exact q
 frzs:=λb u xs q=>by rw[bj (dC q hn)];exact q
 tbls:=λb ps q=>⟨#[],by rw[bj (dC q hn),q];simp⟩
theorem Un.write(d:Mut (H x))(B:e=x\/H e=some (.own x))(k:∀b u,b≠e->h.get? b=some u->h'.get? b=some u)(l:∃u,h'.get? e=some u):Un fs ex H (upd H x o) h h':=by
 have m:∀b,H b=none->b≠x:=λb n z=>by subst z;rw[n] at d;exact d
 have t:∀b,H b=none->b≠e:=λb n z=>by
  subst z
  rcases B with r | r
  ·exact m b n r
  ·rw[n] at r;cases r
 have j:∀b u,H b=some u->¬Mut (some u)->b≠x:=λb u q nm z=>by subst z;rw[q] at d;exact nm d
 refine⟨λb u q n _ _=>k b u (t b n) q,λb u q n _ _=>⟨u.slots,k b u (t b n) q⟩,λb u q n _=>by rw[bj (m b n)];exact n,λb u q _=>?_,
  λb y q=>by rw[bj (j b _ q λz=>z)];exact q,λb u y q=>by rw[bj (j b _ q λz=>z)];exact q,λb C q=>⟨#[],by rw[bj (j b _ q λz=>z),q];simp⟩⟩
 by_cases c:b=e
 ·subst c;exact l
 ·exact⟨u,k b u c q⟩
end
def trk(h:Heap)(H:Hp):List Addr:=(List.range h.objs.size).filter λa=>(H a).isSome
def iI(h:Heap)(H:Hp):Heap:=PySem.W.hideAll h (trk h H)
theorem GZ(h:Heap)(H:Hp):(iI h H).objs.size=h.objs.size:=PySem.W.hideAll_size _ _
theorem G3{h:Heap}{H:Hp}{b:Addr}{o:Obj}(e:h.get? b=some o)(n:H b=none):(iI h H).get? b=some o :=
 PySem.W.hideAll_get _ e λc=>by
  have q:(H b).isSome=true:=(List.mem_filter.mp c).2;rw[n] at q;simp at q
theorem G4{h:Heap}{H:Hp}{b:Addr}{o:Obj}(e:(iI h H).get? b=some o):h.get? b=some o/\H b=none:=by
 have e':h.get? b=some o:=PySem.W.of_hideAll (trk h H) e;refine⟨e',?_⟩
 cases q:H b with
 |none=>rfl
 |some x =>
  have c:b∈trk h H:=List.mem_filter.mpr ⟨List.mem_range.mpr (zg e'),by simp[q]⟩;have z:(iI h H).get? b=none:=PySem.W.hideAll_none (trk h H) c;rw[z] at e;cases e
def PJ(g h:Heap)(L:Addr):List (Addr×Obj):=(List.range h.objs.size).filterMap λa=>if a=L\/(g.get? a).isSome=true then none else(h.get? a).map λo=>(a,o)
def rest(g h:Heap)(L d:Addr):List (Addr×Obj):=(PJ g h L).filter λp=>decide (p.1≠d)
structure Mod(K:PySem.W.Frag)(mg:Str->Option Value)(base:Heap):Prop where
 kin:K.In base
 glob:base.Ns mainGlobals mg
 blt:∃mb,base.Ns builtinsNs mb/\∀x:Str,x≠"__name__"->mb x=bootBuiltins x
 nolimit:base.NoLimit
structure Cx where
 prog:Program
 w:World
 K:PySem.W.Frag
 mg:Str->Option Value
 base:Heap
 A:Around
 N:List Str
 s₀:Shared
 H₀:Hp
 env:Env
 outer:List Env
 stack:List Env
 ex:List Addr
 fn:Str->Bool
 calm:Bool
 pn:List (Addr×Obj)
 xe:Value->Shared->Prop
def frs(l:List Env):List Addr:=l.filterMap (·.frame)
abbrev Cx.fs(X:Cx):List Addr:=frs X.outer
def Vis(c:Scope)(x:Str):Prop:=c.names.lookup x=some .local\/c.names.lookup x=some .cell\/c.names.lookup x=some .free
def Loc(c:Scope)(x:Str):Prop:=c.names.lookup x=some .local\/c.names.lookup x=some .cell
def Look(env:Env)(h:Heap)(m:Str->Option Value)(x:Str)(u:Value):Prop :=
 (env.kindOf x=some .local/\m x=some u)\/((env.kindOf x=some .cell\/env.kindOf x=some .free)/\∃c,env.cells.lookup x=some c/\h.IsCell c (some u))
structure Cx.Ok(X:Cx):Prop where
 mod:Mod X.K X.mg X.base
 kind:X.env.scope.kind=.function
 glob:X.env.globals=mainGlobals
 blt:X.env.builtins=builtinsNs
 above:X.s₀.heap.objs.size<=X.env.locals
 inj:∀x y c,X.env.cells.lookup x=some c->X.env.cells.lookup y=some c->x=y
 has:∀x,(X.env.kindOf x=some .cell\/X.env.kindOf x=some .free)->∃c,X.env.cells.lookup x=some c
 cab:∀x c,X.fn x=true->X.env.cells.lookup x=some c->X.s₀.heap.objs.size<=c
 hd:X.calm=true->X.A.handled=none
 frames:X.A.frames=some X.stack
 stk:X.stack=X.outer\/(X.stack=X.env::X.outer/\X.env.frame=some X.env.locals)
 exf:∀b∈X.ex,b≠X.env.locals/\∀x c,X.env.cells.lookup x=some c->c≠b
 bs:∀b o,X.base.get? b=some o->X.s₀.heap.get? b=some o/\X.H₀ b=none
 bsz:X.base.objs.size<=X.s₀.heap.objs.size
 noex:∀b o,X.base.get? b=some o->b∉X.ex
 exfs:∀b∈X.ex,b∉X.fs
 funs:X.s₀.heap.FunFrames X.base X.outer
 frf:∀b∈X.fs,X.H₀ b=none
structure Inv(X:Cx)(pins:List (Addr×Obj))(σ:List (Option V))(H:Hp)(s:Shared):Prop where
 ok:X.Ok
 os:s.os=X.s₀.os
 bare:AllBare s.gens
 base:Un X.fs X.ex X.H₀ H X.s₀.heap s.heap
 loc:∃m,s.heap.Ns X.env.locals m/\∀(i:Nat) (x:Str) (v:V),X.N[i]?=some x->σ[i]?=some (some v)->Vis X.env.scope x->∃u,RelV v u/\Look X.env s.heap m x u
 cell:∀x c,X.env.cells.lookup x=some c->∃v,s.heap.IsCell c v
 free:H X.env.locals=none
 freeC:∀x c,X.env.cells.lookup x=some c->H c=none
 pin:∀p∈X.pn++pins,s.heap.get? p.1=some p.2/\H p.1=none/\p.1≠X.env.locals/\p.1∉X.fs/\∀v,p.2.data≠.cell v
 hok:HOk X.prog X.w H s.heap
 len:σ.length=X.N.length
section
variable {X:Cx}{pins:List (Addr×Obj)}{σ:List (Option V)}{H H':Hp}{s:Shared}{h':Heap}
theorem Cx.Ok.nofr(ok:X.Ok){b:Addr}{o:Obj}(e:X.base.get? b=some o):b∉X.fs:=λc=>by
 have:=(ok.funs.mem c).1
 rw[e] at this;cases this
theorem Inv.bs(I:Inv X pins σ H s):∀b o,X.base.get? b=some o->s.heap.get? b=some o/\H b=none:=λb o e =>
 ⟨I.base.keep b o (I.ok.bs b o e).1 (I.ok.bs b o e).2 (I.ok.nofr e) (I.ok.noex b o e),I.base.free b o (I.ok.bs b o e).1 (I.ok.bs b o e).2 (I.ok.noex b o e)⟩
theorem Inv.bk(I:Inv X pins σ H s):∀b o,X.base.get? b=some o->s.heap.get? b=some o:=λb o e=>(I.bs b o e).1
theorem Inv.mod(I:Inv X pins σ H s):Mod X.K X.mg X.base:=I.ok.mod
theorem Inv.kIn(I:Inv X pins σ H s):X.K.In s.heap:=I.ok.mod.kin.keeps I.bk
theorem Inv.lt(I:Inv X pins σ H s):X.env.locals<s.heap.objs.size:=let ⟨_,hn,_⟩:=I.loc;hn.lt
theorem Inv.sz(I:Inv X pins σ H s):X.s₀.heap.objs.size<=s.heap.objs.size:=zK I.ok.above (Nat.le_of_lt I.lt)
theorem Inv.nofs(I:Inv X pins σ H s){a:Addr}(h:s.heap.objs.size<=a):a∉X.fs:=λd=>by
 obtain⟨_,o,c,_⟩:=I.ok.funs.mem d;exact absurd (zJ (zg c) (zK I.sz h)) (zX _)
theorem Inv.cne(I:Inv X pins σ H s):∀x c,X.env.cells.lookup x=some c->c≠X.env.locals:=λx c e z=>by
 obtain⟨v,o,j,hd⟩:=I.cell x c e;obtain⟨m,⟨l,n,q,d,h,_⟩,_⟩:=I.loc;rw[z,d] at j;cases j;rw[h] at hd;cases hd
theorem Inv.funs(I:Inv X pins σ H s):s.heap.FunFrames X.base X.outer:=by
 have all:∀(l:List Env),(∀b∈frs l,b∈X.fs)->X.s₀.heap.FunFrames X.base l->s.heap.FunFrames X.base l:=by
  intro l
  induction l with
  |nil=>intro _ _;trivial
  |cons env r ih =>
   intro j t;obtain⟨u,⟨L,o,c,q,n,hd⟩,m⟩:=t;have h:L∈X.fs:=j L (by unfold frs;rw[List.filterMap_cons,c];exact zp)
   obtain⟨sl,e⟩:=I.base.slot L o n (I.ok.frf L h) h λz=>I.ok.exfs L z h
   exact⟨u,⟨L,_,c,q,e,hd⟩,ih (λb d=>j b (by unfold frs;rw[List.filterMap_cons,c];exact zr _ d)) m⟩
 exact all X.outer (λ_ d=>d) I.ok.funs
theorem Inv.stack(I:Inv X pins σ H s):s.heap.FunFrames X.base X.stack:=by
 rcases I.ok.stk with e | ⟨e,d⟩
 ·rw[e];exact I.funs
 ·rw[e];obtain⟨m,c,_⟩:=I.loc;refine .cons (by rw[I.ok.kind];decide) d c ?_ I.funs;exact Heap.get?_none_of_le (zK I.ok.bsz I.ok.above)
theorem Inv.stkSub(I:Inv X pins σ H s):∀b∈frs X.stack,b∈X.env.locals::X.fs:=λb c=>by
 rcases I.ok.stk with e | ⟨e,d⟩
 ·rw[e] at c;exact zr _ c
 ·rw[e] at c;unfold frs at c;rw[List.filterMap_cons,d] at c;exact c
theorem Inv.stkFree(I:Inv X pins σ H s):∀b∈frs X.stack,H b=none:=λb c=>by
 rcases zh.mp (I.stkSub b c) with e | c
 ·rw[e];exact I.free
 ·obtain⟨_,o,d,_⟩:=I.ok.funs.mem c
  exact I.base.free b o d (I.ok.frf b c) λz=>I.ok.exfs b z c
theorem Inv.step{g':Array GenState}{t':Nat}{d':Drawn}{ch:List Addr}(I:Inv X pins σ H s)
  (t:∀b∈ch,(b∈X.ex\/X.s₀.heap.objs.size<=b)/\b≠X.env.locals/\(∀x c,X.env.cells.lookup x=some c->c≠b)/\∀p∈X.pn++pins,p.1≠b)
  (keep:∀b o,b≠X.env.locals->b∉X.fs->b∉ch->s.heap.get? b=some o->H b=none->h'.get? b=some o)
  (slot:∀b o,b≠X.env.locals->b∈X.fs->b∉ch->s.heap.get? b=some o->H b=none->∃sl,h'.get? b=some {o with slots:=sl}) (free:∀b o,b∉ch->s.heap.get? b=some o->H b=none->H' b=none)
  (there:∀b o,b∉ch->s.heap.get? b=some o->∃F,h'.get? b=some F)
  (tups:∀b xs,H b=some (.tup xs)->H' b=some (.tup xs)) (frzs:∀b o u,H b=some (.frz o u)->H' b=some (.frz o u)) (tbls:∀b ps,H b=some (.tbl ps)->∃more,H' b=some (.tbl (ps++more)))
  (ns:∀m,s.heap.Ns X.env.locals m->h'.Ns X.env.locals m) (hok:HOk X.prog X.w H' h') (W:AllBare g'):
  Inv X pins σ H' {s with heap:=h',gens:=g',drawn:=d',toks:=t'}:=by
 have J:∀b o,X.s₀.heap.get? b=some o->b≠X.env.locals:=λb o e=>zt (zJ (zg e) I.ok.above)
 have B:∀b o,X.s₀.heap.get? b=some o->b∉X.ex->b∉ch:=λb o e h C=>by
  rcases(t b C).1 with z | z
  ·exact h z
  ·exact absurd (zJ (zg e) z) (zX _)
 have cellK:∀x c,X.env.cells.lookup x=some c->∀v,s.heap.IsCell c v->h'.IsCell c v:=λx c e v ⟨o,E,hd⟩=>by
  have j:c∉ch:=λz=>(t c z).2.2.1 x c e rfl
  by_cases P:c∈X.fs
  ·obtain⟨sl,q⟩:=slot c o (I.cne x c e) P j E (I.freeC x c e);exact⟨_,q,hd⟩
  ·exact⟨o,keep c o (I.cne x c e) P j E (I.freeC x c e),hd⟩
 refine⟨I.ok,I.os,W,⟨λb o e n C h=>?_,λb o e n C h=>?_,λb o e n h=>?_,λb o e h=>?_,λb xs e=>tups b xs (I.base.tups b xs e),λb o xs e=>frzs b o xs (I.base.frzs b o xs e),λb ps e=>?_⟩,?_,λx c e=>?_,?_,λx c e=>?_,λp O=>?_,hok,I.len⟩
 ·exact keep b o (J b o e) C (B b o e h) (I.base.keep b o e n C h) (I.base.free b o e n h)
 ·obtain⟨sl,y⟩:=I.base.slot b o e n C h;obtain⟨L,G⟩:=slot b _ (J b o e) C (B b o e h) y (I.base.free b o e n h);exact⟨L,G⟩
 ·obtain⟨F,y⟩:=I.base.there b o e h;exact free b F (B b o e h) y (I.base.free b o e n h)
 ·obtain⟨F,y⟩:=I.base.there b o e h;exact there b F (B b o e h) y
 ·obtain⟨R,y⟩:=I.base.tbls b ps e;obtain⟨Q,G⟩:=tbls b _ y;exact⟨R++Q,by rw[G,Array.append_assoc]⟩
 ·obtain⟨m,T,U⟩:=I.loc;refine⟨m,ns m T,λi x v y G Y=>?_⟩;obtain⟨u,r,l⟩:=U i x v y G Y;refine⟨u,r,?_⟩
  rcases l with l | ⟨k,c,e,z⟩
  ·exact .inl l
  ·exact .inr ⟨k,c,e,cellK x c e _ z⟩
 ·obtain⟨v,z⟩:=I.cell x c e;exact⟨v,cellK x c e v z⟩
 ·obtain⟨m,⟨o,_,_,E,_⟩,_⟩:=I.loc;exact free _ o (λz=>(t _ z).2.1 rfl) E I.free
 ·obtain⟨v,o,E,hd⟩:=I.cell x c e;exact free c o (λz=>(t c z).2.2.1 x c e rfl) E (I.freeC x c e)
 ·obtain⟨e,n,ne,nf,d⟩:=I.pin p O
  have j:p.1∉ch:=λz=>(t p.1 z).2.2.2 p O rfl
  exact⟨keep p.1 p.2 ne nf j e n,free p.1 p.2 j e n,ne,nf,d⟩
theorem Inv.un{t':Nat}(I:Inv X pins σ H s)(u:Un X.fs [] H H' s.heap h')(hok:HOk X.prog X.w H' h'):Inv X pins σ H' {s with heap:=h',toks:=t'}:=by
 obtain⟨m,⟨o,C,E,l,r⟩,_⟩:=id I.loc;obtain⟨sl,x⟩:=u.any l I.free (by simp)
 exact I.step (g':=s.gens) (d':=s.drawn) (ch:=[]) (λ_ z=>nomatch z) (λb o _ d _ e n=>u.keep b o e n d (by simp)) (λb o _ d _ e n=>u.slot b o e n d (by simp)) (λb o _ e n=>u.free b o e n (by simp)) (λb o _ e=>u.there b o e (by simp)) u.tups u.frzs u.tbls (λB t=>by
  obtain⟨y,h,j,c,q⟩:=t;rw[l] at c;cases c
  exact⟨_,h,j,x,q⟩) hok I.bare
theorem Inv.call{g':Array GenState}{t':Nat}{d':Drawn}{ch:List Addr}(I:Inv X pins σ H s)(u:Un (frs X.stack) ch H H' s.heap h')(hok:HOk X.prog X.w H' h')(E:AllBare g')
  (j:∀b∈ch,(b∈X.ex\/X.s₀.heap.objs.size<=b)/\b≠X.env.locals/\(∀x c,X.env.cells.lookup x=some c->c≠b)/\∀p∈X.pn++pins,p.1≠b):
  Inv X pins σ H' {s with heap:=h',gens:=g',drawn:=d',toks:=t'}:=by
 obtain⟨m,⟨o,L,O,y,r⟩,_⟩:=id I.loc
 obtain⟨sl,l⟩:=u.any y I.free λz=>(j _ z).2.1 rfl
 exact I.step (ch:=ch) j (λb o l F d e n=>u.keep b o e n (λz=>(zh.mp (I.stkSub b z)).elim l F) d) (λb o _ _ d e n=>u.any e n d) (λb o d e n=>u.free b o e n d) (λb o d e=>u.there b o e d) u.tups u.frzs u.tbls (λJ C=>by
  obtain⟨G,q,t,h,B⟩:=C;rw[y] at h;cases h
  exact⟨_,q,t,l,B⟩) hok E
theorem Inv.turned{t':Nat}{it:Addr}(I:Inv X pins σ H s)(k:∀b o,b≠it->s.heap.get? b=some o->h'.get? b=some o)(t:H it=none)(j:it≠X.env.locals)
  (h1:it∈X.ex\/X.s₀.heap.objs.size<=it) (h2:∀x c,X.env.cells.lookup x=some c->c≠it) (h3:∀p∈X.pn++pins,p.1≠it):Inv X pins σ H {s with heap:=h',toks:=t'}:=by
 have h:∀b u,H b=some u->b≠it:=λb u e z=>by rw[z,t] at e;cases e
 refine I.step (g':=s.gens) (d':=s.drawn) (ch:=[it]) (λb B=>?_) (λb o _ _ d e _=>k b o (λz=>d (by simp[z])) e) (λb o _ _ d e _=>⟨o.slots,k b o (λz=>d (by simp[z])) e⟩) (λ_ _ _ _ n=>n)
  (λb o d e=>⟨o,k b o (λz=>d (by simp[z])) e⟩) (λ_ _ e=>e) (λ_ _ _ e=>e) (λb F e=>⟨#[],by rw[e];simp⟩) (λm y=>?_) (λb u e=>?_) I.bare
 ·have e:b=it:=by simpa using B
  subst e;exact⟨h1,j,h2,h3⟩
 ·obtain⟨o,C,E,l,r⟩:=y;exact⟨o,C,E,k _ o (Ne.symm j) l,r⟩
 ·refine(I.hok b u e).stay (λc v d q=>k c v ?_ q) (λ_ q=>q) λ_ _ q=>q
  rcases d with z | z
  ·rw[z];exact h b u e
  ·exact h c _ z
theorem Inv.tok(I:Inv X pins σ H s)(t:Nat):Inv X pins σ H {s with toks:=t}:=I.un (h':=s.heap) (t':=t) Un.refl I.hok
theorem Inv.kept{t':Nat}(I:Inv X pins σ H s)(k:∀b u,s.heap.get? b=some u->h'.get? b=some u):Inv X pins σ H {s with heap:=h',toks:=t'}:=I.un (Un.kept k) (I.hok.kept k)
theorem Inv.laid{a:Addr}{o:HO}{t':Nat}(I:Inv X pins σ H s)(k:∀b u,s.heap.get? b=some u->h'.get? b=some u)(c:s.heap.objs.size<=a)(d:fC X.prog X.w (upd H a o) h' a o):
  Inv X pins σ (upd H a o) {s with heap:=h',toks:=t'}:=I.un (Un.laid k c (I.hok.fresh c)) (I.hok.laid k c d)
theorem Inv.write{x e:Addr}{o:HO}{t':Nat}(I:Inv X pins σ H s)(h:Mut (H x))(j:e=x\/H e=some (.own x))(k:∀b u,b≠e->s.heap.get? b=some u->h'.get? b=some u)(c:∃u,h'.get? e=some u)
  (d:fC X.prog X.w (upd H x o) h' x o):Inv X pins σ (upd H x o) {s with heap:=h',toks:=t'}:=I.un (Un.write h j k c) (I.hok.write h j k c d)
theorem Inv.pins_of{c:List (Addr×Obj)}(I:Inv X pins σ H s)(h:∀p∈c,s.heap.get? p.1=some p.2/\H p.1=none/\p.1≠X.env.locals/\p.1∉X.fs/\∀v,p.2.data≠.cell v):Inv X c σ H s :=
 ⟨I.ok,I.os,I.bare,I.base,I.loc,I.cell,I.free,I.freeC,λp d=>(zu.mp d).elim (λz=>I.pin p (jk _ z)) (h p),I.hok,I.len⟩
theorem G5{N:List Str}(c:N.Nodup){i j:Nat}{x:Str}(a:N[i]?=some x)(b:N[j]?=some x):i=j:=by
 obtain⟨h1,h⟩:=zj.mp a;obtain⟨h2,d⟩:=zj.mp b;exact(List.getElem_inj c).mp (h.trans d.symm)
theorem PK{M:Model}{A:Around}{E:Value->Shared->Prop}{i:Nat}{x:Str}{v:V}{u:Value}{Q:Unit->Shared->Prop}(I:Inv X pins σ H s)(hN:X.N.Nodup)(hi:X.N[i]?=some x)(C:Loc X.env.scope x)(r:RelV v u)
  (h:∀s',Inv X pins (σ.set i (some v)) H s'->(∃a,Heap.SameBut a s.heap s'.heap/\(a=X.env.locals\/X.env.cells.lookup x=some a))->Q () s') (hf:X.fn x=true\/X.env.scope.names.lookup x=some .local:=by first | exact .inl rfl | exact .inr rfl | assumption):wpAny M A (storeName X.env x u) Q E s:=by
 obtain⟨m,hn,hl⟩:=id I.loc
 have Z:(X.env.scope.kind == .class || (X.env.scope.kind == .module&&X.env.locals != X.env.globals))=false:=by rw[I.ok.kind];rfl
 have L:i<σ.length:=by rw[I.len];exact(zj.mp hi).1
 have cne:=I.cne
 have tracked:∀{a:Addr}{h':Heap},(∃o,s.heap.get? a=some o/\H a=none)->Heap.SameBut a s.heap h'->HOk X.prog X.w H h':=λ{a h'} ha l b ob e=>by
  obtain⟨_,_,F⟩:=ha
  refine(I.hok b ob e).stay (λc w' B q=>(l.2 c ?_).trans q) (λ_ q=>q) λ_ _ q=>q
  rintro rfl
  rcases B with rfl | B
  ·rw[F] at e;cases e
  ·rw[F] at B;cases B
 rcases C with J | J
 ·refine wpAny_storeName_local J hn (λh' hn' l=>?_) Z;obtain⟨oL,_,_,hoL,_⟩:=id hn;refine h _ ⟨I.ok,I.os,I.bare,⟨λb o e n P C=>?_,λb o e n P C=>?_,I.base.free,λb o e C=>?_,I.base.tups,I.base.frzs,I.base.tbls⟩,⟨_,hn',λj y v' t G e3=>?_⟩,λy c e=>?_,I.free,I.freeC,λp hp=>?_,tracked ⟨oL,hoL,I.free⟩ l,by simpa using I.len⟩ ⟨_,l,.inl rfl⟩
  ·exact(l.2 b (zt (zJ (zg e) I.ok.above))).trans (I.base.keep b o e n P C)
  ·obtain⟨sl,t⟩:=I.base.slot b o e n P C;exact⟨sl,(l.2 b (zt (zJ (zg e) I.ok.above))).trans t⟩
  ·obtain⟨o',t⟩:=I.base.there b o e C;exact⟨o',(l.2 b (zt (zJ (zg e) I.ok.above))).trans t⟩
  ·by_cases O:j=i
   ·subst O;rw[hi] at t;cases t;rw[zR L] at G;cases G;exact⟨u,r,.inl ⟨J,by simp⟩⟩
   ·rw[zf (Ne.symm O)] at G;obtain⟨u',r',q⟩:=hl j y v' t G e3;refine⟨u',r',?_⟩
    rcases q with⟨k,e⟩ | ⟨k,c,e,z⟩
    ·refine .inl ⟨k,?_⟩
     have:y≠x:=λe=>O (G5 hN t (e ▸ hi))
     simp[this,e]
    ·exact .inr ⟨k,c,e,z.sameBut l (cne y c e)⟩
  ·obtain⟨w',z⟩:=I.cell y c e;exact⟨w',z.sameBut l (cne y c e)⟩
  ·obtain⟨e,n,ne,nf,d⟩:=I.pin p hp;exact⟨(l.2 p.1 ne).trans e,n,ne,nf,d⟩
 ·have R:X.fn x=true:=by
   rcases hf with z | z
   ·exact z
   ·rw[z] at J;cases J
  obtain⟨c,B⟩:=I.ok.has x (.inl J);obtain⟨w',z⟩:=I.cell x c B;refine wpAny_storeName_cell I.ok.kind J B z (λh' W l=>?_);obtain⟨oc,T,Y⟩:=id z;refine h {s with heap:=h'} ⟨I.ok,I.os,I.bare,⟨λb o e n P C=>?_,λb o e n P C=>?_,I.base.free,λb o e C=>?_,I.base.tups,I.base.frzs,I.base.tbls⟩,⟨m,hn.sameBut l (Ne.symm (cne x c B)),λj y v' t G e3=>?_⟩,λy c' e=>?_,I.free,I.freeC,λp hp=>?_,tracked ⟨oc,T,I.freeC x c B⟩ l,by simpa using I.len⟩ ⟨c,l,.inr B⟩
  ·exact(l.2 b (zt (zJ (zg e) (I.ok.cab x c R B)))).trans (I.base.keep b o e n P C)
  ·obtain⟨sl,t⟩:=I.base.slot b o e n P C;exact⟨sl,(l.2 b (zt (zJ (zg e) (I.ok.cab x c R B)))).trans t⟩
  ·obtain⟨o',t⟩:=I.base.there b o e C;exact⟨o',(l.2 b (zt (zJ (zg e) (I.ok.cab x c R B)))).trans t⟩
  ·by_cases O:j=i
   ·subst O;rw[hi] at t;cases t;rw[zR L] at G;cases G;exact⟨u,r,.inr ⟨.inl J,c,B,W⟩⟩
   ·rw[zf (Ne.symm O)] at G;obtain⟨u',r',q⟩:=hl j y v' t G e3;refine⟨u',r',?_⟩
    rcases q with q | ⟨k,c',e,z'⟩
    ·exact .inl q
    ·refine .inr ⟨k,c',e,z'.sameBut l ?_⟩;rintro rfl;exact O (G5 hN t (I.ok.inj _ _ _ e B ▸ hi))
  ·by_cases U:c'=c
   ·subst U;exact⟨_,W⟩
   ·obtain⟨w2,z2⟩:=I.cell y c' e;exact⟨w2,z2.sameBut l U⟩
  ·obtain⟨e,n,ne,nf,d⟩:=I.pin p hp;refine⟨(l.2 p.1 ?_).trans e,n,ne,nf,d⟩;intro q;rw[q,T] at e;have q':oc=p.2:=zQ e;exact d w' (by rw[<-q'];exact Y)
theorem xf{M:Model}{A:Around}{E:Value->Shared->Prop}{i:Nat}{x:Str}{v:V}{u:Value}{Q:Unit->Shared->Prop}(I:Inv X pins σ H s)(l:X.N.Nodup)(hi:X.N[i]?=some x)(d:Loc X.env.scope x)(r:RelV v u)
  (h:∀c,Inv X pins (σ.set i (some v)) H c->Q () c) (j:X.fn x=true\/X.env.scope.names.lookup x=some .local:=by first | exact .inl rfl | exact .inr rfl | assumption):wpAny M A (storeName X.env x u) Q E s :=
 PK I l hi d r (λc I' _=>h c I') j
theorem Inv.call'{d:Shared}{ch:List Addr}(I:Inv X pins σ H s)(l:d.os=s.os)(u:Un (frs X.stack) ch H H' s.heap d.heap)(hok:HOk X.prog X.w H' d.heap)(m:AllBare d.gens)
  (h:∀b∈ch,(b∈X.ex\/X.s₀.heap.objs.size<=b)/\b≠X.env.locals/\(∀x c,X.env.cells.lookup x=some c->c≠b)/\∀p∈X.pn++pins,p.1≠b):Inv X pins σ H' d:=by
 obtain⟨h',g',d',t',j⟩:=d;have e:j=s.os:=l;subst e;exact I.call (g':=g') (t':=t') (d':=d') u hok m h
end
abbrev XK:=Value->Option Addr->Hp->Prop
abbrev St:=List (Option V)
abbrev VK:=V->Hp->Prop
abbrev TE:=St->Hp->VK->Prop
abbrev TT:=St->Hp->(Bool->Hp->Prop)->Prop
abbrev TA:=St->Hp->(List V->Hp->Prop)->Prop
structure Ends where
 nx:St->Hp->Prop
 rt:VK
 bk:St->Hp->Prop:=λ_ _=>False
 ct:St->Hp->Prop:=λ_ _=>False
abbrev TS:=Ends->St->Hp->Prop
def EP(X:Cx)(pins:List (Addr×Obj))(σ:St)(Q:VK)(u:Value)(d:Shared):Prop:=∃v c,Inv X pins σ c d/\RelV v u/\Q v c
def TP(X:Cx)(pins:List (Addr×Obj))(σ:St)(Q:Bool->Hp->Prop)(b:Bool)(d:Shared):Prop:=∃c,Inv X pins σ c d/\Q b c
def AP(X:Cx)(pins:List (Addr×Obj))(σ:St)(Q:List V->Hp->Prop)(us:List Value)(h:Shared):Prop:=∃c d,Inv X pins σ d h/\aV c us/\Q c d
def SP(X:Cx)(pins:List (Addr×Obj))(D:Ends)(f:Flow)(h:Shared):Prop :=
 match f with
 | .next=>∃c d,Inv X pins c d h/\D.nx c d
 | .brk=>∃c d,Inv X pins c d h/\D.bk c d
 | .cont=>∃c d,Inv X pins c d h/\D.ct c d
 | .ret u=>∃v c d,Inv X pins c d h/\RelV v u/\D.rt v d
def PE(X:Cx)(e:Expr)(t:TE):Prop :=
 ∀(pins:List (Addr×Obj)) (s:Shared) (σ:St) (H:Hp) (Q:VK),Inv X pins σ H s->t σ H Q->wpAny (model X.prog X.w) X.A (eval e X.env) (EP X pins σ Q) X.xe s
def PT(X:Cx)(e:Expr)(t:TT):Prop :=
 ∀(pins:List (Addr×Obj)) (s:Shared) (σ:St) (H:Hp) (Q:Bool->Hp->Prop),Inv X pins σ H s->t σ H Q->wpAny (model X.prog X.w) X.A (isTrue e X.env (eval e X.env)) (TP X pins σ Q) X.xe s
def PW(X:Cx)(e:Expr)(t:TT):Prop :=
 ∀(whole:Sem Value) (pins:List (Addr×Obj)) (s:Shared) (σ:St) (H:Hp) (Q:Bool->Hp->Prop),Inv X pins σ H s->t σ H Q->wpAny (model X.prog X.w) X.A (isTrue e X.env whole) (TP X pins σ Q) X.xe s
theorem PW.pt{X:Cx}{e:Expr}{t:TT}(h:PW X e t):PT X e t:=h _
def PA(X:Cx)(es:List Expr)(t:TA):Prop :=
 ∀(c:Pos) (pins:List (Addr×Obj)) (s:Shared) (σ:St) (H:Hp) (Q:List V->Hp->Prop),Inv X pins σ H s->t σ H Q->wpAny (model X.prog X.w) X.A (spliced (backTo c (starEach es X.env))) (AP X pins σ Q) X.xe s
def PS(X:Cx)(st:Stmt)(t:TS):Prop :=
 ∀(pins:List (Addr×Obj)) (s:Shared) (σ:St) (H:Hp) (D:Ends),Inv X pins σ H s->t D σ H->wpAny (model X.prog X.w) X.A (exec st X.env) (SP X pins D) X.xe s
def PSs(X:Cx)(st:List Stmt)(t:TS):Prop :=
 ∀(pins:List (Addr×Obj)) (s:Shared) (σ:St) (H:Hp) (D:Ends),Inv X pins σ H s->t D σ H->wpAny (model X.prog X.w) X.A (execs st X.env) (SP X pins D) X.xe s
theorem thn{α:Type}{t:Sem α}{Q c:α->Shared->Prop}{M:Model}{A:Around}{E:Value->Shared->Prop}{s:Shared}(h:wpAny M A t Q E s)(d:∀a s,Q a s->c a s):wpAny M A t c E s:=zY h d λ_ _ x=>x
section
variable {X:Cx}
def G6(i:Nat):TE:=λσ H Q=>∃v,σ[i]?=some (some v)/\Q v H
def tC(v:V):TE:=λ_ H Q=>Q v H
theorem nM{i:Nat}{x:Str}{n:Pos}(E:X.N[i]?=some x)(hv:Vis X.env.scope x)(hd:(x == ("__debug__":Str))=false:=by decide)(q:(x == ("__classdict__":Str))=false:=by decide):PE X (.Name x n) (G6 i):=by
 intro pins s σ H Q I h;obtain⟨v,e,h⟩:=h;obtain⟨m,y,C⟩:=I.loc;obtain⟨u,r,l⟩:=C i x v E e hv;have fin:EP X pins σ Q u s:=⟨v,H,I,r,h⟩
 rcases l with⟨j,B⟩ | ⟨j,c,t,d⟩
 ·exact wpAny_Name (wpAny_loadName_local I.ok.kind j y B fin) hd
 ·rcases j with j | j
  ·exact wpAny_Name (wpAny_loadName_cell I.ok.kind j t d fin) hd
  ·exact wpAny_Name (wpAny_loadName_free I.ok.kind j t d fin q) hd
theorem PL{i j pos}:PE X (.Constant (.int i) j pos) (tC (.int i)):=λ_ _ _ H _ I h=>wpAny_Constant_int ⟨.int i,H,I.tok _,⟨_,rfl⟩,h⟩
theorem PN{b j pos}:PE X (.Constant (.bool b) j pos) (tC (.bl b)):=λ_ _ _ H _ I h=>Constant_bool ⟨.bl b,H,I,rfl,h⟩
theorem PP{j pos}:PE X (.Constant .none j pos) (tC .non):=λ_ _ _ H _ I h=>Constant_none ⟨.non,H,I,rfl,h⟩
theorem G7{x j pos}:PE X (.Constant (.str x) j pos) (tC (.str x)):=λ_ _ _ H _ I h=>Calls.Constant_str ⟨.str x,H,I.tok _,⟨_,rfl⟩,h⟩
def Gl(X:Cx)(x:Str):Prop:=X.env.kindOf x=some .globalImplicit
theorem qW{E:Value->Shared->Prop}{pins:List (Addr×Obj)}{s:Shared}{σ:St}{H:Hp}{x:Str}{u:Value}{c:Pos}{Q:Value->Shared->Prop}(I:Inv X pins σ H s)(j:Gl X x)(d:X.mg x=some u)(h:Q u s)
  (hd:(x == ("__debug__":Str))=false:=by decide):wpAny (model X.prog X.w) X.A (eval (.Name x c) X.env) Q E s :=
 Calls.Name_function_global I.ok.kind j (Calls.loadGlobal_global (by rw[I.ok.glob];exact I.mod.glob.keeps I.bk) d h) hd
theorem nO{E:Value->Shared->Prop}{pins:List (Addr×Obj)}{s:Shared}{σ:St}{H:Hp}{x:Str}{u:Value}{c:Pos}{Q:Value->Shared->Prop}(I:Inv X pins σ H s)(l:Gl X x)(j:X.mg x=none)(hv:bootBuiltins x=some u)(h:Q u s)
  (d:x≠"__name__":=by decide) (hd:(x == ("__debug__":Str))=false:=by decide):wpAny (model X.prog X.w) X.A (eval (.Name x c) X.env) Q E s:=by
 obtain⟨m,h1,h2⟩:=I.mod.blt;exact Calls.Name_function_global I.ok.kind l (Calls.loadGlobal_builtin (by rw[I.ok.glob];exact I.mod.glob.keeps I.bk) j (by rw[I.ok.blt];exact h1.keeps I.bk) ((h2 x d).trans hv) h) hd
theorem PQ{x:Str}{v:V}{u:Value}{c:Pos}(j:Gl X x)(d:X.mg x=some u)(r:RelV v u)(hd:(x == ("__debug__":Str))=false:=by decide):PE X (.Name x c) (tC v):=
 λ_ _ _ H _ I h=>qW I j d ⟨v,H,I,r,h⟩ hd
theorem PX{x:Str}{v:V}{u:Value}{c:Pos}(l:Gl X x)(j:X.mg x=none)(hv:bootBuiltins x=some u)(r:RelV v u)(d:x≠"__name__":=by decide)(hd:(x == ("__debug__":Str))=false:=by decide):PE X (.Name x c) (tC v):=
 λ_ _ _ H _ I h=>nO I l j hv ⟨v,H,I,r,h⟩ d hd
variable {a b:Expr}{ta tb:TE}{pos:Pos}
def PC(X:Cx)(op:CmpOp)(a b:Expr)(t:TE):Prop :=
 ∀(pins:List (Addr×Obj)) (s:Shared) (σ:St) (H:Hp) (Q:VK),Inv X pins σ H s->t σ H Q ->
  wpAny (model X.prog X.w) X.A (eval a X.env) (λv d=>wpAny (model X.prog X.w) X.A (eval b X.env) (λu c=>wpAny (model X.prog X.w) X.A (compareOp op v u) (EP X pins σ Q) X.xe c) X.xe d) X.xe s
theorem P0(b:Expr){op:CmpOp}(h:op≠.In)(h2:op≠.NotIn):behindInMarks op b=false:=by
 have d:(op == CmpOp.In)=false:=by cases op<;>first | rfl | exact absurd rfl h
 have c:(op == CmpOp.NotIn)=false:=by cases op<;>first | rfl | exact absurd rfl h2
 cases b<;>simp[behindInMarks,d,c]
def G8(ta:TE):TE:=λσ H Q=>ta σ H λx c=>Q (.bl (!decide (x=.non))) c
theorem RelV.none_iff{x:V}{v:Value}(r:RelV x v):(v == Value.none)=decide (x=.non):=by
 cases x with
 |non=>cases r;rfl
 |bl _=>cases r;rfl
 |int _=>obtain⟨t,rfl⟩:=r;rfl
 |str _=>obtain⟨t,rfl⟩:=r;rfl
 |byt _=>obtain⟨t,rfl⟩:=r;rfl
 |flt _=>obtain⟨t,rfl⟩:=r;rfl
 |ref _=>cases r;rfl
 |ty _=>cases r;rfl
theorem Qa{j pos'}(c:PE X a ta):PC X .IsNot a (.Constant .none j pos') (G8 ta):=by
 intro pins s σ H Q I h
 refine thn (c pins s σ H _ I h) λv s1 ⟨x,H1,I1,r1,q1⟩=>?_
 exact Constant_none (isnot_none_gen ⟨.bl _,H1,I1,by rw[r1.none_iff];rfl,q1⟩)
def tB(t:TE):TT:=λσ H Q=>t σ H λx d=>∃c,x=.bl c/\Q c d
theorem Qc{op:CmpOp}{t:TE}(h:PC X op a b t)(h1:behindInMarks op b=false:=by first | exact P0 _ (by decide) (by decide) | rfl):PT X (.Compare a [op] [b] pos) (tB t):=by
 intro pins s σ H Q I j;refine wpAny_isTrue_Compare1 (thn (h pins s σ H _ I j) λv m h1=>thn h1 λu l h2=>thn h2 λc s3 ⟨x,H1,I1,r1,q1⟩=>?_) h1;obtain⟨d,rfl,q⟩:=q1;cases r1;exact wpAny_truthy_bool ⟨H1,I1,q⟩
variable {tA tB':TT}{rest:List Expr}
def G9(t u:TT):TT:=λσ H Q=>t σ H λc d=>if c=true then u σ d Q else Q false d
def tOr(t u:TT):TT:=λσ H Q=>t σ H λc d=>if c=true then Q true d else u σ d Q
def Qd(t:TT):TT:=λσ H Q=>t σ H λc d=>Q (!c) d
theorem Qe(d:PT X a tA):PW X (.BoolOp .And [a] pos) tA:=by
 intro j pins s σ H Q I h;refine isTrue_and (thn (d pins s σ H Q I h) λc l e=>?_)
 cases c with
 |true=>exact isTrue_and_nil e
 |false=>exact e
theorem Qf(d:PT X a tA):PW X (.BoolOp .Or [a] pos) tA:=by
 intro j pins s σ H Q I h;refine isTrue_or (thn (d pins s σ H Q I h) λc l e=>?_)
 cases c with
 |false=>exact isTrue_or_nil e
 |true=>exact e
theorem Qg(j:PT X a tA)(hb:PW X (.BoolOp .And (b::rest) pos) tB'):PW X (.BoolOp .And (a::b::rest) pos) (G9 tA tB'):=by
 intro d pins s σ H Q I h;refine isTrue_and (thn (j pins s σ H _ I h) λc s1 ⟨H1,I1,q1⟩=>?_)
 cases c with
 |true=>exact hb d pins s1 σ H1 Q I1 q1
 |false=>exact⟨H1,I1,q1⟩
theorem Qh(j:PT X a tA)(hb:PW X (.BoolOp .Or (b::rest) pos) tB'):PW X (.BoolOp .Or (a::b::rest) pos) (tOr tA tB'):=by
 intro d pins s σ H Q I h;refine isTrue_or (thn (j pins s σ H _ I h) λc s1 ⟨H1,I1,q1⟩=>?_)
 cases c with
 |true=>exact⟨H1,I1,q1⟩
 |false=>exact hb d pins s1 σ H1 Q I1 q1
theorem Qi(d:PT X a tA):PT X (.UnaryOp .Not a pos) (Qd tA):=by
 intro pins s σ H Q I h;exact isTrue_not (d pins s σ H (λc j=>Q (!c) j) I h)
def Qj(ta tb:TE):TE:=λσ H Q=>ta σ H λx d=>∃c,x=.bl c/\if c=true then tb σ d Q else Q (.bl false) d
def Qk(ta:TE):TE:=λσ H Q=>ta σ H λx d=>∃c,x=.bl c/\Q (.bl (!c)) d
theorem Ql{op}{t:TE}(h:PE X a t):PE X (.BoolOp op [a] pos) t:=λpins s σ H Q I c=>BoolOp_one (h pins s σ H Q I c)
theorem Qm(j:PE X a ta)(hb:PE X (.BoolOp .And (b::rest) pos) tb):PE X (.BoolOp .And (a::b::rest) pos) (Qj ta tb):=by
 intro pins s σ H Q I h;refine BoolOp_and (thn (j pins s σ H _ I h) λv s1 ⟨x,H1,I1,r1,d⟩=>?_);obtain⟨c,rfl,d⟩:=d;cases r1;refine wpAny_truthy_bool ?_
 cases c with
 |true=>exact hb pins s1 σ H1 Q I1 d
 |false=>exact⟨.bl false,H1,I1,rfl,d⟩
theorem Qn(j:PE X a ta):PE X (.UnaryOp .Not a pos) (Qk ta):=by
 intro pins s σ H Q I h;refine UnaryOp_ (thn (j pins s σ H _ I h) λv s1 ⟨x,H1,I1,r1,d⟩=>?_);obtain⟨c,rfl,d⟩:=d;cases r1;exact not_of (wpAny_truthy_bool ⟨.bl (!c),H1,I1,rfl,d⟩)
end
def SqL(K:PySem.W.Frag)(H:Hp)(a:Addr)(xs:List V):Prop :=
 Rd H a (.lst xs) \/
  ∃(o:Obj) (c:Array Value) (n:Nat),K.lookup a=some o/\o.cls=.type "list"/\o.dict=none/\o.data=.seq c n/\c.size<=sizeLine/\aV xs c.toList
def SqT(K:PySem.W.Frag)(H:Hp)(a:Addr)(xs:List V):Prop :=
 Rd H a (.tup xs) \/
  ∃(o:Obj) (c:Array Value) (n:Nat),K.lookup a=some o/\o.cls=.type "tuple"/\o.data=.seq c n/\c.size<=sizeLine/\aV xs c.toList
def Qo:Value->Option V
 | .none=>some .non
 | .bool b=>some (.bl b)
 | .int i _=>some (.int i)
 | .str x _=>some (.str x)
 | .bytes b _=>some (.byt b)
 | .float b _=>some (.flt b)
 | .ref a=>some (.ref a)
 | .type n=>some (.ty n)
 | _=>none
theorem RelV.abs{x:V}{u:Value}(r:RelV x u):Qo u=some x:=by
 cases x with
 |non=>cases r;rfl
 |bl _=>cases r;rfl
 |int _=>obtain⟨t,rfl⟩:=r;rfl
 |str _=>obtain⟨t,rfl⟩:=r;rfl
 |byt _=>obtain⟨t,rfl⟩:=r;rfl
 |flt _=>obtain⟨t,rfl⟩:=r;rfl
 |ref _=>cases r;rfl
 |ty _=>cases r;rfl
theorem RelV.inj{x y:V}{u:Value}(r:RelV x u)(q:RelV y u):x=y:=zQ (r.abs.symm.trans q.abs)
theorem aV.inj:∀{xs ys:List V}{us:List Value},aV xs us->aV ys us->xs=ys
 | _,_,_,.nil,.nil=>rfl
 | _,_,_,.cons r t,.cons r' t'=>by rw[r.inj r',aV.inj t t']
section
variable {X:Cx}{pins:List (Addr×Obj)}{σ:St}{H:Hp}{s:Shared}{a:Addr}{xs ys:List V}
theorem Inv.list(I:Inv X pins σ H s)(h:SqL X.K H a xs):∃its:List Value,aV xs its/\PlainL s.heap a its.toArray/\xs.length<=sizeLine:=by
 rcases h with h | ⟨o,its,n,d,j,hd,c,l,r⟩
 ·obtain⟨z,its,n,r,e⟩:=h.ok I.hok;exact⟨its,r,⟨_,n,e,rfl,rfl,rfl⟩,z⟩
 ·refine⟨its.toList,r,⟨o,n,I.kIn a o d,j,hd,by simpa using c⟩,?_⟩;have e:=r.length;simp only[Array.length_toList] at e;omega
theorem Inv.tuple(I:Inv X pins σ H s)(h:SqT X.K H a xs):∃its:List Value,aV xs its/\IsTup s.heap a its.toArray/\xs.length<=sizeLine:=by
 rcases h with h | ⟨o,its,n,d,j,c,l,r⟩
 ·obtain⟨z,its,r,p⟩:=h.ok I.hok;exact⟨its,r,p,z⟩
 ·refine⟨its.toList,r,⟨o,I.kIn a o d,j,n,by simpa using c⟩,?_⟩;have e:=r.length;simp only[Array.length_toList] at e;omega
theorem Inv.list_inj(I:Inv X pins σ H s)(h:SqL X.K H a xs)(h':SqL X.K H a ys):xs=ys:=by
 obtain⟨j,r,⟨o,n,e,_,_,d⟩,_⟩:=I.list h;obtain⟨c,q,⟨u,x,l,_,_,m⟩,_⟩:=I.list h';rw[e] at l;cases l;rw[d] at m
 injection m with t _
 have:j=c:=by simpa using congrArg Array.toList t
 subst this;exact r.inj q
theorem Inv.tuple_inj(I:Inv X pins σ H s)(h:SqT X.K H a xs)(h':SqT X.K H a ys):xs=ys:=by
 obtain⟨j,r,⟨o,e,_,n,d⟩,_⟩:=I.tuple h;obtain⟨c,q,⟨u,l,_,x,m⟩,_⟩:=I.tuple h';rw[e] at l;cases l;rw[d] at m
 injection m with t _
 have:j=c:=by simpa using congrArg Array.toList t
 subst this;exact r.inj q
end
abbrev Cx.wish(X:Cx)(E:Value->Shared->Prop):Cx:={X with xe:=E}
abbrev Cx.nox(X:Cx):Cx:=X.wish λ_ _=>False
theorem Cx.Ok.wish{X:Cx}(ok:X.Ok)(E:Value->Shared->Prop):(X.wish E).Ok :=
 ⟨ok.mod,ok.kind,ok.glob,ok.blt,ok.above,ok.inj,ok.has,ok.cab,ok.hd,ok.frames,ok.stk,ok.exf,ok.bs,ok.bsz,ok.noex,ok.exfs,ok.funs,ok.frf⟩
theorem Cx.Ok.unwish{X:Cx}{E:Value->Shared->Prop}(ok:(X.wish E).Ok):X.Ok :=
 ⟨ok.mod,ok.kind,ok.glob,ok.blt,ok.above,ok.inj,ok.has,ok.cab,ok.hd,ok.frames,ok.stk,ok.exf,ok.bs,ok.bsz,ok.noex,ok.exfs,ok.funs,ok.frf⟩
section
variable {X:Cx}{pins:List (Addr×Obj)}{σ:St}{H:Hp}{s:Shared}{E:Value->Shared->Prop}
theorem Inv.wish(I:Inv X pins σ H s)(E:Value->Shared->Prop):Inv (X.wish E) pins σ H s:=⟨I.ok.wish E,I.os,I.bare,I.base,I.loc,I.cell,I.free,I.freeC,I.pin,I.hok,I.len⟩
theorem Inv.unwish(I:Inv (X.wish E) pins σ H s):Inv X pins σ H s:=⟨I.ok.unwish,I.os,I.bare,I.base,I.loc,I.cell,I.free,I.freeC,I.pin,I.hok,I.len⟩
theorem SP.unwish{D:Ends}{f:Flow}{j:Shared}(h:SP (X.wish E) pins D f j):SP X pins D f j:=by
 cases f with
 |next=>obtain⟨c,d,I,q⟩:=h;exact⟨c,d,I.unwish,q⟩
 |brk=>obtain⟨c,d,I,q⟩:=h;exact⟨c,d,I.unwish,q⟩
 |cont=>obtain⟨c,d,I,q⟩:=h;exact⟨c,d,I.unwish,q⟩
 |ret u=>obtain⟨v,c,d,I,r,q⟩:=h;exact⟨v,c,d,I.unwish,r,q⟩
theorem PSs.nox{st:List Stmt}{t:TS}(h:PSs X.nox st t):PSs X st t:=λpins s σ H D I hw =>
 zY (h pins s σ H D (I.wish _) hw) (λ_ _ q=>q.unwish) λ_ _ z=>False.elim z
end
section
variable {X:Cx}{st:Stmt}{rest:List Stmt}{t u:TS}{e:Expr}{te:TE}{pos:Pos}
def Qp:TS:=λD σ H=>D.nx σ H
def Qq(t u:TS):TS:=λD σ H=>t {D with nx:=u D} σ H
theorem Qs:PSs X [] Qp:=λ_ _ σ H _ I h=>wpAny_execs_nil ⟨σ,H,I,h⟩
theorem Qt(h1:PS X st t)(h2:PSs X rest u):PSs X (st::rest) (Qq t u):=by
 intro pins s σ H D I h;refine wpAny_execs_cons (thn (h1 pins s σ H {D with nx:=u D} I h) λf d q=>?_)
 cases f with
 |next =>
  obtain⟨c,l,j,q⟩:=q;exact h2 pins d c l D j q
 |ret v=>exact q
 |brk=>exact q
 |cont=>exact q
theorem Qu(h1:PS X st t):PSs X [st] t:=by
 intro pins s σ H D I h;refine wpAny_execs_cons (thn (h1 pins s σ H D I h) λf c q=>?_)
 cases f with
 |next=>exact wpAny_execs_nil q
 |ret v=>exact q
 |brk=>exact q
 |cont=>exact q
theorem Inv.quiet{pins:List (Addr×Obj)}{σ:St}{H:Hp}{s:Shared}(I:Inv X pins σ H s):interactive X.env=false:=by simp[interactive,I.ok.kind]
def Qv(te:TE):TS:=λD σ H=>te σ H λ_ c=>D.nx σ c
theorem uB(c:PE X e te)(hs:swapsWith e none pos.line X.env=pure false:=by rfl):PS X (.Expr e pos) (Qv te):=by
 intro pins s σ H D I h;exact wpAny_Expr_any (thn (c pins s σ H _ I h) λv s1 ⟨x,H1,I1,r1,q1⟩=>⟨σ,H1,I1,q1⟩) I.quiet hs
def Qw(te:TE):TS:=λD σ H=>te σ H D.rt
theorem Ha(c:PE X e te):PS X (.Return (some e) pos) (Qw te):=by
 intro pins s σ H D I h;exact wpAny_Return_some (thn (c pins s σ H _ I h) λv s1 ⟨x,H1,I1,r1,q1⟩=>⟨x,σ,H1,I1,r1,q1⟩)
def Qx(c:TT)(t u:TS):TS:=λD σ H=>c σ H λb d=>if b=true then t D σ d else u D σ d
theorem Qy{c:Expr}{a b:List Stmt}{j:TT}(l:PT X c j)(m:PSs X a t)(hb:PSs X b u):PS X (.If c a b pos) (Qx j t u):=by
 intro pins s σ H D I h;refine wpAny_If (thn (l pins s σ H _ I h) λd s1 ⟨H1,I1,q1⟩=>?_)
 cases d with
 |true=>exact m pins s1 σ H1 D I1 q1
 |false=>exact hb pins s1 σ H1 D I1 q1
def Qz:TS:=λ_ _ _=>False
theorem QB:PS X st Qz:=λ_ _ _ _ _ _ h=>h.elim
end
abbrev TG:=V->St->Hp->(St->Hp->Prop)->Prop
abbrev TGs:=List V->St->Hp->(St->Hp->Prop)->Prop
def PG(X:Cx)(target:Expr)(t:TG):Prop :=
 ∀(pins:List (Addr×Obj)) (s:Shared) (σ:St) (H:Hp) (v:V) (u:Value) (Q:St->Hp->Prop),Inv X pins σ H s->RelV v u->t v σ H Q ->
  wpAny (model X.prog X.w) X.A (assign target X.env u) (λ_ h=>∃c d,Inv X pins c d h/\Q c d) X.xe s
def PGs(X:Cx)(ts:List Expr)(t:TGs):Prop :=
 ∀(pins:List (Addr×Obj)) (s:Shared) (σ:St) (H:Hp) (d:List V) (h:List Value) (Q:St->Hp->Prop),Inv X pins σ H s->aV d h->t d σ H Q ->
  wpAny (model X.prog X.w) X.A (assignInOrder ((assignEach ts X.env).map (·.2)) h) (λ_ l=>∃c j,Inv X pins c j l/\Q c j) X.xe s
section
variable {X:Cx}{pos:Pos}
def qX(i:Nat):TG:=λv σ H Q=>Q (σ.set i (some v)) H
theorem QC{i:Nat}{x:Str}(j:X.N.Nodup)(hi:X.N[i]?=some x)(c:Loc X.env.scope x)(d:X.fn x=true\/X.env.scope.names.lookup x=some .local:=by first | exact .inl rfl | exact .inr rfl | assumption):PG X (.Name x pos) (qX i):=by
 intro pins s σ H v u Q I r h;exact wpAny_assign_Name (xf I j hi c r (λm l=>⟨_,H,l,h⟩) d)
def QD:TGs:=λc σ H Q=>c=[]/\Q σ H
def QF(t:TG)(u:TGs):TGs:=λd σ H Q=>∃v r,d=v::r/\t v σ H λc h=>u r c h Q
theorem QG:PGs X [] QD:=by
 intro pins s σ H c d Q I r h;obtain⟨e,h⟩:=h;subst e;cases r;exact assignInOrder_nil ⟨σ,H,I,h⟩
theorem QH{e:Expr}{es:List Expr}{t:TG}{u:TGs}(h1:PG X e t)(h2:PGs X es u)
  (hs:(assignEach (e::es) X.env).map (·.2)=assign e X.env::(assignEach es X.env).map (·.2):=by rfl):PGs X (e::es) (QF t u):=by
 intro pins s σ H d l Q I r h;obtain⟨v,j,c,h⟩:=h;subst c
 cases r with
 |cons r rr =>
  rw[hs];refine assignInOrder_cons (thn (h1 pins s σ H _ _ _ I r h) λ_ s1 ⟨σ1,H1,I1,q1⟩=>?_);exact h2 pins s1 σ1 H1 _ _ Q I1 rr q1
def QJ(K:PySem.W.Frag)(n:Nat)(t:TGs):TG:=λv σ H Q=>∃a c,v=.ref a/\SqT K H a c/\c.length=n/\t c σ H Q
theorem QK{es:List Expr}{k:Nat}{t:TGs}{n:Nat}(C:X.calm=true)(h:PGs X es t)
  (y:(assignEach es X.env).length=n:=by rfl) (d:(assignEach es X.env).findIdx? (·.1)=none:=by rfl):PG X (.Tuple es k pos) (QJ X.K n t):=by
 intro pins s σ H v u Q I r c;obtain⟨a,l,F,x,B,c⟩:=c;subst F;cases r;obtain⟨J,j,q,L⟩:=I.tuple x
 refine assign_Tuple_tuple (I.ok.hd C) q (by simp[y,<-B,j.length]) d λE m=>?_
 have G:Inv X pins σ H {s with heap:=E}:=I.kept (t':=s.toks) λb o e=>m b o (zt (zg e)) e
 exact h pins _ σ H l _ Q G (by simpa using j) c
def qY(te:TE)(g:TG):TS:=λD σ H=>te σ H λx c=>g x σ c D.nx
theorem QL{c e:Expr}{te:TE}{g:TG}(l:PE X e te)(j:PG X c g)(hs:swapsWithSole [c] e pos.line X.env=pure false:=by rfl)(d:swappedStores [c] e X.env=pure none:=by rfl)
  (h1:(assignEach [c] X.env).map (·.2)=[assign c X.env]:=by rfl):PS X (.Assign [c] e pos) (qY te g):=by
 intro pins s σ H D I h;refine wpAny_Assign_stores (thn (l pins s σ H _ I h) λv s1 ⟨x,H1,I1,r1,q1⟩=>?_) hs d;rw[h1]
 exact thn (j pins s1 σ H1 x v _ I1 r1 q1) λ_ m q=>q
theorem Hb{i:Nat}{x:Str}{e:Expr}{te:TE}{pos':Pos}(l:X.N.Nodup)(hi:X.N[i]?=some x)(c:Loc X.env.scope x)(j:PE X e te)(hs:swapsWith e (some (.Name x pos')) pos.line X.env=pure false:=by rfl)(d:X.fn x=true\/X.env.scope.names.lookup x=some .local:=by first | exact .inl rfl | exact .inr rfl | assumption):
  PS X (.Assign [.Name x pos'] e pos) (qY te (qX i)):=by
 intro pins s σ H D I h;refine wpAny_Assign_Name (thn (j pins s σ H _ I h) λv s1 ⟨y,H1,I1,r1,q1⟩=>?_) hs;exact xf I1 l hi c r1 (λn m=>⟨_,H1,m,q1⟩) d
end
section
variable {X:Cx}{pos:Pos}
def Hc(c:TT)(n:TS):TS:=λD σ H=>∃W:Nat->St->Hp->Prop,(∃m,W m σ H)/\∀m σ H,W m σ H ->
 c σ H λb j=>if b=true then ∃N:St->Hp->Prop,(∀d l,N d l->∃h,h<m/\W h d l)/\n {D with nx:=N,ct:=N,bk:=D.nx} σ j else D.nx σ j
theorem QM{c:Expr}{body:List Stmt}{B:TT}{C:TS}(E:PassesOwn (model X.prog X.w) X.A X.env X.xe)(P:PT X c B)(hb:PSs X body C):PS X (.While c body [] pos) (Hc B C):=by
 intro pins s σ H D I h;obtain⟨W,⟨O,J⟩,turn⟩:=h;refine wpAny_While (codeAny_whileLoop (λn L=>∃l G,Inv X pins l G L/\W n l G) ?_ O ⟨σ,H,I,J⟩);rintro n s1 ⟨σ1,H1,I1,w1⟩;refine wpAny_passesOwn E (thn (P pins s1 σ1 H1 _ I1 (turn n σ1 H1 w1)) λb s2 ⟨H2,I2,q⟩=>?_)
 cases b with
 |true =>
  obtain⟨N,F,q⟩:=q;rw[if_pos rfl];refine wpAny_passesOwn E (thn (hb pins s2 σ1 H2 _ I2 q) λf Q m=>?_)
  cases f with
  |next =>
   obtain⟨d,j,y,t⟩:=m;obtain⟨u,x,r⟩:=F d j t;exact⟨u,x,d,j,y,r⟩
  |cont =>
   obtain⟨d,j,y,t⟩:=m;obtain⟨u,x,r⟩:=F d j t;exact⟨u,x,d,j,y,r⟩
  |brk=>exact m
  |ret v=>exact m
 |false =>
  rw[if_neg zm];exact wpAny_execs_nil ⟨σ1,H2,I2,q⟩
end
structure It where
 go:Nat->Hp->Prop
 yld:Nat->Hp->V->Hp->Prop
 stop:Nat->Hp->Prop
def iJ(X:Cx)(pins:List (Addr×Obj))(H:Hp)(b:Addr):Prop :=
 H b=none/\b≠X.env.locals/\b∉X.fs/\(b∈X.ex\/X.s₀.heap.objs.size<=b)/\(∀x c,X.env.cells.lookup x=some c->c≠b)/\∀p∈X.pn++pins,p.1≠b
theorem Inv.fpOk{X:Cx}{pins:List (Addr×Obj)}{σ:St}{H d:Hp}{s:Shared}{b:Addr}(I:Inv X pins σ H s)(hb:s.heap.objs.size<=b)(j:d b=none):iJ X pins d b:=by
 refine⟨j,Nat.ne_of_gt (zJ I.lt hb),I.nofs hb,.inr (zK I.sz hb),λx c e z=>?_,λp h z=>?_⟩
 ·obtain⟨v,q⟩:=I.cell x c e;exact absurd (zJ q.lt (by rw[z];exact hb)) (zX _)
 ·exact absurd (zJ (zg (I.pin p h).1) (by rw[z];exact hb)) (zX _)
structure Turn(P:Program)(w:World)(K:PySem.W.Frag)(tg:Expr)(J:It)(fp:List Addr)(it:Addr)(tn:Nat->Heap->Prop):Prop where
 mem:it∈fp
 obj:∀i h,tn i h->∀b∈fp,∃o,h.get? b=some o/\∀v,o.data≠.cell v
 keep:∀i h h',tn i h->(∀b∈fp,∀o,h.get? b=some o->h'.get? b=some o)->tn i h'
 item:∀(X:Cx),X.prog=P->X.w=w->X.K=K->X.calm=true->∀(i:Nat) (pins:List (Addr×Obj)) (s:Shared) (σ:St) (H:Hp) (E:Value->Shared->Prop),Inv X pins σ H s->(∀b∈fp,iJ X pins H b)->tn i s.heap->J.go i H ->
  wpAny (model P w) X.A (pyNext (.ref it)) (λr s1=>∃u,r=some u /\
   wpAny (model P w) X.A (letOwnedTupleGo tg (.ref it) u) (λ_ s2=>∃x H',Inv X pins σ H' s2/\RelV x u/\J.yld i H x H'/\tn (i+1) s2.heap/\∀b∈fp,H' b=none) E s1) E s
 done:∀(X:Cx),X.prog=P->X.w=w->X.K=K->X.calm=true->∀(i:Nat) (pins:List (Addr×Obj)) (s:Shared) (σ:St) (H:Hp) (E:Value->Shared->Prop),Inv X pins σ H s->(∀b∈fp,iJ X pins H b)->tn i s.heap->J.stop i H ->
  wpAny (model P w) X.A (pyNext (.ref it)) (λr s1=>r=none/\Inv X pins σ H s1) E s
 self:∀(A:Around) (i:Nat) (s:Shared) (Q:Value->Shared->Prop) (E:Value->Shared->Prop),tn i s.heap->Q (.ref it) s->wpAny (model P w) A (pyIter (.ref it)) Q E s
abbrev TI:=St->Hp->(It->Hp->Prop)->Prop
def PIE(X:Cx)(pins:List (Addr×Obj))(σ:St)(l:Expr)(R:It->Hp->Prop)(d:Value)(j:Shared):Prop :=
 ∃(it:Addr) (fp:List Addr) (h:Nat->Heap->Prop) (J:It) (c:Hp),d=.ref it/\Inv X pins σ c j/\Turn X.prog X.w X.K l J fp it h/\h 0 j.heap/\(∀b∈fp,iJ X pins c b)/\R J c
def PI(X:Cx)(d iter:Expr)(c:TI):Prop :=
 ∀(pins:List (Addr×Obj)) (s:Shared) (σ:St) (H:Hp) (R:It->Hp->Prop),Inv X pins σ H s->c σ H R ->
  wpAny (model X.prog X.w) X.A (eval iter X.env) (λv h=>wpAny (model X.prog X.w) X.A (pyIter v) (PIE X pins σ d R) X.xe h) X.xe s
theorem uC{M:Model}{A:Around}{E:Value->Shared->Prop}{s:Shared}{d:Expr}{it:Addr}{u:Value}{o:Obj}{n:String}{vs:Array Value}{Q:Unit->Shared->Prop}(j:s.heap.get? it=some o)(m:o.cls=.type n)(hd:o.data=.fields vs)
  (l:["enumerate","zip","dict_itemiterator","dict_reverseitemiterator","odict_iterator","itertools.zip_longest","itertools.pairwise"].contains n=false) (c:Q () s):wpAny M A (letOwnedTupleGo d (.ref it) u) Q E s:=by
 unfold letOwnedTupleGo
 cases d<;>first
  | exact zb c
  | (cases u<;>first
    | exact zb c
    | (refine za (wpAny_load j ?_)
       rw[m,hd];show wpAny M A (if(["enumerate","zip","dict_itemiterator","dict_reverseitemiterator","odict_iterator","itertools.zip_longest","itertools.pairwise"].contains n&&vs[0]? == some (rawInt _))=true then _ else _) Q E s;rw[if_neg (by intro h;rw[l,Bool.false_and] at h;cases h)]
       exact zb c))
def Itl(K:PySem.W.Frag)(a:Addr):It :=
 ⟨λi H=>∃c x,SqL K H a c/\c[i]?=some x,λi H x d=>d=H/\∀c,SqL K H a c->c[i]?=some x,λi H=>∃c,SqL K H a c/\c.length<=i⟩
def Itt(K:PySem.W.Frag)(a:Addr):It :=
 ⟨λi H=>∃c x,SqT K H a c/\c[i]?=some x,λi H x d=>d=H/\∀c,SqT K H a c->c[i]?=some x,λi H=>∃c,SqT K H a c/\c.length<=i⟩
def Itr(lo:Int)(n:Nat):It:=⟨λi _=>i<n,λi H x c=>c=H/\x=.int (lo+i),λi _=>n<=i⟩
theorem QQ{P:Program}{w:World}{K:PySem.W.Frag}{tg:Expr}(a it:Addr):Turn P w K tg (Itl K a) [it] it (λi h=>h.IsListIter it a i) where
 mem:=by simp
 obj:=λi h st b hb=>by
  have e:b=it:=by simpa using hb
  subst e;obtain⟨o,e,c,d⟩:=st;exact⟨o,e,λv z=>by rw[d] at z;cases z⟩
 keep:=λi h h' st k=>st.at λo e=>k it (by simp) o e
 item:=by
  intro X hP hw hK hc i pins s σ H E I hf st hg;subst hP hw hK;obtain⟨xs,x,hq,hx⟩:=hg;obtain⟨its,rv,p,hz⟩:=I.list hq;obtain⟨u,hu,ru⟩:=rv.get hx;obtain⟨f0,f1,f2,f3,f4,f5⟩:=hf it (by simp)
  refine wpAny_pyNext_list_item st p.isList (x:=u) (by simpa using hu) λh' st' sb=>?_
  have I1:Inv X pins σ H {s with heap:=h'}:=I.turned (t':=s.toks) (λb o hb e=>(sb.2 b hb).trans e) f0 f1 f3 f4 f5;obtain⟨o,e,c,d⟩:=id st';exact⟨u,rfl,uC (s:={s with heap:=h'}) e c d (by decide) ⟨x,H,I1,ru,⟨rfl,λys hy=>by rw[I.list_inj hy hq];exact hx⟩,st',λb hb=>(hf b hb).1⟩⟩
 done:=by
  intro X hP hw hK hc i pins s σ H E I hf st hg;subst hP hw hK;obtain⟨xs,hq,hx⟩:=hg;obtain⟨its,rv,p,hz⟩:=I.list hq;obtain⟨f0,f1,f2,f3,f4,f5⟩:=hf it (by simp);have hl:=rv.length
  exact wpAny_pyNext_list_end (I.ok.hd hc) st p.isList (by simp;omega) λh' eb=>⟨rfl,I.turned (t':=s.toks) (λb o hb e=>eb b o hb e) f0 f1 f3 f4 f5⟩
 self:=λ_ _ _ _ _ st h=>wpAny_pyIter_listiter st h
theorem QR{P:Program}{w:World}{K:PySem.W.Frag}{tg:Expr}(a it:Addr):Turn P w K tg (Itt K a) [it] it (λi h=>h.IsTupleIter it a i) where
 mem:=by simp
 obj:=λi h st b hb=>by
  have e:b=it:=by simpa using hb
  subst e;obtain⟨o,e,c,d⟩:=st;exact⟨o,e,λv z=>by rw[d] at z;cases z⟩
 keep:=λi h h' st k=>st.at λo e=>k it (by simp) o e
 item:=by
  intro X hP hw hK hc i pins s σ H E I hf st hg;subst hP hw hK;obtain⟨xs,x,hq,hx⟩:=hg;obtain⟨its,rv,p,hz⟩:=I.tuple hq;obtain⟨u,hu,ru⟩:=rv.get hx;obtain⟨f0,f1,f2,f3,f4,f5⟩:=hf it (by simp)
  refine wpAny_pyNext_tuple_item st (show s.heap.IsTuple a its.toArray from p) (x:=u) (by simpa using hu) λh' st' sb=>?_
  have I1:Inv X pins σ H {s with heap:=h'}:=I.turned (t':=s.toks) (λb o hb e=>(sb.2 b hb).trans e) f0 f1 f3 f4 f5;obtain⟨o,e,c,d⟩:=id st';exact⟨u,rfl,uC (s:={s with heap:=h'}) e c d (by decide) ⟨x,H,I1,ru,⟨rfl,λys hy=>by rw[I.tuple_inj hy hq];exact hx⟩,st',λb hb=>(hf b hb).1⟩⟩
 done:=by
  intro X hP hw hK hc i pins s σ H E I hf st hg;subst hP hw hK;obtain⟨xs,hq,hx⟩:=hg;obtain⟨its,rv,p,hz⟩:=I.tuple hq;obtain⟨f0,f1,f2,f3,f4,f5⟩:=hf it (by simp);have hl:=rv.length
  exact wpAny_pyNext_tuple_end (I.ok.hd hc) st (show s.heap.IsTuple a its.toArray from p) (by simp;omega) λh' eb=>⟨rfl,I.turned (t':=s.toks) (λb o hb e=>eb b o hb e) f0 f1 f3 f4 f5⟩
 self:=λ_ _ _ _ _ st h=>wpAny_pyIter_tupleiter st h
theorem QS{P:Program}{w:World}{K:PySem.W.Frag}{tg:Expr}(it:Addr)(lo:Int)(n:Nat):Turn P w K tg (Itr lo n) [it] it (λi h=>IsRangeIter h it (lo+(i:Nat) * 1) ((n:Int) - (i:Nat)) 1) where
 mem:=by simp
 obj:=λi h st b hb=>by
  have e:b=it:=by simpa using hb
  subst e
  exact⟨_,st,λv z=>by
   have z':Data.fields _=Data.cell v:=z
   cases z'⟩
 keep:=λi h h' st k=>k it (by simp) _ st
 item:=by
  intro X hP hw hK hc i pins s σ H E I hf st hg;subst hP hw hK;obtain⟨f0,f1,f2,f3,f4,f5⟩:=hf it (by simp);have W:=Walks.range (prog:=X.prog) (w:=X.w) (I.ok.hd hc) it lo 1 n
  refine W.item i s _ _ hg st λv h' tk hv st' kk=>?_
  obtain⟨t,rfl⟩:=hv;have I1:Inv X pins σ H {s with heap:=h',toks:=tk}:=I.turned (λb o hb e=>kk b o (by simpa using hb) e) f0 f1 f3 f4 f5;refine⟨_,rfl,uC (s:={s with heap:=h',toks:=tk}) (n:="range_iterator") st' rfl rfl (by decide) ⟨.int (lo+i),H,I1,⟨t,?_⟩,⟨rfl,rfl⟩,st',λb hb=>(hf b hb).1⟩⟩;rw[Int.mul_one]
 done:=by
  intro X hP hw hK hc i pins s σ H E I hf st hg;subst hP hw hK;obtain⟨f0,f1,f2,f3,f4,f5⟩:=hf it (by simp)
  exact wpAny_pyNext_range_end (I.ok.hd hc) st (by have:n<=i:=hg;omega) λh' eb=>⟨rfl,I.turned (t':=s.toks) (λb o hb e=>eb b o hb e) f0 f1 f3 f4 f5⟩
 self:=λ_ _ _ _ _ st h=>wpAny_pyIter_rangeiter st h
section
variable {X:Cx}{tg:Expr}
def Hd(K:PySem.W.Frag)(tl:TE):TI:=λσ H R=>tl σ H λx c=>∃a,x=.ref a/\(∃d,SqL K c a d)/\R (Itl K a) c
def QT(K:PySem.W.Frag)(tl:TE):TI:=λσ H R=>tl σ H λx c=>∃a,x=.ref a/\(∃d,SqT K c a d)/\R (Itt K a) c
theorem xg{l:Expr}{tl:TE}(d:PE X l tl):PI X tg l (Hd X.K tl):=by
 intro pins s σ H R I h
 refine thn (d pins s σ H _ I h) λv s1 ⟨x,H1,I1,r1,q1⟩=>?_
 obtain⟨a,e,⟨n,c⟩,q⟩:=q1;subst e;cases r1;obtain⟨m,r,p,t⟩:=I1.list c;refine wpAny_pyIter_list p.isList ?_;refine⟨s1.heap.objs.size,[s1.heap.objs.size],_,_,H1,rfl,I1.kept (t':=s1.toks) λb o e=>zo _ e,QQ a _,⟨_,zF _ rfl,rfl,rfl⟩,λb j=>?_,q⟩
 have e:b=s1.heap.objs.size:=by simpa using j
 subst e;exact I1.fpOk (zc _) (I1.hok.fresh (zc _))
theorem QV{l:Expr}{tl:TE}(j:PE X l tl):PI X tg l (QT X.K tl):=by
 intro pins s σ H R I h
 refine thn (j pins s σ H _ I h) λv s1 ⟨x,H1,I1,r1,q1⟩=>?_
 obtain⟨a,e,⟨n,d⟩,q⟩:=q1;subst e;cases r1;obtain⟨c,r,p,t⟩:=I1.tuple d;refine wpAny_pyIter_tuple (show s1.heap.IsTuple a c.toArray from p) ?_;refine⟨s1.heap.objs.size,[s1.heap.objs.size],_,_,H1,rfl,I1.kept (t':=s1.toks) λb o e=>zo _ e,QR a _,⟨_,zF _ rfl,rfl,rfl⟩,λb m=>?_,q⟩
 have e:b=s1.heap.objs.size:=by simpa using m
 subst e;exact I1.fpOk (zc _) (I1.hok.fresh (zc _))
theorem QW{pins:List (Addr×Obj)}{σ:St}{H:Hp}{s:Shared}{R:It->Hp->Prop}{E:Value->Shared->Prop}{lo hi:Int}{t u v:Tok}{tk:Nat}(I:Inv X pins σ H s)(h1:-(2 ^ 62)<=lo)(h2:lo<2 ^ 62)(h3:-(2 ^ 62)<=hi)(h4:hi<2 ^ 62)
  (q:R (Itr lo (hi - lo).toNat) H):wpAny (model X.prog X.w) X.A (pyIter (.ref s.heap.objs.size)) (PIE X pins σ tg R) E {s with heap:=s.heap.push {cls:=.type "range",data:=.fields #[.int lo t,.int hi u,.int 1 v]},toks:=tk}:=by
 refine wpAny_pyIter_range (IsRange.new ..) (small_one h1 h2 h3 h4) ?_
 have c:Inv X pins σ H {s with heap:=s.heap.push {cls:=.type "range",data:=.fields #[.int lo t,.int hi u,.int 1 v]},toks:=tk}:=I.kept λb o e=>zo _ e
 refine⟨(s.heap.push {cls:=.type "range",data:=.fields #[.int lo t,.int hi u,.int 1 v]}).objs.size,[(s.heap.push {cls:=.type "range",data:=.fields #[.int lo t,.int hi u,.int 1 v]}).objs.size],_,_,H,rfl,
  c.kept (t':=tk) λb o e=>zo _ e,QS _ lo (hi - lo).toNat,?_,λb d=>?_,q⟩
 ·have j:lo+((0:Nat):Int) * 1=lo:=by simp
  have h:(((hi - lo).toNat:Nat):Int) - ((0:Nat):Int)=Builtin.Range.rangeSize lo hi 1:=by rw[rangeSize_one];split<;>omega
  show IsRangeIter _ _ (lo+((0:Nat):Int) * 1) ((((hi - lo).toNat:Nat):Int) - ((0:Nat):Int)) 1;rw[j,h];exact zF _ rfl
 ·have e:b=(s.heap.push {cls:=.type "range",data:=.fields #[.int lo t,.int hi u,.int 1 v]}).objs.size:=by simpa using d
  subst e;exact c.fpOk (zc _) (c.hok.fresh (zc _))
def QX(d:TA):TI:=λσ H R=>d σ H λc h=>∃j:Int,c=[.int j]/\-(2 ^ 62)<=j/\j<2 ^ 62/\R (Itr 0 j.toNat) h
theorem QZ{a:Expr}{l:TA}{p c:Pos}(u:Gl X "range")(n:X.mg "range" = none)(x:PA X [a] l)(hs:starEach [a] X.env=[(false,eval a X.env)]:=by rfl):PI X tg (.Call (.Name "range" p) [a] [] c) (QX l):=by
 intro pins s σ H R I h;refine Call_ (nO I u n boot_range (PyProof.Rows.callWith_type1 (thn (x c pins s σ H _ I h) λus s1 ⟨vs,H1,I1,r1,d⟩=>?_) hs rfl));obtain⟨j,e,d,m,q⟩:=d;subst e
 cases r1 with
 |cons r rr =>
  cases rr;obtain⟨t,rfl⟩:=r;exact call_range_1 (QW I1 (by omega) (by omega) d m (by simpa using q))
def xj(l:TI)(g:TG)(n:TS):TS:=λD σ H=>l σ H λJ r=>∃W:Nat->Nat->St->Hp->Prop,(∃m,W 0 m σ r)/\∀i m σ H,W i m σ H ->
 (J.stop i H/\D.nx σ H)\/(J.go i H/\∃N:St->Hp->Prop,(∀d c,N d c->∃j,j<m/\W (i+1) j d c)/\∀x c,J.yld i H x c->g x σ c λh q=>n {D with nx:=N,ct:=N,bk:=D.nx} h q)
def qZ(fp:List Addr)(h:Heap):List (Addr×Obj):=fp.filterMap λb=>(h.get? b).map λo=>(b,o)
theorem uD{fp:List Addr}{h:Heap}{b:Addr}{o:Obj}(hb:b∈fp)(e:h.get? b=some o):(b,o)∈qZ fp h:=List.mem_filterMap.mpr ⟨b,hb,by rw[e];rfl⟩
theorem Q0{fp:List Addr}{h:Heap}{p:Addr×Obj}(c:p∈qZ fp h):p.1∈fp/\h.get? p.1=some p.2:=by
 obtain⟨b,d,e⟩:=List.mem_filterMap.mp c
 cases q:h.get? b with
 |none=>rw[q] at e;cases e
 |some o =>
  rw[q] at e;have e':(b,o)=p:=zQ e;subst e';exact⟨d,q⟩
theorem Inv.pinned{pins:List (Addr×Obj)}{σ:St}{H:Hp}{s:Shared}{fp:List Addr}(I:Inv X pins σ H s)(m:∀b∈fp,iJ X pins H b)(l:∀b∈fp,∃o,s.heap.get? b=some o/\∀v,o.data≠.cell v):Inv X (pins++qZ fp s.heap) σ H s :=
 I.pins_of λp j=>(zu.mp j).elim (λz=>I.pin p (zV _ z)) λz=>by
  obtain⟨c,e⟩:=Q0 z;obtain⟨r,q,n,_⟩:=m p.1 c;obtain⟨o,h,d⟩:=l p.1 c;rw[e] at h;cases h;exact⟨e,r,q,n,d⟩
theorem Inv.unpinned{pins pl:List (Addr×Obj)}{σ:St}{H:Hp}{s:Shared}(I:Inv X (pins++pl) σ H s):Inv X pins σ H s:=I.pins_of λp c=>I.pin p (zV _ (jk _ c))
theorem Hf{iter:Expr}{body:List Stmt}{Y:TI}{g:TG}{tb:TS}{U:Pos}(F:PassesOwn (model X.prog X.w) X.A X.env X.xe)(hc:X.calm=true)(hi:PI X tg iter Y)(hg:PG X tg g)(hb:PSs X body tb)
  (hs:∀x,foldedSetIterable iter X.env x=pure x:=by intro _;rfl):PS X (.For tg iter body [] U) (xj Y g tb):=by
 intro pins s σ H D I h;refine wpAny_For (thn (hi pins s σ H _ I h) λv s1 h1=>thn h1 λitv s2 h2=>?_) hs;obtain⟨it,fp,Z,J,H2,e,I2,T,R,f2,W,⟨m0,w0⟩,turn⟩:=h2;subst e
 have y:∀{B:Hp},(∀b∈fp,B b=none)->∀b∈fp,iJ X pins B b:=λhn b hb=>⟨hn b hb,(f2 b hb).2⟩
 refine codeAny_forLoop_any (λn s'=>∃i t B,Inv X pins t B s'/\Z i s'.heap/\(∀b∈fp,B b=none)/\W i n t B) ?_ m0 ⟨0,σ,H2,I2,R,λb hb=>(f2 b hb).1,w0⟩;rintro n s3 ⟨i,q,O,I3,G,L,w3⟩
 rcases turn i n q O w3 with⟨stop,qn⟩ | ⟨go,N,hN,step⟩
 ·refine wpAny_passesOwn F (thn (T.done X rfl rfl rfl hc i pins s3 q O X.xe I3 (y L) G stop) λr s4 ⟨Q,I4⟩=>?_);subst Q;exact wpAny_execs_nil ⟨q,O,I4,qn⟩
 ·refine wpAny_passesOwn F (thn (T.item X rfl rfl rfl hc i pins s3 q O X.xe I3 (y L) G go) λr s4 ⟨u,Q,h4⟩=>?_);subst Q;refine wpAny_passesOwn F (thn h4 λ_ s5 ⟨x,H5,I5,r5,y5,st5,fr5⟩=>?_);have I5':=I5.pinned (y fr5) (T.obj _ _ st5);refine wpAny_passesOwn F (thn (hg _ s5 q H5 x u _ I5' r5 (step x H5 y5)) λ_ s6 ⟨σ6,H6,I6,q6⟩=>?_);refine wpAny_passesOwn F (thn (hb _ s6 σ6 H6 _ I6 q6) λf P C=>?_)
  have again:∀{c:St}{l:Hp},Inv X (pins++qZ fp s5.heap) c l P->N c l->∃m,m<n/\∃i t B,Inv X pins t B P/\Z i P.heap/\(∀b∈fp,B b=none)/\W i m t B:=λ{c l} j E=>by
   obtain⟨m',hm,w7⟩:=hN c l E;refine⟨m',hm,i+1,c,l,j.unpinned,T.keep _ _ _ st5 λb hb o e=>(j.pin (b,o) (zV _ (zV _ (uD hb e)))).1,λb hb=>?_,w7⟩;obtain⟨o,e,d⟩:=T.obj _ _ st5 b hb;exact(j.pin (b,o) (zV _ (zV _ (uD hb e)))).2.1
  cases f with
  |next=>obtain⟨c,l,j,E⟩:=C;exact again j E
  |cont=>obtain⟨c,l,j,E⟩:=C;exact again j E
  |brk=>obtain⟨c,l,j,C⟩:=C;exact⟨c,l,j.unpinned,C⟩
  |ret v=>obtain⟨x7,c,l,j,r7,C⟩:=C;exact⟨x7,c,l,j.unpinned,r7,C⟩
end
abbrev R2:=V->V->Hp->VK->Prop
def OpR(X:Cx)(f:Value->Value->Sem Value)(r:R2):Prop :=
 ∀(pins:List (Addr×Obj)) (s:Shared) (σ:St) (H:Hp) (x y:V) (v u:Value) (Q:VK),Inv X pins σ H s->RelV x v->RelV y u->r x y H Q ->
  wpAny (model X.prog X.w) X.A (f v u) (EP X pins σ Q) X.xe s
def UnR(X:Cx)(f:Value->Sem Value)(r:V->Hp->VK->Prop):Prop :=
 ∀(pins:List (Addr×Obj)) (s:Shared) (σ:St) (H:Hp) (x:V) (v:Value) (Q:VK),Inv X pins σ H s->RelV x v->r x H Q ->
  wpAny (model X.prog X.w) X.A (f v) (EP X pins σ Q) X.xe s
def lG(X:Cx)(f:Value)(r:List V->Hp->VK->Prop):Prop :=
 ∀(pins:List (Addr×Obj)) (s:Shared) (σ:St) (H:Hp) (c:List V) (d:List Value) (Q:VK),Inv X pins σ H s->aV c d->r c H Q ->
  wpAny (model X.prog X.w) X.A (call f d) (EP X pins σ Q) X.xe s
def Q3(X:Cx)(r:V->Hp->(Bool->Hp->Prop)->Prop):Prop :=
 ∀(pins:List (Addr×Obj)) (s:Shared) (σ:St) (H:Hp) (x:V) (v:Value) (Q:Bool->Hp->Prop),Inv X pins σ H s->RelV x v->r x H Q ->
  wpAny (model X.prog X.w) X.A (truthy v) (TP X pins σ Q) X.xe s
def tOp(r:R2)(d c:TE):TE:=λσ H Q=>d σ H λx j=>c σ j λy h=>r x y h Q
def tUn(r:V->Hp->VK->Prop)(c:TE):TE:=λσ H Q=>c σ H λx d=>r x d Q
def rI(C:Int->Int->Prop)(g:Int->Int->V):R2:=λx y H Q=>∃i j,x=.int i/\y=.int j/\C i j/\Q (g i j) H
def rI0(g:Int->Int->V):R2:=λx y H Q=>∃i j,x=.int i/\y=.int j/\Q (g i j) H
def rU(g:Int->V):V->Hp->VK->Prop:=λx H Q=>∃i,x=.int i/\Q (g i) H
section
variable {X:Cx}{a b c:Expr}{ta tb tc:TE}{pos:Pos}
theorem xn(r:PE X a ta)(hb:PE X b tb){pins:List (Addr×Obj)}{s:Shared}{σ:St}{H:Hp}{R:V->V->Hp->Prop}(I:Inv X pins σ H s)
  (h:ta σ H λx n=>tb σ n λy d=>R x y d) {Q:Value->Shared->Prop}{f:Value->Value->Sem Value}
  (q:∀v u m x y d,Inv X pins σ d m->RelV x v->RelV y u->R x y d->wpAny (model X.prog X.w) X.A (f v u) Q X.xe m):
  wpAny (model X.prog X.w) X.A (eval a X.env) (λv l=>wpAny (model X.prog X.w) X.A (eval b X.env) (λu j=>wpAny (model X.prog X.w) X.A (f v u) Q X.xe j) X.xe l) X.xe s:=by
 refine thn (r pins s σ H _ I h) λv s1 ⟨x,n,I1,r1,q1⟩=>?_
 refine thn (hb pins s1 σ n _ I1 q1) λu m ⟨y,d,I2,r2,q2⟩=>?_
 exact q v u m x y d I2 r1 r2 q2
theorem Q4{op:Operator}{r:R2}(m:OpR X (binaryOp op) r)(n:PE X a ta)(hb:PE X b tb):PE X (.BinOp a op b pos) (tOp r ta tb):=by
 intro pins s σ H Q I h;exact wpAny_BinOp (xn n hb I h λv u d x y B t l j q=>m pins d σ B x y v u Q t l j q)
theorem Q5{op:UnaryOp}{r:V->Hp->VK->Prop}(d:UnR X (unaryOp op) r)(j:PE X a ta):PE X (.UnaryOp op a pos) (tUn r ta):=by
 intro pins s σ H Q I h;exact UnaryOp_ (thn (j pins s σ H _ I h) λv s1 ⟨x,H1,I1,r1,q1⟩=>d pins s1 σ H1 x v Q I1 r1 q1)
theorem opI{f:Value->Value->Sem Value}{C:Int->Int->Prop}{g:Int->Int->Int}
  (rule:∀(i j:Int) (t u:Tok) (s:Shared) (Q:Value->Shared->Prop) (E:Value->Shared->Prop),C i j->Q (.int (g i j) s.toks) {s with toks:=s.toks+1}->wpAny (model X.prog X.w) X.A (f (.int i t) (.int j u)) Q E s):
  OpR X f (rI C λi j=>.int (g i j)):=by
 intro pins s σ H x y v u Q I m l h;obtain⟨i,j,rfl,rfl,n,q⟩:=h;obtain⟨t,rfl⟩:=m;obtain⟨d,rfl⟩:=l;exact rule i j t d s _ _ n ⟨.int (g i j),H,I.tok _,⟨_,rfl⟩,q⟩
theorem Hg{f:Value->Value->Sem Value}{g:Int->Int->Int}
  (rule:∀(i j:Int) (t u:Tok) (s:Shared) (Q:Value->Shared->Prop) (E:Value->Shared->Prop),Q (.int (g i j) s.toks) {s with toks:=s.toks+1}->wpAny (model X.prog X.w) X.A (f (.int i t) (.int j u)) Q E s):
  OpR X f (rI0 λi j=>.int (g i j)):=by
 intro pins s σ H x y v u Q I m l h;obtain⟨i,j,rfl,rfl,q⟩:=h;obtain⟨t,rfl⟩:=m;obtain⟨d,rfl⟩:=l;exact rule i j t d s _ _ ⟨.int (g i j),H,I.tok _,⟨_,rfl⟩,q⟩
theorem xq{f:Value->Value->Sem Value}{g:Int->Int->Bool}
  (rule:∀(i j:Int) (t u:Tok) (s:Shared) (Q:Value->Shared->Prop) (E:Value->Shared->Prop),Q (.bool (g i j)) s->wpAny (model X.prog X.w) X.A (f (.int i t) (.int j u)) Q E s):
  OpR X f (rI0 λi j=>.bl (g i j)):=by
 intro pins s σ H x y v u Q I m l h;obtain⟨i,j,rfl,rfl,q⟩:=h;obtain⟨t,rfl⟩:=m;obtain⟨d,rfl⟩:=l;exact rule i j t d s _ _ ⟨.bl (g i j),H,I,rfl,q⟩
def Q6(i j:Int):Prop:=0<j/\j<1073741824
def Q7(i j:Int):Prop:=0<=j/\j<=1000000/\i.natAbs<2 ^ 64
def xu(i j:Int):Prop:=(-(2 ^ 64)<i/\i<2 ^ 64)\/(-(2 ^ 64)<j/\j<2 ^ 64)
theorem xu.ok{i j:Int}(h:xu i j):IntMulOk i j:=by
 rcases h with⟨h1,h2⟩ | ⟨h1,h2⟩
 ·exact .of_left (intBits_le_64 h1 h2)
 ·exact .of_right (intBits_le_64 h1 h2)
theorem Q8:OpR X (binaryOp .Add) (rI0 λi j=>.int (i+j)):=Hg λ_ _ _ _ _ _ _ q=>add_int q
theorem Q9:OpR X (binaryOp .Sub) (rI0 λi j=>.int (i - j)):=Hg λ_ _ _ _ _ _ _ q=>sub_int q
theorem Ra:OpR X (binaryOp .Mult) (rI xu λi j=>.int (i * j)):=opI λ_ _ _ _ _ _ _ d q=>mul_int q d.ok
theorem Rb:OpR X (binaryOp .FloorDiv) (rI Q6 λi j=>.int (i / j)):=opI λi j _ _ _ _ _ d q=>by
 have h1:(0:Int)<j:=d.1;have h2:j<1073741824:=d.2;exact floordiv_int (by omega) (by rw[Int.fdiv_eq_ediv_of_nonneg i (by omega)];exact q) (.inl (PyProof.noPylong_small (by omega)))
theorem Rc:OpR X (binaryOp .Mod) (rI (λ_ j=>0<j) λi j=>.int (i % j)):=opI λi j _ _ _ _ _ d q=>by
 have h1:(0:Int)<j:=d;exact mod_int' (by omega) (by rw[Int.fmod_eq_emod_of_nonneg i (by omega)];exact q)
theorem Rf:OpR X (binaryOp .Pow) (rI Q7 λi j=>.int (i ^ j.toNat)):=opI λ_ _ _ _ _ _ _ d q=>pow_int_small d.1 d.2.1 d.2.2 q
theorem unI{f:Value->Sem Value}{g:Int->Int}
  (rule:∀(i:Int) (t:Tok) (s:Shared) (Q:Value->Shared->Prop) (E:Value->Shared->Prop),Q (.int (g i) s.toks) {s with toks:=s.toks+1}->wpAny (model X.prog X.w) X.A (f (.int i t)) Q E s):
  UnR X f (rU λi=>.int (g i)):=by
 intro pins s σ H x v Q I d h;obtain⟨i,rfl,q⟩:=h;obtain⟨t,rfl⟩:=d;exact rule i t s _ _ ⟨.int (g i),H,I.tok _,⟨_,rfl⟩,q⟩
theorem Rg:UnR X (unaryOp .USub) (rU λi=>.int (-i)):=unI λ_ _ _ _ _ q=>neg_int q
theorem Rh:OpR X (binaryOp .Add) (λx y H Q=>∃i k,x=.int i/\y=.bl k/\Q (.int (i+b2i k)) H):=by
 intro pins s σ H x y v u Q I j d h;obtain⟨i,k,rfl,rfl,q⟩:=h;obtain⟨t,rfl⟩:=j;cases d;exact add_int_bool ⟨.int (i+b2i k),H,I.tok _,⟨_,rfl⟩,q⟩
end
def Hi:V->V->Bool
 | .non,.non=>true | .non,.int _=>true | .int _,.non=>true | .non,.bl _=>true | .bl _,.non=>true | .non,.str _=>true | .str _,.non=>true
 | .int _,.int _=>true | .bl _,.bl _=>true | .str _,.str _=>true | .byt _,.byt _=>true
 | .int _,.str _=>true | .str _,.int _=>true | .bl _,.str _=>true | .str _,.bl _=>true
 | _,_=>false
def rEq:R2:=λx y H Q=>Hi x y=true/\Q (.bl (decide (x=y))) H
def rNe:R2:=λx y H Q=>Hi x y=true/\Q (.bl (!decide (x=y))) H
theorem Hj{i j:Int}:decide (V.int i=V.int j)=(i == j):=by
 rw[Bool.eq_iff_iff];simp
theorem Hk{i j:Bool}:decide (V.bl i=V.bl j)=(i == j):=by
 rw[Bool.eq_iff_iff];simp
theorem Hl{i j:Str}:decide (V.str i=V.str j)=(i == j):=by
 rw[Bool.eq_iff_iff];simp
theorem Hm{i j:Array UInt8}:decide (V.byt i=V.byt j)=(i.toList == j.toList):=by
 rw[Bool.eq_iff_iff];cases i;cases j;simp
section
variable {X:Cx}{a b c:Expr}{ta tb tc:TE}{pos:Pos}
theorem cZ{pins:List (Addr×Obj)}{σ:St}{H:Hp}{s:Shared}{Q:VK}{k d:Bool}(I:Inv X pins σ H s)(q:Q (.bl k) H)(e:k=d):EP X pins σ Q (.bool d) s:=by
 subst e;exact⟨.bl k,H,I,rfl,q⟩
theorem xx:OpR X (compareOp .Eq) rEq:=by
 intro pins s σ H x y v u Q I n d h;obtain⟨m,q⟩:=h
 cases x with
 |non =>
  cases n
  cases y with
  |non=>cases d;exact PySem.EqNone.eq_none_none (cZ I q (by simp))
  |bl j=>cases d;exact PySem.EqNone.eq_none_bool (cZ I q (by simp))
  |int j=>obtain⟨l,rfl⟩:=d;exact PySem.EqNone.eq_none_int (cZ I q (by simp))
  |str j=>obtain⟨l,rfl⟩:=d;exact PySem.EqNone.eq_none_str (cZ I q (by simp))
  | _=>exact absurd (show false=true from m) zm
 |bl i =>
  cases n
  cases y with
  |non=>cases d;exact PySem.EqNone.eq_bool_none (cZ I q (by simp))
  |bl j=>cases d;exact eq_bool (cZ I q Hk)
  |str j=>obtain⟨l,rfl⟩:=d;exact PySem.EqMixed.eq_bool_str (cZ I q (by simp))
  | _=>exact absurd (show false=true from m) zm
 |int i =>
  obtain⟨t,rfl⟩:=n
  cases y with
  |non=>cases d;exact PySem.EqNone.eq_int_none (cZ I q (by simp))
  |int j=>obtain⟨l,rfl⟩:=d;exact eq_int (cZ I q Hj)
  |str j=>obtain⟨l,rfl⟩:=d;exact PySem.EqMixed.eq_int_str (cZ I q (by simp))
  | _=>exact absurd (show false=true from m) zm
 |str i =>
  obtain⟨t,rfl⟩:=n
  cases y with
  |non=>cases d;exact PySem.EqNone.eq_str_none (cZ I q (by simp))
  |bl j=>cases d;exact PySem.EqMixed.eq_str_bool (cZ I q (by simp))
  |int j=>obtain⟨l,rfl⟩:=d;exact PySem.EqMixed.eq_str_int (cZ I q (by simp))
  |str j=>obtain⟨l,rfl⟩:=d;exact eq_str (cZ I q Hl)
  | _=>exact absurd (show false=true from m) zm
 |byt i =>
  obtain⟨t,rfl⟩:=n
  cases y with
  |byt j=>obtain⟨l,rfl⟩:=d;exact PySem.W.eq_bytes (cZ I q Hm)
  | _=>exact absurd (show false=true from m) zm
 | _=>cases y<;>exact absurd (show false=true from m) zm
theorem xA:OpR X (compareOp .NotEq) rNe:=by
 intro pins s σ H x y v u Q I n d h;obtain⟨m,q⟩:=h
 cases x with
 |non =>
  cases n
  cases y with
  |non=>cases d;exact PySem.EqNone.ne_none_none (cZ I q (by simp))
  |bl j=>cases d;exact PySem.EqNone.ne_none_bool (cZ I q (by simp))
  |int j=>obtain⟨l,rfl⟩:=d;exact PySem.EqNone.ne_none_int (cZ I q (by simp))
  |str j=>obtain⟨l,rfl⟩:=d;exact PySem.EqNone.ne_none_str (cZ I q (by simp))
  | _=>exact absurd (show false=true from m) zm
 |bl i =>
  cases n
  cases y with
  |non=>cases d;exact PySem.EqNone.ne_bool_none (cZ I q (by simp))
  |bl j=>cases d;exact ne_bool (cZ I q (congrArg not Hk))
  |str j=>obtain⟨l,rfl⟩:=d;exact PySem.EqMixed.ne_bool_str (cZ I q (by simp))
  | _=>exact absurd (show false=true from m) zm
 |int i =>
  obtain⟨t,rfl⟩:=n
  cases y with
  |non=>cases d;exact PySem.EqNone.ne_int_none (cZ I q (by simp))
  |int j=>obtain⟨l,rfl⟩:=d;exact ne_int (cZ I q (congrArg not Hj))
  |str j=>obtain⟨l,rfl⟩:=d;exact PySem.EqMixed.ne_int_str (cZ I q (by simp))
  | _=>exact absurd (show false=true from m) zm
 |str i =>
  obtain⟨t,rfl⟩:=n
  cases y with
  |non=>cases d;exact PySem.EqNone.ne_str_none (cZ I q (by simp))
  |bl j=>cases d;exact PySem.EqMixed.ne_str_bool (cZ I q (by simp))
  |int j=>obtain⟨l,rfl⟩:=d;exact PySem.EqMixed.ne_str_int (cZ I q (by simp))
  |str j=>obtain⟨l,rfl⟩:=d;exact ne_str (cZ I q (congrArg not Hl))
  | _=>exact absurd (show false=true from m) zm
 |byt i =>
  obtain⟨t,rfl⟩:=n
  cases y with
  |byt j=>obtain⟨l,rfl⟩:=d;exact PySem.W.ne_bytes (cZ I q (congrArg not Hm))
  | _=>exact absurd (show false=true from m) zm
 | _=>cases y<;>exact absurd (show false=true from m) zm
theorem Ri:OpR X (compareOp .Lt) (rI0 λi j=>.bl (decide (i<j))):=xq λ_ _ _ _ _ _ _ q=>lt_int q
theorem Rj:OpR X (compareOp .LtE) (rI0 λi j=>.bl (decide (i<=j))):=xq λ_ _ _ _ _ _ _ q=>le_int q
theorem Rk:OpR X (compareOp .Gt) (rI0 λi j=>.bl (decide (j<i))):=xq λ_ _ _ _ _ _ _ q=>gt_int q
theorem Rm:OpR X (compareOp .In) (λx y H Q=>∃i j,x=.str i/\y=.str j/\Q (.bl (!(Builtin.Str.occurrences j i 0 j.length 1).isEmpty)) H):=by
 intro pins s σ H x y v u Q I l d h;obtain⟨i,j,rfl,rfl,q⟩:=h;obtain⟨t,rfl⟩:=l;obtain⟨m,rfl⟩:=d;exact in_str (cZ I q rfl)
theorem bw(b:Expr){op:CmpOp}(h:op≠.In:=by decide)(h2:op≠.NotIn:=by decide):behindInMarks op b=false:=by
 have j:(op == CmpOp.In)=false:=by cases op<;>first | rfl | exact absurd rfl h
 have d:(op == CmpOp.NotIn)=false:=by cases op<;>first | rfl | exact absurd rfl h2
 cases b<;>simp[behindInMarks,j,d]
theorem Rn{op:CmpOp}{r:R2}(m:OpR X (compareOp op) r)(t:PE X a ta)(hb:PE X b tb)(n:behindInMarks op b=false):PE X (.Compare a [op] [b] pos) (tOp r ta tb):=by
 intro pins s σ H Q I h;exact wpAny_Compare1 (xn t hb I h λv u d x y C B l j q=>m pins d σ C x y v u Q B l j q) n
def xB(t:TE):TT:=λσ H Q=>t σ H λx d=>∃k,x=.bl k/\Q k d
theorem Hn{op:CmpOp}{r:R2}(d:OpR X (compareOp op) r)(l:PE X a ta)(hb:PE X b tb)(j:behindInMarks op b=false):PT X (.Compare a [op] [b] pos) (xB (tOp r ta tb)):=by
 intro pins s σ H Q I h
 refine wpAny_isTrue_Compare1 (thn (l pins s σ H _ I h) λv s1 ⟨x,H1,I1,r1,q1⟩=>thn (hb pins s1 σ H1 _ I1 q1) λu s2 ⟨y,H2,I2,r2,q2⟩ =>
  thn (d pins s2 σ H2 x y v u _ I2 r1 r2 q2) λc s3 ⟨z,H3,I3,r3,k,e,q3⟩=>?_) j
 subst e;cases r3;exact wpAny_truthy_bool ⟨H3,I3,q3⟩
def Ho(r j:R2)(ta tb tc:TE):TE:=λσ H Q=>ta σ H λx n=>tb σ n λy m=>r x y m λz d=>∃k,z=.bl k /\
 (if k=true then tc σ d λh l=>j y h l Q else Q (.bl false) d)
theorem Ro{op j:CmpOp}{r m:R2}(n:OpR X (compareOp op) r)(l:OpR X (compareOp j) m)(B:PE X a ta)(hb:PE X b tb)(t:PE X c tc)
  (q:lastMarks [op,j] [b,c]=false:=by with_unfolding_all rfl):PE X (.Compare a [op,j] [b,c] pos) (Ho r m ta tb tc):=by
 intro pins s σ H Q I h
 refine Compare_chain (thn (B pins s σ H _ I h) λv s1 ⟨x,H1,I1,r1,q1⟩=>chain_link (thn (hb pins s1 σ H1 _ I1 q1) λu s2 ⟨y,H2,I2,r2,q2⟩ =>
  thn (n pins s2 σ H2 x y v u _ I2 r1 r2 q2) λd s3 ⟨z,H3,I3,r3,k,e,q3⟩=>?_)) q
 subst e;cases r3;refine wpAny_truthy_bool ?_
 cases k with
 |false=>exact ite_ff ⟨.bl false,H3,I3,rfl,q3⟩
 |true=>exact ite_tt (chain_last (thn (t pins s3 σ H3 _ I3 q3) λw' s4 ⟨z',H4,I4,r4,q4⟩=>l pins s4 σ H4 y z' u w' Q I4 r2 r4 q4))
def xC(K:PySem.W.Frag)(x:V)(H:Hp)(k:Bool):Prop :=
 match x with
 | .non=>k=false
 | .bl b=>k=b
 | .int i=>k=(i != 0)
 | .str y=>y.length<=sizeLine/\k=((y.length:Int) != 0)
 | .byt y=>y.size<=sizeLine/\k=((y.size:Int) != 0)
 | .ref p=>(∃d,SqL K H p d/\k = !d.isEmpty)\/(∃d,SqT K H p d/\k = !d.isEmpty)\/∃h,H p=some (.dK h)/\k = !h.isEmpty
 | _=>False
theorem Rq{κ:Type}{d:List (κ×V)}{vs:List (κ×Value)}(r:KV d vs):(!vs.isEmpty) = !d.isEmpty:=by
 cases r<;>rfl
theorem Hq{xs:List V}{its:List Value}(r:aV xs its):(!its.toArray.isEmpty) = !xs.isEmpty:=by
 cases r<;>simp
theorem q9:(sizeLine:Nat)<2 ^ 63:=by rw[sizeLine_eq];decide
theorem rm:Q3 X (λx H Q=>∃k,xC X.K x H k/\Q k H):=by
 intro pins s σ H x v Q I n h;obtain⟨k,e,q⟩:=h;have L:=q9;have J:sizeLine=16777216:=sizeLine_eq
 cases x with
 |non =>
  cases n;have d:k=false:=e;subst d;exact truthy_none ⟨H,I,q⟩
 |bl b =>
  cases n;have d:k=b:=e;subst d;exact wpAny_truthy_bool ⟨H,I,q⟩
 |int i =>
  obtain⟨t,rfl⟩:=n;have d:k=(i != 0):=e;subst d;exact PySem.P.truthy_int ⟨H,I,q⟩
 |str y =>
  obtain⟨t,rfl⟩:=n;obtain⟨F,d⟩:y.length<=sizeLine/\k=((y.length:Int) != 0):=e;subst d;exact PySem.P.truthy_str (by omega) ⟨H,I.tok _,q⟩
 |byt y =>
  obtain⟨t,rfl⟩:=n;obtain⟨F,d⟩:y.size<=sizeLine/\k=((y.size:Int) != 0):=e;subst d;exact PySem.W.truthy_bytes (by omega) ⟨H,I.tok _,q⟩
 |ref p =>
  cases n;have d:(∃l,SqL X.K H p l/\k = !l.isEmpty)\/(∃l,SqT X.K H p l/\k = !l.isEmpty)\/∃j,H p=some (.dK j)/\k = !j.isEmpty:=e
  rcases d with⟨l,u,d⟩ | ⟨l,u,d⟩ | ⟨j,u,d⟩
  ·subst d;obtain⟨C,r,pl,E⟩:=I.list u;have hlen:=r.length;exact wpAny_truthy_list pl.isList (by simp only[zA];omega) ⟨H,I.tok _,by rw[Hq r];exact q⟩
  ·subst d;obtain⟨C,r,pl,E⟩:=I.tuple u;have hlen:=r.length;exact truthy_tuple pl (by simp only[zA];omega) ⟨H,I.tok _,by rw[Hq r];exact q⟩
  ·subst d;obtain⟨E,G,B,r,m⟩:j.length<=sizeLine/\(p == sysModules)=false/\∃B,KV j B/\s.heap.DictOf (qU X.prog X.w) p B:=I.hok p _ u;have hlen:j.length=B.length:=Paired.length r;exact wpAny_truthy_dict G m (by omega) ⟨H,I.tok _,by rw[Rq r];exact q⟩
 | _=>exact(show False from e).elim
theorem Rt(l:PE X a ta)(j:∀whole,isTrue a X.env whole=(do let v <-whole;standAt a.pos;holding [v] (truthy v))):
  PT X a (λσ H Q=>ta σ H λx d=>∃k,xC X.K x d k/\Q k d):=by
 intro pins s σ H Q I h;exact isTrue_plain (thn (l pins s σ H _ I h) λv s1 ⟨x,H1,I1,r1,q1⟩=>rm pins s1 σ H1 x v Q I1 r1 q1) (j _)
theorem Ru:OpR X (binaryOp .Add) (λx y H Q=>∃i j,x=.str i/\y=.str j/\i.length+j.length<=sizeLine/\Q (.str (i++j)) H):=by
 intro pins s σ H x y v u Q I m l h;obtain⟨i,j,rfl,rfl,n,q⟩:=h;obtain⟨t,rfl⟩:=m;obtain⟨d,rfl⟩:=l;exact add_str (λd tk=>⟨.str (i++j),H,I.tok _,⟨_,rfl⟩,q⟩) n
theorem vals1{x:V}{us:List Value}(r:aV [x] us):∃u,us=[u]/\RelV x u:=by
 cases r with
 |cons h d=>cases d;exact⟨_,rfl,h⟩
theorem vals2{x y:V}{us:List Value}(r:aV [x,y] us):∃u d,us=[u,d]/\RelV x u/\RelV y d:=by
 cases r with
 |cons r1 r2 =>
  cases r2 with
  |cons j h=>cases h;exact⟨_,_,rfl,r1,j⟩
theorem Rv(l:X.calm=true):lG X (.builtin "max") (λxs H Q=>∃i j,xs=[.int i,.int j]/\Q (.int (if j>i then j else i)) H):=by
 intro pins s σ H xs n Q I r h;obtain⟨i,j,rfl,q⟩:=h;obtain⟨u,m,rfl,⟨t,rfl⟩,⟨x,rfl⟩⟩:=vals2 r
 refine max_two_ints (I.ok.hd l) λy tk k=>⟨_,H,I.kept k,?_,q⟩
 by_cases d:j>i
 ·rw[if_pos d,if_pos d];exact⟨_,rfl⟩
 ·rw[if_neg d,if_neg d];exact⟨_,rfl⟩
def Rw(K:PySem.W.Frag)(x:V)(H:Hp)(n:Nat):Prop :=
 match x with
 | .str y=>y.length<=sizeLine/\n=y.length
 | .byt y=>y.size<=sizeLine/\n=y.size
 | .ref p=>(∃d,SqL K H p d/\n=d.length)\/∃d,SqT K H p d/\n=d.length
 | _=>False
theorem call_len:lG X (.builtin "len") (λxs H Q=>∃x n,xs=[x]/\Rw X.K x H n/\Q (.int n) H):=by
 intro pins s σ H xs F Q I r h;obtain⟨x,n,rfl,e,q⟩:=h;obtain⟨u,rfl,j⟩:=vals1 r;have J:=q9;have G:sizeLine=16777216:=sizeLine_eq
 cases x with
 |str y =>
  obtain⟨t,rfl⟩:=j;obtain⟨E,d⟩:y.length<=sizeLine/\n=y.length:=e;subst d;exact len_str (by omega) ⟨.int _,H,I.tok _,⟨_,rfl⟩,q⟩
 |byt y =>
  obtain⟨t,rfl⟩:=j;obtain⟨E,d⟩:y.size<=sizeLine/\n=y.size:=e;subst d;exact PySem.W.len_bytes (by omega) ⟨.int _,H,I.tok _,⟨_,rfl⟩,q⟩
 |ref p =>
  cases j;have d:(∃xs,SqL X.K H p xs/\n=xs.length)\/∃xs,SqT X.K H p xs/\n=xs.length:=e
  rcases d with⟨xs,m,d⟩ | ⟨xs,m,d⟩
  ·subst d;obtain⟨B,l,pl,C⟩:=I.list m;have hlen:=l.length;exact Calls.call_len_list pl.isList (by simp only[zA];omega) ⟨.int xs.length,H,I.tok _,⟨_,by simp only[zA];rw[hlen]⟩,q⟩
  ·subst d;obtain⟨B,l,pl,C⟩:=I.tuple m;have hlen:=l.length;exact len_tuple pl (by simp only[zA];omega) ⟨.int xs.length,H,I.tok _,⟨_,by simp only[zA];rw[hlen]⟩,q⟩
 | _=>exact(show False from e).elim
end
structure nP(h:Heap)(x dx C:Addr)(mA:Str->Option Value):Prop where
 obj:h.get? x=some (PySem.W.instObj C dx)
 ns:h.Ns1 dx mA
 ne:dx≠x
theorem Rx{h:Heap}{m:Addr}{j:Str->Option Value}(n:h.Ns1 m j):∃d,h.get? m=some d/\∀name,PySem.W.lookIn name d=some (j name):=by
 obtain⟨o,l,C,u,hd,B,_,x⟩:=n;refine⟨o,u,λname=>?_⟩;have e:=x name;unfold nsFind findBy at e;rw[<-Array.find?_toList] at e;unfold PySem.W.lookIn;rw[hd];dsimp only
 split
 ·rename_i y q;rw[q] at e;exact congrArg some e
 ·rename_i q;rw[q] at e
  have a:l.toList.any (·.refKey)=false:=by
   rw[List.any_eq_false];intro y r;obtain⟨z,t,c⟩:=B y (Array.mem_toList_iff.mp r);simp[DictEntry.refKey,c]
  have a':¬l.toList.any (·.refKey)=true:=by rw[a];exact zm
  rw[if_neg a'];exact congrArg some e
theorem nP.look{h:Heap}{x j C:Addr}{d:Str->Option Value}(I:nP h x j C d):∃c,PySem.W.InstAt h x (PySem.W.instObj C j) C (some c)/\∀name,PySem.W.lookIn name c=some (d name):=
 let ⟨c,ho,hl⟩:=Rx I.ns
 ⟨c,⟨I.obj,rfl,rfl,ho⟩,hl⟩
section
variable {prog:Program}{w:World}{A:Around}{E:Value->Shared->Prop}{s:Shared}{K:PySem.W.Frag}{x dx C f:Addr}{mA:Str->Option Value}{name:Str}{v:Value}
theorem Ry{expr:Bool}{Q:Value->Shared->Prop}(X:K.In s.heap)(I:nP s.heap x dx C mA)(l:PySem.W.plainGet K C name=true)(j:PySem.W.hasDictIn K C=true)
  (m:PySem.W.findIn K (.ref C) name=some none) (hv:mA name=some v) (c:PySem.W.handedIn v=true) (h:Q v {s with toks:=s.toks+1}):
  wpAny (model prog w) A (getAttr (.ref x) name expr) Q E s:=by
 obtain⟨n,J,d⟩:=I.look;exact PySem.W.get_value X J (PySem.W.plainGet_of l).1 (PySem.W.findObj_own j m rfl (by rw[d,hv])) c h
theorem Rz{pl:Sem Bool}{Q:Value×List Value->Shared->Prop}(X:K.In s.heap)(I:nP s.heap x dx C mA)(c:PySem.W.plainGet K C name=true)
  (m:PySem.W.findIn K (.ref C) name=some (some (.ref f))) (j:PySem.W.isFn K (.ref f)=true) (hv:mA name=none) (h:Q (.ref f,[.ref x]) s):
  wpAny (model prog w) A (getMethod (.ref x) name pl) Q E s:=by
 obtain⟨d,J,l⟩:=I.look;exact PySem.W.method_fn X J (PySem.W.plainGet_of c).1 (PySem.W.plainGet_of c).2 m (beq_iff_eq.mp j) (by show(PySem.W.lookIn name d).map (·.isSome)=some false;rw[l,hv];rfl) h
theorem RB{ns:List Str}{Q:Unit->Shared->Prop}(X:K.In s.heap)(I:nP s.heap x dx C mA)
  (hs:PySem.W.findIn K (.ref C) "__setattr__" = some (some (.builtin "object.__setattr__"))) (B:PySem.W.plainOver K C=true) (u:PySem.W.takerIn K C name=some none) (F:PySem.W.hasDictIn K C=true)
  (t:PySem.Within mA ns) (hsz:ns.length<=sizeLine)
  (h:∀h',nP h' x dx C (λy=>if y=name then some v else mA y)->Heap.SameBut dx s.heap h'->Q () {s with heap:=h',toks:=s.toks+2}):
  wpAny (model prog w) A (setAttr (.ref x) name v) Q E s:=by
 obtain⟨O,J,R⟩:=I.look;refine PySem.W.set_plain X J hs (PySem.W.osa_open (s:={s with toks:=s.toks+1}) (r:=none) X J B u λb=>?_);obtain⟨T,G,m⟩:=PySem.W.any_some F;have q:s.heap.get? x=some ⟨.ref C,some dx,.plain,#[]⟩:=I.obj;refine za (zb (za (za (wpAny_loadPart q (za (PySem.W.Looks.here (s:={s with toks:=s.toks+1}) (PySem.W.looks_clsIn X G) ?_))))));rw[m];refine zb (a:=some dx) (za (zb (za ?_)))
 refine wpAny_nsSet1 (s:={s with toks:=s.toks+1}) I.ns λh' d c=>?_
 obtain⟨P,H,L,j,l,n⟩:=d.count (PySem.Within.cons name v t);refine za (wpAny_lookBehind j (by rw[l];exact pastItsLine_dict (zK n (by rw[zn];omega))) ?_);exact zb (h _ ⟨(c.2 _ (Ne.symm I.ne)).trans I.obj,d,I.ne⟩ c)
theorem RC{R:Result->Shared->Prop}{vs:List Value}{c:List (Str×Value)}(X:K.In s.heap)(j:PySem.W.makesIn K C=true)
  (hi:PySem.W.findIn K (.ref C) "__init__" = some (some (.ref f))) (l:PySem.W.typeIn K (.ref f)=some (.type "function"))
  (h:codeAny (model prog w) (A.under (.builtin "type.__call__" ⟨.ref C::vs,c⟩)) (.call (.ref f) ⟨.ref (s.heap.objs.size+1)::vs,c⟩) (PySem.W.InitBack (s.heap.objs.size+1) R)
   {s with heap:=(s.heap.push PySem.W.emptyDict).push (PySem.W.instObj C s.heap.objs.size)}):
  codeAny (model prog w) A (.call (.ref C) ⟨vs,c⟩) R s:=by
 obtain⟨m,g,d,t,os⟩:=s;exact PySem.W.make_core (PySem.W.makes_of X j) (PySem.W.looks_findIn X hi) (λself=>PySem.W.bind_fn X self l) (.inl rfl) h
end
def fX(f:Str)(v:V):List (Str×V)->List (Str×V)
 | []=>[(f,v)]
 | (g,x)::r=>if g=f then(g,v)::r else(g,x)::fX f v r
theorem Hr(f g:Str)(v:V):∀fs:List (Str×V),(fX f v fs).lookup g=if g=f then some v else fs.lookup g
 | []=>by
  show List.lookup g [(f,v)]=_
  by_cases h:g=f
  ·have c:(g == f)=true:=beq_iff_eq.mpr h;simp only[List.lookup,c,if_pos h]
  ·have c:(g == f)=false:=beq_eq_false_iff_ne.mpr h;simp only[List.lookup,c,if_neg h]
 | (k,x)::r=>by
  have j:=Hr f g v r;rw[show fX f v ((k,x)::r)=(if k=f then(k,v)::r else(k,x)::fX f v r) from rfl]
  by_cases d:k=f
  ·rw[if_pos d]
   by_cases h:g=k
   ·have c:(g == k)=true:=beq_iff_eq.mpr h;simp only[List.lookup,c,if_pos (h.trans d)]
   ·have c:(g == k)=false:=beq_eq_false_iff_ne.mpr h;simp only[List.lookup,c,if_neg (λe:g=f=>h (e.trans d.symm))]
  ·rw[if_neg d]
   by_cases h:g=k
   ·have c:(g == k)=true:=beq_iff_eq.mpr h;simp only[List.lookup,c,if_neg (λe:g=f=>d (h.symm.trans e))]
   ·have c:(g == k)=false:=beq_eq_false_iff_ne.mpr h;simp only[List.lookup,c];exact j
theorem xD(f:Str)(v:V):∀fs:List (Str×V),f∈(fX f v fs).map (·.1)/\∀g,g∈fs.map (·.1)->g∈(fX f v fs).map (·.1)
 | []=>⟨by simp[fX],λg h=>by simp at h⟩
 | (k,x)::r=>by
  obtain⟨j,d⟩:=xD f v r;rw[show fX f v ((k,x)::r)=(if k=f then(k,v)::r else(k,x)::fX f v r) from rfl]
  by_cases c:k=f
  ·rw[if_pos c];subst c;exact⟨by simp,λg h=>by simpa using h⟩
  ·rw[if_neg c];refine⟨?_,λg h=>?_⟩
   ·rw[zx];exact zr _ j
   ·rw[zx] at h ⊢
    rcases zh.mp h with e | e
    ·exact zh.mpr (.inl e)
    ·exact zr _ (d g e)
theorem Hs(f:Str)(v:V):∀fs:List (Str×V),(fX f v fs).length<=fs.length+1
 | []=>by simp[fX]
 | (k,x)::r=>by
  have d:=Hs f v r;rw[show fX f v ((k,x)::r)=(if k=f then(k,v)::r else(k,x)::fX f v r) from rfl]
  by_cases c:k=f
  ·rw[if_pos c,zn,zn];omega
  ·rw[if_neg c,zn,zn];omega
theorem kI.some_of{v:V}{o:Option Value}(r:kI (some v) o):∃u,o=some u/\RelV v u:=by
 cases o with
 |none=>exact(show False from r).elim
 |some u=>exact⟨u,rfl,r⟩
theorem kI.none_of{o:Option Value}(r:kI none o):o=none:=by
 cases o with
 |none=>rfl
 |some u=>exact(show False from r).elim
theorem RD{v:V}{u:Value}(r:RelV v u):PySem.W.handedIn u=true:=by
 cases v with
 |non=>cases(show u=Value.none from r);rfl
 |bl b=>cases(show u=Value.bool b from r);rfl
 |int i=>obtain⟨t,e⟩:=(show ∃t,u=Value.int i t from r);cases e;rfl
 |str x=>obtain⟨t,e⟩:=(show ∃t,u=Value.str x t from r);cases e;rfl
 |byt b=>obtain⟨t,e⟩:=(show ∃t,u=Value.bytes b t from r);cases e;rfl
 |flt b=>obtain⟨t,e⟩:=(show ∃t,u=Value.float b t from r);cases e;rfl
 |ref a=>cases(show u=Value.ref a from r);rfl
 |ty n=>cases(show u=Value.type n from r);rfl
section
variable {P:Program}{w:World}{H H':Hp}{h h':Heap}{a C dx:Addr}{fs fs':List (Str×V)}
theorem uE(hok:HOk P w H h)(e:H a=some (.ins C dx fs)):∃c,nP h a dx C c/\(∀f,kI (fs.lookup f) (c f))/\PySem.Within c (fs.map (·.1))/\fs.length<=1000/\H dx=some (.own a):=by
 obtain⟨d,z,ne,ob,c,n,r,q⟩:=(show fC P w H h a (.ins C dx fs) from hok a _ e);exact⟨c,⟨ob,n,ne⟩,r,q,z,d⟩
end
structure Cls(K:PySem.W.Frag)(C:Addr):Prop where
 pg:PySem.W.plainGet K C Str.empty=true
 hd:PySem.W.hasDictIn K C=true
 po:PySem.W.plainOver K C=true
 sa:PySem.W.findIn K (.ref C) "__setattr__" = some (some (.builtin "object.__setattr__"))
theorem Cls.get{K:PySem.W.Frag}{C:Addr}(c:Cls K C)(f:Str):PySem.W.plainGet K C f=true:=c.pg
def nQ(K:PySem.W.Frag)(C:Addr)(f:Str):Prop:=PySem.W.findIn K (.ref C) f=some none
theorem nQ.taker{K:PySem.W.Frag}{C:Addr}{f:Str}(n:nQ K C f):PySem.W.takerIn K C f=some none:=by
 unfold PySem.W.takerIn;rw[show PySem.W.findIn K (.ref C) f=some none from n];rfl
structure Con(K:PySem.W.Frag)(C:Addr)(f:Str)(v:V)(u:Value):Prop where
 at_:PySem.W.findIn K (.ref C) f=some (some u)
 rel:RelV v u
 get:PySem.W.specialIn K u "__get__" = some none
 cp:PySem.W.copiedNames.contains f=false
structure rz(K:PySem.W.Frag)(C:Addr)(m:Str)(f:Addr):Prop where
 at_:PySem.W.findIn K (.ref C) m=some (some (.ref f))
 fn:PySem.W.isFn K (.ref f)=true
 kp:PySem.W.keepIn K (.ref f)=true
section
variable {X:Cx}{pins:List (Addr×Obj)}{σ:St}{H:Hp}{s:Shared}{a C dx:Addr}{fs:List (Str×V)}{f:Str}{v:V}{A:Around}{E:Value->Shared->Prop}
theorem RG{b:Bool}{Q:Value->Shared->Prop}(I:Inv X pins σ H s)(e:H a=some (.ins C dx fs))(c:Cls X.K C)(n:nQ X.K C f)(l:fs.lookup f=some v)
  (h:∀u d,Inv X pins σ H d->RelV v u->Q u d):wpAny (model X.prog X.w) A (getAttr (.ref a) f b) Q E s:=by
 obtain⟨m,O,r,_,_,_⟩:=uE I.hok e;obtain⟨u,q,j⟩:=kI.some_of (v:=v) (o:=m f) (by rw[<-l];exact r f);exact Ry I.kIn O (c.get f) c.hd n q (RD j) (h u _ (I.tok _) j)
theorem Ht{m:Str}{g:Addr}{pl:Sem Bool}{Q:Value×List Value->Shared->Prop}(I:Inv X pins σ H s)(e:H a=some (.ins C dx fs))(c:Cls X.K C)(k:rz X.K C m g)(l:fs.lookup m=none)
  (h:Q (.ref g,[.ref a]) s):wpAny (model X.prog X.w) A (getMethod (.ref a) m pl) Q E s:=by
 obtain⟨d,O,r,_,_,_⟩:=uE I.hok e;have j:d m=none:=kI.none_of (by rw[<-l];exact r m);exact Rz I.kIn O (c.get m) k.at_ k.fn j h
theorem RJ{y:V}{u:Value}{Q:Unit->Shared->Prop}(I:Inv X pins σ H s)(e:H a=some (.ins C dx fs))(c:Cls X.K C)(n:nQ X.K C f)(R:fs.length<1000)(F:RelV y u)
  (h:∀l,Inv X pins σ (upd H a (.ins C dx (fX f y fs))) l->Q () l):wpAny (model X.prog X.w) A (setAttr (.ref a) f u) Q E s:=by
 obtain⟨m,O,r,j,_,t⟩:=uE I.hok e
 have G:(fs.map (·.1)).length<=sizeLine:=by rw[ze,sizeLine_eq];omega
 refine RB I.kIn O c.sa c.po n.taker c.hd j G λP d B=>h _ ?_
 have hd:∃o,P.get? dx=some o:=let ⟨o,_,_,e',_⟩:=d.ns;⟨o,e'⟩;refine I.write (x:=a) (e:=dx) (by rw[e];exact True.intro) (.inr t) (λb q L z=>(B.2 b L).trans z) hd ?_;refine⟨by rw[bj O.ne];exact t,?_,O.ne,d.obj,_,d.ns,λg=>?_,λg J=>?_⟩
 ·have:=Hs f y fs;omega
 ·show kI ((fX f y fs).lookup g) (if g=f then some u else m g);rw[Hr]
  by_cases q:g=f
  ·rw[if_pos q,if_pos q];exact F
  ·rw[if_neg q,if_neg q];exact r g
 ·by_cases q:g=f
  ·rw[q];exact(xD f y fs).1
  ·refine(xD f y fs).2 g (j g λz=>J ?_);show(if g=f then some u else m g)=none;rw[if_neg q];exact z
theorem Inv.made(I:Inv X pins σ H s):Inv X pins σ (upd (upd H s.heap.objs.size (.own (s.heap.objs.size+1))) (s.heap.objs.size+1) (.ins C s.heap.objs.size []))
  {s with heap:=(s.heap.push PySem.W.emptyDict).push (PySem.W.instObj C s.heap.objs.size)}:=by
 have c:(s.heap.push PySem.W.emptyDict).get? s.heap.objs.size=some PySem.W.emptyDict:=zF s.heap rfl
 have l:((s.heap.push PySem.W.emptyDict).push (PySem.W.instObj C s.heap.objs.size)).get? (s.heap.objs.size+1)=some (PySem.W.instObj C s.heap.objs.size):=by
  have:=zF (s.heap.push PySem.W.emptyDict) (o:=PySem.W.instObj C s.heap.objs.size) rfl
  rwa [Heap.size_push] at this
 have j:(s.heap.push PySem.W.emptyDict).Ns s.heap.objs.size (λ_=>none):=⟨PySem.W.emptyDict,#[],_,c,rfl,(λe h=>absurd h (by simp)),λ_=>rfl⟩;have m:=I.laid (a:=s.heap.objs.size) (o:=.own (s.heap.objs.size+1)) (h':=s.heap.push PySem.W.emptyDict) (t':=s.toks) (λb u q=>zo _ q) (zc _) ⟨_,c⟩;refine m.laid (a:=s.heap.objs.size+1) (o:=.ins C s.heap.objs.size []) (t':=s.toks) (λb u q=>zo _ q) (Nat.le_of_eq (Heap.size_push _ _)) ?_;have ne:s.heap.objs.size≠s.heap.objs.size+1:=zt (jg _);refine⟨by rw[bj ne,dG],Nat.zero_le _,ne,l,λ_=>none,(Heap.Ns1.of_empty j).at λo q=>zo _ q,λ_=>True.intro,λy d=>absurd rfl d⟩
theorem RK{prog:Program}{w:World}{env:Env}{e:Expr}{f:Str}{d:Pos}{s:Shared}{Q:Value->Shared->Prop}(hb:attributeBase e f env (eval e env)=eval e env)
  (h:wpAny (model prog w) A (eval e env) (λo c=>wpAny (model prog w) A (getAttr o f true) Q E c) E s):wpAny (model prog w) A (eval (.Attribute e f d) env) Q E s :=
 Attribute_any_ h (by rw[arm_eval_Attribute,hb])
end
def RL(K:PySem.W.Frag)(d:TE)(f:Str):TE:=λσ H Q=>d σ H λx c=>∃a C h fs v,x=.ref a/\c a=some (.ins C h fs)/\Cls K C/\nQ K C f/\fs.lookup f=some v/\Q v c
def RM(K:PySem.W.Frag)(j h:TE)(f:Str):TS:=λD σ H=>h σ H λy l=>j σ l λx d=>∃a C c fs,x=.ref a/\d a=some (.ins C c fs)/\Cls K C/\nQ K C f/\fs.length<1000 /\
 D.nx σ (upd d a (.ins C c (fX f y fs)))
section
variable {X:Cx}{o e value:Expr}{f:Str}{pos pos' tpos:Pos}{ta tv:TE}
theorem RN(j:PE X e ta)(hb:attributeBase e f X.env (eval e X.env)=eval e X.env):PE X (.Attribute e f pos) (RL X.K ta f):=by
 intro pins s σ H Q I h;refine RK hb (thn (j pins s σ H _ I h) λu s1 ⟨x,H1,I1,rx,a,C,dx,fs,v,ex,ea,c,n,l,q⟩=>?_);subst ex;obtain rfl:u=Value.ref a:=rx
 exact RG I1 ea c n l λr t m d=>⟨v,H1,m,d,q⟩
theorem RP(d:PE X o ta)(hv:PE X value tv)(hs:swapsWith value (some (.Attribute o f pos')) pos.line X.env=pure false):PS X (.Assign [.Attribute o f pos'] value pos) (RM X.K ta tv f):=by
 intro pins s σ H D I h;refine plainObj_wpAny_Assign_Attribute (thn (hv pins s σ H _ I h) λu s1 ⟨y,H1,I1,ry,q⟩=>thn (d pins s1 σ H1 _ I1 q) λov s2 ⟨x,H2,I2,rx,a,C,dx,fs,ex,ea,c,n,l,q2⟩=>?_) hs;subst ex;obtain rfl:ov=Value.ref a:=rx
 exact RJ I2 ea c n l ry λm j=>⟨σ,_,j,q2⟩
end
section
variable {X:Cx}{pins:List (Addr×Obj)}{σ:St}{H:Hp}{s:Shared}{A:Around}{E:Value->Shared->Prop}{Q:Value->Shared->Prop}{c:Value}{b:Bool}
inductive jA (K:PySem.W.Frag) (H:Hp):V->Value->Prop where
 | non:jA K H .non (.type "NoneType")
 | bl (x:Bool):jA K H (.bl x) (.type "bool")
 | int (i:Int):jA K H (.int i) (.type "int")
 | str (x:Str):jA K H (.str x) (.type "str")
 | flt (x:UInt64):jA K H (.flt x) (.type "float")
 | lst {a:Addr}{xs:List V} (e:H a=some (.lst xs)):jA K H (.ref a) (.type "list")
 | frz {a:Addr}{o:Obj}{xs:List V} (e:H a=some (.frz o (.lst xs))):jA K H (.ref a) (.type "list")
 | tup {a:Addr}{xs:List V} (e:H a=some (.tup xs)):jA K H (.ref a) (.type "tuple")
 | dK {a:Addr}{kvs:List (Key×V)} (e:H a=some (.dK kvs)):jA K H (.ref a) (.type "dict")
 | dT {a:Addr}{kvs:List (List Key×V)} (e:H a=some (.dT kvs)):jA K H (.ref a) (.type "dict")
 | ins {a C dx:Addr}{fs:List (Str×V)} (e:H a=some (.ins C dx fs)) (cl:Cls K C) (ha:PySem.W.findIn K (.ref C) "__class__" = some (some (.builtin "object.__class__")))
   (hn:PySem.W.specialIn K (.builtin "object.__class__") "__get__" = some (some (.builtin "getset_descriptor.__get__"))) (htk:PySem.W.takesIn K (.builtin "object.__class__")=some true)
   (hm:PySem.W.mroIn K C (.type "object")=some true):jA K H (.ref a) (.ref C)
theorem rE{x:V}{u t:Value}(I:Inv X pins σ H s)(d:RelV x u)(ty:jA X.K H x t)(e:PySem.W.kitOne X.K t c=some b)(h:∀tk,Q (.bool b) {s with toks:=tk}):
  wpAny (model X.prog X.w) A (call (.builtin "isinstance") [u,c]) Q E s:=by
 cases ty with
 |non=>cases(show u=Value.none from d);exact PySem.W.kia_one PySem.W.kitx_none I.kIn True.intro e (λz=>nomatch z) h
 |bl y=>cases(show u=Value.bool y from d);exact PySem.W.kia_one PySem.W.kitx_bool I.kIn True.intro e (λz=>nomatch z) h
 |int i=>obtain⟨t,q⟩:=(show ∃t,u=Value.int i t from d);cases q;exact PySem.W.kia_one PySem.W.kitx_int I.kIn True.intro e (λz=>nomatch z) h
 |str y=>obtain⟨t,q⟩:=(show ∃t,u=Value.str y t from d);cases q;exact PySem.W.kia_one PySem.W.kitx_str I.kIn True.intro e (λz=>nomatch z) h
 |flt y=>obtain⟨t,q⟩:=(show ∃t,u=Value.float y t from d);cases q;exact PySem.W.kia_one PySem.W.kitx_float I.kIn True.intro e (λz=>nomatch z) h
 | @lst a j ea =>
  cases(show u=Value.ref a from d);obtain⟨_,_,n,_,h1⟩:=(show fC X.prog X.w H s.heap a (.lst j) from I.hok a _ ea);exact PySem.W.kia_one PySem.W.kitx_list I.kIn ⟨_,h1,rfl⟩ e (λz=>nomatch z) h
 | @frz a ob j ea =>
  cases(show u=Value.ref a from d);obtain⟨_,_,_,n,_,h1⟩:=(show fC X.prog X.w H s.heap a (.frz ob (.lst j)) from I.hok a _ ea);exact PySem.W.kia_one PySem.W.kitx_list I.kIn ⟨_,h1,rfl⟩ e (λz=>nomatch z) h
 | @tup a j ea =>
  cases(show u=Value.ref a from d);obtain⟨_,_,_,p⟩:=(show fC X.prog X.w H s.heap a (.tup j) from I.hok a _ ea);obtain⟨o,h1,h2,_⟩:=p;exact PySem.W.kia_one PySem.W.kitx_tuple I.kIn ⟨o,h1,h2⟩ e (λz=>nomatch z) h
 | @dK a kvs ea =>
  cases(show u=Value.ref a from d);obtain⟨_,_,r,_,p⟩:=(show fC X.prog X.w H s.heap a (.dK kvs) from I.hok a _ ea);obtain⟨o,l,m,h1,h2,_⟩:=p;exact PySem.W.kia_one PySem.W.kitx_dict I.kIn ⟨o,h1,h2.1⟩ e (λz=>nomatch z) h
 | @dT a kvs ea =>
  cases(show u=Value.ref a from d);obtain⟨_,_,j,_,o,l,m,h1,h2,_⟩:=(show fC X.prog X.w H s.heap a (.dT kvs) from I.hok a _ ea);exact PySem.W.kia_one PySem.W.kitx_dict I.kIn ⟨o,h1,h2.1⟩ e (λz=>nomatch z) h
 | @ins a C dx fs ea cl ha hn htk hm =>
  cases(show u=Value.ref a from d);obtain⟨F,O,_⟩:=uE I.hok ea;obtain⟨B,J,_⟩:=O.look;exact PySem.W.kia_one (PySem.W.kitx_own (cl.get _) cl.hd ha hn htk hm) I.kIn J e (λz=>nomatch z) h
end
structure bJ(k:Nat)(A:Around):Prop where
 hd:A.handled=none
 dp:A.depth+3 * k+5<recursionLimit
 un:A.units+16 * k+200<cLine
theorem bJ.mono{j k:Nat}{A:Around}(r:bJ k A)(h:j<=k):bJ j A:=⟨r.hd,by have:=r.dp;omega,by have:=r.un;omega⟩
theorem bJ.deeper{k:Nat}{A:Around}(r:bJ (k+1) A)(env:Env):bJ k (A.deeper env):=
 ⟨r.hd,by have:=r.dp;show A.depth+1+3 * k+5<_;omega,by have:=r.un;show A.units+3+16 * k+200<_;omega⟩
theorem RQ{A:Around}{C:Addr}{us:List Value}{c:List (Str×Value)}:(A.under (.builtin "type.__call__" ⟨.ref C::us,c⟩)).depth=A.depth+1:=by
 first | rfl | simp[Around.under,Code.weight,Code.isCreation,Code.isGuard,Code.isCaller,Code.frames,Code.isFrame,guardIds]
theorem RT{A:Around}{C:Addr}{us:List Value}{c:List (Str×Value)}:(A.under (.builtin "type.__call__" ⟨.ref C::us,c⟩)).units=A.units+1:=by
 first | rfl | simp[Around.under,Code.cUnits,Code.frames,Code.isFrame]
theorem bJ.make{k:Nat}{A:Around}(r:bJ (k+1) A)(C:Addr)(us:List Value)(c:List (Str×Value)):bJ k (A.under (.builtin "type.__call__" ⟨.ref C::us,c⟩)):=
 ⟨r.hd,by have:=r.dp;rw[RQ];omega,by have:=r.un;rw[RT];omega⟩
theorem bJ.depth{k:Nat}{A:Around}(r:bJ k A):A.depth<recursionLimit:=by have:=r.dp;omega
theorem bJ.units{k:Nat}{A:Around}(r:bJ k A):A.units+64<cLine:=by have:=r.un;omega
def rF:TA:=λ_ H Q=>Q [] H
def RV(h:TE)(d:TA):TA:=λσ H Q=>h σ H λx l=>d σ l λc j=>Q (x::c) j
section
variable {X:Cx}{e:Expr}{es:List Expr}{te:TE}{t:TA}{pos:Pos}
theorem jN:PA X [] rF:=λ_ _ _ _ H Q I h=>Calls.spliced_nil ⟨[],H,I,.nil,h⟩
theorem iW(d:PE X e te)(c:PA X es t)(hs:starEach (e::es) X.env=(false,eval e X.env)::starEach es X.env:=by rfl):PA X (e::es) (RV te t):=by
 intro pos pins s σ H Q I h;rw[hs];show wpAny _ _ (spliced ((false,eval e X.env)::backTo pos (starEach es X.env))) _ _ s;refine Calls.spliced_cons (thn (d pins s σ H _ I h) λu s1 ⟨x,H1,I1,r1,q1⟩=>?_)
 exact thn (c pos pins s1 σ H1 _ I1 q1) λus s2 ⟨xs,H2,I2,r2,q2⟩=>⟨x::xs,H2,I2,.cons r1 r2,q2⟩
def RW(t:TA):TE:=λσ H Q=>t σ H λc d=>c.length<=sizeLine/\∀p,d p=none->Q (.ref p) (upd d p (.tup c))
def RX(t:TA):TE:=λσ H Q=>t σ H λc d=>c.length<=sizeLine/\∀p,d p=none->Q (.ref p) (upd d p (.lst c))
theorem RZ{x1}(h:PA X es t):PE X (.Tuple es x1 pos) (RW t):=by
 intro pins s σ H Q I c;refine wpAny_Tuple_spliced (thn (h pos pins s σ H _ I c) λus s1 ⟨xs,H1,I1,r,z,q⟩=>⟨by rw[<-r.length];exact z,?_⟩);have d:H1 s1.heap.objs.size=none:=I1.hok.fresh (zc _);refine⟨.ref s1.heap.objs.size,upd H1 s1.heap.objs.size (.tup xs),I1.laid (t':=s1.toks) (λb u e=>zo _ e) (zc _) ?_,rfl,q _ d⟩;exact⟨z,us,r,⟨_,zF _ rfl,rfl,_,rfl⟩⟩
theorem R0(h:PA X es t):PE X (.List es pos) (RX t):=by
 intro pins s σ H Q I c;refine wpAny_List_spliced (thn (h pos pins s σ H _ I c) λus s1 ⟨xs,H1,I1,r,z,q⟩=>⟨by rw[<-r.length];exact z,?_⟩);have d:H1 s1.heap.objs.size=none:=I1.hok.fresh (zc _);refine⟨.ref s1.heap.objs.size,upd H1 s1.heap.objs.size (.lst xs),I1.laid (t':=s1.toks) (λb u e=>zo _ e) (zc _) ?_,rfl,q _ d⟩;exact⟨z,us,0,r,zF _ rfl⟩
end
abbrev Sp:=List V->Hp->VK->XK->Prop
abbrev CXT:=List Env->Hp->Shared->XK->Value->Shared->Prop
structure kJ(P:Program)(w:World)(K:PySem.W.Frag)(mg:Str->Option Value)(base:Heap)(A:Around)(outer:List Env)(s:Shared)(H:Hp):Prop where
 frames:A.frames=some outer
 mod:Mod K mg base
 bs:∀b o,base.get? b=some o->s.heap.get? b=some o/\H b=none
 bsz:base.objs.size<=s.heap.objs.size
 funs:s.heap.FunFrames base outer
 frf:∀b∈frs outer,H b=none
 hok:HOk P w H s.heap
 bare:AllBare s.gens
def CE(outer:List Env)(P:Program)(w:World)(H:Hp)(s:Shared)(Q:VK)(u:Value)(c:Shared):Prop :=
 ∃v d,c.os=s.os/\AllBare c.gens/\Un (frs outer) [] H d s.heap c.heap/\HOk P w d c.heap/\RelV v u/\Q v d
def CR(CX:CXT)(outer:List Env)(P:Program)(w:World)(H:Hp)(s:Shared)(Q:VK)(E:XK)(r:Result)(c:Shared):Prop :=
 match r with
 | .ok (.ret u)=>CE outer P w H s Q u c
 | .ok _=>False
 | .error e=>CX outer H s E e c
structure eU(P:Program)(w:World)(K:PySem.W.Frag)(mg:Str->Option Value)(base:Heap)(CX:CXT)(k:Nat)(f:Addr)(fd:FuncData)(ps:List Str)(sp:Sp):Prop where
 len:∀vs H Q E,sp vs H Q E->vs.length=ps.length
 run:∀(A:Around) (outer:List Env) (s:Shared) (H:Hp) (args:Args) (us:List Value) (vs:List V) (Q:VK) (E:XK),bJ k A->kJ P w K mg base A outer s H->BindsTo s fd args (ps.zip us)->aV vs us->sp vs H Q E ->
  codeAny (model P w) A (.call (.ref f) args) (CR CX outer P w H s Q E) s
theorem eU.imp{P:Program}{w:World}{K:PySem.W.Frag}{mg:Str->Option Value}{base:Heap}{CX:CXT}{k:Nat}{f:Addr}{fd:FuncData}{ps:List Str}{sp c:Sp}(F:eU P w K mg base CX k f fd ps sp)
  (h:∀vs H Q E,c vs H Q E->sp vs H Q E):eU P w K mg base CX k f fd ps c :=
 ⟨λvs H Q E q=>F.len vs H Q E (h _ _ _ _ q),λA outer s H args d vs Q E m n r j l=>F.run A outer s H args d vs Q E m n r j (h _ _ _ _ l)⟩
theorem kJ.make{P:Program}{w:World}{K:PySem.W.Frag}{mg:Str->Option Value}{base:Heap}{A:Around}{outer:List Env}{s:Shared}{H:Hp}(e:kJ P w K mg base A outer s H)(C:Addr)(us:List Value)(c:List (Str×Value)):
  kJ P w K mg base (A.under (.builtin "type.__call__" ⟨.ref C::us,c⟩)) outer s H:=⟨by first | exact e.frames | (simpa [Around.under,Code.envs,Code.isFrame,pushEnvs] using e.frames),e.mod,e.bs,e.bsz,e.funs,e.frf,e.hok,e.bare⟩
section
variable {X:Cx}{pins:List (Addr×Obj)}{σ:St}{H:Hp}{s s':Shared}
theorem Inv.env0(I:Inv X pins σ H s):kJ X.prog X.w X.K X.mg X.base X.A X.stack s H :=
 ⟨I.ok.frames,I.ok.mod,I.bs,zK I.ok.bsz I.sz,I.stack,I.stkFree,I.hok,I.bare⟩
theorem Inv.after{Q:VK}{u:Value}(I:Inv X pins σ H s)(h:CE X.stack X.prog X.w H s Q u s'):EP X pins σ Q u s':=by
 obtain⟨v,l,os,bare,un,hok,r,q⟩:=h;obtain⟨j,g,d,t,c⟩:=s';obtain rfl:c=s.os:=os;exact⟨v,l,I.call (h':=j) (g':=g) (d':=d) (t':=t) (ch:=[]) un hok bare (λb z=>absurd z (by simp)),r,q⟩
end
def rG(sp:Sp)(dvs:List V)(E:XK)(t:TA):TE:=λσ H Q=>t σ H λc d=>sp (c++dvs) d Q E
def xE(C:Addr)(m:Str)(sp:Sp)(dvs:List V)(E:XK)(h:TE)(t:TA):TE:=λσ H Q=>h σ H λx c=>∃a j fs,x=.ref a/\c a=some (.ins C j fs)/\fs.lookup m=none /\
 t σ c λd l=>sp (x::(d++dvs)) l Q E
def xF(C:Addr)(sp:Sp)(dvs:List V)(E:XK)(t:TA):TE:=λσ H Q=>t σ H λh d=>∀x c,d x=none->d c=none->c≠x ->
 sp (.ref x::(h++dvs)) (upd (upd d c (.own x)) x (.ins C c [])) (λv j=>v=.non/\Q (.ref x) j) E
def Binds(K:PySem.W.Frag)(fd:FuncData)(ps:List Str)(ds:List Value):Prop :=
 ∀(s:Shared) (c:List Value),K.In s.heap->(c++ds).length=ps.length->BindsTo s fd ⟨c,[]⟩ (ps.zip (c++ds))
theorem Binds.all{K:PySem.W.Frag}{fd:FuncData}{ps:List Str}(h:∀us:List Value,us.length=ps.length->bindArgs fd ⟨us,[]⟩=pure (ps.zip us)):Binds K fd ps []:=λs us _ c=>by
 rw[zB] at c ⊢;exact .of_eq (h us c)
def lH(CX:CXT)(X:Cx)(E:XK):Prop:=∀(pins:List (Addr×Obj)) (σ:St) (H:Hp) (s:Shared) (e:Value) (c:Shared),Inv X pins σ H s->CX X.stack H s E e c->X.xe e c
section
variable {X:Cx}{CX:CXT}{k:Nat}{f C:Addr}{fd:FuncData}{ps:List Str}{sp:Sp}{dvs:List V}{ds:List Value}{E:XK}{x m:Str}{p pos apos:Pos}{e o:Expr}{es:List Expr}{ta:TE}{t:TA}
theorem uF{pins:List (Addr×Obj)}{σ:St}{H:Hp}{s:Shared}{Q:VK}{us:List Value}{vs:List V}(F:eU X.prog X.w X.K X.mg X.base CX k f fd ps sp)(n:bJ k X.A)(hb:Binds X.K fd ps ds)(hd:aV dvs ds)(l:lH CX X E)
  (I:Inv X pins σ H s) (r:aV vs us) (h:sp (vs++dvs) H Q E):wpAny (model X.prog X.w) X.A (call (.ref f) us) (EP X pins σ Q) X.xe s:=by
 have d:aV (vs++dvs) (us++ds):=r.append hd
 have q:(us++ds).length=ps.length:=by rw[<-d.length];exact F.len _ _ _ _ h
 refine wpAny_call (codeAny_mono (F.run X.A X.stack s H ⟨us,[]⟩ (us++ds) (vs++dvs) Q E n I.env0 (hb s us I.kIn q) d h) λr j c=>?_)
 cases r with
 |error e=>exact l pins σ H s e j I c
 |ok fl =>
  cases fl with
  |ret u=>exact I.after c
  |next=>exact False.elim c
  |brk=>exact False.elim c
  |cont=>exact False.elim c
theorem R1(F:eU X.prog X.w X.K X.mg X.base CX k f fd ps sp)(l:bJ k X.A)(y:Gl X x)(n:X.mg x=some (.ref f))(u:PySem.W.keepIn X.K (.ref f)=true)(hb:Binds X.K fd ps ds)(hd:aV dvs ds)(j:lH CX X E)
  (G:PA X (e::es) t) (d:(x == ("__debug__":Str))=false:=by decide) (B:starEach (e::es) X.env=(false,eval e X.env)::starEach es X.env:=by rfl) (c:(backTo pos (starEach es X.env)).any (·.1)=false:=by rfl):
  PE X (.Call (.Name x p) (e::es) [] pos) (rG sp dvs E t):=by
 intro pins s σ H Q I h;refine wpAny_Call_Name_kw (qW I y n ?_ d);refine PySem.W.callWith_K (h₀:=X.base) I.ok.mod.kin u (thn (G pos pins s σ H _ I h) λus s1 ⟨vs,H1,I1,r,q⟩=>⟨I1.kIn,?_⟩) B c;exact uF F l hb hd j I1 r q
theorem R3(F:eU X.prog X.w X.K X.mg X.base CX k f fd ps sp)(j:bJ k X.A)(q:Gl X x)(l:X.mg x=some (.ref f))(n:PySem.W.keepIn X.K (.ref f)=true)(hb:Binds X.K fd ps ds)(hd:aV dvs ds)(d:lH CX X E)
  (c:(x == ("__debug__":Str))=false:=by decide):PE X (.Call (.Name x p) [] [] pos) (rG sp dvs E rF):=by
 intro pins s σ H Q I h;refine wpAny_Call_Name_kw (qW I q l ?_ c);exact PySem.W.callWith_K0 I.kIn n (uF (us:=[]) F j hb hd d I .nil h)
theorem R4{pl:Sem Bool}(J:PE X o ta)(c:Cls X.K C)(n:rz X.K C m f)(F:eU X.prog X.w X.K X.mg X.base CX k f fd ps sp)(G:bJ k X.A)(hb:Binds X.K fd ps ds)(hd:aV dvs ds)(y:lH CX X E)(L:PA X (e::es) t)
  (d:starEach (e::es) X.env=(false,eval e X.env)::starEach es X.env:=by rfl) (j:(backTo pos (starEach es X.env)).any (·.1)=false:=by rfl)
  (B:eval (.Call (.Attribute o m apos) (e::es) [] pos) X.env=(do
   let ov <-eval o X.env
   standAt apos.atName
   let (f,first) <-holding [ov] (getMethod ov m pl)
   callWith pos f first (backTo pos (starEach (e::es) X.env)) (backToKw pos (keywordEach [] X.env))):=by rfl):
  PE X (.Call (.Attribute o m apos) (e::es) [] pos) (xE C m sp dvs E ta t):=by
 intro pins s σ H Q I h;refine PySem.W.methodCall_KW (pl:=pl) (thn (J pins s σ H _ I h) λu s1 ⟨x,H1,I1,rx,a,dx,fs,ex,ea,l,q⟩=>?_) B;subst ex;obtain rfl:u=Value.ref a:=rx;refine Ht I1 ea c n l ?_;refine PySem.W.callWith_K (first:=[.ref a]) (h₀:=X.base) I.ok.mod.kin n.kp (thn (L pos pins s1 σ H1 _ I1 q) λus s2 ⟨vs,H2,I2,r,q2⟩=>⟨I2.kIn,?_⟩) d j;exact uF (us:=.ref a::us) (vs:=.ref a::vs) F G hb hd y I2 (.cons rfl r) q2
theorem R5{pl:Sem Bool}(y:PE X o ta)(c:Cls X.K C)(d:rz X.K C m f)(F:eU X.prog X.w X.K X.mg X.base CX k f fd ps sp)(r:bJ k X.A)(hb:Binds X.K fd ps ds)(hd:aV dvs ds)(j:lH CX X E)
  (n:eval (.Call (.Attribute o m apos) [] [] pos) X.env=(do
   let ov <-eval o X.env
   standAt apos.atName
   let (f,first) <-holding [ov] (getMethod ov m pl)
   callWith pos f first (backTo pos (starEach [] X.env)) (backToKw pos (keywordEach [] X.env))):=by rfl):
  PE X (.Call (.Attribute o m apos) [] [] pos) (xE C m sp dvs E ta rF):=by
 intro pins s σ H Q I h;refine PySem.W.methodCall_KW (pl:=pl) (thn (y pins s σ H _ I h) λu s1 ⟨x,H1,I1,rx,a,dx,fs,ex,ea,l,q⟩=>?_) n;subst ex;obtain rfl:u=Value.ref a:=rx;refine Ht I1 ea c d l ?_;exact PySem.W.callWith_K0 (first:=[.ref a]) I1.kIn d.kp (uF (us:=[.ref a]) (vs:=[.ref a]) F r hb hd j I1 (.cons rfl .nil) q)
structure Mk(K:PySem.W.Frag)(C f:Addr):Prop where
 makes:PySem.W.makesIn K C=true
 init:PySem.W.findIn K (.ref C) "__init__" = some (some (.ref f))
 fn:PySem.W.isFn K (.ref f)=true
 kp:PySem.W.keepIn K (.ref C)=true
theorem Hu{pins:List (Addr×Obj)}{σ:St}{H:Hp}{s:Shared}{Q:VK}{us:List Value}{vs:List V}(M:Mk X.K C f)(F:eU X.prog X.w X.K X.mg X.base CX k f fd ps sp)(J:bJ (k+1) X.A)(hb:Binds X.K fd ps ds)(hd:aV dvs ds)
  (G:lH CX X E) (I:Inv X pins σ H s) (r:aV vs us)
  (h:∀x d,H x=none->H d=none->d≠x->sp (.ref x::(vs++dvs)) (upd (upd H d (.own x)) x (.ins C d [])) (λv R=>v=.non/\Q (.ref x) R) E):
  wpAny (model X.prog X.w) X.A (call (.ref C) us) (EP X pins σ Q) X.xe s:=by
 have n:=h (s.heap.objs.size+1) s.heap.objs.size (I.hok.fresh (Nat.le_succ _)) (I.hok.fresh (zc _)) (zt (jg _));have j:=Inv.made (C:=C) I;have l:aV (V.ref (s.heap.objs.size+1)::(vs++dvs)) (Value.ref (s.heap.objs.size+1)::(us++ds)):=.cons rfl (r.append hd)
 have L:(Value.ref (s.heap.objs.size+1)::us++ds).length=ps.length:=by
  have e:=l.length;rw[F.len _ _ _ _ n] at e;exact e.symm
 refine wpAny_call (RC (f:=f) I.kIn M.makes M.init (beq_iff_eq.mp M.fn) (codeAny_mono (F.run _ X.stack _ _ ⟨Value.ref (s.heap.objs.size+1)::us,[]⟩ (Value.ref (s.heap.objs.size+1)::(us++ds)) _ _ E (J.make C us [])
  (j.env0.make C us []) (hb _ (Value.ref (s.heap.objs.size+1)::us) j.kIn L) l n) λr q c=>?_))
 cases r with
 |error e=>exact G pins σ _ _ e q j c
 |ok fl =>
  cases fl with
  |ret u =>
   obtain⟨v,T,P,y,O,B⟩:=j.after c;subst O;exact⟨y,⟨V.ref (s.heap.objs.size+1),T,P,rfl,B⟩⟩
  |next=>exact False.elim c
  |brk=>exact False.elim c
  |cont=>exact False.elim c
theorem R6(M:Mk X.K C f)(F:eU X.prog X.w X.K X.mg X.base CX k f fd ps sp)(l:bJ (k+1) X.A)(u:Gl X x)(n:X.mg x=some (.ref C))(hb:Binds X.K fd ps ds)(hd:aV dvs ds)(j:lH CX X E)
  (B:PA X (e::es) t) (d:(x == ("__debug__":Str))=false:=by decide) (y:starEach (e::es) X.env=(false,eval e X.env)::starEach es X.env:=by rfl) (c:(backTo pos (starEach es X.env)).any (·.1)=false:=by rfl):
  PE X (.Call (.Name x p) (e::es) [] pos) (xF C sp dvs E t):=by
 intro pins s σ H Q I h;refine wpAny_Call_Name_kw (qW I u n ?_ d);refine PySem.W.callWith_K (h₀:=X.base) I.ok.mod.kin M.kp (thn (B pos pins s σ H _ I h) λus s1 ⟨vs,H1,I1,r,q⟩=>⟨I1.kIn,?_⟩) y c;exact Hu M F l hb hd j I1 r q
theorem R7(M:Mk X.K C f)(F:eU X.prog X.w X.K X.mg X.base CX k f fd ps sp)(j:bJ (k+1) X.A)(n:Gl X x)(l:X.mg x=some (.ref C))(hb:Binds X.K fd ps ds)(hd:aV dvs ds)(d:lH CX X E)
  (c:(x == ("__debug__":Str))=false:=by decide):PE X (.Call (.Name x p) [] [] pos) (xF C sp dvs E rF):=by
 intro pins s σ H Q I h;refine wpAny_Call_Name_kw (qW I n l ?_ c);exact PySem.W.callWith_K0 I.kIn M.kp (Hu (us:=[]) M F j hb hd d I .nil h)
end
section
variable {X:Cx}{CX:CXT}{k:Nat}{f C:Addr}{fd:FuncData}{ps ks:List Str}{sp:Sp}{E:XK}{x m:Str}{p pos apos kpos:Pos}{e o:Expr}{es:List Expr}{kws:List Keyword}{te ta:TE}{t tk:TA}{nm:Option Str}
structure Qzr(K:PySem.W.Frag)(fd:FuncData)(ps ks:List Str)(g:List Value->List Value->List Value)(gV:List V->List V->List V):Prop where
 to:∀(s:Shared) (us ws:List Value),K.In s.heap->(g us ws).length=ps.length->BindsTo s fd ⟨us,ks.zip ws⟩ (ps.zip (g us ws))
 rel:∀{vs:List V}{us:List Value}{zs:List V}{ws:List Value},aV vs us->aV zs ws->aV (gV vs zs) (g us ws)
variable {g:List Value->List Value->List Value}{gV:List V->List V->List V}
end
structure bU(N P:List Str)(sc:Scope):Prop where
 kind:sc.kind=.function
 co:sc.isCoroutine=false
 gen:sc.isGenerator=false
 nd:N.Nodup
 pre:N.take P.length=P
 par:∀x∈P,sc.names.lookup x=some .local\/sc.names.lookup x=some .cell
 nofree:∀y∈sc.names,y.2≠.free
theorem Hv{kindOf:Str->Option NameKind}{x:Str}:∀{binds:List (Str×Value)}{m:Str->Option Value},(∀v,(x,v)∉binds)->bindL kindOf binds m x=m x
 | [],_,_=>rfl
 | (n,v)::r,m,h=>by
  unfold bindL;rw[Hv λw c=>h w (zr _ c)]
  split
  ·have:x≠n:=by rintro rfl;exact h v zp
   simp[this]
  ·rfl
theorem Hw{kindOf:Str->Option NameKind}{x:Str}:∀{binds:List (Str×Value)}{m:Str->Option Value},(∀v,(x,v)∉binds)->bindC kindOf binds m x=m x
 | [],_,_=>rfl
 | (n,v)::r,m,h=>by
  unfold bindC;rw[Hw λw c=>h w (zr _ c)]
  split
  ·rfl
  ·have:x≠n:=by rintro rfl;exact h v zp
   simp[this]
theorem Hx{kindOf:Str->Option NameKind}{x:Str}{v:Value}:∀{P:List Str}{vs:List Value}{i:Nat}{m:Str->Option Value},P.Nodup->P[i]?=some x->vs[i]?=some v->kindOf x=some .local ->
  bindL kindOf (P.zip vs) m x=some v
 | [],_,_,_,_,h,_,_=>by simp at h
 | _::_,[],_,_,_,_,h,_=>by simp at h
 |p::P,w::vs,0,m,nd,h1,h2,hk=>by
  simp at h1 h2;subst h1;subst h2
  show bindL kindOf ((p,w)::P.zip vs) m p=_;unfold bindL;rw[Hv λv c=>(List.nodup_cons.mp nd).1 (List.of_mem_zip c).1,if_pos hk];simp
 |p::P,w::vs,i+1,m,nd,h1,h2,hk=>by
  show bindL kindOf ((p,w)::P.zip vs) m x=_;unfold bindL;exact Hx (i:=i) (List.nodup_cons.mp nd).2 (by simpa using h1) (by simpa using h2) hk
theorem Hy{kindOf:Str->Option NameKind}{x:Str}{v:Value}:∀{P:List Str}{vs:List Value}{i:Nat}{m:Str->Option Value},P.Nodup->P[i]?=some x->vs[i]?=some v->kindOf x≠some .local ->
  bindC kindOf (P.zip vs) m x=some v
 | [],_,_,_,_,h,_,_=>by simp at h
 | _::_,[],_,_,_,_,h,_=>by simp at h
 |p::P,w::vs,0,m,nd,h1,h2,hk=>by
  simp at h1 h2;subst h1;subst h2
  show bindC kindOf ((p,w)::P.zip vs) m p=_;unfold bindC;rw[Hw λv c=>(List.nodup_cons.mp nd).1 (List.of_mem_zip c).1,if_neg hk];simp
 |p::P,w::vs,i+1,m,nd,h1,h2,hk=>by
  show bindC kindOf ((p,w)::P.zip vs) m x=_;unfold bindC;exact Hy (i:=i) (List.nodup_cons.mp nd).2 (by simpa using h1) (by simpa using h2) hk
def start(N:List Str)(vs:List V):St:=vs.map some++List.replicate (N.length - vs.length) none
def jO(CX:CXT)(P:Program)(w:World)(K:PySem.W.Frag)(mg:Str->Option Value)(base:Heap)(N:List Str)(qual:Str)(scope:Scope)(f:Addr)(cd:Value)(A:Around)(outer:List Env)(s:Shared)(H:Hp)(E:XK):Cx where
 prog:=P
 w:=w
 K:=K
 mg:=mg
 base:=base
 A:=A.deeper (envOfC qual scope s.heap.objs.size f cd)
 N:=N
 s₀:=s
 H₀:=H
 env:=envOfC qual scope s.heap.objs.size f cd
 outer:=outer
 stack:=envOfC qual scope s.heap.objs.size f cd::outer
 ex:=[]
 calm:=true
 fn:=λ_=>true
 pn:=[]
 xe:=λe s'=>wpAny (model P w) (A.deeper (envOfC qual scope s.heap.objs.size f cd)) (leaving (envOfC qual scope s.heap.objs.size f cd) e) (λ_ s''=>CX outer H s E e s'') (λe' s''=>CX outer H s E e' s'') s'
theorem Hz{d:Scope}{n:Nat}{x:Str}(h:d.names.lookup x=some .cell):∃c,(cellsFrom n d.names []).lookup x=some c:=by
 have q:=PySem.W.cellsFrom_some d.names n [] (.inl h);exact Option.isSome_iff_exists.mp q
theorem R8{CX:CXT}{P:Program}{w:World}{K:PySem.W.Frag}{mg:Str->Option Value}{base:Heap}{N ps:List Str}{qual:Str}{scope:Scope}{f:Addr}{C:Value}{A:Around}{outer:List Env}{s F:Shared}{H:Hp}{E:XK}{us:List Value}{vs:List V}
  (S:bU N ps scope) (hd:A.handled=none) (d:kJ P w K mg base A outer s H) (Q:vs.length=ps.length) (r:aV vs us)
  (x:InCallC s s.heap.objs.size (bindL (envOfC qual scope s.heap.objs.size f C).kindOf (ps.zip us) λ_=>none) (cellsFrom (s.heap.objs.size+1) scope.names []) (bindC (envOfC qual scope s.heap.objs.size f C).kindOf (ps.zip us) λ_=>none) F):
  Inv (jO CX P w K mg base N qual scope f C A outer s H E) [] (start N vs) H F:=by
 have O:ps.length<=N.length:=by have:=congrArg List.length S.pre;rw[List.length_take] at this;omega
 obtain⟨h1,tk,rfl,I⟩:=x.done
 have l:∀b:Addr,b∉(jO CX P w K mg base N qual scope f C A outer s H E).ex:=λb z=>absurd (show b∈([]:List Addr) from z) (by simp)
 refine⟨⟨d.mod,S.kind,rfl,rfl,zc _,λy z c h1 h2=>?_,λy j=>?_,λy c _ h=>?_,λ_=>hd,Around.frames_deeper d.frames,.inr ⟨rfl,rfl⟩,λb z=>absurd z (l b),d.bs,d.bsz,λb _ _=>l b,λb z=>absurd z (l b),d.funs,d.frf⟩,
  rfl,d.bare,Un.kept I,⟨_,x.toInCall.ns,λi y v h1 h2 h3=>?_⟩,λy c h=>⟨_,x.cell y c h⟩,d.hok.fresh (zc _),λy c h=>?_,λp m=>absurd (show p∈([]:List (Addr×Obj)) from m) (by simp),d.hok.kept I,?_⟩
 ·exact name_of_addr x.apart (PySem.mem_of_lookup h1) (PySem.mem_of_lookup h2)
 ·have j:scope.names.lookup y=some .cell\/scope.names.lookup y=some .free:=j
  rcases j with j | j
  ·exact Hz j
  ·exact absurd rfl (S.nofree _ (PySem.mem_of_lookup j))
 ·exact Nat.le_of_lt (x.above y c (PySem.mem_of_lookup h))
 ·have B:i<vs.length:=by
   unfold start at h2
   by_cases B:i<vs.length
   ·exact B
   ·rw[zv (by simpa using B)] at h2;rw[List.getElem?_replicate] at h2
    split at h2<;>cases h2
  have L:vs[i]?=some v:=by
   unfold start at h2;rw[zC (by simpa using B),zG] at h2
   cases e:vs[i]? with
   |none=>rw[e] at h2;cases h2
   |some a=>rw[e] at h2;cases h2;rfl
  obtain⟨u,G,J⟩:=r.get L
  have m:ps[i]?=some y:=by
   rw[<-S.pre,List.getElem?_take_of_lt (by omega)];exact h1
  have t:ps.Nodup:=by rw[<-S.pre];exact S.nd.sublist (List.take_sublist _ _)
  refine⟨u,J,?_⟩
  rcases S.par y (zS m) with k | k
  ·exact .inl ⟨k,Hx t m G k⟩
  ·obtain⟨c,e⟩:=Hz (n:=s.heap.objs.size+1) k;refine .inr ⟨.inl k,c,e,?_⟩;have q:=x.cell y c e;rw[Hy t m G (by show scope.names.lookup y≠_;rw[k];decide)] at q;exact q
 ·exact d.hok.fresh (Nat.le_of_lt (x.above y c (PySem.mem_of_lookup h)))
 ·unfold start;show _=N.length;rw[zd,ze,List.length_replicate];omega
theorem R9{CX:CXT}{P:Program}{w:World}{K:PySem.W.Frag}{mg:Str->Option Value}{base:Heap}{k:Nat}{f:Addr}{name qual:Str}{params:Arguments}{body:List Stmt}{scope:Scope}{Y kV F pm c ct oc:Value}{Z od:Option Addr}
  {R:Array (Option Value)}{N ps:List Str}{sp:Sp} (lk:K.lookup f=some ⟨oc,od,.func (PySem.W.fnOf name qual params body scope Y kV F pm Z c ct),R⟩) (U:PySem.W.codeIn K c qual=true) (S:bU N ps scope)
  (len:∀vs H Q E,sp vs H Q E->vs.length=ps.length)
  (l:∀(A:Around) (outer:List Env) (s:Shared) (H:Hp) (vs:List V) (Q:VK) (E:XK),bJ k (A.deeper (envOfC qual scope s.heap.objs.size f c))->sp vs H Q E ->
   ∃t,PSs (jO CX P w K mg base N qual scope f c A outer s H E) body t/\t {nx:=λ_ h=>Q .non h,rt:=Q} (start N vs) H):
  eU P w K mg base CX (k+1) f (PySem.W.fnOf name qual params body scope Y kV F pm Z c ct) ps sp:=by
 refine⟨len,λA outer s H args us vs Q E O B hb r C=>?_⟩;have hl:=len _ _ _ _ C
 have KX:K.In s.heap:=B.mod.kin.keeps λb o e=>(B.bs b o e).1
 have T:s.heap.NoLimit:=B.mod.nolimit.keeps λb o e=>(B.bs b o e).1
 have j:∀y∈ps.zip us,scope.names.lookup y.1=some .local\/(scope.names.lookup y.1=some .cell/\((cellsFrom (s.heap.objs.size+1) scope.names []).lookup y.1).isSome=true):=λ⟨n,v⟩ hy=>by
  rcases S.par n (List.of_mem_zip hy).1 with q | q
  ·exact .inl q
  ·exact .inr ⟨q,PySem.W.cellsFrom_some _ _ _ (.inl q)⟩
 refine codeAny_call_function O.depth (KX _ _ lk) rfl S.co S.gen rfl (PySem.W.codeRec_of KX U) (hb _ _ _ _ ?_)
 refine wpAny_newFunctionEnv_cells S.kind j λenv he X x=>?_
 subst he;refine⟨T.keeps x.toInCall.keep,codeAny_func ?_⟩;obtain⟨t,ht,hq⟩:=l A outer s H vs Q E (O.deeper _) C;have I:Inv (jO CX P w K mg base N qual scope f c A outer s H E) [] (start N vs) H X:=R8 S O.hd B hl r x
 refine zY (ht [] X (start N vs) H _ I hq) (λfl G m=>?_) λe G m=>m
 have fin:∀{d:St}{h:Hp}{v:V}{u:Value},Inv (jO CX P w K mg base N qual scope f c A outer s H E) [] d h G->RelV v u->Q v h->CE outer P w H s Q u G :=
  λ{d h v u} J L q=>⟨v,h,J.os,J.bare,J.base,J.hok,L,q⟩
 cases fl with
 |ret u =>
  obtain⟨v,d,h,J,L,q⟩:=m;exact fin J L q
 |next =>
  obtain⟨d,h,J,q⟩:=m;exact fin (v:=V.non) (u:=Value.none) J rfl q
 |brk =>
  obtain⟨_,_,_,q⟩:=m;exact False.elim q
 |cont =>
  obtain⟨_,_,_,q⟩:=m;exact False.elim q
section
variable {X:Cx}{x:Str}{p pos:Pos}{e:Expr}{es:List Expr}{t:TA}{id T:String}{r:List V->Hp->VK->Prop}
def tCB(r:List V->Hp->VK->Prop)(t:TA):TE:=λσ H Q=>t σ H λc d=>r c d Q
theorem xG(q:lG X (.builtin id) r)(m:Gl X x)(l:X.mg x=none)(hv:bootBuiltins x=some (.builtin id))(u:PA X (e::es) t)(j:x≠"__name__":=by decide)(d:(x == ("__debug__":Str))=false:=by decide)
  (n:starEach (e::es) X.env=(false,eval e X.env)::starEach es X.env:=by rfl) (c:(backTo pos (starEach es X.env)).any (·.1)=false:=by rfl):PE X (.Call (.Name x p) (e::es) [] pos) (tCB r t):=by
 intro pins s σ H Q I h;refine wpAny_Call_Name_kw (nO I m l hv ?_ j d);exact PyProof.Rows.callWith_builtin1 (thn (u pos pins s σ H _ I h) λus s1 ⟨vs,H1,I1,r1,q1⟩=>q pins s1 σ H1 vs us Q I1 r1 q1) n c
theorem HB(q:lG X (.type T) r)(m:Gl X x)(l:X.mg x=none)(hv:bootBuiltins x=some (.type T))(u:PA X (e::es) t)(j:x≠"__name__":=by decide)(d:(x == ("__debug__":Str))=false:=by decide)
  (n:starEach (e::es) X.env=(false,eval e X.env)::starEach es X.env:=by rfl) (c:(backTo pos (starEach es X.env)).any (·.1)=false:=by rfl):PE X (.Call (.Name x p) (e::es) [] pos) (tCB r t):=by
 intro pins s σ H Q I h;refine wpAny_Call_Name_kw (nO I m l hv ?_ j d);exact PyProof.Rows.callWith_type1 (thn (u pos pins s σ H _ I h) λus s1 ⟨vs,H1,I1,r1,q1⟩=>q pins s1 σ H1 vs us Q I1 r1 q1) n c
end
end L2
namespace HT
open PySem PyProof.Rows
section
open PySem.SeqAt
open PySem.AutoSeq1 (wpAny_loadPart')
open PySem.MeetsSeq PySem.MeetsSeq2 PySem.MeetsSeq3
end
section
variable {prog:Program}{w:World}{A:Around}{E:Value->Shared->Prop}{s:Shared}
theorem cat_tup{t b:Addr}{vs c:List Value}{Q:Value->Shared->Prop}(C:IsTup s.heap t vs.toArray)(hb:IsTup s.heap b c.toArray)(hv:vs≠[])
  (h1:c=[]->Q (.ref t) s) (h2:c≠[]->Q (.ref s.heap.objs.size) {s with heap:=s.heap.push {cls:=.type "tuple",data:=.seq (vs++c).toArray}})
  (hsz:vs.length+c.length<=sizeLine):wpAny (model prog w) A (binaryOp .Add (.ref t) (.ref b)) Q E s:=by
 obtain⟨⟨cls,y,data,sl⟩,r,x,n,hd⟩:=id C;obtain⟨⟨B,m,data2,h⟩,d,l,u,j⟩:=id hb;simp only at x hd l j;subst x hd l j
 have e:vs.toArray++c.toArray=(vs++c).toArray:=by simp
 by_cases q:c=[]
 ·exact concat_meets ⟨_,r,rfl⟩ ⟨_,d,rfl⟩ noFill_tuple_add seq_tuple_add PySem.F.slot_tuple_add PySem.F.entry_tuple_add (PySem.F.args_tuple_add_2 _ _)
   (tuple_addW1 t b vs.toArray c.toArray n u y m sl h (by simpa using hv) (by simp[q])) ⟨r,d,h1 q⟩
 ·refine concat_meets ⟨_,r,rfl⟩ ⟨_,d,rfl⟩ noFill_tuple_add seq_tuple_add PySem.F.slot_tuple_add PySem.F.entry_tuple_add (PySem.F.args_tuple_add_2 _ _)
   (tuple_addW2 t b vs.toArray c.toArray n u y m sl h (by simpa using hv) (by simpa using q) (by rw[zA,zA];exact hsz)) ⟨r,d,?_⟩
  rw[e];exact h2 q
def sIx(n d:Nat):Option Int->Nat
 |none=>d
 |some v=>if v<0 then(v+(n:Int)).toNat else min v.toNat n
theorem sIx_none(n d:Nat):sIx n d none=d:=rfl
theorem sIx_nat(n d k:Nat):sIx n d (some (k:Int))=min k n:=by
 show(if(k:Int)<0 then((k:Int)+(n:Int)).toNat else min (k:Int).toNat n)=min k n;rw[if_neg (by omega),Int.toNat_natCast]
theorem sIx_le(n d:Nat)(hd:d<=n)(o:Option Int):sIx n d o<=n:=by
 cases o with
 |none=>exact hd
 |some v =>
  show(if v<0 then(v+(n:Int)).toNat else min v.toNat n)<=n
  by_cases c:v<0
  ·rw[if_pos c];omega
  ·rw[if_neg c];exact Nat.min_le_right _ _
theorem HD(v:Int)(n d:Nat):(if v<0 then max (v+(n:Int)) 0 else min v (n:Int))=((sIx n d (some v):Nat):Int):=by
 show(if v<0 then max (v+(n:Int)) 0 else min v (n:Int))=(((if v<0 then(v+(n:Int)).toNat else min v.toNat n):Nat):Int)
 by_cases c:v<0
 ·simp only[if_pos c];omega
 ·simp only[if_neg c];omega
theorem Sd(lo hi:Option Int)(n:Nat):Builtin.Slice.sliceAdjust lo hi 1 (n:Int)=(((sIx n 0 lo:Nat):Int),((sIx n n hi:Nat):Int)):=by
 have h1:¬((1:Int)<0):=by omega
 unfold Builtin.Slice.sliceAdjust;simp only[h1,if_false];refine Prod.ext ?_ ?_
 ·cases lo with
  |none=>rfl
  |some v=>exact HD v n 0
 ·cases hi with
  |none=>rfl
  |some v=>exact HD v n n
theorem Sg(i j:Nat):Builtin.Slice.slicePlaces (i:Int) (j:Int) 1=j - i:=by
 unfold Builtin.Slice.slicePlaces
 have h1:(1:Int)>0:=by omega
 simp only[h1,if_true,Int.ediv_one]
 split<;>omega
theorem HF{v:Value}{o:Option Int}{Q:Option Int->Shared->Prop}(p:IsPart v o)(h:Q o s):wpAny (model prog w) A (Builtin.Slice.slicePartIndex v) Q E s:=by
 cases p with
 |none=>exact slicePart_none h
 |int i t=>exact slicePart_int h
theorem sliceApplied_gen{sl:Addr}{vl j:Value}{lo hi:Option Int}{n:Nat}{Q:Int×Int×Nat->Shared->Prop}(hs:s.heap.IsSliceOf sl vl j .none)(pl:IsPart vl lo)(l:IsPart j hi)
  (h:Q (((sIx n 0 lo:Nat):Int),1,sIx n n hi - sIx n 0 lo) s):wpAny (model prog w) A (Builtin.Slice.sliceApplied (.ref sl) (pure (n:Int))) Q E s:=by
 obtain⟨os,c,m,d⟩:=id hs;unfold Builtin.Slice.sliceApplied Builtin.Slice.sliceFields;refine za (za (wpAny_field c d (x:=vl) rfl (za (wpAny_field c d (x:=j) rfl (za (wpAny_field c d (x:=.none) rfl (zb ?_)))))));refine za (slicePart_none ?_);show wpAny _ _ (if((1:Int) == 0)=true then _ else _) _ _ s;rw[if_neg (by decide)];refine za (HF pl (za (HF l (za (zb ?_)))));show wpAny _ _ (match Builtin.Slice.sliceAdjust lo hi 1 (n:Int) with | (lo,hi)=>pure (lo,(1:Int),Builtin.Slice.slicePlaces lo hi 1)) _ _ s;rw[Sd lo hi n];show wpAny _ _ (pure (((sIx n 0 lo:Nat):Int),(1:Int),Builtin.Slice.slicePlaces ((sIx n 0 lo:Nat):Int) ((sIx n n hi:Nat):Int) 1)) _ _ s
 rw[Sg];exact zb h
theorem Sh(xs:Array Value)(i k:Nat):((List.range k).filterMap λ(m:Nat)=>xs[((i:Int)+(m:Int) * 1).toNat]?).toArray=((xs.toList.drop i).take k).toArray:=by
 have e:(λ(m:Nat)=>xs[((i:Int)+(m:Int) * 1).toNat]?)=λm=>xs[i+m]?:=by
  funext m
  have:((i:Int)+(m:Int) * 1).toNat=i+m:=by omega
  rw[this]
 rw[e]
 have:=pick_run xs i k
 rw[List.filterMap_map] at this
 have c:((λx=>xs[x]?) ∘ λx=>i+x)=λm=>xs[i+m]?:=rfl
 rw[c] at this;rw[this]
theorem getItem_tuple_cut{t sl:Addr}{items:Array Value}{vl u:Value}{lo hi:Option Int}{Q:Value->Shared->Prop}(d:IsTup s.heap t items)(hs:s.heap.IsSliceOf sl vl u .none)(pl:IsPart vl lo)(x:IsPart u hi)
  (y:¬(sIx items.size 0 lo=0/\sIx items.size items.size hi=items.size))
  (h:Q (.ref s.heap.objs.size) {s with heap:=s.heap.push {cls:=.type "tuple",data:=.seq ((items.toList.drop (sIx items.size 0 lo)).take (sIx items.size items.size hi - sIx items.size 0 lo)).toArray}})
  (hsz:items.size<=sizeLine):wpAny (model prog w) A (getItem (.ref t) (.ref sl)) Q E s:=by
 have c:sizeOk (.seq ((items.toList.drop (sIx items.size 0 lo)).take (sIx items.size items.size hi - sIx items.size 0 lo)).toArray):=by
  show((items.toList.drop (sIx items.size 0 lo)).take (sIx items.size items.size hi - sIx items.size 0 lo)).toArray.size<=sizeLine;rw[zA,List.length_take,List.length_drop,Array.length_toList];omega
 have G:sIx items.size items.size hi<=items.size:=sIx_le _ _ (zc _) hi;obtain⟨os,j,n,B⟩:=id hs;have r:s.TypeIs (.ref sl) "slice":=⟨os,j,n⟩;unfold getItem
 try with_reducible refine jd ?_
 first | refine za (zb ?_) | skip
 refine za (wpAny_sequenceKey d.typeIs (by decide) ?_)
 refine za (wpAny_callSpecial?_slot (name:=Str.ofString "__getitem__") d.typeIs PyProof.Rows.slot_tuple_getitem
  (wpAny_call_entry PyProof.Rows.slot_tuple_getitem d.typeIs entry_tuple_getitem ?_ (args_tuple_getitem _ _)))
 show wpAny _ _ (Builtin.Tuple.tupleItemsOf (.ref t) >>= _) _ _ s;refine za (tupleItemsOf_ d ?_);refine za (wpAny_typeOf r ?_);rw[if_pos (by decide)];refine za (sliceApplied_gen hs pl x ?_)
 have l:¬((((sIx items.size 0 lo:Nat):Int) == 0&&(1:Int) == 1&&(sIx items.size items.size hi - sIx items.size 0 lo) == items.size)=true):=by
  intro q;rw[zy,zy] at q;have F:((sIx items.size 0 lo:Nat):Int)=0:=eq_of_beq q.1.1;have C:sIx items.size items.size hi - sIx items.size 0 lo=items.size:=eq_of_beq q.2;exact y ⟨by omega,by omega⟩
 show wpAny _ _ (if(((sIx items.size 0 lo:Nat):Int) == 0&&(1:Int) == 1&&(sIx items.size items.size hi - sIx items.size 0 lo) == items.size)=true then _ else _) _ _ s;rw[if_neg l,Sh]
 first
  | exact za (m:=Builtin.Tuple.tupleExact _) (wpAny_newObj_type (zb ⟨_,rfl,zb h⟩) c)
  | exact za (m:=Builtin.Tuple.tupleExact _) (wpAny_newObj_type (za (zb (zb ⟨_,rfl,zb h⟩))) c)
  | exact za (za (m:=Builtin.Tuple.tupleExact _) (wpAny_newObj_type (zb (zb ⟨_,rfl,zb h⟩)) c))
  | exact za (za (m:=Builtin.Tuple.tupleExact _) (wpAny_newObj_type (zb ⟨_,rfl,zb h⟩) c))
end
end HT
namespace L2
open PySem PySem.Spec PyProof.Rows
abbrev TO:=St->Hp->(Option Int->Hp->Prop)->Prop
def PO(X:Cx)(e:Option Expr)(t:TO):Prop :=
 ∀(pins:List (Addr×Obj)) (s:Shared) (σ:St) (H:Hp) (Q:Option Int->Hp->Prop),Inv X pins σ H s->t σ H Q ->
  wpAny (model X.prog X.w) X.A (evalPart e X.env) (λu d=>∃o c,Inv X pins σ c d/\IsPart u o/\Q o c) X.xe s
def Ss:TO:=λ_ H Q=>Q none H
def Su(t:TE):TO:=λσ H Q=>t σ H λx c=>∃i,x=.int i/\Q (some i) c
section
variable {X:Cx}{e:Expr}{te:TE}{lo hi:Option Expr}{tl th:TO}{pos p2:Pos}
theorem Sw:PO X none Ss:=by
 intro pins s σ H Q I h;rw[evalPart_none];exact zb ⟨none,H,I,.none,h⟩
theorem Sx(h:PE X e te):PO X (some e) (Su te):=by
 intro pins s σ H Q I c;rw[evalPart_some]
 refine thn (h pins s σ H _ I c) λu s1 ⟨x,H1,I1,r1,q1⟩=>?_
 obtain⟨i,rfl,q⟩:=q1;obtain⟨t,rfl⟩:=r1;exact⟨some i,H1,I1,.int i t,q⟩
def SlR(X:Cx)(r:V->Option Int->Option Int->Hp->VK->Prop):Prop :=
 ∀(pins:List (Addr×Obj)) (s:Shared) (σ:St) (H:Hp) (x:V) (v vl c:Value) (lo hi:Option Int) (sl:Addr) (Q:VK),Inv X pins σ H s->RelV x v->s.heap.IsSliceOf sl vl c .none->IsPart vl lo->IsPart c hi->r x lo hi H Q ->
  ∃T d,typeLookup (.type T) "__getitem__" = pure (some (.builtin d))/\s.TypeIs v T/\wpAny (model X.prog X.w) X.A (getItem v (.ref sl)) (EP X pins σ Q) X.xe s
def tSl(r:V->Option Int->Option Int->Hp->VK->Prop)(te:TE)(tl th:TO):TE:=λσ H Q=>te σ H λx h=>tl σ h λl d=>th σ d λu c=>r x l u c Q
theorem Sy{r:V->Option Int->Option Int->Hp->VK->Prop}(j:SlR X r)(t:PE X e te)(m:PO X lo tl)(c:PO X hi th):PE X (.Subscript e (.Slice lo hi none p2) pos) (tSl r te tl th):=by
 intro pins s σ H Q I h;refine Subscript_ (thn (t pins s σ H _ I h) λv s1 ⟨x,H1,I1,r1,q1⟩=>?_);refine wpAny_Slice (thn (m pins s1 σ H1 _ I1 q1) λvl s2 ⟨l,H2,I2,pl,q2⟩=>thn (c pins s2 σ H2 _ I2 q2) λvu s3 ⟨u,H3,I3,pu,q3⟩=>?_);rw[evalPart_none];refine zb ?_
 have B:Inv X pins σ H3 {s3 with heap:=s3.heap.push {cls:=.type "slice",data:=.fields #[vl,vu,.none]}}:=I3.kept (t':=s3.toks) λb ob q=>zo _ q
 obtain⟨T,C,y,d,n⟩:=j pins {s3 with heap:=s3.heap.push {cls:=.type "slice",data:=.fields #[vl,vu,.none]}} σ H3 x v vl vu l u s3.heap.objs.size Q B r1 (Heap.IsSliceOf.new ..) pl pu q3;show wpAny (model X.prog X.w) X.A (subscriptTail e (.Slice lo hi none p2) v (.ref s3.heap.objs.size)) (EP X pins σ Q) X.xe {s3 with heap:=s3.heap.push {cls:=.type "slice",data:=.fields #[vl,vu,.none]}};exact tail_any (ops:=[.ref s3.heap.objs.size,v]) d y n (by with_unfolding_all rfl)
def lJ(xs:List V)(lo hi:Option Int):List V:=(xs.drop (HT.sIx xs.length 0 lo)).take (HT.sIx xs.length xs.length hi - HT.sIx xs.length 0 lo)
theorem HH(xs:List V)(lo hi:Option Int):(lJ xs lo hi).length<=xs.length:=by
 unfold lJ;rw[List.length_take,List.length_drop];omega
def SJ(K:PySem.W.Frag):V->Option Int->Option Int->Hp->VK->Prop:=λx lo hi H Q=>∃a c,x=.ref a/\SqT K H a c /\
 ¬(HT.sIx c.length 0 lo=0/\HT.sIx c.length c.length hi=c.length)/\∀p,H p=none->Q (.ref p) (upd H p (.tup (lJ c lo hi)))
theorem SM:SlR X (SJ X.K):=by
 intro pins s σ H x v vl B lo hi sl Q I m y pl n h;obtain⟨a,c,rfl,t,u,q⟩:=h;cases m;obtain⟨d,r,l,j⟩:=I.tuple t
 have hlen:d.toArray.size=c.length:=by rw[zA];exact r.length.symm
 refine⟨"tuple",_,PyProof.Rows.slot_tuple_getitem.lookup,l.typeIs,?_⟩;refine HT.getItem_tuple_cut l y pl n (by rw[hlen];exact u) ?_ (by rw[hlen];exact j);rw[hlen];refine⟨.ref s.heap.objs.size,_,I.laid (t':=s.toks) (o:=.tup (lJ c lo hi)) (λb ob q=>zo _ q) (zc _) ?_,rfl,q _ (I.hok.fresh (zc _))⟩;exact⟨zK (HH c lo hi) j,_,(r.drop (HT.sIx c.length 0 lo)).take (HT.sIx c.length c.length hi - HT.sIx c.length 0 lo),IsTup.new _ _⟩
def SN(K:PySem.W.Frag):R2:=λx y H Q=>∃a b d c,x=.ref a/\y=.ref b/\SqT K H a d/\SqT K H b c/\d≠[]/\d.length+c.length<=sizeLine /\
 (c=[]->Q (.ref a) H)/\(c≠[]->∀p,H p=none->Q (.ref p) (upd H p (.tup (d++c))))
theorem aV.nil_iff{xs:List V}{us:List Value}(r:aV xs us):us=[]↔xs=[]:=by
 cases r with
 |nil=>simp
 |cons _ _=>simp
theorem SQ:OpR X (binaryOp .Add) (SN X.K):=by
 intro pins s σ H x y v u Q I t r h;obtain⟨a,b,n,m,rfl,rfl,J,G,F,j,C,B⟩:=h;cases t;cases r;obtain⟨L,d,E,_⟩:=I.tuple J;obtain⟨l,c,p2,_⟩:=I.tuple G;refine HT.cat_tup E p2 (λz=>F (d.nil_iff.mp z)) (λz=>⟨.ref a,H,I,rfl,C (c.nil_iff.mp z)⟩) (λz=>?_) (by rw[<-d.length,<-c.length];exact j);refine⟨.ref s.heap.objs.size,_,I.laid (t':=s.toks) (o:=.tup (n++m)) (λb ob q=>zo _ q) (zc _) ?_,rfl,B (λw=>z (c.nil_iff.mpr w)) _ (I.hok.fresh (zc _))⟩;exact⟨by rw[zd];exact j,_,d.append c,IsTup.new _ _⟩
end
def ixN(n:Nat)(i:Int):Option Nat:=if 0<=i then(if i<n then some i.toNat else none) else if -(n:Int)<=i then some (i+n).toNat else none
def atI{α:Type}(xs:List α)(i:Int):Option α:=(ixN xs.length i).bind λj=>xs[j]?
theorem SX{n:Nat}{i:Int}{j:Nat}(h:ixN n i=some j):seqIndex? i n=some j/\j<n/\-(n:Int)<=i/\i<n:=by
 unfold ixN at h
 by_cases h0:0<=i
 ·rw[if_pos h0] at h
  by_cases h1:i<n
  ·rw[if_pos h1] at h;have e:i.toNat=j:=zQ h;exact⟨by rw[seqIndex_of h0 h1,e],by omega,by omega,h1⟩
  ·rw[if_neg h1] at h;cases h
 ·rw[if_neg h0] at h
  by_cases h1:-(n:Int)<=i
  ·rw[if_pos h1] at h;have e:(i+n).toNat=j:=zQ h;exact⟨by rw[seqIndex_neg (by omega) h1,e],by omega,h1,by omega⟩
  ·rw[if_neg h1] at h;cases h
theorem xH{α:Type}{xs:List α}{i:Int}{v:α}(h:atI xs i=some v):∃j,seqIndex? i xs.length=some j/\xs[j]?=some v/\j<xs.length/\-(xs.length:Int)<=i/\i<xs.length:=by
 unfold atI at h
 cases e:ixN xs.length i with
 |none=>rw[e] at h;cases h
 |some j =>
  rw[e] at h;obtain⟨h1,h2,h3,h4⟩:=SX e;exact⟨j,h1,h,h2,h3,h4⟩
def HJ(b:Expr):Prop:=∀o i,subscripted b false o i=operate [o,i] (getItem o i)
def IxR(X:Cx)(r:R2):Prop :=
 ∀(value slice:Expr) (pins:List (Addr×Obj)) (s:Shared) (σ:St) (H:Hp) (x y:V) (v u:Value) (Q:VK),Inv X pins σ H s->RelV x v->RelV y u->r x y H Q ->
  subscripted slice false v u=operate [v,u] (getItem v u)->wpAny (model X.prog X.w) X.A (subscriptTail value slice v u) (EP X pins σ Q) X.xe s
def MtR(X:Cx)(h:String)(r:V->List V->Hp->VK->Prop):Prop :=
 ∀(pins:List (Addr×Obj)) (s:Shared) (σ:St) (H:Hp) (x:V) (c:List V) (v:Value) (d:List Value) (Q:VK),Inv X pins σ H s->RelV x v->aV c d->r x c H Q ->
  wpAny (model X.prog X.w) X.A (call (.builtin h) (v::d)) (EP X pins σ Q) X.xe s
section
variable {X:Cx}{a b:Expr}{ta tb:TE}{pos:Pos}
theorem S5{r:R2}(l:IxR X r)(m:PE X a ta)(hb:PE X b tb)(hs:HJ b):PE X (.Subscript a b pos) (tOp r ta tb):=by
 intro pins s σ H Q I h;exact Subscript_ (xn m hb I h λv u c x y t n j d q=>l a b pins c σ t x y v u Q n j d q (hs _ _))
def S6(K:PySem.W.Frag):R2:=λx y H Q=>∃p c i v,x=.ref p/\y=.int i/\SqL K H p c/\atI c i=some v/\Q v H
def S7(K:PySem.W.Frag):R2:=λx y H Q=>∃p c i v,x=.ref p/\y=.int i/\SqT K H p c/\atI c i=some v/\Q v H
def S8:R2:=λx y H Q=>∃z i c,x=.str z/\y=.int i/\z.length<=sizeLine/\atI z.cps.toList i=some c/\Q (.str ⟨#[c]⟩) H
theorem S9:IxR X (S6 X.K):=by
 intro value slice pins s σ H x y v u Q I E C h m;obtain⟨p,O,i,z,rfl,rfl,F,J,q⟩:=h;cases E;obtain⟨t,rfl⟩:=C;obtain⟨l,r,pl,P⟩:=I.list F;obtain⟨j,h1,h2,h3,h4,L⟩:=xH J;obtain⟨w,n,d⟩:=r.get h2;have G:=r.length;have R:=q9;have fin:EP X pins σ Q w s:=⟨z,H,I,d,q⟩
 by_cases h0:0<=i
 ·have c:i.toNat=j:=by
   rw[seqIndex_of h0 L] at h1;exact zQ h1
  exact item_listR pl.isList h0 (by omega) (by rw[c];simpa using n) fin m
 ·have c:(i+(l.toArray.size:Int)).toNat=j:=by
   rw[seqIndex_neg (by omega) h4] at h1;rw[zA,<-G];exact zQ h1
  exact subscriptTail_builtinR (x:=w) pl.isList.typeIs slot_list_getitem.lookup
   (wpAny_getItem_list_neg (Q:=λr B=>r=w/\EP X pins σ Q r B) pl.isList (by omega) (by rw[zA]<;>omega) (by omega) (by rw[c];simpa using n) ⟨rfl,fin⟩) m
theorem Tc:IxR X (S7 X.K):=by
 intro value slice pins s σ H x y v u Q I m l h n;obtain⟨p,J,i,z,rfl,rfl,B,E,q⟩:=h;cases m;obtain⟨t,rfl⟩:=l;obtain⟨G,r,pl,L⟩:=I.tuple B;obtain⟨j,h1,h2,h3,h4,P⟩:=xH E;obtain⟨w,F,c⟩:=r.get h2;have C:=r.length;have O:=q9;have fin:EP X pins σ Q w s:=⟨z,H,I,c,q⟩;exact subscriptTail_builtinR (x:=w) pl.typeIs slot_tuple_getitem.lookup
  (getItem_tuple (j:=j) (Q:=λr d=>r=w/\EP X pins σ Q r d) pl (by omega) (by omega) (by rw[zA,<-C];exact h1) (by simpa using F) ⟨rfl,fin⟩) n
theorem Td:IxR X S8:=by
 intro value slice pins s σ H x y v u Q I l d h m;obtain⟨z,i,c,rfl,rfl,G,r,q⟩:=h;obtain⟨t,rfl⟩:=l;obtain⟨F,rfl⟩:=d;obtain⟨j,h1,h2,h3,h4,B⟩:=xH r
 have n:z.cps.toList.length=z.length:=by simp[Str.length]
 rw[n] at h1 h4 B;have J:=q9
 exact tail_any (typeIs_str s z t) slot_str_getitem.lookup (getItem_str (c:=c) (by
  have E:decide (i < -(2 ^ 63:Int))=false:=zz (by omega);have C:decide (i>=2 ^ 63)=false:=zz (by omega)
  rw[E,C,Bool.or_false]) (by rw[h1];simpa using h2) ⟨.str ⟨#[c]⟩,H,I.tok _,⟨_,rfl⟩,q⟩) m
theorem HN(lo hi:Option Int)(n:Nat):(sliceBounds lo hi none n).1=((HT.sIx n 0 lo:Nat):Int)/\(sliceBounds lo hi none n).2.1=((HT.sIx n n hi:Nat):Int)/\(sliceBounds lo hi none n).2.2=1:=by
 refine⟨?_,?_,rfl⟩
 ·cases lo with
  |none=>simp[sliceBounds,HT.sIx]
  |some i =>
   simp only[sliceBounds,HT.sIx,Option.getD_none,show(1:Int)>0 by decide,if_true]
   by_cases h:i<0
   ·simp only[h,if_true]<;>omega
   ·simp only[h,if_false]<;>omega
 ·cases hi with
  |none=>simp[sliceBounds,HT.sIx]
  |some i =>
   simp only[sliceBounds,HT.sIx,Option.getD_none,show(1:Int)>0 by decide,if_true]
   by_cases h:i<0
   ·simp only[h,if_true]<;>omega
   ·simp only[h,if_false]<;>omega
theorem Te(its:List Value)(lo hi:Option Int):slicePick its.toArray lo hi none=((its.drop (HT.sIx its.length 0 lo)).take (HT.sIx its.length its.length hi - HT.sIx its.length 0 lo)).toArray:=by
 obtain⟨h1,h2,h3⟩:=HN lo hi its.toArray.size;unfold slicePick;rw[h1,h2,h3]
 simp only[sliceRange_one,pick_run,zA]<;>rfl
def Tf(K:PySem.W.Frag):V->Option Int->Option Int->Hp->VK->Prop:=λx lo d H Q=>∃a c,x=.ref a/\SqL K H a c/\∀p,H p=none->Q (.ref p) (upd H p (.lst (lJ c lo d)))
theorem Tg:SlR X (Tf X.K):=by
 intro pins s σ H x v vl B lo d sl Q I l u pl m h;obtain⟨a,c,rfl,t,q⟩:=h;cases l;obtain⟨y,r,j,n⟩:=I.list t;have hlen:=r.length;refine⟨"list",_,slot_list_getitem.lookup,j.isList.typeIs,?_⟩;refine wpAny_getItem_list_slice j.isList u pl m .none (by simp) ?_ (by rw[zA]<;>omega);rw[Te,<-hlen];refine⟨.ref s.heap.objs.size,_,I.laid (t':=s.toks) (o:=.lst (lJ c lo d)) (λb ob q=>zo _ q) (zc _) ?_,rfl,q _ (I.hok.fresh (zc _))⟩;exact⟨zK (HH c lo d) n,_,0,(r.drop (HT.sIx c.length 0 lo)).take (HT.sIx c.length c.length d - HT.sIx c.length 0 lo),zF _ rfl⟩
def kO:V->Bool
 | .non=>true
 | .bl _=>true
 | .int _=>true
 | .str _=>true
 | _=>false
def eqV:V->V->Bool
 | .non,.non=>true
 | .bl a,.bl b=>a == b
 | .bl a,.int b=>(if a then 1 else 0) == b
 | .int a,.bl b=>a == (if b then 1 else 0)
 | .int a,.int b=>a == b
 | .str a,.str b=>a == b
 | _,_=>false
theorem Th{A:Around}{s:Shared}{y x:V}{u v:Value}(h:RelV y u)(c:RelV x v)(l:kO y=true)(j:kO x=true):SeqAt.EqAt A s u v (eqV y x):=by
 cases y with
 |non =>
  cases h
  cases x with
  |non=>cases c;exact SeqAt.EqAt.same _
  |bl b=>cases c;exact SeqAt.EqAt.none_bool b
  |int b=>obtain⟨t,rfl⟩:=c;exact SeqAt.EqAt.none_int b t
  |str b=>obtain⟨t,rfl⟩:=c;exact SeqAt.EqAt.none_str b t
  | _=>exact absurd (show false=true from j) zm
 |bl a =>
  cases h
  cases x with
  |non=>cases c;exact SeqAt.EqAt.bool_none a
  |bl b=>cases c;exact SeqAt.EqAt.bool_bool a b
  |int b=>obtain⟨t,rfl⟩:=c;exact SeqAt.EqAt.bool_int a b t
  |str b=>obtain⟨t,rfl⟩:=c;exact SeqAt.EqAt.bool_str a b t
  | _=>exact absurd (show false=true from j) zm
 |int a =>
  obtain⟨d,rfl⟩:=h
  cases x with
  |non=>cases c;exact SeqAt.EqAt.int_none a d
  |bl b=>cases c;exact SeqAt.EqAt.int_bool a d b
  |int b=>obtain⟨t,rfl⟩:=c;exact SeqAt.EqAt.int_int a d b t
  |str b=>obtain⟨t,rfl⟩:=c;exact SeqAt.EqAt.int_str a d b t
  | _=>exact absurd (show false=true from j) zm
 |str a =>
  obtain⟨d,rfl⟩:=h
  cases x with
  |non=>cases c;exact SeqAt.EqAt.str_none a d
  |bl b=>cases c;exact SeqAt.EqAt.str_bool a d b
  |int b=>obtain⟨t,rfl⟩:=c;exact SeqAt.EqAt.str_int a d b t
  |str b=>obtain⟨t,rfl⟩:=c;exact SeqAt.EqAt.str_str a d b t
  | _=>exact absurd (show false=true from j) zm
 | _=>exact absurd (show false=true from l) zm
def eqU(x:V)(u:Value):Bool:=match u with
 | .none=>eqV .non x
 | .bool b=>eqV (.bl b) x
 | .int i _=>eqV (.int i) x
 | .str z _=>eqV (.str z) x
 | _=>false
theorem HQ{x y:V}{u:Value}(r:RelV y u)(f:kO y=true):eqU x u=eqV y x:=by
 cases y with
 |non=>cases r;rfl
 |bl b=>cases r;rfl
 |int i=>obtain⟨t,rfl⟩:=r;rfl
 |str z=>obtain⟨t,rfl⟩:=r;rfl
 | _=>exact absurd (show false=true from f) zm
theorem xJ{x:V}:∀{xs:List V}{us:List Value},aV xs us->xs.all kO=true->us.any (eqU x)=xs.any λy=>eqV y x
 | _,_,.nil,_=>rfl
 |y::xs,u::us,.cons r t,f=>by
  rw[List.all_cons,zy] at f;rw[List.any_cons,List.any_cons,HQ r f.1,xJ t f.2]
theorem xK{A:Around}{s:Shared}{x:V}{v:Value}(d:RelV x v)(h:kO x=true):∀{xs:List V}{us:List Value},aV xs us->xs.all kO=true->∀u∈us,SeqAt.EqAt A s u v (eqU x u)
 | _,_,.nil,_=>λu c=>by cases c
 |y::xs,u::us,.cons r t,f=>λj c=>by
  rw[List.all_cons,zy] at f
  rcases zh.mp c with rfl | c
  ·rw[HQ r f.1];exact Th r d f.1 h
  ·exact xK d h t f.2 j c
def inV(x:V)(xs:List V):Bool:=xs.any λy=>eqV y x
def rIn(K:PySem.W.Frag)(d:Bool):R2:=λx y H Q=>∃p c,y=.ref p/\(SqL K H p c\/SqT K H p c)/\kO x=true/\c.all kO=true/\Q (.bl (if d then !inV x c else inV x c)) H
theorem Ti:OpR X (compareOp .In) (rIn X.K false):=by
 intro pins s σ H x y v u Q I l n h;obtain⟨p,B,rfl,d,m,fs,q⟩:=h;cases n
 rcases d with d | d
 ·obtain⟨c,r,pl,t⟩:=I.list d;refine SeqAt.in_listAt (eqU x) pl.isList (λw j=>xK l m r fs w (by simpa using j)) ⟨.bl _,H,I,rfl,?_⟩;rw[show c.toArray.any (eqU x)=c.any (eqU x) by simp,xJ r fs];exact q
 ·obtain⟨c,r,pl,t⟩:=I.tuple d;refine SeqAt.in_tupleAt (eqU x) pl (λw j=>xK l m r fs w (by simpa using j)) ⟨.bl _,H,I,rfl,?_⟩;rw[show c.toArray.any (eqU x)=c.any (eqU x) by simp,xJ r fs];exact q
theorem HR:lG X (.type "list") (λxs H Q=>∃p ys,xs=[.ref p]/\(SqL X.K H p ys\/SqT X.K H p ys)/\∀l,H l=none->Q (.ref l) (upd H l (.lst ys))):=by
 intro pins s σ H xs F Q I r h;obtain⟨p,ys,rfl,x,q⟩:=h;obtain⟨u,rfl,E⟩:=vals1 r;cases E;have fin:∀(c:List Value),aV ys c->ys.length<=sizeLine->∀(d:Heap) (m:Nat),(∀b C,s.heap.get? b=some C->d.get? b=some C) ->
   d.get? s.heap.objs.size=some {cls:=.type "list",dict:=none,data:=.seq c.toArray m,slots:=#[]}->EP X pins σ Q (.ref s.heap.objs.size) {s with heap:=d}:=λc j t d m kp e =>
  ⟨.ref s.heap.objs.size,_,I.laid (t':=s.toks) kp (zc _) (show fC X.prog X.w _ d _ (.lst ys) from⟨t,c,m,j,e⟩),rfl,q _ (I.hok.fresh (zc _))⟩
 rcases x with x | x
 ·obtain⟨c,j,pl,t⟩:=I.list x;have hlen:=j.length;obtain⟨o,y,B,n,hd⟩:=pl.isList;exact call_list_seq p (.inl rfl) y B hd (λd m kp e=>fin c j t d m kp e) (by simp only[zA]<;>omega)
 ·obtain⟨c,j,pl,t⟩:=I.tuple x;have hlen:=j.length;obtain⟨o,y,B,n,hd⟩:=pl;exact call_list_seq p (.inr rfl) y B hd (λd m kp e=>fin c j t d m kp e) (by simp only[zA]<;>omega)
def tyV(K:PySem.W.Frag)(T:String)(x:V)(H:Hp):Prop:=match x with
 | .str _=>T = "str"
 | .int _=>T = "int"
 | .ref p=>(T = "list"/\∃d,SqL K H p d)\/(T = "tuple"/\∃o,K.lookup p=some o/\o.cls=.type "tuple"/\o.dict=none) \/
   (T = "dict"/\((∃c,H p=some (.dK c))\/∃c,H p=some (.dT c)))\/(T = "set"/\∃S n,H p=some (.set S n))
 | _=>False
theorem Tj{pins:List (Addr×Obj)}{σ:St}{H:Hp}{s:Shared}{T:String}{x:V}{v:Value}(I:Inv X pins σ H s)(r:RelV x v)(ty:tyV X.K T x H):
  s.TypeIs v T/\∀a,v=.ref a->∃ob,s.heap.get? a=some ob/\ob.dict=none:=by
 cases x with
 |str z =>
  obtain⟨t,rfl⟩:=r;cases(show T = "str" from ty);exact⟨typeIs_str s z t,λ_ e=>nomatch e⟩
 |int i =>
  obtain⟨t,rfl⟩:=r;cases(show T = "int" from ty);exact⟨typeIs_int s i t,λ_ e=>nomatch e⟩
 |ref p =>
  cases r
  rcases ty with⟨rfl,u,l⟩ | ⟨rfl,o,d,m,hd⟩ | ⟨rfl,d⟩ | ⟨rfl,S,n,d⟩
  ·obtain⟨q,_,pl,_⟩:=I.list l;refine⟨pl.isList.typeIs,λa e=>?_⟩;cases e;obtain⟨o,n,e,c,hd,_⟩:=pl;exact⟨o,e,hd⟩
  ·refine⟨⟨o,I.kIn p o d,m⟩,λa e=>?_⟩;cases e;exact⟨o,I.kIn _ o d,hd⟩
  ·have z:∃o,s.heap.get? p=some o/\o.ExactDict:=by
    rcases d with⟨j,d⟩ | ⟨j,d⟩
    ·obtain⟨_,_,_,_,o,_,_,e,ex,_⟩:=I.hok p _ d;exact⟨o,e,ex⟩
    ·obtain⟨_,_,_,_,o,_,_,e,ex,_⟩:=I.hok p _ d;exact⟨o,e,ex⟩
   obtain⟨o,e,ex⟩:=z;refine⟨⟨o,e,ex.1⟩,λa h=>?_⟩;cases h;exact⟨o,e,ex.2.1⟩
  ·obtain⟨o,_,_,_,e,ex,_⟩:=I.hok p _ d;refine⟨⟨o,e,ex.1⟩,λa h=>?_⟩;cases h;exact⟨o,e,ex.2.1⟩
 | _=>exact False.elim ty
def tBM(K:PySem.W.Frag)(T:String)(r:V->List V->Hp->VK->Prop)(to:TE)(t:TA):TE:=λσ H Q=>to σ H λx c=>tyV K T x c/\t σ c λd h=>r x d h Q
variable {o e:Expr}{es:List Expr}{to:TE}{t:TA}{name:Str}{apos cpos:Pos}{T id:String}{r:V->List V->Hp->VK->Prop}
theorem rH(q:PlainAttrs T)(slot:Slot T name id)(m:typeOf (.builtin id)=pure (.type "method_descriptor"))(B:MtR X id r)(y:PE X o to)(C:PA X (e::es) t)
  (j:attributeBase o name X.env (eval o X.env)=eval o X.env:=by rfl)
  (l:((backTo cpos (starEach (e::es) X.env)).all (λx=>!x.1)&&(backToKw cpos (keywordEach [] X.env)).all (λx=>x.1.isSome)
   && decide ((e::es).length+([]:List Keyword).length+(if([]:List Keyword).isEmpty then 0 else 1)<30))=true:=by rfl)
  (d:(apos.endLine == cpos.line)=true:=by rfl) (u:starEach (e::es) X.env=(false,eval e X.env)::starEach es X.env:=by rfl) (c:(backTo cpos (starEach es X.env)).any (·.1)=false:=by rfl):
  PE X (.Call (.Attribute o name apos) (e::es) [] cpos) (tBM X.K T r to t):=by
 intro pins s σ H Q I h;refine wpAny_Call_method_late j l d rfl (thn (y pins s σ H _ I h) λv s1 ⟨x,H1,I1,r1,ty,q1⟩=>?_);obtain⟨h1,h2⟩:=Tj I1 r1 ty;refine⟨T,id,q,slot,m,h1,h2,?_⟩;have n:=C cpos pins s1 σ H1 _ I1 q1;rw[u] at n ⊢;refine Calls.callWith_builtin (by show(false || (backTo cpos (starEach es X.env)).any (·.1))=false;rw[c]<;>rfl) (Calls.evalArgs_plain ?_)
 exact thn n λus s2 ⟨vs,H2,I2,r2,q2⟩=>B pins s2 σ H2 x vs v us Q I2 r1 r2 q2
/- xs.append(e),list.index on a module's tuple .. are MtR facts of 06m -/
end
def MtM(X:Cx)(h:String)(r:V->List V->Hp->VK->Prop):Prop :=
 ∀(pins:List (Addr×Obj)) (s:Shared) (σ:St) (H:Hp) (x:V) (c:List V) (v:Value) (d:List Value) (Q:VK),Inv X pins σ H s->RelV x v->aV c d->r x c H Q ->
  wpAny (model X.prog X.w) X.A (call (.builtin h) (v::d)) (EP X pins σ Q) X.xe s
theorem aV.one:∀{x:V}{us:List Value},aV [x] us->∃u,us=[u]/\RelV x u
 | _,_,.cons r .nil=>⟨_,rfl,r⟩
theorem aV.rep{xs:List V}{us:List Value}(h:aV xs us):∀k:Nat,aV (List.replicate k xs).flatten (List.replicate k us).flatten
 | 0=>.nil
 |k+1=>by
  rw[List.replicate_succ,List.replicate_succ,List.flatten_cons,List.flatten_cons];exact aV.append h (aV.rep h k)
theorem foldl_rep(its:List Value):∀(k:Nat) (acc:List Value),
  List.foldl (λd c=>d++c) acc.toArray (List.replicate k its.toArray)=(acc++(List.replicate k its).flatten).toArray
 | 0,acc=>by simp
 |k+1,acc=>by
  have e:acc.toArray++its.toArray=(acc++its).toArray:=by simp
  have h:(acc++its)++(List.replicate k its).flatten=acc++(List.replicate (k+1) its).flatten:=by
   rw[List.replicate_succ,List.flatten_cons,zk]
  rw[<-h,<-foldl_rep its k (acc++its),<-e,List.replicate_succ,List.foldl_cons]
section
variable {X:Cx}{pins:List (Addr×Obj)}{σ:St}{H:Hp}{s:Shared}{l b:Addr}{xs ys zs:List V}
theorem Inv.lset{its its':List Value}{n:Nat}{f:Array Value->Array Value}{t':Nat}(I:Inv X pins σ H s)(j:H l=some (.lst xs))
  (e:s.heap.get? l=some {cls:=.type "list",data:=.seq its.toArray n}) (d:f its.toArray=its'.toArray) (hv:aV ys its') (hz:ys.length<=sizeLine):
  Inv X pins σ (upd H l (.lst ys)) {s with heap:=s.heap.update l (Obj.mapSeq f),toks:=t'}:=by
 have q:=PySem.IsL.update e f;rw[d] at q;refine I.write (x:=l) (e:=l) (by rw[j];exact trivial) (.inl rfl) (λm u h c=>(Heap.get?_update_other s.heap (Obj.mapSeq f) (Ne.symm h)).trans c) ⟨_,q⟩ ?_;exact⟨hz,its',_,hv,q⟩
theorem Inv.lnew{its:List Value}{t':Nat}(I:Inv X pins σ H s)(hv:aV ys its)(hz:ys.length<=sizeLine):
  Inv X pins σ (upd H s.heap.objs.size (.lst ys)) {s with heap:=s.heap.push {cls:=.type "list",data:=.seq its.toArray},toks:=t'}:=
 I.laid (λ_ _ q=>zo _ q) (zc _) ⟨hz,its,0,hv,zF _ rfl⟩
theorem Inv.fresh(I:Inv X pins σ H s):H s.heap.objs.size=none:=I.hok.fresh (zc _)
theorem Inv.lstM(I:Inv X pins σ H s)(c:H l=some (.lst xs)):xs.length<=sizeLine/\∃(its:List Value) (n:Nat),aV xs its/\xs.length=its.length/\s.heap.get? l=some {cls:=.type "list",data:=.seq its.toArray n}:=by
 obtain⟨z,its,n,r,e⟩:=I.hok l _ c;exact⟨z,its,n,r,r.length,e⟩
theorem HS{n:Nat}(h:n<=sizeLine):Builtin.List.listTooLong n=false:=by
 unfold Builtin.List.listTooLong;exact zz (by omega)
end
section
variable {X:Cx}
def Tn:V->List V->Hp->VK->Prop:=λx d H Q=>∃l c y,x=.ref l/\d=[y]/\H l=some (.lst c)/\c.length<sizeLine/\Q .non (upd H l (.lst (c++[y])))
theorem HW:MtM X "list.append" Tn:=by
 intro pins s σ H x C v E Q I j m h;obtain⟨l,B,y,rfl,rfl,d,G,q⟩:=h;cases j;obtain⟨u,rfl,t⟩:=m.one;obtain⟨z,c,n,r,J,e⟩:=I.lstM d;refine call_meets F.slot_list_append ⟨_,e,rfl⟩ F.entry_list_append (F.args_list_append_2 _ _) (PySem.list_append l c.toArray n u (by rw[zA];omega)) ⟨e,?_⟩;refine⟨.non,_,I.lset (its':=c++[u]) d e (by simp) (r.append (.cons t .nil)) ?_,rfl,q⟩;rw[zd,zL];omega
theorem len_rep{α:Type}(xs:List α)(k:Nat):(List.replicate k xs).flatten.length=k * xs.length:=by
 induction k with
 |zero=>simp
 |succ k c=>rw[List.replicate_succ,List.flatten_cons,zd,c,Nat.succ_mul,Nat.add_comm]
end
section
variable {prog:Program}{w:World}{A:Around}{E:Value->Shared->Prop}{s:Shared}
end
section
variable {X:Cx}
end
end L2
namespace Att
open PySem PySem.W PySem.Calls PyProof.Rows
theorem Tp{P:Params}{h:Heap}:∀(ns:List Int) (vs:List Value),WellAll P h vs (ns.map WData.int)->IntsAre vs ns:=by
 intro ns
 induction ns with
 |nil =>
  intro vs w;rw[zW] at w;cases w;exact .nil
 |cons n ns ih =>
  intro vs w;rw[zx] at w
  cases w with
  |cons a b =>
   cases a;exact .cons _ _ (ih _ b)
theorem Tq{l:OpenLaw}{n:Nat}(B:l.most=some n){P:Params}{h:Heap}{args:List WData}{vals:List Value}
  (c:l.row.toRowW.claim.pre args=true) (t:WellAll P h vals args):
  ∃a vs ns,vals=[Value.ref a]/\args=[WData.list (ns.map WData.int)]/\h.get? a=some {cls:=.type "list",data:=.seq vs.toArray}/\IntsAre vs ns/\ns.length<=n:=by
 have u:WShape.hasAll [] args [.list .int]=true:=(pre_splitW c).1;have x:l.pre.holds [] {args:=args}=true:=(pre_splitW c).2;obtain⟨d,r,rfl,h1,h2⟩:=hasAllW_cons u;obtain rfl:=hasAllW_nil h2;obtain⟨C,rfl,h3⟩:=hasW_list h1;obtain⟨ns,rfl⟩:=items_int h3
 have hlen:ns.length<=n:=by
  unfold OpenLaw.pre at x
  have h4:(WTm.not (.lt (.lit (.int (n:Int))) (.len (.arg 0)))).holds [] {args:=[.list (ns.map .int)]}=true:=by
   have h4:=(holds_andW x).1;rw[B] at h4;exact h4
  have m:=condW_of h4 (w_not (w_lt w_lit (w_len_list (w_arg rfl))));rw[ze] at m
  refine Nat.le_of_not_lt λq=>?_
  have q':(n:Int)<((ns.length:Nat):Int):=by omega
  first
   | (rw[zH q'] at m;exact absurd m (by decide))
   | (simp at m;omega)
 cases t with
 |cons w1 w2 =>
  cases w2
  cases w1 with
  |list y j=>exact⟨_,_,ns,rfl,rfl,y,Tp ns _ j,hlen⟩
theorem Tr(l:OpenLaw)(args:List WData):l.row.toRowW.claim.post args (.bool true) args=true :=
 postW_of (r:=l.row.toRowW) (X:=(true == true))
  (show WShape.has [] (.bool true) .bool=true by first | rfl | decide | simp[WShape.has,WShape.arms,WShape.armsAll])
  (show(WTm.eq .res (.lit (.bool true))).value [] {args:=args,res:=some (.bool true),after:=args}=some (.bool (true == true)) from w_eq_bool (w_res rfl) w_lit) rfl
theorem attach_call{l:OpenLaw}{n:Nat}{q:Program}{loose:List Str}{I:(Str->Option Value)->Heap->Prop}{H:World->Heap->Prop}{d:DefRec}
  (P:l.most=some n) (C:d.params.defaults=[])
  (call:∀(w:World) (s₀ c:Shared) (mg x:Str->Option Value) (fa:Addr) (o:Obj) (pm u h:Value) (a:Addr) (vs:List Value) (ns:List Int),
   Ground q loose [] I w s₀ mg x c.heap->H w c.heap ->
   c.heap.get? fa=some o->o.data=.func (docDef d.name d.params d.body d.scope pm u h)->c.heap.CodeRec u d.name->mg d.name=some (.ref fa) ->
   c.heap.get? a=some {cls:=.type "list",data:=.seq vs.toArray}->IntsAre vs ns->ns.length<=n->c.gens = #[] ->
   codeAny (model l.prog w) callerA (.call (.ref fa) ⟨[.ref a],[]⟩) (λr t=>r=.ok (.ret (.bool true))/\OldK c.heap t.heap/\t.os=c.os/\AllBare t.gens) c):
  WalkO q loose I H l.row.toRowW d [] (λf vs=>PySem.call f vs):=by
 intro w s₀ c mg x G Y fa o pm u h T kV O hd E F B R args vals X j J U y W;obtain rfl:T=.none:=Dflts.none F C;obtain rfl:kV=.none:=Dflts.noKw F;obtain⟨a,vs,ns,rfl,rfl,m,hints,hlen⟩:=Tq P j y;refine enter_call (codeAny_mono (call w s₀ c mg x fa o pm u h a vs ns G Y O (fd_plain hd) E B m hints hlen R) λr t L=>?_);obtain⟨rfl,h2,h3,h4⟩:=L;exact⟨.inl ⟨.bool true,.bool true,[],rfl,λ_=>rfl,.bool true,Tr l _,λ_=>⟨List.Pairwise.nil,λ_ Q=>(nomatch Q)⟩⟩,h2,h3,h4⟩
section
variable {prog:Program}{w:World}{A:Around}{E:Value->Shared->Prop}{s:Shared}{K:Frag}
end
end Att
namespace L2
open PySem PySem.Spec PyProof.Rows
theorem xN:∀{vs:List Value}{ns:List Int},IntsAre vs ns->aV (ns.map V.int) vs
 | _,_,.nil=>.nil
 | _,_,.cons n t h=>.cons ⟨t,rfl⟩ (xN h)
def nR(H:Hp):Prop:=∀b,H b=none\/∃o c,H b=some (.frz o (.lst c))
theorem Tt{P:Program}{w:World}{K:PySem.W.Frag}{mg Q:Str->Option Value}{CX:CXT}{k:Nat}{fa a:Addr}{fd:FuncData}{x:Str}{sp:Sp}{c:Shared}{vs:List Value}{ns:List Int}
  (KX:K.In c.heap) (E:c.heap.Ns mainGlobals mg) (hb:c.heap.Ns builtinsNs Q) (U:∀x:Str,x≠"__name__"->Q x=bootBuiltins x) (L:c.heap.NoLimit) (hg:c.gens = #[])
  (O:c.heap.get? a=some {cls:=.type "list",data:=.seq vs.toArray}) (hi:IntsAre vs ns) (Z:ns.length<=sizeLine) (hr:bJ k callerA)
  (F:∀base:Heap,K.In base->base.Ns mainGlobals mg->eU P w K mg base CX k fa fd [x] sp) (y:∀(s:Shared) (u:Value),BindsTo s fd ⟨[u],[]⟩ [(x,u)])
  (T:∀H:Hp,nR H->SqL K H a (ns.map V.int)->sp [.ref a] H (λv _=>v=.bl true) λ_ _ _=>False)
  (X:∀H e l,CX [] H c (λ_ _ _=>False) e l->False):
  codeAny (model P w) callerA (.call (.ref fa) ⟨[.ref a],[]⟩) (λr l=>r=.ok (.ret (.bool true))/\OldK c.heap l.heap/\l.os=c.os/\AllBare l.gens) c:=by
 have Y:=xN hi;have I:=hi.length;have core:∀H:Hp,nR H->SqL K H a (ns.map V.int)->HOk P w H c.heap->(∀b,H b≠none->b=a)->(H a≠none->K.lookup a=none) ->
   codeAny (model P w) callerA (.call (.ref fa) ⟨[.ref a],[]⟩) (λr l=>r=.ok (.ret (.bool true))/\OldK c.heap l.heap/\l.os=c.os/\AllBare l.gens) c:=by
  intro H hO hS hok hA hK
  have j:∀{b:Addr}{o:Obj},c.heap.get? b=some o->H b=none->(iI c.heap H).get? b=some o:=λe n=>G3 e n
  have R:∀{b:Addr}{o:Obj}{B:Array DictEntry}{C:Nat},c.heap.get? b=some o->o.data=.dict B C->H b=none:=λ{b o B C} e d=>by
   cases q:H b with
   |none=>rfl
   |some u =>
    have e':b=a:=hA b (by rw[q];simp);subst e';rw[O] at e;cases e;have d':Data.seq vs.toArray _=Data.dict B C:=d;cases d'
  have t:∀{b:Addr}{m:Str->Option Value},c.heap.Ns b m->(iI c.heap H).Ns b m:=λ{b m} ⟨o,B,C,e,d,r⟩=>⟨o,B,C,j e (R e d),d,r⟩
  have G:K.In (iI c.heap H):=λb o e=>j (KX b o e) (by
   cases q:H b with
   |none=>rfl
   |some u =>
    have e':b=a:=hA b (by rw[q];simp);subst e'
    rw[hK (by rw[q];simp)] at e;cases e)
  have hM:Mod K mg (iI c.heap H):=⟨G,t E,⟨Q,t hb,U⟩,let ⟨mc,h1,h2⟩:=L;⟨mc,t h1,h2⟩⟩;have e0:kJ P w K mg (iI c.heap H) callerA [] c H:=⟨rfl,hM,λb o e=>G4 e,Nat.le_of_eq (GZ _ _),trivial,λb hb=>absurd (show b∈([]:List Addr) from hb) (by simp),hok,.of_eq hg⟩
  refine codeAny_mono ((F _ G (t E)).run callerA [] c H ⟨[.ref a],[]⟩ [.ref a] [.ref a] _ _ hr e0 (y c (.ref a)) (.cons rfl .nil) (T H hO hS)) λr l h=>?_
  cases r with
  |error e=>exact(X H e l h).elim
  |ok fl =>
   cases fl with
   |next=>exact False.elim h
   |brk=>exact False.elim h
   |cont=>exact False.elim h
   |ret u =>
    obtain⟨v,H',os,bare,un,J,r',q⟩:=h;have q':v=.bl true:=q;subst q';obtain rfl:u=Value.bool true:=r';refine⟨rfl,OldK.of_keep λb o e=>?_,os,bare⟩
    cases q:H b with
    |none=>exact un.keep b o e q (by intro z;exact absurd (show b∈([]:List Addr) from z) (by simp)) (by simp)
    |some u =>
     rcases hO b with z | ⟨ob,xs,z⟩
     ·rw[q] at z;cases z
     ·have z2:=un.frzs b ob _ z;obtain⟨e1,_⟩:=hok b _ z;obtain⟨e2,_⟩:=J b _ z2;rw[e] at e1;cases e1;exact e2
 cases hk:K.lookup a with
 |some o =>
  have e:=KX a o hk;rw[O] at e;cases e
  refine core (λ_=>none) (λ_=>.inl rfl) (.inr ⟨_,vs.toArray,_,hk,rfl,rfl,rfl,by rw[zA,I];exact Z,by simpa using Y⟩) (λb u z=>by have z':(none:Option HO)=some u:=z;cases z') (λb z=>absurd rfl z) λz=>absurd rfl z
 |none =>
  refine core (λb=>if b=a then some (.frz {cls:=.type "list",data:=.seq vs.toArray} (.lst (ns.map V.int))) else none) (λb=>?_) (.inl (.inr ⟨{cls:=.type "list",data:=.seq vs.toArray},if_pos rfl⟩)) (λb u z=>?_) (λb z=>?_) λ_=>hk
  ·by_cases hb:b=a
   ·exact .inr ⟨_,_,if_pos hb⟩
   ·exact .inl (if_neg hb)
  ·by_cases hb:b=a
   ·have z':=(if_pos hb).symm.trans z;cases z';subst hb;exact⟨O,by rw[ze];exact Z,vs,_,Y,O⟩
   ·have z':=(if_neg hb).symm.trans z;cases z'
  ·by_cases hb:b=a
   ·exact hb
   ·exact absurd (if_neg hb) z
abbrev KOf{K:PySem.W.Frag}{h:Heap}(_:K.In h):PySem.W.Frag:=K
theorem walk_of{l:PySem.W.OpenLaw}{n k:Nat}{q:Program}{loose:List Str}{XP:(Str->Option Value)->Heap->Prop}{YP:World->Heap->Prop}{d:DefRec}{K:Params->PySem.W.Frag}{CX:World->CXT}{sp:World->Sp}{x:Str}
  (hn:l.most=some n) (hn2:n<=sizeLine) (hdf:d.params.defaults=[]) (hr:bJ k callerA)
  (hY:∀(w:World) (h:Heap),YP w h->(K w.params).In h)
  (F:∀(w:World) (mg:Str->Option Value) (fa:Addr) (h:Heap),(K w.params).In h->h.Ns mainGlobals mg->mg d.name=some (.ref fa) ->
   ∃fd:FuncData,(∀(s:Shared) (u:Value),BindsTo s fd ⟨[u],[]⟩ [(x,u)]) /\
    ∀base:Heap,(K w.params).In base->base.Ns mainGlobals mg->eU l.prog w (K w.params) mg base (CX w) k fa fd [x] (sp w))
  (hsp:∀(w:World) (H:Hp) (a:Addr) (ns:List Int),ns.length<=n->nR H->SqL (K w.params) H a (ns.map V.int)->sp w [.ref a] H (λv _=>v=.bl true) λ_ _ _=>False)
  (hCX:∀(w:World) (H:Hp) (s:Shared) (e:Value) (s':Shared),CX w [] H s (λ_ _ _=>False) e s'->False):
  PySem.W.WalkO q loose XP YP l.row.toRowW d [] (λf vs=>PySem.call f vs):=by
 refine Att.attach_call hn hdf λw s₀ s₁ mg mb fa o pm cd doc a vs ns G Y ho hd hcd hmg hobj hints hlen hg=>?_
 have KX:=hY w _ Y;obtain⟨fd,hb,hF⟩:=F w mg fa _ KX G.T.g hmg
 exact Tt KX G.T.g G.T.b G.T.builtins G.T.nolimit hg hobj hints (zK hlen hn2) hr hF hb (λH hO hS=>hsp w H a ns hlen hO hS) λH e s'=>hCX w H s₁ e s'
end L2
/- THE LAST THEOREM (shape;LID,My.* are yours):
   My.Adr: a structure of the addresses that your layer names (classes,functions);My.Txt K t: a structure (Prop) of the equations over K;
   My.txt_mk:{K}{implicit addresses ..} (e1:nsIn K mainGlobals "law" = some (some (.ref f))) (e2:K.lookup f=some ⟨oc,od,.func (fnOf "law" "law" params body scope dV kV doc pm an cdv ct),sl⟩) (e3:codeIn K cdv "law" = true) ..:∃t,My.Txt K t
set_option maxRecDepth 100000 in
set_option maxHeartbeats 0 in
theorem PySem.Challenge.cw_LID_holds : PySem.Challenge.rw_LID.Holds := by
 w_on;o_law;k_head;(case hw=>w_witness2)
 k_fill
 refine L2.walk_of (l:=PySem.Challenge.rw_LID) (n:=63) (k:=40) (x:="script") (CX:=λw=>..) (sp:=λ_=>My.sp_law) rfl (by decide) rfl ⟨rfl,by decide,by decide⟩ (λw h Y=>PySem.W.kIn_of Y) ?F ?S ?C
 case F =>
  intro w mg fa h KX G hmg
  have T:∃t,My.Txt (L2.KOf KX) t:=by
   dsimp only[L2.KOf]                          -- K must stand as «<heap const> w.params» for k_is
   refine' My.txt_mk ?e1 ?e2 ?e3 ..
   (case e1=>PySem.W.k_is)                    -- in the order: a name -> its address -> its object -> its parts
   (case e2=>PySem.W.k_is)
   ..
  obtain⟨t,T⟩:=T;have e0:=hmg.symm.trans (PySem.W.mg_of KX G T.law);cases e0                                       -- fa is the law's own address
  exact⟨_,λs u=>.of_eq rfl,λbase kb nb=>My.law_fn T kb nb⟩     -- if «.of_eq rfl» comes too early: refine'⟨_,?b,λbase kb nb=>My.law_fn T kb nb⟩;exact λs u=>.of_eq rfl
 case S=>exact λw H a ns hl hO hS=>..
 case C=>exact ..
(the tactic k_is has no namespace: write k_is) -/
namespace L2
open PySem PySem.Spec PyProof.Rows
def inClass(s:Stmt)(j:Nat):Stmt:=match s with
 | .ClassDef _ _ _ body _ _ _ _ _ _ _=>body.getD j (.Pass ⟨0,0,0,0⟩)
 | _=>.Pass ⟨0,0,0,0⟩
def jB(s:Stmt):Arguments:=match s with
 | .FunctionDef _ a _ _ _ _ _ _ _ _=>a
 | _=>{posonlyargs:=[],args:=[],vararg:=none,kwonlyargs:=[],kw_defaults:=[],kwarg:=none,defaults:=[]}
def gq(s:Stmt):List Stmt:=match s with
 | .FunctionDef _ _ b _ _ _ _ _ _ _=>b
 | _=>[]
def aZ(s:Stmt):Scope:=match s with
 | .FunctionDef _ _ _ _ _ _ sc _ _ _=>sc
 | _=>{kind:=.function,names:=[],isGenerator:=false,isCoroutine:=false}
abbrev CX0:CXT:=λ_ _ _ _ _ _=>False
abbrev E0:XK:=λ_ _ _=>False
theorem pD{X:Cx}:lH CX0 X E0:=λ_ _ _ _ _ _ _ h=>h.elim
structure Fun(K:PySem.W.Frag)(x qual:Str)(st:Stmt)(f:Addr)(fd:FuncData):Prop where
 ex:∃(oc:Value) (od:Option Addr) (kV doc pm:Value) (an:Option Addr) (cdv ct:Value) (osl:Array (Option Value)),
  fd=PySem.W.fnOf x qual (jB st) (gq st) (aZ st) .none kV doc pm an cdv ct/\K.lookup f=some ⟨oc,od,.func fd,osl⟩/\PySem.W.codeIn K cdv qual=true
 kp:PySem.W.keepIn K (.ref f)=true
section
variable {P:Program}{w:World}{K:PySem.W.Frag}{mg:Str->Option Value}{base:Heap}
theorem Fun.ok{x qual:Str}{st:Stmt}{f:Addr}{fd:FuncData}{N ps:List Str}{k:Nat}{sp:Sp}(F:Fun K x qual st f fd)(S:bU N ps (aZ st))(len:∀vs H Q E,sp vs H Q E->vs.length=ps.length)
  (d:∀(c:Value) (A:Around) (outer:List Env) (s:Shared) (H:Hp) (vs:List V) (Q:VK) (E:XK),bJ k (A.deeper (envOfC qual (aZ st) s.heap.objs.size f c))->sp vs H Q E ->
   ∃t,PSs (jO CX0 P w K mg base N qual (aZ st) f c A outer s H E).nox (gq st) t/\t {nx:=λ_ n=>Q .non n,rt:=Q} (start N vs) H):eU P w K mg base CX0 (k+1) f fd ps sp:=by
 obtain⟨C,B,kV,u,y,G,c,ct,r,rfl,lk,l⟩:=F.ex
 refine R9 lk l S len λA outer s H vs Q E m j=>?_
 obtain⟨t,h,q⟩:=d c A outer s H vs Q E m j;exact⟨t,h.nox,q⟩
theorem Fun.binds{x qual:Str}{st:Stmt}{f:Addr}{fd:FuncData}{ps:List Str}(F:Fun K x qual st f fd)
  (h:∀(kV c pm:Value) (j:Option Addr) (d ct:Value) (us:List Value),us.length=ps.length->bindArgs (PySem.W.fnOf x qual (jB st) (gq st) (aZ st) .none kV c pm j d ct) ⟨us,[]⟩=pure (ps.zip us)):Binds K fd ps []:=by
 obtain⟨q,n,kV,c,pm,j,d,ct,l,rfl,lk,m⟩:=F.ex;exact .all (h kV c pm j d ct)
theorem xO{x qual:Str}{st:Stmt}{f:Addr}{q:Value}{n m:Option Addr}{j:Array (Option Value)}{kV h pm d ct:Value}(l:K.lookup f=some ⟨q,n,.func (PySem.W.fnOf x qual (jB st) (gq st) (aZ st) .none kV h pm m d ct),j⟩)
  (c:PySem.W.codeIn K d qual=true) (k:PySem.W.keepIn K (.ref f)=true):Fun K x qual st f (PySem.W.fnOf x qual (jB st) (gq st) (aZ st) .none kV h pm m d ct):=⟨⟨q,n,kV,h,pm,m,d,ct,j,rfl,l,c⟩,k⟩
end
section
variable {X:Cx}
theorem pv(i:Nat){x:Str}{c:Pos}(j:X.N[i]?=some x:=by rfl)(h:Vis X.env.scope x:=by first | exact Or.inl rfl | exact Or.inr (Or.inl rfl) | exact Or.inr (Or.inr rfl))(hd:(x == ("__debug__":Str))=false:=by decide)
  (d:(x == ("__classdict__":Str))=false:=by decide):PE X (.Name x c) (G6 i):=nM j h hd d
end
def Same(H c:Hp):Prop:=∀b o,H b=some o->c b=some o
theorem Same.refl(H:Hp):Same H H:=λ_ _ h=>h
theorem Same.trans{H j d:Hp}(a:Same H j)(b:Same j d):Same H d:=λc o h=>b c o (a c o h)
theorem Same.seq{K:PySem.W.Frag}{H c:Hp}{a:Addr}{xs:List V}(e:Same H c)(h:SqL K H a xs):SqL K c a xs:=by
 rcases h with(h | ⟨o,h⟩) | h
 ·exact .inl (.inl (e _ _ h))
 ·exact .inl (.inr ⟨o,e _ _ h⟩)
 ·exact .inr h
section
variable {κ:Type}[DecidableEq κ]
end
section
variable {P:Program}{w:World}{H:Hp}{h:Heap}{a:Addr}
end
section
variable {X:Cx}{pins:List (Addr×Obj)}{σ:St}{H:Hp}{s:Shared}{a:Addr}{y v:V}{u r:Value}{o:Option V}{A:Around}{E:Value->Shared->Prop}
end
section
variable {X:Cx}{pins:List (Addr×Obj)}{σ:St}{H:Hp}{s:Shared}{a:Addr}{kvs:List (Key×V)}{k:Key}{u:Value}{A:Around}{E:Value->Shared->Prop}
end
section
variable {X:Cx}{o i e value:Expr}{pos pos' tpos:Pos}{td ty tv:TE}
end
section
variable {X:Cx}{pos:Pos}
end
def xP:List (TE×TE)->St->Hp->(List (V×V)->Hp->Prop)->Prop
 | [],_,H,Q=>Q [] H
 | (tk,tv)::r,σ,H,Q=>tk σ H λx j=>tv σ j λy h=>xP r σ h λc d=>Q ((x,y)::c) d
abbrev VV:List (V×V)->List (Value×Value)->Prop:=Paired λp q=>RelV p.1 q.1/\RelV p.2 q.2
def PPs(X:Cx)(d:Pos)(keys:List (Option Expr))(values:List Expr)(c:List (TE×TE)):Prop :=
 ∀(pins:List (Addr×Obj)) (s:Shared) (σ:St) (H:Hp) (Q:List (V×V)->Hp->Prop),Inv X pins σ H s->xP c σ H Q ->
  wpAny (model X.prog X.w) X.A (evalPairs (pairTrees keys values X.env d)) (λl m=>∃h j,Inv X pins σ j m/\VV h l/\Q h j) X.xe s
structure M1(X:Cx)(o:Expr)(m:Str)(apos:Pos)(e:Expr)(cpos:Pos):Prop where
 base:attributeBase o m X.env (eval o X.env)=eval o X.env
 few:((backTo cpos (starEach [e] X.env)).all (λx=>!x.1)&&(backToKw cpos (keywordEach [] X.env)).all (λx=>x.1.isSome)
  && decide (([e]:List Expr).length+([]:List Keyword).length+(if([]:List Keyword).isEmpty then 0 else 1)<30))=true
 line:(apos.endLine == cpos.line)=true
 trees:backTo cpos (starEach [e] X.env)=[(false,eval e X.env)]
structure M2(X:Cx)(o:Expr)(m:Str)(apos:Pos)(e f:Expr)(cpos:Pos):Prop where
 base:attributeBase o m X.env (eval o X.env)=eval o X.env
 few:((backTo cpos (starEach [e,f] X.env)).all (λx=>!x.1)&&(backToKw cpos (keywordEach [] X.env)).all (λx=>x.1.isSome)
  && decide (([e,f]:List Expr).length+([]:List Keyword).length+(if([]:List Keyword).isEmpty then 0 else 1)<30))=true
 line:(apos.endLine == cpos.line)=true
 trees:backTo cpos (starEach [e,f] X.env)=[(false,eval e X.env),(false,eval f X.env)]
section
variable {X:Cx}{pins:List (Addr×Obj)}{σ:St}{H:Hp}{s:Shared}{a:Addr}{y d:V}{u r:Value}{o:Option V}{A:Around}{E:Value->Shared->Prop}
end
section
variable {X:Cx}{o e f:Expr}{apos cpos:Pos}{td ty tx:TE}
end
section
variable {X:Cx}{pins:List (Addr×Obj)}{σ:St}{H:Hp}{s:Shared}{a:Addr}{kvs:List (Key×V)}{A:Around}{E:Value->Shared->Prop}
end
section
variable {X:Cx}{pins:List (Addr×Obj)}{σ:St}{H:Hp}{s:Shared}{a:Addr}{y:V}{u:Value}{A:Around}{E:Value->Shared->Prop}
end
section
variable {X:Cx}
end
section
variable {κ:Type}[DecidableEq κ]
end
def lK(cells:List (Str×Addr)):List (Str×NameKind)->List (Str×Addr)->List (Str×Addr)
 | [],acc=>acc
 | (n,k)::r,acc=>if k == .free then lK cells r ((n,(cells.lookup n).getD 0)::acc) else lK cells r acc
def mJ(scope:Scope)(env:Env):List (Str×Addr):=lK env.cells scope.names []
theorem HX{scope:Scope}{env:Env}(h:∀y∈scope.names,y.2=.free->∃c,env.cells.lookup y.1=some c):closureFor scope env=pure (mJ scope env):=by
 simp only[closureFor,mJ]
 generalize ([]:List (Str×Addr))=j
 generalize scope.names=names at h
 induction names generalizing j with
 |nil=>rfl
 |cons y r ih =>
  obtain⟨n,k⟩:=y
  have l:=λa=>ih a λz m=>h z (zr _ m)
  by_cases d:k=.free
  ·obtain⟨c,q⟩:=h (n,k) zp d;have hc':env.cells.lookup n=some c:=q;subst d;simp only[List.forIn_cons,beq_self_eq_true,if_true,cellOf,hc',pure_bind,bind_assoc,lK,Option.getD_some];exact l _
  ·have t:(k == NameKind.free)=false:=by simpa using d
   simp only[List.forIn_cons,t,Bool.false_eq_true,if_false,pure_bind,bind_assoc,lK];exact l _
theorem xQ{cells:List (Str×Addr)}{x:Str}{c:Addr}:∀{names:List (Str×NameKind)}{acc:List (Str×Addr)},(lK cells names acc).lookup x=some c->acc.lookup x=some c\/(∃k,(x,k)∈names/\k=.free/\(cells.lookup x).getD 0=c)
 | [],acc,h=>.inl h
 | (n,k)::r,acc,h=>by
  unfold lK at h
  by_cases m:k=.free
  ·subst m;simp only[beq_self_eq_true,if_true] at h
   rcases xQ h with z | ⟨k,d,q⟩
   ·rw[List.lookup_cons] at z
    by_cases l:x=n
    ·subst l;simp at z;exact .inr ⟨.free,zp,rfl,z⟩
    ·have j:(x == n)=false:=by simpa using l
     rw[j] at z;exact .inl z
   ·exact .inr ⟨k,zr _ d,q⟩
  ·have j:(k == NameKind.free)=false:=by simpa using m
   simp only[j,Bool.false_eq_true,if_false] at h
   rcases xQ h with z | ⟨k,d,q⟩
   ·exact .inl z
   ·exact .inr ⟨k,zr _ d,q⟩
theorem uG{cells:List (Str×Addr)}{x:Str}:∀{names:List (Str×NameKind)}{acc:List (Str×Addr)},((∃c,acc.lookup x=some c)\/(x,NameKind.free)∈names)->∃c,(lK cells names acc).lookup x=some c
 | [],acc,h=>by
  rcases h with h | h
  ·exact h
  ·cases h
 | (n,k)::r,acc,h=>by
  unfold lK
  by_cases j:k=.free
  ·subst j;simp only[beq_self_eq_true,if_true];refine uG ?_
   by_cases d:x=n
   ·subst d;exact .inl ⟨(cells.lookup x).getD 0,by simp[List.lookup_cons]⟩
   ·have l:(x == n)=false:=by simpa using d
    rcases h with⟨c,h⟩ | h
    ·exact .inl ⟨c,by rw[List.lookup_cons,l];exact h⟩
    ·rcases zh.mp h with e | h
     ·cases e;exact absurd rfl d
     ·exact .inr h
  ·have l:(k == NameKind.free)=false:=by simpa using j
   simp only[l,Bool.false_eq_true,if_false];refine uG ?_
   rcases h with h | h
   ·exact .inl h
   ·rcases zh.mp h with e | h
    ·cases e;exact absurd rfl j
    ·exact .inr h
def kW(scope c:Scope):List (Str×NameKind):=
 scope.names.map λ(n,k)=>if(k == .free&&c.kind == .function&&c.names.lookup n == some .cell) then(n,.cell) else(n,k)
theorem HY{scope c:Scope}(q:∀y∈scope.names,y.2≠.cell){x:Str}{k:NameKind}(h:(kW scope c).lookup x=some k)(m:k=.cell\/k=.free):(x,NameKind.free)∈scope.names:=by
 have l:=PySem.mem_of_lookup h;unfold kW at l;obtain⟨⟨n,j⟩,h1,h2⟩:=zT.mp l;dsimp only at h2
 by_cases d:(j == NameKind.free&&c.kind == .function&&c.names.lookup n == some .cell)=true
 ·rw[if_pos d] at h2
  have e:j=.free:=by
   simp only[zy,beq_iff_eq] at d;exact d.1.1
  cases h2;rw[<-e];exact h1
 ·rw[if_neg d] at h2;cases h2
  rcases m with e | e
  ·exact absurd e (q _ h1)
  ·rw[<-e];exact h1
def cH(c own:List Str)(cap:List Nat):List Str:=own++cap.map λj=>c.getD j (Str.ofString "")
def compSt(own:List Str)(cap:List Nat)(σ:St):St:=own.map (λ_=>none)++cap.map λj=>(σ[j]?).join
def pF(c:Scope)(d:List Str)(scope:Scope)(own:List Str)(cap:List Nat):Bool :=
 (scope.kind == .function)&&scope.names.all (λy=>y.2 != .cell)&&scope.names.all (λy=>y.2 != .local || scope.names.lookup y.1 == some .local) &&
 scope.names.all (λy=>y.2 != .free || c.names.lookup y.1 == some .cell || c.names.lookup y.1 == some .free) &&
 cap.all λj=>decide (j<d.length)&&scope.names.contains (d.getD j (Str.ofString ""),NameKind.free)&&((kW scope c).lookup (d.getD j (Str.ofString "")) == some .cell || (kW scope c).lookup (d.getD j (Str.ofString "")) == some .free)
structure lL(sc0:Scope)(N0:List Str)(scope:Scope)(own:List Str)(cap:List Nat):Prop where
 kind:scope.kind=.function
 nocell:∀y∈scope.names,y.2≠.cell
 names:∀y∈scope.names,y.2=.local->scope.names.lookup y.1=some .local
 free:∀y∈scope.names,y.2=.free->sc0.names.lookup y.1=some .cell\/sc0.names.lookup y.1=some .free
 cap:∀j∈cap,j<N0.length/\(N0.getD j (Str.ofString ""),NameKind.free)∈scope.names/\((kW scope sc0).lookup (N0.getD j (Str.ofString ""))=some .cell\/(kW scope sc0).lookup (N0.getD j (Str.ofString ""))=some .free)
theorem lL.of{d:Scope}{m:List Str}{scope:Scope}{own:List Str}{cap:List Nat}(h:pF d m scope own cap=true):lL d m scope own cap:=by
 unfold pF at h;simp only[zy,List.all_eq_true,beq_iff_eq,bne_iff_ne,ne_eq,Bool.or_eq_true,decide_eq_true_eq,List.contains_iff_mem] at h;obtain⟨⟨⟨⟨h1,h2⟩,h3⟩,h4⟩,q⟩:=h;refine⟨h1,h2,λy l e=>?_,λy l e=>?_,λj n=>?_⟩
 ·rcases h3 y l with z | z
  ·exact absurd e z
  ·exact z
 ·rcases h4 y l with(z | z) | z
  ·exact absurd e z
  ·exact .inl z
  ·exact .inr z
 ·obtain⟨⟨a,b⟩,c⟩:=q j n;exact⟨a,b,c⟩
def dg(X:Cx)(scope:Scope)(C:Addr)(N':List Str)(s:Shared)(H:Hp)(ex:List Addr):Cx where
 prog:=X.prog
 w:=X.w
 K:=X.K
 mg:=X.mg
 base:=X.base
 A:=X.A
 N:=N'
 s₀:=s
 H₀:=H
 env:=compEnvC scope (mJ scope X.env) C X.env
 outer:=X.stack
 stack:=X.stack
 ex:=ex
 fn:=λ_=>false
 calm:=X.calm
 pn:=[]
 xe:=λ_ _=>False
section
variable {X:Cx}
def nU(X:Cx)(d:List Expr)(t:TT):Prop :=
 ∀(pins:List (Addr×Obj)) (s:Shared) (σ:St) (H:Hp) (Q:Bool->Hp->Prop),Inv X pins σ H s->t σ H Q ->
  wpAny (model X.prog X.w) X.A (forIn d true λc r=>if r=true then do let ok <-isTrue c X.env (eval c X.env);pure (ForInStep.yield ok) else pure (ForInStep.yield r)) (TP X pins σ Q) X.xe s
def Tu:TT:=λ_ H Q=>Q true H
theorem Tv:nU X [] Tu:=λ_ _ _ H _ I h=>wpAny_tests_nil ⟨H,I,h⟩
end
def H9(J:It)(g:TG)(q:TT)(te:TE)(Q:List V->Hp->Prop)(l:St)(u:Hp):Prop :=
 ∃W:Nat->Nat->List V->St->Hp->Prop,(∃m,W 0 m [] l u)/\∀i m d σ H,W i m d σ H ->
  (J.stop i H/\Q d H)\/(J.go i H/\d.length<sizeLine/\∃N:List V->St->Hp->Prop,(∀d j h,N d j h->∃n,n<m/\W (i+1) n d j h)/\∀x h,J.yld i H x h->g x σ h λc t=>q c t λb H3 =>
   if b=true then te c H3 λy r=>N (d++[y]) c r else N d c H3)
def xR(h:TI)(own:List Str)(cap:List Nat)(g:TG)(j:TT)(te:TE):TE:=λσ H Q =>
 h σ H λJ l=>H9 J g j te (λc d=>c.length<=sizeLine/\∀p,d p=none->Q (.ref p) (upd d p (.lst c))) (compSt own cap σ) l
section
variable {prog:Program}{w:World}{A:Around}{R:Result->Shared->Prop}{s:Shared}
theorem Tw{F target iter:Expr}{E:List Expr}{scope:Scope}{H:Pos}{it acc:Value}{env:Env}(I:Nat->Shared->Prop)
  (turn:∀n s,I n s->wpAny (model prog w) A (pyNext it) (λr l=>match r with
   |none=>R (.ok .next) l
   |some v=>wpAny (model prog w) A (letOwnedTupleGo target it v) (λ_ q=>wpAny (model prog w) A (assign target env v) (λ_ y =>
     wpAny (model prog w) A (forIn E true λc r=>if r=true then do let ok <-isTrue c env (eval c env);pure (ForInStep.yield ok) else pure (ForInStep.yield r)) (λok j =>
      if ok=true then wpAny (model prog w) A (eval F env) (λx u =>
       wpAny (model prog w) A (call (.builtin "list.append") [acc,x]) (λ_ t=>∃m,m<n/\I m t) (λ_ _=>False) u) (λ_ _=>False) j
      else ∃m,m<n/\I m j) (λ_ _=>False) y) (λ_ _=>False) q) (λ_ _=>False) l) (λ_ _=>False) s)
  (n:Nat) (h:I n s):
  codeAny (model prog w) A (.compLoop (.ListComp F [⟨target,iter,E,0⟩] scope H) 0 it acc env) R s:=by
 refine codeAny_loop rfl I (λn s P=>?_) n h;show wpAny _ A ((compTurn (.ListComp F [⟨target,iter,E,0⟩] scope H) 0 it acc env).onRaise (λx=>do noteFrame x env;theTreesLotGoes x)) _ _ s;refine wpAny_noted ?_;rw[compTurn_list];refine za (wpAny_standAt (za (zY (turn n s P) (λr l C=>?_) λ_ _ d=>d.elim)))
 cases r with
 |none=>exact zb C
 |some v =>
  refine za (zY C (λ_ q G=>?_) λ_ _ d=>d.elim);refine za (zY G (λ_ y O=>za (zY O (λok j B=>?_) λ_ _ d=>d.elim)) λ_ _ d=>d.elim)
  cases ok with
  |false=>exact zb ⟨rfl,B⟩
  |true =>
   exact za (za (zY B (λx u L=>za (zY L (λ_ t J=>zb (zb ⟨rfl,J⟩)) λ_ _ d=>d.elim)) λ_ _ d=>d.elim))
end
section
variable {X:Cx}{pins:List (Addr×Obj)}{σ:St}{s2:Shared}{H2:Hp}{elt tg iter:Expr}{ifs:List Expr}{scope:Scope}{pos:Pos}{g:TG}{tt:TT}{te:TE}{sc0:Scope}{N0 own:List Str}{cap:List Nat}
 {it:Addr}{fp:List Addr}{tn:Nat->Heap->Prop}{J:It}
theorem xT(j:Inv X pins σ H2 s2)(d:X.env.scope=sc0)(ok:lL sc0 N0 scope own cap):∀y∈scope.names,y.2=.free->∃c,X.env.cells.lookup y.1=some c:=λy h e=>by
 refine j.ok.has y.1 ?_;have q:=ok.free y h e;rw[<-d] at q;exact q
theorem mK(n:Inv X pins σ H2 s2)(d:X.env.scope=sc0)(ok:lL sc0 N0 scope own cap){x:Str}{c:Addr}(h:(mJ scope X.env).lookup x=some c):X.env.cells.lookup x=some c:=by
 rcases xQ h with z | ⟨k,j,l,q⟩
 ·simp at z
 ·obtain⟨m,e⟩:=xT n d ok (x,k) j l;have e':X.env.cells.lookup x=some m:=e;rw[e'] at q;rw[e',<-q];rfl
theorem Tz(d:Inv X pins σ H2 s2)(l:X.env.scope=sc0)(ok:lL sc0 N0 scope own cap)(T:Turn X.prog X.w X.K tg J fp it tn)(n:tn 0 s2.heap)(m:∀b∈fp,iJ X pins H2 b)
  (C:Addr) (r:s2.heap.objs.size<=C):(dg X scope C (cH N0 own cap) s2 H2 fp).Ok:=by
 have lt:∀b∈fp,b<s2.heap.objs.size:=λb j=>by
  obtain⟨o,e,_⟩:=T.obj 0 _ n b j;exact zg e
 have rel:(relabel scope X.env).names=kW scope sc0:=by rw[<-l];rfl
 refine⟨d.ok.mod,ok.kind,d.ok.glob,d.ok.blt,r,λx y c h1 h2=>?_,λx u=>?_,λx c hf _=>absurd hf (by simp[dg]),d.ok.hd,d.ok.frames,.inl rfl,λb j=>⟨?_,λx c h=>?_⟩,d.bs,zK d.ok.bsz d.sz,
  λb o e j=>?_,λb j t=>?_,d.stack,d.stkFree⟩
 ·exact d.ok.inj x y c (mK d l ok h1) (mK d l ok h2)
 ·have hx':(kW scope sc0).lookup x=some .cell\/(kW scope sc0).lookup x=some .free:=by rw[<-rel];exact u
  have B:(x,NameKind.free)∈scope.names:=by
   rcases hx' with q | q
   ·exact HY ok.nocell q (.inl rfl)
   ·exact HY ok.nocell q (.inr rfl)
  exact uG (.inr B)
 ·exact zt (zJ (lt b j) r)
 ·exact(m b j).2.2.2.2.1 x c (mK d l ok h)
 ·rcases(m b j).2.2.2.1 with z | z
  ·exact d.ok.noex b o e z
  ·exact absurd (zJ (zg e) (zK d.ok.bsz z)) (zX _)
 ·rcases zh.mp (d.stkSub b t) with z | z
  ·exact(m b j).2.1 z
  ·exact(m b j).2.2.1 z
theorem TJ(t:Inv X pins σ H2 s2)(d:X.env.scope=sc0)(P:X.N=N0)(ok:lL sc0 N0 scope own cap)(T:Turn X.prog X.w X.K tg J fp it tn)(L:tn 0 s2.heap)(f2:∀b∈fp,iJ X pins H2 b)
  (C:Addr) (W:s2.heap.objs.size<=C) {n:Heap}{tk:Nat}{m:Str->Option Value} (B:∀b o,s2.heap.get? b=some o->n.get? b=some o) (O:n.Ns C m):
  Inv (dg X scope C (cH N0 own cap) s2 H2 fp) [] (compSt own cap σ) H2 {s2 with heap:=n,toks:=tk}:=by
 have rel:(relabel scope X.env).names=kW scope sc0:=by rw[<-d];rfl
 refine⟨Tz t d ok T L f2 C W,rfl,t.bare,Un.kept B,⟨m,O,λi x v e1 e2 _=>?_⟩,λx c h=>?_,t.hok.fresh W,λx c h=>?_,λp Y=>absurd (show p∈([]:List (Addr×Obj)) from Y) (by simp),t.hok.kept B,?_⟩
 ·have e1':(cH N0 own cap)[i]?=some x:=e1;unfold cH at e1';unfold compSt at e2
  by_cases I:i<own.length
  ·rw[zC (by simpa using I),zG] at e2
   cases q:own[i]? with
   |none=>rw[q] at e2;cases e2
   |some z=>rw[q] at e2;cases e2
  ·rw[zv (by simpa using I),zG] at e2;rw[zv (by simpa using I),zG] at e1';rw[ze] at e2
   cases q:cap[i - own.length]? with
   |none=>rw[q] at e2;cases e2
   |some j =>
    rw[q] at e1' e2;have ex:N0.getD j (Str.ofString "")=x:=zQ e1';have E:(σ[j]?).join=some v:=zQ e2;obtain⟨U,H,R⟩:=ok.cap j (zS q);rw[ex] at H R
    have eN:X.N[j]?=some x:=by
     rw[P,zD U];rw[jl,zD U] at ex;exact congrArg some ex
    have Q:σ[j]?=some (some v):=by
     cases z:σ[j]? with
     |none=>rw[z] at E;cases E
     |some o=>rw[z] at E;cases o with
      |none=>cases E
      |some y=>exact congrArg some E
    have kf:X.env.kindOf x=some .cell\/X.env.kindOf x=some .free:=by
     have z:=ok.free _ H rfl;rw[<-d] at z;exact z
    obtain⟨m0,hn0,Z⟩:=t.loc;obtain⟨u,r,l⟩:=Z j x v eN Q (kf.elim (λz=>.inr (.inl z)) λz=>.inr (.inr z));refine⟨u,r,.inr ⟨?_,?_⟩⟩
    ·show(relabel scope X.env).names.lookup x=_\/(relabel scope X.env).names.lookup x=_;rw[rel];exact R
    ·rcases l with⟨l,_⟩ | ⟨_,c,hc,⟨o,G,hd⟩⟩
     ·rcases kf with z | z<;>(rw[z] at l;cases l)
     ·obtain⟨c',F⟩:=uG (cells:=X.env.cells) (names:=scope.names) (acc:=[]) (.inr H);have z:=mK t d ok F;rw[hc] at z;cases z;exact⟨c,F,o,B _ _ G,hd⟩
 ·obtain⟨v,o,G,hd⟩:=t.cell x c (mK t d ok h);exact⟨v,o,B _ _ G,hd⟩
 ·exact t.freeC x c (mK t d ok h)
 ·show(compSt own cap σ).length=(cH N0 own cap).length;unfold compSt cH;simp
theorem Ia{Q:List V->Hp->Prop}{RR:Value->Addr->Result->Shared->Prop}{E:Value->Shared->Prop}(hc:X.calm=true)(I2:Inv X pins σ H2 s2)(hsc:X.env.scope=sc0)(hN0:X.N=N0)(ok:lL sc0 N0 scope own cap)
  (hg:∀C s H ex,PG (dg X scope C (cH N0 own cap) s H ex) tg g) (ht:∀C s H ex,nU (dg X scope C (cH N0 own cap) s H ex) ifs tt) (he:∀C s H ex,PE (dg X scope C (cH N0 own cap) s H ex) elt te)
  (T:Turn X.prog X.w X.K tg J fp it tn) (st2:tn 0 s2.heap) (f2:∀b∈fp,iJ X pins H2 b) (hW:H9 J g tt te Q (compSt own cap σ) H2)
  (hRR:∀D C oC ys F R,Inv X (pins++[(C,oC)]) σ (upd F D (.lst ys)) R->(∀h:Heap,h.get? C=some oC->∃m,h.Ns C m)->iJ X pins (upd F D (.lst ys)) C->F D=none->Q ys F->RR (.ref D) C (.ok .next) R)
  (hQsz:∀ys F,Q ys F->ys.length<=sizeLine):
  wpAny (model X.prog X.w) X.A (newList []) (λacc O=>wpAny (model X.prog X.w) X.A (newFunctionEnv scope X.env.globals (mJ scope X.env) [] X.env.qual none .none (some X.env)) (λcenv s₄ =>
   codeAny (model X.prog X.w) X.A (.compStart (.ListComp elt [⟨tg,iter,ifs,0⟩] scope pos) 0 (.ref it) acc {cenv with scope:=relabel scope X.env}) (RR acc cenv.locals) s₄) E O) E s2:=by
 refine wpAny_newObj_type (wpAny_newFunctionEnv ok.nocell (by intro y hy;simp at hy) (λU L t=>?_) ok.kind);dsimp only at L t ⊢
 generalize hP2:s2.heap.push {cls:=.type "list",dict:=none,data:=.seq ([]:List Value).toArray}=B at L t ⊢
 have hC:B.objs.size=s2.heap.objs.size+1:=by rw[<-hP2,Heap.size_push]
 have hDC:s2.heap.objs.size≠B.objs.size:=by rw[hC];exact zt (jg _)
 have hCle:s2.heap.objs.size<=B.objs.size:=by rw[hC];exact Nat.le_succ _
 have below:∀b,b<s2.heap.objs.size->b≠B.objs.size/\b≠s2.heap.objs.size:=λb l=>⟨by rw[hC];exact zt (jm l),zt l⟩
 have ltf:∀b∈fp,b<s2.heap.objs.size:=λb l=>by
  obtain⟨o,e,_⟩:=T.obj 0 _ st2 b l;exact zg e
 have old:∀b o,s2.heap.get? b=some o->U.get? b=some o:=λb o e=>t.extBut b o (below b (zg e)).1 (zo _ (hP2 ▸ zo _ e))
 have hacc:U.PlainList s2.heap.objs.size #[]:=⟨_,t.extBut _ _ hDC (zo _ (hP2 ▸ zF _ rfl))⟩
 have st₁:tn 0 U:=T.keep _ _ _ st2 λb _ o e=>old b o e
 have hDno:∀b∈fp,s2.heap.objs.size≠b:=λb l=>(below b (ltf b l)).2.symm
 generalize hXe:dg X scope B.objs.size (cH N0 own cap) s2 H2 fp=X'
 have loop:∀O:Shared,O = {s2 with heap:=U,toks:=s2.toks+([]:List (Str×Value)).length} ->
   codeAny (model X.prog X.w) X.A (.compLoop (.ListComp elt [⟨tg,iter,ifs,0⟩] scope pos) 0 (.ref it) (.ref s2.heap.objs.size) (compEnvC scope (mJ scope X.env) B.objs.size X.env))
    (RR (.ref s2.heap.objs.size) B.objs.size) O:=by
  rintro O rfl;obtain⟨W,⟨m0,w0⟩,turn⟩:=hW;subst hXe
  have stat:∀{F:Hp}{oD:Obj},(∀b∈fp,F b=none)->∀b∈fp,iJ (dg X scope B.objs.size (cH N0 own cap) s2 H2 fp) [(s2.heap.objs.size,oD)] F b:=λ{F oD} hn b l =>
   ⟨hn b l,(below b (ltf b l)).1,λz=>by
    rcases zh.mp (I2.stkSub b z) with z | z
    ·exact(f2 b l).2.1 z
    ·exact(f2 b l).2.2.1 z,.inl l,λx c h=>(f2 b l).2.2.2.2.1 x c (mK I2 hsc ok h),λp hp=>by
    have e:p=(s2.heap.objs.size,oD):=by simpa [dg] using hp
    rw[e];exact hDno b l⟩
  have notcell:∀x c,(mJ scope X.env).lookup x=some c->c≠s2.heap.objs.size:=λx c h z=>by
   obtain⟨v,o,ho,hd⟩:=I2.cell x c (mK I2 hsc ok h);exact absurd (zg ho) (by rw[z];exact zX _)
  have nofs:s2.heap.objs.size∉frs X.stack:=λz=>by
   rcases zh.mp (I2.stkSub _ z) with z | z
   ·exact absurd I2.lt (by rw[z];exact zX _)
   ·exact I2.nofs (zc _) z
  have pinD:∀{G:St}{F:Hp}{R:Shared}{j:Array Value}{k:Nat},Inv (dg X scope B.objs.size (cH N0 own cap) s2 H2 fp) [] G F R->F s2.heap.objs.size=none ->
    R.heap.get? s2.heap.objs.size=some {cls:=.type "list",data:=.seq j k}->Inv (dg X scope B.objs.size (cH N0 own cap) s2 H2 fp) [(s2.heap.objs.size,{cls:=.type "list",data:=.seq j k})] G F R :=
   λ{G F R j k} I hn hd=>I.pins_of λp hp=>by
    have e:p=(s2.heap.objs.size,{cls:=.type "list",data:=.seq j k}):=by simpa using hp
    subst e;exact⟨hd,hn,hDC,nofs,λv z=>by cases z⟩
  obtain⟨k0,hk0⟩:=hacc;refine Tw (env:=compEnvC scope (mJ scope X.env) B.objs.size X.env)
   (λn R=>∃i ys j k G F,Inv (dg X scope B.objs.size (cH N0 own cap) s2 H2 fp) [(s2.heap.objs.size,{cls:=.type "list",data:=.seq j k})] G F R/\tn i R.heap/\(∀b∈fp,F b=none)/\aV ys j.toList/\W i n ys G F) ?_ m0
   ⟨0,[],#[],k0,_,H2,pinD (TJ I2 hsc hN0 ok T st2 f2 _ hCle old L) (I2.hok.fresh (zc _)) hk0,st₁,λb l=>(f2 b l).1,.nil,w0⟩
  rintro n s3 ⟨i,ys,j,k,σ3,H3,I3,st3,fr3,hv,w3⟩
  rcases turn i n ys σ3 H3 w3 with⟨stop,qn⟩ | ⟨go,hsz,N,hN,step⟩
  ·refine thn (T.done (dg X scope B.objs.size (cH N0 own cap) s2 H2 fp) rfl rfl rfl hc i _ s3 σ3 H3 _ I3 (stat fr3) st3 stop) λr s4 ⟨hr,Z⟩=>?_
   subst hr;show RR _ _ (.ok .next) s4;obtain⟨hd4,P,_⟩:=Z.pin (s2.heap.objs.size,{cls:=.type "list",data:=.seq j k}) (by simp[dg]);dsimp only at hd4 P;obtain⟨m4,hns4,_⟩:=id Z.loc;have hns4':s4.heap.Ns B.objs.size m4:=hns4;obtain⟨oC,es,ep,hoC,rC⟩:=id hns4';have cne:B.objs.size≠s2.heap.objs.size:=hDC.symm;have freeC:H3 B.objs.size=none:=Z.free;have Y:iJ X pins (upd H3 s2.heap.objs.size (.lst ys)) B.objs.size:=I2.fpOk hCle (by rw[bj cne];exact freeC)
   have hlen:ys.length=j.size:=by have e:=hv.length;simpa using e
   have I5:Inv X pins σ (upd H3 s2.heap.objs.size (.lst ys)) s4:=by
    refine I2.call' (ch:=fp) Z.os ⟨Z.base.keep,Z.base.slot,λb o e n hx=>?_,Z.base.there,λb xs e=>?_,λb o u e=>?_,λb ps e=>?_⟩ (λb u e=>?_) Z.bare λb l=>?_
    ·rw[bj (zt (zg e))];exact Z.base.free b o e n hx
    ·have q:=Z.base.tups b xs e;rw[bj (dC q P)];exact q
    ·have q:=Z.base.frzs b o u e;rw[bj (dC q P)];exact q
    ·obtain⟨more,q⟩:=Z.base.tbls b ps e;exact⟨more,by rw[bj (dC q P)];exact q⟩
    ·by_cases l:b=s2.heap.objs.size
     ·subst l;rw[dG] at e;cases e;exact⟨hQsz ys H3 qn,j.toList,k,hv,by simpa using hd4⟩
     ·rw[bj l] at e
      exact(Z.hok b u e).stay (λ_ _ _ q=>q) (λc q=>by rw[bj (dC q P)];exact q) λc xs q=>by rw[bj (dC q P)];exact q
    ·obtain⟨_,a2,_,a4,a5,a6⟩:=f2 b l;exact⟨a4,a2,a5,a6⟩
   refine hRR s2.heap.objs.size B.objs.size oC ys H3 s4 (I5.pins_of λp hp=>?_) (λh e=>⟨m4,oC,es,ep,e,rC⟩) Y P qn
   rcases zu.mp hp with z | z
   ·exact I5.pin p (zV _ z)
   ·have e:p=(B.objs.size,oC):=by simpa using z
    subst e
    exact⟨hoC,Y.1,Y.2.1,Y.2.2.1,λv z=>by
     have:=rC.1
     rw[this] at z;cases z⟩
  ·refine thn (T.item (dg X scope B.objs.size (cH N0 own cap) s2 H2 fp) rfl rfl rfl hc i _ s3 σ3 H3 _ I3 (stat fr3) st3 go) λr s4 ⟨u,hr,h4⟩=>?_
   subst hr
   refine thn h4 λ_ s5 ⟨x,H5,I5,r5,y5,st5,fr5⟩=>?_
   have I5':=I5.pinned (stat fr5) (T.obj _ _ st5)
   refine thn (hg _ _ _ _ _ s5 σ3 H5 x u _ I5' r5 (step x H5 y5)) λ_ s6 ⟨σ6,H6,I6,q6⟩=>?_
   refine thn (ht _ _ _ _ _ s6 σ6 H6 _ I6 q6) λb s7 ⟨H7,I7,q7⟩=>?_
   have keepT:∀{G:St}{F:Hp}{R:Shared},Inv (dg X scope B.objs.size (cH N0 own cap) s2 H2 fp) ([(s2.heap.objs.size,{cls:=.type "list",data:=.seq j k})]++qZ fp s5.heap) G F R->tn (i+1) R.heap/\∀b∈fp,F b=none:=λ{G F R} I'=>by
    refine⟨T.keep _ _ _ st5 λb l o e=>(I'.pin (b,o) (zV _ (zV _ (uD l e)))).1,λb l=>?_⟩;obtain⟨o,e,d⟩:=T.obj _ _ st5 b l;exact(I'.pin (b,o) (zV _ (zV _ (uD l e)))).2.1
   cases b with
   |false =>
    rw[if_neg zm] at q7 ⊢;obtain⟨m',hm,w7⟩:=hN _ _ _ q7;obtain⟨a,b⟩:=keepT I7;exact⟨m',hm,i+1,ys,j,k,σ6,H7,I7.unpinned,a,b,hv,w7⟩
   |true =>
    rw[if_pos rfl] at q7 ⊢
    refine thn (he _ _ _ _ _ s7 σ6 H7 _ I7 q7) λv s8 ⟨y,H8,I8,r8,q8⟩=>?_
    obtain⟨m',hm,w8⟩:=hN _ _ _ q8;obtain⟨a,b⟩:=keepT I8;obtain⟨hd8,hn8,_⟩:=I8.pin (s2.heap.objs.size,{cls:=.type "list",data:=.seq j k}) (by simp[dg]);dsimp only at hd8 hn8
    have hl:j.size<=sizeLine:=by
     have e:=hv.length;simp at e;omega
    refine wpAny_list_append_plain (hsz:=hl) ⟨k,hd8⟩ λh9 hl9 hs9=>?_
    obtain⟨k9,hd9⟩:=hl9
    have I8':Inv (dg X scope B.objs.size (cH N0 own cap) s2 H2 fp) [] σ6 H8 s8:=I8.pins_of λp hp=>absurd hp (by simp)
    have I9:Inv (dg X scope B.objs.size (cH N0 own cap) s2 H2 fp) [] σ6 H8 {s8 with heap:=h9}:=
     I8'.turned (t':=s8.toks) (it:=s2.heap.objs.size) (λb o l e=>hs9.extBut b o l e) hn8 hDC (.inr (zc _)) notcell (λp hp=>absurd (show p∈([]:List (Addr×Obj)) from hp) (by simp))
    refine⟨m',hm,i+1,ys++[y],j.push v,k9,σ6,H8,pinD I9 hn8 hd9,T.keep _ _ _ a λb l o e=>hs9.extBut b o (hDno b l).symm e,b,?_,w8⟩;rw[Array.toList_push];exact hv.append (.cons r8 .nil)
 exact codeAny_compStart_list (loop _ rfl) (T.self _ 0 _ _ _ st₁ (loop _ rfl))
theorem TQ{y:TI}(sc0:Scope)(N0 own:List Str)(cap:List Nat)(W:X.calm=true)(hi:PI X tg iter y)
  (R:∀C s H ex,PG (dg X scope C (cH N0 own cap) s H ex) tg g) (L:∀C s H ex,nU (dg X scope C (cH N0 own cap) s H ex) ifs tt) (U:∀C s H ex,PE (dg X scope C (cH N0 own cap) s H ex) elt te)
  (c:X.env.scope=sc0:=by rfl) (n:X.N=N0:=by rfl) (ok:pF sc0 N0 scope own cap=true:=by decide +kernel) (O:∀x,foldedSetIterable iter X.env x=pure x:=by intro _;rfl):
  PE X (.ListComp elt [⟨tg,iter,ifs,0⟩] scope pos) (xR y own cap g tt te):=by
 intro pins s σ H Q I h;have ok:=lL.of ok;rw[eval_ListComp];refine wpAny_comprehension_free (use:=none) rfl O (HX (xT I c ok)) ok.kind ok.names (thn (hi pins s σ H _ I h) λxv s1 h1=>thn h1 λitv s2 h2=>?_);obtain⟨it,fp,tn,J,H2,e,I2,T,d,f2,Z⟩:=h2;subst e
 refine Ia (RR:=λt C=>compPost (model X.prog X.w) X.A X.xe none (EP X pins σ Q) t C) W I2 c n ok R L U T d f2 Z (λD C G u E F B l r hD q=>?_) λu E q=>q.1
 obtain⟨hC,hCn,_⟩:=B.pin (C,G) (by simp);obtain⟨m,P⟩:=l _ hC;refine⟨m,P,λh' j=>⟨.ref D,upd E D (.lst u),?_,rfl,q.2 D hD⟩⟩;obtain⟨f0,f1,f2',f3,f4,f5⟩:=r;exact B.unpinned.turned (t':=F.toks) (it:=C) (λb o Y e=>j.extBut b o Y e) f0 f1 f3 f4 f5
theorem TV{O:TI}{i:Nat}{x:Str}{pos' c:Pos}(sc0:Scope)(N0 own:List Str)(cap:List Nat)(hN:X.N.Nodup)(U:X.N[i]?=some x)(hl:Loc X.env.scope x)(hc:X.calm=true)(hi:PI X tg iter O)
  (hg:∀C s H ex,PG (dg X scope C (cH N0 own cap) s H ex) tg g) (W:∀C s H ex,nU (dg X scope C (cH N0 own cap) s H ex) ifs tt) (he:∀C s H ex,PE (dg X scope C (cH N0 own cap) s H ex) elt te)
  (u:swapsWith (.ListComp elt [⟨tg,iter,ifs,0⟩] scope pos) (some (.Name x pos')) c.line X.env=pure true:=by rfl)
  (hf:X.fn x=true\/X.env.scope.names.lookup x=some .local:=by first | exact .inl rfl | exact .inr rfl | assumption)
  (l:X.env.scope=sc0:=by rfl) (E:X.N=N0:=by rfl) (ok:pF sc0 N0 scope own cap=true:=by decide +kernel) (Y:∀x,foldedSetIterable iter X.env x=pure x:=by intro _;rfl):
  PS X (.Assign [.Name x pos'] (.ListComp elt [⟨tg,iter,ifs,0⟩] scope pos) c) (qY (xR O own cap g tt te) (qX i)):=by
 intro pins s σ H D I h;have ok:=lL.of ok;rw[exec_Assign_Name_used _ _ _ _ u];refine za (wpAny_standAt (za ?_));show wpAny _ X.A (do let _ <-comprehension (.ListComp elt [⟨tg,iter,ifs,0⟩] scope pos) scope X.env _ (newList []) false (eval iter X.env) (some (assign (.Name x pos') X.env))) _ _ s
 refine za (zY (wpAny_comprehension_free (use:=some (assign (.Name x pos') X.env)) (Q:=λ_ d=>SP X pins D .next d) rfl Y (HX (xT I l ok)) ok.kind ok.names
  (thn (hi pins s σ H _ I h) λxv s1 h1=>thn h1 λitv s2 h2=>?_)) (λ_ d Z=>zb (zb Z)) λ_ _ e=>e)
 obtain⟨it,fp,tn,J,H2,e,I2,T,r,f2,hW⟩:=h2;subst e
 refine Ia (RR:=λG C=>compPost (model X.prog X.w) X.A X.xe (some (assign (.Name x pos') X.env)) (λ_ d=>SP X pins D .next d) G C) hc I2 l E ok hg W he T r f2 hW (λj C R L P d I' B F hD q=>?_) λL P q=>q.1
 show wpAny _ X.A (assign (.Name x pos') X.env (.ref j)) _ _ _;refine wpAny_assign_Name (xf (v:=.ref j) I' hN U hl rfl (λt n=>?_) hf);obtain⟨hC,hCn,_⟩:=n.pin (C,R) (by simp);obtain⟨m,hm⟩:=B _ hC;refine⟨m,hm,λh' y=>⟨σ.set i (some (.ref j)),upd P j (.lst L),?_,q.2 j hD⟩⟩;obtain⟨f0,f1,f2',f3,f4,f5⟩:=F;exact n.unpinned.turned (t':=t.toks) (it:=C) (λb o hb e=>y.extBut b o hb e) f0 f1 f3 f4 f5
end
def Can(P:Program)(w:World)(K:PySem.W.Frag)(mg:Str->Option Value)(base:Heap)(x:Str)(ps:List Str)(k:Nat)(sp:Sp):Prop :=
 ∃f fd,mg x=some (.ref f)/\PySem.W.keepIn K (.ref f)=true/\Binds K fd ps []/\eU P w K mg base CX0 k f fd ps sp/\∃h d c,K.lookup f=some ⟨h,d,.func fd,c⟩
def Def(K:PySem.W.Frag)(mg:Str->Option Value)(x:Str)(st:Stmt):Prop:=∃f fd,mg x=some (.ref f)/\Fun K x x st f fd
section
variable {P:Program}{w:World}{K:PySem.W.Frag}{mg:Str->Option Value}{base:Heap}
theorem Def.can{x:Str}{st:Stmt}{N ps:List Str}{k:Nat}{sp:Sp}(D:Def K mg x st)(S:bU N ps (aZ st))
  (hb:∀(kV l pm:Value) (u:Option Addr) (c ct:Value) (us:List Value),us.length=ps.length->bindArgs (PySem.W.fnOf x x (jB st) (gq st) (aZ st) .none kV l pm u c ct) ⟨us,[]⟩=pure (ps.zip us))
  (len:∀vs H Q E,sp vs H Q E->vs.length=ps.length)
  (d:∀(f:Addr) (c:Value) (A:Around) (outer:List Env) (s:Shared) (H:Hp) (vs:List V) (Q:VK) (E:XK),bJ k (A.deeper (envOfC x (aZ st) s.heap.objs.size f c))->sp vs H Q E ->
   ∃t,PSs (jO CX0 P w K mg base N x (aZ st) f c A outer s H E).nox (gq st) t/\t {nx:=λ_ y=>Q .non y,rt:=Q} (start N vs) H):Can P w K mg base x ps (k+1) sp:=by
 obtain⟨f,fd,r,F⟩:=D;obtain⟨n,m,_,_,_,_,_,_,j,_,lk,_⟩:=F.ex;exact⟨f,fd,r,F.kp,F.binds hb,F.ok S len λc A outer s H vs Q E q h=>d f c A outer s H vs Q E q h,n,m,j,lk⟩
end
section
variable {X:Cx}{k:Nat}{x:Str}{ps:List Str}{sp:Sp}{p pos:Pos}{e:Expr}{es:List Expr}{t:TA}
theorem TX(C:Can X.prog X.w X.K X.mg X.base x ps k sp)(h:bJ k X.A)(r:PA X (e::es) t)(m:Gl X x:=by rfl)(d:(x == ("__debug__":Str))=false:=by decide)
  (n:starEach (e::es) X.env=(false,eval e X.env)::starEach es X.env:=by rfl) (c:(backTo pos (starEach es X.env)).any (·.1)=false:=by rfl):
  PE X (.Call (.Name x p) (e::es) [] pos) (rG sp [] E0 t):=by
 obtain⟨f,fd,j,l,q,F,_⟩:=C;exact R1 F h m j l q .nil pD r d n c
theorem TY(C:Can X.prog X.w X.K X.mg X.base x ps k sp)(d:bJ k X.A)(l:Gl X x:=by rfl)(c:(x == ("__debug__":Str))=false:=by decide):
  PE X (.Call (.Name x p) [] [] pos) (rG sp [] E0 rF):=by
 obtain⟨f,fd,h,j,m,F,_⟩:=C;exact R3 F d l h j m .nil pD c
end
theorem Same.seqT{K:PySem.W.Frag}{H c:Hp}{a:Addr}{xs:List V}(e:Same H c)(h:SqT K H a xs):SqT K c a xs:=by
 rcases h with(h | ⟨o,h⟩) | h
 ·exact .inl (.inl (e _ _ h))
 ·exact .inl (.inr ⟨o,e _ _ h⟩)
 ·exact .inr h
mutual
def Rep(K:PySem.W.Frag)(H:Hp):V->PyData->Prop
 |v,.none=>v=.non
 |v,.bool b=>v=.bl b
 |v,.int i=>v=.int i
 |v,.str x=>v=.str x
 |v,.list ds=>∃a c,v=.ref a/\SqL K H a c/\cV K H c ds
 |v,.tuple ds=>∃a c,v=.ref a/\SqT K H a c/\cV K H c ds
 | _,.dict _=>False
def cV(K:PySem.W.Frag)(H:Hp):List V->List PyData->Prop
 |xs,[]=>xs=[]
 |xs,d::ds=>∃x r,xs=x::r/\Rep K H x d/\cV K H r ds
end
mutual
theorem Rep.mono{K:PySem.W.Frag}{H j:Hp}(e:Same H j):∀(d:PyData) {v:V},Rep K H v d->Rep K j v d
 | .none,v,h=>by rw[Rep] at h ⊢;exact h
 | .bool b,v,h=>by rw[Rep] at h ⊢;exact h
 | .int i,v,h=>by rw[Rep] at h ⊢;exact h
 | .str x,v,h=>by rw[Rep] at h ⊢;exact h
 | .list ds,v,h=>by
  rw[Rep] at h ⊢;obtain⟨a,c,h1,h2,h3⟩:=h;exact⟨a,c,h1,e.seq h2,cV.mono e ds h3⟩
 | .tuple ds,v,h=>by
  rw[Rep] at h ⊢;obtain⟨a,c,h1,h2,h3⟩:=h;exact⟨a,c,h1,e.seqT h2,cV.mono e ds h3⟩
 | .dict _,v,h=>by rw[Rep] at h;exact h.elim
theorem cV.mono{K:PySem.W.Frag}{H c:Hp}(e:Same H c):∀(ds:List PyData) {xs:List V},cV K H xs ds->cV K c xs ds
 | [],xs,h=>by rw[cV] at h ⊢;exact h
 |d::ds,xs,h=>by
  rw[cV] at h ⊢;obtain⟨x,r,h1,h2,h3⟩:=h;exact⟨x,r,h1,Rep.mono e d h2,cV.mono e ds h3⟩
end
theorem cV.nil{K:PySem.W.Frag}{H:Hp}:cV K H [] []:=by rw[cV]
theorem cV.cons{K:PySem.W.Frag}{H:Hp}{x:V}{xs:List V}{d:PyData}{ds:List PyData}(h:Rep K H x d)(hs:cV K H xs ds):cV K H (x::xs) (d::ds):=by
 rw[cV];exact⟨x,xs,rfl,h,hs⟩
section
variable {X:Cx}{pins:List (Addr×Obj)}{σ:St}{H:Hp}{s:Shared}
mutual
theorem Rep.reads(I:Inv X pins σ H s):∀(d:PyData) {v:V}{u:Value},Rep X.K H v d->RelV v u->∃as,Reads s.heap u d as
 | .none,v,u,h,r=>by rw[Rep] at h;subst h;cases(show u=.none from r);exact⟨_,.none⟩
 | .bool b,v,u,h,r=>by rw[Rep] at h;subst h;cases(show u=.bool b from r);exact⟨_,.bool b⟩
 | .int i,v,u,h,r=>by rw[Rep] at h;subst h;obtain⟨t,rfl⟩:=(show ∃t,u=.int i t from r);exact⟨_,.int i t⟩
 | .str x,v,u,h,r=>by rw[Rep] at h;subst h;obtain⟨t,rfl⟩:=(show ∃t,u=.str x t from r);exact⟨_,.str x t⟩
 | .list ds,v,u,h,r=>by
  rw[Rep] at h;obtain⟨a,y,rfl,h2,h3⟩:=h;cases(show u=.ref a from r);obtain⟨m,c,pl,_⟩:=I.list h2;obtain⟨as,q⟩:=cV.reads I ds h3 c;obtain⟨o,j,l,n,hd⟩:=pl.isList;exact⟨_,.list j l hd (by simpa using q)⟩
 | .tuple ds,v,u,h,r=>by
  rw[Rep] at h;obtain⟨a,y,rfl,h2,h3⟩:=h;cases(show u=.ref a from r);obtain⟨m,c,pl,_⟩:=I.tuple h2;obtain⟨as,q⟩:=cV.reads I ds h3 c;obtain⟨o,j,l,n,hd⟩:=pl;exact⟨_,.tuple j l hd (by simpa using q)⟩
 | .dict _,v,u,h,r=>by rw[Rep] at h;exact h.elim
theorem cV.reads(I:Inv X pins σ H s):∀(ds:List PyData) {xs:List V}{us:List Value},cV X.K H xs ds->aV xs us->∃as,ReadsAll s.heap us ds as
 | [],xs,us,h,r=>by rw[cV] at h;subst h;cases r;exact⟨_,.nil⟩
 |d::ds,xs,us,h,r=>by
  rw[cV] at h;obtain⟨x,rest,rfl,h2,h3⟩:=h
  cases r with
  |cons r1 r2 =>
   obtain⟨as,q⟩:=Rep.reads I d h2 r1;obtain⟨bs,c⟩:=cV.reads I ds h3 r2;exact⟨_,.cons q c⟩
end
end
def okD(d:PyData):Bool:=d.canLay0&&decide (d.depth<=60)
def xU(K:PySem.W.Frag)(c:Bool):R2:=λx y H Q=>∃d e,Rep K H x d/\Rep K H y e/\okD d=true/\okD e=true/\Q (.bl (if c then !PyData.eqv d e else PyData.eqv d e)) H
section
variable {X:Cx}
theorem T3{k:Nat}(t:bJ k X.A):OpR X (compareOp .Eq) (xU X.K false):=by
 intro pins s σ H x y v u Q I m l h;obtain⟨d,e,h1,h2,j,c,q⟩:=h;obtain⟨B,r⟩:=Rep.reads I d h1 m;obtain⟨bs,n⟩:=Rep.reads I e h2 l;unfold okD at j c;simp only[zy,decide_eq_true_eq] at j c;exact SeqAt.compareEq_reads r n j.1 c.1 (by have:=t.units;omega) ⟨.bl _,H,I,rfl,q⟩
theorem Ib{k:Nat}(t:bJ k X.A):OpR X (compareOp .NotEq) (xU X.K true):=by
 intro pins s σ H x y v u Q I m l h;obtain⟨d,e,h1,h2,j,c,q⟩:=h;obtain⟨B,r⟩:=Rep.reads I d h1 m;obtain⟨bs,n⟩:=Rep.reads I e h2 l;unfold okD at j c;simp only[zy,decide_eq_true_eq] at j c;exact SeqAt.compareNe_reads r n j.1 c.1 (by have:=t.units;omega) ⟨.bl _,H,I,rfl,q⟩
end
def S(l:List Nat):Str:=⟨l.toArray⟩
theorem mL(l:List Nat):(S l).cps.toList=l:=by simp[S]
theorem gG(l:List Nat):(S l).length=l.length:=by simp[S,Str.length]
theorem T4(a b:List Nat):S a++S b=S (a++b):=by
 show Str.mk _=Str.mk _;simp[S]
theorem T5{a b:List Nat}(h:S a=S b):a=b:=by have:=congrArg (λx:Str=>x.cps.toList) h;simpa [mL] using this
section
variable {X:Cx}
theorem T6:OpR X (compareOp .LtE) (λx y H Q=>∃i j,x=.str i/\y=.str j/\Q (.bl (!decide (j.cps.toList<i.cps.toList))) H):=by
 intro pins s σ H x y v u Q I d c h;obtain⟨i,j,rfl,rfl,q⟩:=h;obtain⟨t,rfl⟩:=d;obtain⟨l,rfl⟩:=c;exact P.le_str ⟨.bl _,H,I,rfl,q⟩
theorem T7:OpR X (compareOp .In) (λx y H Q=>∃c l,x=.str (S [c])/\y=.str (S l)/\Q (.bl (decide (c∈l))) H):=by
 intro pins s σ H x y v u Q I j d h;obtain⟨c,l,rfl,rfl,q⟩:=h;refine Rm pins s σ H _ _ v u Q I j d ⟨S [c],S l,rfl,rfl,?_⟩;have e:=PySem.StrLaws.found_one (S l) c;rw[mL] at e;show Q (.bl (!(Builtin.Str.occurrences (S l) (S [c]) 0 (S l).length 1).isEmpty)) H;rw[show S [c]=⟨#[c]⟩ from rfl,e];exact q
def Its(l:List Nat):It:=⟨λi _=>i<l.length,λi H x d=>d=H/\∃c,l[i]?=some c/\x=.str (S [c]),λi _=>l.length<=i⟩
theorem T8{P:Program}{w:World}{K:PySem.W.Frag}{tg:Expr}(l:List Nat)(it:Addr)(t:Tok):Turn P w K tg (Its l) [it] it (λi h=>h.IsStrIter it "str_ascii_iterator" (S l) t i) where
 mem:=by simp
 obj:=λi h st b hb=>by
  have e:b=it:=by simpa using hb
  subst e;obtain⟨o,e,c,d⟩:=st;exact⟨o,e,λv z=>by rw[d] at z;cases z⟩
 keep:=λi h h' st k=>let ⟨o,ho,r⟩:=st;⟨o,k it (by simp) o ho,r⟩
 item:=by
  intro X hP hw hK hc i pins s σ H E I hf st hg;subst hP hw hK;obtain⟨f0,f1,f2,f3,f4,f5⟩:=hf it (by simp);have hg':i<l.length:=hg
  refine wpAny_pyNext_ascii_item st (c:=l[i]) (by simp[S,hg']) λh' st' sb=>?_
  have I1:Inv X pins σ H {s with heap:=h',toks:=s.toks+1}:=I.turned (λb o hb e=>(sb.2 b hb).trans e) f0 f1 f3 f4 f5;obtain⟨o,e,c,d⟩:=id st';exact⟨_,rfl,uC (s:={s with heap:=h',toks:=s.toks+1}) e c d (by decide) ⟨.str (S [l[i]]),H,I1,⟨_,rfl⟩,⟨rfl,l[i],by simp[hg'],rfl⟩,st',λb hb=>(hf b hb).1⟩⟩
 done:=by
  intro X hP hw hK hc i pins s σ H E I hf st hg;subst hP hw hK;obtain⟨f0,f1,f2,f3,f4,f5⟩:=hf it (by simp);have hg':l.length<=i:=hg
  exact wpAny_pyNext_ascii_end (I.ok.hd hc) st (by simp[S,hg']) λh' eb=>⟨rfl,I.turned (t':=s.toks) (λb o hb e=>eb b o hb e) f0 f1 f3 f4 f5⟩
 self:=λ_ _ _ _ _ st h=>wpAny_pyIter_striter_ascii st h
def ascii(l:List Nat):Bool:=l.all (· < 128)
def T9(tl:TE):TI:=λσ H R=>tl σ H λx c=>∃l,x=.str (S l)/\ascii l=true/\R (Its l) c
theorem Ua{c e:Expr}{tl:TE}(d:PE X e tl):PI X c e (T9 tl):=by
 intro pins s σ H R I h
 refine thn (d pins s σ H _ I h) λv s1 ⟨x,H1,I1,r1,q1⟩=>?_
 obtain⟨l,e,m,q⟩:=q1;subst e;obtain⟨t,rfl⟩:=r1;refine wpAny_pyIter_ascii (by simpa [S,ascii] using m) ?_;refine⟨s1.heap.objs.size,[s1.heap.objs.size],_,_,H1,rfl,I1.kept (t':=s1.toks) λb o e=>zo _ e,T8 l _ t,⟨_,zF _ rfl,rfl,rfl⟩,λb j=>?_,q⟩
 have e:b=s1.heap.objs.size:=by simpa using j
 subst e;exact I1.fpOk (zc _) (I1.hok.fresh (zc _))
end
structure Blt(mg:Str->Option Value):Prop where
 len_:mg "len" = none
 isinstance_:mg "isinstance" = none
 all_:mg "all" = none
 sum_:mg "sum" = none
 max_:mg "max" = none
 min_:mg "min" = none
 int_:mg "int" = none
 str_:mg "str" = none
 bool_:mg "bool" = none
 list_:mg "list" = none
 tuple_:mg "tuple" = none
 dict_:mg "dict" = none
 range_:mg "range" = none
 enumerate_:mg "enumerate" = none
 zip_:mg "zip" = none
section
variable {X:Cx}
theorem Ie{x:Str}{v:V}{c:Pos}(h:∃u,X.mg x=some u/\RelV v u)(j:Gl X x:=by rfl)(hd:(x == ("__debug__":Str))=false:=by decide):PE X (.Name x c) (tC v):=by
 obtain⟨u,d,r⟩:=h;exact PQ j d r hd
end
def cR{α:Type}(l:List α)(lo hi:Option Int):List α:=(l.drop (HT.sIx l.length 0 lo)).take (HT.sIx l.length l.length hi - HT.sIx l.length 0 lo)
theorem Ig(l:List Nat)(lo hi:Option Int):Txt.slice (S l) lo hi=S (cR l lo hi):=by
 obtain⟨h1,h2,h3⟩:=HN lo hi l.length
 have e:Builtin.Str.strSliceIndices lo hi 1 (S l).length=(List.range (HT.sIx l.length l.length hi - HT.sIx l.length 0 lo)).map (HT.sIx l.length 0 lo + ·):=by
  rw[gG];show sliceRange (sliceBounds lo hi none l.length).1 (sliceBounds lo hi none l.length).2.1 (sliceBounds lo hi none l.length).2.2=_;rw[h1,h2,h3,sliceRange_one]
 unfold Txt.slice;rw[e,pick_run,mL]
 split
 ·rename_i h
  have j:HT.sIx l.length l.length hi - HT.sIx l.length 0 lo=l.length:=by simpa [gG] using h
  have d:HT.sIx l.length l.length hi<=l.length:=HT.sIx_le _ _ (zc _) hi;have c:HT.sIx l.length 0 lo<=l.length:=HT.sIx_le _ _ (Nat.zero_le _) lo
  have h0:HT.sIx l.length 0 lo=0:=by omega
  have h1:HT.sIx l.length l.length hi=l.length:=by omega
  unfold cR;rw[h0,h1];simp
 ·rfl
section
variable {X:Cx}
def Ub:V->Option Int->Option Int->Hp->VK->Prop:=λx lo c H Q=>∃l,x=.str (S l)/\l.length<=sizeLine/\Q (.str (S (cR l lo c))) H
theorem part_of{v:Value}{o:Option Int}(p:IsPart v o):∃q:Option (Int×Tok),v=partValue q/\q.map (·.1)=o:=by
 cases p with
 |none=>exact⟨none,rfl,rfl⟩
 |int i t=>exact⟨some (i,t),rfl,rfl⟩
theorem Uc:SlR X Ub:=by
 intro pins s σ H x v vl L lo c sl Q I m C pl y h;obtain⟨l,rfl,B,q⟩:=h;obtain⟨t,rfl⟩:=m;obtain⟨r,rfl,G⟩:=part_of pl;obtain⟨n,rfl,E⟩:=part_of y;refine⟨"str",_,F.slot_str_getitem.lookup,typeIs_str _ _ _,?_⟩;refine wpAny_getItem_str_slice (l:=r) (u:=n) (st:=none) C rfl ?_;have J:(if((1:Int) == 1&&(Builtin.Str.strSliceIndices lo c 1 (S l).length).length == (S l).length)=true then S l else⟨((Builtin.Str.strSliceIndices lo c 1 (S l).length).filterMap ((S l).cps[·]?)).toArray⟩)=S (cR l lo c):=Ig l lo c;unfold sliceMade slicePicked;rw[G,E];refine post_val_or_str ⟨?_,λd k=>?_⟩
 ·show(Txt.slice (S l) lo c).length<=_;exact zK (Txt.slice_le _ _ _) (by rw[gG];exact B)
 ·have j:=Ig l lo c;unfold Txt.slice at j;show EP X pins σ Q (.str (if((1:Int) == 1&&(Builtin.Str.strSliceIndices lo c 1 (S l).length).length == (S l).length)=true then S l else⟨((Builtin.Str.strSliceIndices lo c 1 (S l).length).filterMap ((S l).cps[·]?)).toArray⟩) d) {s with toks:=k};rw[j];exact⟨.str _,H,I.tok k,⟨d,rfl⟩,q⟩
end
namespace HT2
theorem getItem_tuple_whole{prog:Program}{w:World}{A:Around}{E:Value->Shared->Prop}{s:Shared}{t sl:Addr}{items:Array Value}{vl r:Value}{lo hi:Option Int}{Q:Value->Shared->Prop}(c:IsTup s.heap t items)(hs:s.heap.IsSliceOf sl vl r .none)(pl:IsPart vl lo)(B:IsPart r hi)
  (u:HT.sIx items.size 0 lo=0/\HT.sIx items.size items.size hi=items.size) (h:Q (.ref t) s):wpAny (model prog w) A (getItem (.ref t) (.ref sl)) Q E s:=by
 obtain⟨os,l,n,C⟩:=id hs;have q:s.TypeIs (.ref sl) "slice":=⟨os,l,n⟩;unfold getItem
 try with_reducible refine jd ?_
 first | refine za (zb ?_) | skip
 refine za (wpAny_sequenceKey c.typeIs (by decide) ?_)
 refine za (wpAny_callSpecial?_slot (name:=Str.ofString "__getitem__") c.typeIs PyProof.Rows.slot_tuple_getitem
  (wpAny_call_entry PyProof.Rows.slot_tuple_getitem c.typeIs entry_tuple_getitem ?_ (args_tuple_getitem _ _)))
 show wpAny _ _ (Builtin.Tuple.tupleItemsOf (.ref t) >>= _) _ _ s;refine za (tupleItemsOf_ c ?_);refine za (wpAny_typeOf q ?_);rw[if_pos (by decide)];refine za (HT.sliceApplied_gen hs pl B ?_)
 have d:(((HT.sIx items.size 0 lo:Nat):Int) == 0&&(1:Int) == 1&&(HT.sIx items.size items.size hi - HT.sIx items.size 0 lo) == items.size)=true:=by
  rw[u.1,u.2];simp
 show wpAny _ _ (if(((HT.sIx items.size 0 lo:Nat):Int) == 0&&(1:Int) == 1&&(HT.sIx items.size items.size hi - HT.sIx items.size 0 lo) == items.size)=true then _ else _) _ _ s;rw[if_pos d]
 have m:∀{y:Around}{x:Value->Shared->Prop}{j:Bool->Shared->Prop},j true s->wpAny (model prog w) y (Builtin.Tuple.tupleIsExact (.ref t)) j x s:=λ{y x j} hq=>by
  unfold Builtin.Tuple.tupleIsExact;exact za (wpAny_typeOf c.typeIs (zb hq))
 refine za (m ?_);rw[if_pos rfl];exact za (zU (zb ⟨_,rfl,zb h⟩))
end HT2
section
variable {X:Cx}
def Ud(K:PySem.W.Frag):V->Option Int->Option Int->Hp->VK->Prop:=λx lo d H Q=>∃a c,x=.ref a/\SqT K H a c /\
 ((HT.sIx c.length 0 lo=0/\HT.sIx c.length c.length d=c.length)->Q (.ref a) H)/\(¬(HT.sIx c.length 0 lo=0/\HT.sIx c.length c.length d=c.length)->∀p,H p=none->Q (.ref p) (upd H p (.tup (lJ c lo d))))
theorem Ue(K:PySem.W.Frag)(E:X.K=K:=by rfl):SlR X (Ud K):=by
 subst E;intro pins s σ H x v vl y lo u sl Q I l t pl m h;obtain⟨a,c,rfl,n,C,B⟩:=h
 by_cases d:HT.sIx c.length 0 lo=0/\HT.sIx c.length c.length u=c.length
 ·cases l;obtain⟨j,r,q,F⟩:=I.tuple n
  have hlen:j.toArray.size=c.length:=by rw[zA];exact r.length.symm
  exact⟨"tuple",_,PyProof.Rows.slot_tuple_getitem.lookup,q.typeIs,HT2.getItem_tuple_whole q t pl m (by rw[hlen];exact d) ⟨.ref a,H,I,rfl,C d⟩⟩
 ·exact SM pins s σ H _ v vl y lo u sl Q I l t pl m ⟨a,c,rfl,n,d,B d⟩
inductive TyQ (K:PySem.W.Frag) (H:Hp):V->String->Prop where
 | non:TyQ K H .non "NoneType"
 | bl (x:Bool):TyQ K H (.bl x) "bool"
 | int (i:Int):TyQ K H (.int i) "int"
 | str (x:Str):TyQ K H (.str x) "str"
 | lst {a:Addr}{xs:List V} (e:SqL K H a xs):TyQ K H (.ref a) "list"
 | tup {a:Addr}{xs:List V} (e:SqT K H a xs):TyQ K H (.ref a) "tuple"
 | dK {a:Addr}{kvs:List (Key×V)} (e:H a=some (.dK kvs)):TyQ K H (.ref a) "dict"
def Ug(K:PySem.W.Frag):List V->Hp->VK->Prop:=λc H Q=>∃x n t b,c=[x,.ty n]/\TyQ K H x t/\PySem.W.kitOne K (.type t) (.type n)=some b/\Q (.bl b) H
theorem Uh(K:PySem.W.Frag)(E:X.K=K:=by rfl):lG X (.builtin "isinstance") (Ug K):=by
 subst E;intro pins s σ H B F Q I r h;obtain⟨x,n,t,b,rfl,ty,e,q⟩:=h;obtain⟨u,c,rfl,d,C⟩:=vals2 r;cases(show c=.type n from C)
 have fin:∀tk,EP X pins σ Q (.bool b) {s with toks:=tk}:=λtk=>⟨.bl b,H,I.tok tk,rfl,q⟩
 cases ty with
 |non=>exact rE I d .non e fin
 |bl y=>exact rE I d (.bl y) e fin
 |int i=>exact rE I d (.int i) e fin
 |str y=>exact rE I d (.str y) e fin
 | @lst a B ea =>
  cases(show u=Value.ref a from d);obtain⟨m,_,p,_⟩:=I.list ea;obtain⟨o,j,l,_⟩:=p.isList;exact PySem.W.kia_one PySem.W.kitx_list I.kIn ⟨o,j,l⟩ e (λz=>nomatch z) fin
 | @tup a B ea =>
  cases(show u=Value.ref a from d);obtain⟨m,_,p,_⟩:=I.tuple ea;obtain⟨o,j,l,_⟩:=p;exact PySem.W.kia_one PySem.W.kitx_tuple I.kIn ⟨o,j,l⟩ e (λz=>nomatch z) fin
 | @dK a kvs ea=>exact rE I d (.dK ea) e fin
theorem Ui(K:PySem.W.Frag)(n:String):PySem.W.kitOne K (.type n) (.type n)=some true:=by
 unfold PySem.W.kitOne;rw[if_pos (beq_self_eq_true _)]
end
theorem uH:∀{ds:List PyData},(∀d∈ds,d.canLay0=true)->PyData.canLayAll0 ds=true
 | [],_=>rfl
 |d::ds,h=>by rw[PyData.canLayAll0,h d zp,uH λx c=>h x (zr _ c)];rfl
theorem uI{n:Nat}:∀{ds:List PyData},(∀d∈ds,d.depth<=n)->PyData.depthAll ds<=n
 | [],_=>by rw[PyData.depthAll];exact Nat.zero_le _
 |d::ds,h=>by
  rw[PyData.depthAll];exact Nat.max_le.mpr ⟨h d zp,uI λx c=>h x (zr _ c)⟩
theorem Uj{n:Nat}(c:n<60){ds:List PyData}(h:∀d∈ds,d.canLay0=true/\d.depth<=n):okD (.list ds)=true:=by
 unfold okD;rw[zy];refine⟨?_,zH ?_⟩
 ·show PyData.canLayAll0 ds=true
  exact uH λd hd=>(h d hd).1
 ·show PyData.depthAll ds+1<=60
  have:=uI λd hd=>(h d hd).2
  omega
section
variable {X:Cx}
theorem Ih:∀{ls:List (List Nat)}{us:List Value},aV (ls.map λl=>V.str (S l)) us->StrsAre us (ls.map S)
 | [],us,r=>by rw[zW] at r;cases r;exact .nil
 |l::ls,us,r=>by
  rw[zx] at r
  cases r with
  |cons r1 r2 =>
   obtain⟨t,e⟩:=r1;subst e;exact .cons _ t (Ih r2)
theorem Ii:∀(ls:List (List Nat)) (a:Array Nat),(ls.map S).foldl (λacc p=>acc++(S []).cps++p.cps) a=a++ls.flatten.toArray
 | [],a=>by simp
 |l::ls,a=>by
  rw[zx,List.foldl_cons,Ii ls];simp[S]
theorem Uk(ls:List (List Nat)):Txt.join (S []) (ls.map S)=S ls.flatten:=by
 show Builtin.Str.glued (S []) (ls.map S)=_;unfold Builtin.Str.glued
 cases ls with
 |nil=>rfl
 |cons l ls =>
  show Str.mk ((ls.map S).foldl (λc p=>c++(S []).cps++p.cps) (S l).cps)=_;rw[Ii];simp[S]
def rJoin(K:PySem.W.Frag):V->List V->Hp->VK->Prop:=λx c H Q=>∃(p:Addr) (ls:List (List Nat)),x=.str (S [])/\c=[.ref p]/\SqL K H p (ls.map λl=>V.str (S l))/\(ls.map List.length).sum<=1000000/\Q (.str (S ls.flatten)) H
theorem Ul(K:PySem.W.Frag)(y:X.K=K:=by rfl):MtR X "str.join" (rJoin K):=by
 subst y;intro pins s σ H x C v E Q I d n h;obtain⟨p,ls,rfl,rfl,r,F,q⟩:=h;obtain⟨t,rfl⟩:=d;obtain⟨u,rfl,m⟩:=vals1 n;cases m;obtain⟨B,j,pl,_⟩:=I.list r
 refine join_list pl.isList (ys:=ls.map S) (by simpa using Ih j) ?_ λc k=>⟨.str (S ls.flatten),H,I.tok k,⟨c,?_⟩,q⟩
 ·have e:((ls.map S).map (·.length)).sum=(ls.map List.length).sum:=by
   rw[List.map_map];exact congrArg List.sum (jn λl _=>gG l)
  rw[e,gG];simp only[zw,Nat.mul_zero];omega
 ·rw[Uk]
def Um:V->List V->Hp->VK->Prop:=λx c H Q=>∃l m,x=.str (S l)/\c=[.str (S m)]/\Q (.bl (decide (l.take m.length=m))) H
theorem Uo(l m:List Nat):Txt.startswith (S l) (S m)=decide (l.take m.length=m):=by
 unfold Txt.startswith;rw[StrLaws.subAt_eq,mL,mL,gG,gG,List.drop_zero,Bool.eq_iff_iff,zy,decide_eq_true_eq,decide_eq_true_eq,beq_iff_eq];constructor
 ·exact λh=>h.2
 ·intro h;refine⟨?_,h⟩
  have:=congrArg List.length h
  rw[List.length_take] at this;omega
def Up:R2:=λx y H Q=>∃(l:List Nat) (n:Int),x=.str (S l)/\y=.int n/\-1000000<n/\n<1000000/\l.length * n.toNat<=16777216/\Q (.str (S (List.replicate n.toNat l).flatten)) H
theorem Ij(l:List Nat):∀(n:Nat) (a:Array Nat),(List.replicate n (S l).cps).foldl (· ++ ·) a=a++(List.replicate n l).flatten.toArray
 | 0,a=>by simp
 |n+1,a=>by
  rw[List.replicate_succ,List.foldl_cons,Ij l n,List.replicate_succ,List.flatten_cons];simp[S]
theorem Uq:OpR X (binaryOp .Mult) Up:=by
 intro pins s σ H x y v u Q I j d h;obtain⟨l,n,rfl,rfl,h1,h2,h3,q⟩:=h;obtain⟨t,rfl⟩:=j;obtain⟨F,rfl⟩:=d;have G:sizeLine=16777216:=sizeLine_eq
 by_cases B:n<1
 ·have E:n.toNat=0:=by omega
  rw[E] at q;exact P.mul_str_none B (by omega) ⟨.str (S []),H,I.tok _,⟨s.toks,rfl⟩,q⟩
 refine P.mul_str ?_ (λ_ _=>?_) (λ_ _=>?_) ?_
 ·rw[zz (by omega),zz (by omega)];rfl
 ·rw[gG];intro m
  have h4:(l.length:Int) * n<=16777216:=by
   have:((l.length * n.toNat:Nat):Int)<=16777216:=by omega
   rw[Int.natCast_mul,Int.toNat_of_nonneg (by omega)] at this;exact this
  have C:(2 ^ 63 - 1) / n<(l.length:Int):=m;have J:=(Int.ediv_lt_iff_lt_mul (show 0<n by omega)).mp C;omega
 ·rw[gG];unfold Builtin.Str.tooLong;exact zz (by omega)
 ·rw[if_neg (by omega)]
  by_cases c:(n == 1 || (S l).length == 0)=true
  ·rw[if_pos c]
   have e:(List.replicate n.toNat l).flatten=l:=by
    rw[Bool.or_eq_true,beq_iff_eq,beq_iff_eq,gG] at c
    rcases c with z | z
    ·rw[z];show(List.replicate 1 l).flatten=l;simp
    ·have z':=List.eq_nil_of_length_eq_zero z;subst z';rw[List.flatten_eq_nil_iff];intro x r;exact(List.mem_replicate.mp r).2
   rw[e] at q;exact⟨.str (S l),H,I,⟨t,rfl⟩,q⟩
  ·rw[if_neg c,Ij];refine⟨?_,.str (S (List.replicate n.toNat l).flatten),H,I.tok _,⟨s.toks,?_⟩,q⟩
   ·show(#[]++(List.replicate n.toNat l).flatten.toArray).size<=sizeLine;simp only[Array.size_append,zA,List.length_flatten,List.map_replicate,List.sum_replicate_nat];simp;rw[Nat.mul_comm];omega
   ·congr 1;simp[S]
theorem Ur:MtR X "str.startswith" Um:=by
 intro pins s σ H x n v r Q I c j h;obtain⟨l,m,rfl,rfl,q⟩:=h;obtain⟨t,rfl⟩:=c;obtain⟨u,rfl,d⟩:=vals1 j;obtain⟨y,rfl⟩:=d;exact SC.startswith ⟨.bl _,H,I,rfl,by rw[Uo];exact q⟩
end
inductive D where
 | non | bl (b:Bool) | int (i:Int) | str (l:List Nat) | lst (ds:List D) | tup (ds:List D) | dic (ks vs:List D) | ob (n:Nat)
inductive Ob where
 | ins (c:Str) (fs:List (Str×D))
 | ml (ds:List D)
 | dt (kvs:List (List Key×D))
 | df (kvs:List (List Key×D))
 | dk (kvs:List (Key×D))
 | kf (kvs:List (Key×D))
 | xc (c:Str) (fs:List (Str×D))
 | gone
 | dn (kvs:List (NK×D))
 | nf (kvs:List (NK×D))
abbrev aq:=List Ob
abbrev aB:=List (Option D)
structure Xc where
 cls:Str
 fs:List (Str×D)
inductive Res (α:Type) where
 | ok (a:α) (O:aq) | ex (x:Xc) (O:aq) | no
inductive Fl where
 | nx (ρ:aB) (O:aq) | rt (d:D) (O:aq) | bk (ρ:aB) (O:aq) | ct (ρ:aB) (O:aq) | ex (x:Xc) (O:aq) | no
abbrev M(α:Type):=aB->aq->Res α
abbrev MS:=aB->aq->Fl
def Res.bind{α β:Type}(r:Res α)(f:α->aq->Res β):Res β:=match r with
 | .ok a O=>f a O
 | .ex x O=>.ex x O
 | .no=>.no
theorem Res.bind_ok{α β:Type}{r:Res α}{f:α->aq->Res β}{b:β}{c:aq}(h:r.bind f=.ok b c):∃a O,r=.ok a O/\f a O=.ok b c:=by
 cases r with
 |ok a O=>exact⟨a,O,rfl,h⟩
 |ex x O=>cases h
 |no=>cases h
def xV:Expr->Bool
 | .Starred _ _=>false
 | _=>true
theorem dH{e:Expr}{es:List Expr}{env:Env}(h:xV e=true):starEach (e::es) env=(false,eval e env)::starEach es env:=by
 cases e<;>first | rfl | cases h
theorem fY{c:Pos}{env:Env}:∀{es:List Expr},es.all xV=true->(backTo c (starEach es env)).any (·.1)=false
 | [],_=>by simp[starEach,backTo]
 |e::es,h=>by
  rw[List.all_cons,zy] at h;rw[dH h.1];show(false || (backTo c (starEach es env)).any (·.1))=false;rw[fY h.2];rfl
theorem pH{e:Expr}{env:Env}(h:xV e=true):starEach [e] env=[(false,eval e env)]:=by rw[dH h];simp[starEach]
abbrev Frag:=PySem.W.Frag
def Ik:Key->D
 | .inl i=>.int i
 | .inr x=>.str x.cps.toList
def RdK(K:Frag)(H:Hp)(a:Addr)(xs:List V):Prop:=Rd H a (.lst xs)\/∃(c:List Value) (n:Nat),K.lookup a=some {cls:=.type "list",data:=.seq c.toArray n}/\c.length<=sizeLine/\aV xs c
theorem RdK.sq{K:Frag}{H:Hp}{a:Addr}{xs:List V}(h:RdK K H a xs):SqL K H a xs:=by
 rcases h with h | ⟨c,n,h1,h2,h3⟩
 ·exact .inl h
 ·exact .inr ⟨_,c.toArray,n,h1,rfl,rfl,rfl,by simpa using h2,by simpa using h3⟩
theorem RdK.ok{X:Cx}{pins:List (Addr×Obj)}{σ:St}{H:Hp}{s:Shared}{a:Addr}{xs:List V}(h:RdK X.K H a xs)(I:Inv X pins σ H s):xs.length<=sizeLine/\∃(its:List Value) (n:Nat),aV xs its/\s.heap.get? a=some {cls:=.type "list",data:=.seq its.toArray n}:=by
 rcases h with h | ⟨its,n,h1,h2,h3⟩
 ·exact h.ok I.hok
 ·exact⟨by rw[h3.length];exact h2,its,n,h3,I.kIn a _ h1⟩
def TqT(K:Frag)(F:Hp)(a:Addr)(xs:List V):Prop :=
 F a=some (.tup xs)\/∃(o:Obj) (c:Array Value) (n:Nat),K.lookup a=some o/\o.cls=.type "tuple"/\o.data=.seq c n/\c.size<=sizeLine/\aV xs c.toList
theorem TqT.sq{K:Frag}{F:Hp}{a:Addr}{xs:List V}(h:TqT K F a xs):SqT K F a xs:=h.imp .inl id
mutual
def Rp(K:Frag)(F:Hp)(as:List Addr):V->D->Prop
 |v,.non=>v=.non
 |v,.bl b=>v=.bl b
 |v,.int i=>v=.int i
 |v,.str l=>v=.str (S l)
 |v,.lst ds=>∃a d,v=.ref a/\RdK K F a d/\Rps K F as d ds
 |v,.tup ds=>∃a d,v=.ref a/\TqT K F a d/\Rps K F as d ds
 |v,.dic ks vs=>∃(a:Addr) (c:List (Key×V)),v=.ref a/\F a=some (.dK c)/\ks=c.map (λp=>Ik p.1)/\Rps K F as (c.map (·.2)) vs
 |v,.ob n=>∃a,v=.ref a/\as[n]?=some a
def Rps(K:Frag)(F:Hp)(as:List Addr):List V->List D->Prop
 |xs,[]=>xs=[]
 |xs,d::ds=>∃x r,xs=x::r/\Rp K F as x d/\Rps K F as r ds
end
section
variable {K:Frag}{F F':Hp}{as as':List Addr}
theorem Rd.mono{H c:Hp}{a:Addr}{u:HO}(e:Same H c)(h:Rd H a u):Rd c a u:=by
 rcases h with h | ⟨o,h⟩
 ·exact .inl (e _ _ h)
 ·exact .inr ⟨o,e _ _ h⟩
theorem RdK.mono{H c:Hp}{a:Addr}{xs:List V}(e:Same H c)(h:RdK K H a xs):RdK K c a xs:=h.imp (λz=>z.mono e) id
mutual
theorem Rp.mono(e:Same F F')(c:∀(n:Nat) (a:Addr),as[n]?=some a->as'[n]?=some a):∀(d:D) {v:V},Rp K F as v d->Rp K F' as' v d
 | .non,v,h=>by rw[Rp] at h ⊢;exact h
 | .bl b,v,h=>by rw[Rp] at h ⊢;exact h
 | .int i,v,h=>by rw[Rp] at h ⊢;exact h
 | .str x,v,h=>by rw[Rp] at h ⊢;exact h
 | .lst ds,v,h=>by
  rw[Rp] at h ⊢;obtain⟨a,j,h1,h2,h3⟩:=h;exact⟨a,j,h1,h2.mono e,Rps.mono e c ds h3⟩
 | .tup ds,v,h=>by
  rw[Rp] at h ⊢;obtain⟨a,j,h1,h2,h3⟩:=h;exact⟨a,j,h1,h2.imp (e _ _) id,Rps.mono e c ds h3⟩
 | .dic ks vs,v,h=>by
  rw[Rp] at h ⊢;obtain⟨a,l,h1,h2,h3,h4⟩:=h;exact⟨a,l,h1,e _ _ h2,h3,Rps.mono e c vs h4⟩
 | .ob n,v,h=>by
  rw[Rp] at h ⊢;obtain⟨a,h1,h2⟩:=h;exact⟨a,h1,c _ _ h2⟩
theorem Rps.mono(e:Same F F')(c:∀(n:Nat) (a:Addr),as[n]?=some a->as'[n]?=some a):∀(ds:List D) {xs:List V},Rps K F as xs ds->Rps K F' as' xs ds
 | [],xs,h=>by rw[Rps] at h ⊢;exact h
 |d::ds,xs,h=>by
  rw[Rps] at h ⊢;obtain⟨x,r,h1,h2,h3⟩:=h;exact⟨x,r,h1,Rp.mono e c d h2,Rps.mono e c ds h3⟩
end
theorem Rp.non:Rp K F as .non .non:=by rw[Rp]
theorem Rp.bl{b:Bool}:Rp K F as (.bl b) (.bl b):=by rw[Rp]
theorem Rp.int{i:Int}:Rp K F as (.int i) (.int i):=by rw[Rp]
theorem Rp.str{l:List Nat}:Rp K F as (.str (S l)) (.str l):=by rw[Rp]
theorem Rp.unN{v:V}(h:Rp K F as v .non):v=.non:=by rw[Rp] at h;exact h
theorem Rp.unB{v:V}{b:Bool}(h:Rp K F as v (.bl b)):v=.bl b:=by rw[Rp] at h;exact h
theorem Rp.unI{v:V}{i:Int}(h:Rp K F as v (.int i)):v=.int i:=by rw[Rp] at h;exact h
theorem Rp.unS{v:V}{l:List Nat}(h:Rp K F as v (.str l)):v=.str (S l):=by rw[Rp] at h;exact h
theorem Rp.unL{v:V}{ds:List D}(h:Rp K F as v (.lst ds)):∃a xs,v=.ref a/\RdK K F a xs/\Rps K F as xs ds:=by rw[Rp] at h;exact h
theorem Rp.unT'{v:V}{ds:List D}(h:Rp K F as v (.tup ds)):∃a xs,v=.ref a/\TqT K F a xs/\Rps K F as xs ds:=by rw[Rp] at h;exact h
theorem Rp.unT{v:V}{ds:List D}(h:Rp K F as v (.tup ds)):∃a xs,v=.ref a/\SqT K F a xs/\Rps K F as xs ds:=let ⟨a,xs,e,h1,h2⟩:=h.unT';⟨a,xs,e,h1.sq,h2⟩
theorem Rp.unO{v:V}{n:Nat}(h:Rp K F as v (.ob n)):∃a,v=.ref a/\as[n]?=some a:=by rw[Rp] at h;exact h
theorem Rp.unD{v:V}{d vs:List D}(h:Rp K F as v (.dic d vs)):∃(a:Addr) (c:List (Key×V)),v=.ref a/\F a=some (.dK c)/\d=c.map (λp=>Ik p.1)/\Rps K F as (c.map (·.2)) vs:=by rw[Rp] at h;exact h
theorem Rp.mkL{a:Addr}{xs:List V}{ds:List D}(h:RdK K F a xs)(hs:Rps K F as xs ds):Rp K F as (.ref a) (.lst ds):=by rw[Rp];exact⟨a,xs,rfl,h,hs⟩
theorem Rp.mkT{a:Addr}{xs:List V}{ds:List D}(h:TqT K F a xs)(hs:Rps K F as xs ds):Rp K F as (.ref a) (.tup ds):=by rw[Rp];exact⟨a,xs,rfl,h,hs⟩
theorem Rp.mkO{a:Addr}{n:Nat}(h:as[n]?=some a):Rp K F as (.ref a) (.ob n):=by rw[Rp];exact⟨a,rfl,h⟩
theorem Rps.nil:Rps K F as [] []:=by rw[Rps]
theorem Rps.cons{x:V}{xs:List V}{d:D}{ds:List D}(h:Rp K F as x d)(hs:Rps K F as xs ds):Rps K F as (x::xs) (d::ds):=by
 rw[Rps];exact⟨x,xs,rfl,h,hs⟩
theorem Rps.un{xs:List V}{d:D}{ds:List D}(h:Rps K F as xs (d::ds)):∃x r,xs=x::r/\Rp K F as x d/\Rps K F as r ds:=by rw[Rps] at h;exact h
theorem Rps.un0{xs:List V}(h:Rps K F as xs []):xs=[]:=by rw[Rps] at h;exact h
theorem Rps.length:∀{ds:List D}{xs:List V},Rps K F as xs ds->xs.length=ds.length
 | [],xs,h=>by rw[h.un0];rfl
 |d::ds,xs,h=>by
  obtain⟨x,r,rfl,_,h3⟩:=h.un;simp[Rps.length h3]
theorem Rps.get:∀{ds:List D}{xs:List V}{i:Nat}{x:V},Rps K F as xs ds->xs[i]?=some x->∃d,ds[i]?=some d/\Rp K F as x d
 | [],xs,i,x,h,e=>by rw[h.un0] at e;simp at e
 |d::ds,xs,i,x,h,e=>by
  obtain⟨y,r,rfl,h2,h3⟩:=h.un
  cases i with
  |zero=>simp at e;subst e;exact⟨d,rfl,h2⟩
  |succ i =>
   obtain⟨j,c,q⟩:=Rps.get (i:=i) (x:=x) h3 (by simpa using e);exact⟨j,by simpa using c,q⟩
theorem Rps.get':∀{ds:List D}{xs:List V}{i:Nat}{d:D},Rps K F as xs ds->ds[i]?=some d->∃x,xs[i]?=some x/\Rp K F as x d:=by
 intro ds xs i d h e;have l:=h.length
 have c:i<xs.length:=by rw[l];exact(zj.mp e).1
 obtain⟨m,j,q⟩:=h.get (zD c);rw[e] at j;cases j;exact⟨_,zD c,q⟩
theorem Rps.append{ys:List V}{es:List D}(c:Rps K F as ys es):∀{ds:List D}{xs:List V},Rps K F as xs ds->Rps K F as (xs++ys) (ds++es)
 | [],xs,h=>by rw[h.un0];exact c
 |e::ds,xs,h=>by
  obtain⟨y,r,rfl,h2,h3⟩:=h.un;exact Rps.cons h2 (Rps.append c h3)
theorem Rps.snoc{x:V}{d:D}{ds:List D}{xs:List V}(h:Rps K F as xs ds)(c:Rp K F as x d):Rps K F as (xs++[x]) (ds++[d]):=Rps.append (Rps.cons c Rps.nil) h
theorem Rps.take:∀{ds:List D}{xs:List V} (n:Nat),Rps K F as xs ds->Rps K F as (xs.take n) (ds.take n)
 | _,_,0,_=>by simpa using Rps.nil
 | [],xs,n+1,h=>by rw[h.un0];simpa using Rps.nil
 |d::ds,xs,n+1,h=>by
  obtain⟨y,r,rfl,h2,h3⟩:=h.un;exact Rps.cons h2 (Rps.take n h3)
theorem Rps.drop:∀{ds:List D}{xs:List V} (n:Nat),Rps K F as xs ds->Rps K F as (xs.drop n) (ds.drop n)
 | _,_,0,h=>by simpa using h
 | [],xs,n+1,h=>by rw[h.un0];simpa using Rps.nil
 |d::ds,xs,n+1,h=>by
  obtain⟨y,r,rfl,h2,h3⟩:=h.un;exact Rps.drop n h3
theorem Rps.rep{ds:List D}{xs:List V}(h:Rps K F as xs ds):∀n:Nat,Rps K F as (List.replicate n xs).flatten (List.replicate n ds).flatten
 | 0=>by simpa using Rps.nil
 |n+1=>by
  rw[List.replicate_succ,List.replicate_succ,List.flatten_cons,List.flatten_cons];exact Rps.append (Rps.rep h n) h
end
def isD:HO->Bool
 | .ins _ _ _=>false
 | .own _=>false
 | .xd _=>false
 | _=>true
def isL:HO->Bool
 | .lst _=>true
 | .dK _=>true
 | _=>false
theorem Il{o:HO}(h:isL o=true):isD o=true:=by
 cases o<;>first | rfl | cases h
structure Gr(H F:Hp)(as:List Addr)(H' F':Hp)(as':List Addr):Prop where
 fz:∀a o,H a=some o->a∉as->isL o=true->F' a=F a
 ff:Same F F'
 nw:∃new,as'=as++new/\∀a∈new,H a=none
 fr:∀a o,H a=some o->a∉as->isD o=true->H' a=some o
 dm:∀a,H' a=none->H a=none
 kz:∀a o u,H a=some (.frz o u)->H' a=some (.frz o u)
structure Pt where
 p:Addr->Prop
 ss:List (Nat×V×D)
instance:CoeFun Pt (λ_=>Addr->Prop):=⟨Pt.p⟩
def Pt.all(H:Hp):Pt:=⟨λa=>H a≠none,[]⟩
structure GrS(P:Pt)(H F:Hp)(as:List Addr)(H' F':Hp)(as':List Addr):Prop where
 fz:∀a o,P a->H a=some o->a∉as->isL o=true->F' a=F a
 ff:Same F F'
 nw:∃new,as'=as++new/\∀a∈new,H a=none
 fr:∀a o,P a->H a=some o->a∉as->isD o=true->H' a=some o
 dm:∀a,H' a=none->H a=none
 kz:∀a o u,H a=some (.frz o u)->H' a=some (.frz o u)
section
variable {H F H' F' H2 F2:Hp}{as as' as2:List Addr}{P:Pt}
theorem Gr.refl:Gr H F as H F as:=⟨λ_ _ _ _ _=>rfl,Same.refl F,⟨[],by simp,λ_ h=>nomatch h⟩,λ_ _ h _ _=>h,λ_ h=>h,λ_ _ _ h=>h⟩
theorem Gr.trans(a:Gr H F as H' F' as')(b:Gr H' F' as' H2 F2 as2):Gr H F as H2 F2 as2:=by
 obtain⟨n,l,h1⟩:=a.nw;obtain⟨m,r,h2⟩:=b.nw;refine⟨λc o j d hd=>?_,a.ff.trans b.ff,⟨n++m,by rw[r,l,zk],λc j=>?_⟩,λc o e d hd=>?_,λc h=>a.dm c (b.dm c h),λc o u h=>b.kz c o u (a.kz c o u h)⟩
 ·have q:=a.fr c o j d (Il hd);refine(b.fz c o q ?_ hd).trans (a.fz c o j d hd);rw[l];intro z
  rcases zu.mp z with z | z
  ·exact d z
  ·rw[h1 c z] at j;cases j
 ·rcases zu.mp j with z | z
  ·exact h1 c z
  ·exact a.dm c (h2 c z)
 ·have q:=a.fr c o e d hd;refine b.fr c o q ?_ hd;rw[l];intro z
  rcases zu.mp z with z | z
  ·exact d z
  ·rw[h1 c z] at e;cases e
theorem Gr.toS(a:Gr H F as H' F' as'):GrS P H F as H' F' as':=⟨λc o _=>a.fz c o,a.ff,a.nw,λc o _ e d hd=>a.fr c o e d hd,a.dm,a.kz⟩
theorem GrS.refl:GrS P H F as H F as:=Gr.refl.toS
theorem GrS.trans(a:GrS P H F as H' F' as')(b:GrS P H' F' as' H2 F2 as2):GrS P H F as H2 F2 as2:=by
 obtain⟨n,l,h1⟩:=a.nw;obtain⟨m,r,h2⟩:=b.nw;refine⟨λc o p j d hd=>?_,a.ff.trans b.ff,⟨n++m,by rw[r,l,zk],λc j=>?_⟩,λc o p e d hd=>?_,λc h=>a.dm c (b.dm c h),λc o u h=>b.kz c o u (a.kz c o u h)⟩
 ·have q:=a.fr c o p j d (Il hd);refine(b.fz c o p q ?_ hd).trans (a.fz c o p j d hd);rw[l];intro z
  rcases zu.mp z with z | z
  ·exact d z
  ·rw[h1 c z] at j;cases j
 ·rcases zu.mp j with z | z
  ·exact h1 c z
  ·exact a.dm c (h2 c z)
 ·have q:=a.fr c o p e d hd;refine b.fr c o p q ?_ hd;rw[l];intro z
  rcases zu.mp z with z | z
  ·exact d z
  ·rw[h1 c z] at e;cases e
theorem GrS.gr(a:GrS (Pt.all H) H F as H' F' as'):Gr H F as H' F' as':=⟨λc o e=>a.fz c o (show H c≠none by rw[e];exact λz=>nomatch z) e,a.ff,a.nw,λc o e=>a.fr c o (show H c≠none by rw[e];exact λz=>nomatch z) e,a.dm,a.kz⟩
theorem Gr.at_(a:Gr H F as H' F' as'):∀(n:Nat) (c:Addr),as[n]?=some c->as'[n]?=some c:=λn c h=>by
 obtain⟨d,e,_⟩:=a.nw;rw[e,zC (zj.mp h).1];exact h
theorem GrS.at_(a:GrS P H F as H' F' as'):∀(n:Nat) (c:Addr),as[n]?=some c->as'[n]?=some c:=λn c h=>by
 obtain⟨d,e,_⟩:=a.nw;rw[e,zC (zj.mp h).1];exact h
theorem Gr.out(a:Gr H F as H' F' as'){c:Addr}(h:c∉as)(e:H c≠none):c∉as':=by
 obtain⟨j,d,h1⟩:=a.nw;rw[d];intro z
 rcases zu.mp z with z | z
 ·exact h z
 ·exact e (h1 c z)
theorem Rp.gr{K:Frag}{v:V}{d:D}(h:Rp K F as v d)(a:Gr H F as H' F' as'):Rp K F' as' v d:=Rp.mono a.ff a.at_ d h
theorem Rps.gr{K:Frag}{v:List V}{d:List D}(h:Rps K F as v d)(a:Gr H F as H' F' as'):Rps K F' as' v d:=Rps.mono a.ff a.at_ d h
theorem Rp.grS{K:Frag}{v:V}{d:D}(h:Rp K F as v d)(a:GrS P H F as H' F' as'):Rp K F' as' v d:=Rp.mono a.ff a.at_ d h
end
structure FsR(K:Frag)(F:Hp)(as:List Addr)(gs:List (Str×V))(fs:List (Str×D)):Prop where
 nm:gs.map (·.1)=fs.map (·.1)
 vl:Rps K F as (gs.map (·.2)) (fs.map (·.2))
def XF(K:Frag)(F:Hp)(as:List Addr)(c:Option Addr)(fs:List (Str×D)):Prop:=fs=[]\/∃d h gs,c=some d/\F d=some (.frz h (.xd gs))/\FsR K F as gs fs
theorem XF.mono{K:Frag}{F j:Hp}{as d:List Addr}{c:Option Addr}{fs:List (Str×D)}(h:XF K F as c fs)(e:Same F j)(m:∀(n:Nat) (a:Addr),as[n]?=some a->d[n]?=some a):XF K j d c fs:=by
 rcases h with h | ⟨q,l,gs,h1,h2,h3,h4⟩
 ·exact .inl h
 ·exact .inr ⟨q,l,gs,h1,e _ _ h2,h3,Rps.mono e m _ h4⟩
def ObR(K:Frag)(mg:Str->Option Value)(H F:Hp)(as:List Addr)(a:Addr):Ob->Prop
 | .ins c fs=>∃C l gs,mg c=some (.ref C)/\H a=some (.ins C l gs)/\FsR K F as gs fs
 | .ml ds=>∃d,H a=some (.lst d)/\Rps K F as d ds
 | .dt kvs=>∃d:List (List Key×V),H a=some (.dT d)/\d.map (·.1)=kvs.map (·.1)/\Rps K F as (d.map (·.2)) (kvs.map (·.2))
 | .df kvs=>∃(o:Obj) (d:List (List Key×V)),H a=some (.frz o (.dT d))/\d.map (·.1)=kvs.map (·.1)/\Rps K F as (d.map (·.2)) (kvs.map (·.2))
 | .dk kvs=>∃d:List (Key×V),H a=some (.dK d)/\d.map (·.1)=kvs.map (·.1)/\Rps K F as (d.map (·.2)) (kvs.map (·.2))
 | .kf kvs=>∃(o:Obj) (d:List (Key×V)),H a=some (.frz o (.dK d))/\d.map (·.1)=kvs.map (·.1)/\Rps K F as (d.map (·.2)) (kvs.map (·.2))
 | .xc c fs=>∃(C:Addr) (h:Obj) (u:HO),mg c=some (.ref C)/\H a=some (.frz h u)/\h.cls=.ref C/\(∃j,h.data=.fields j)/\XF K F as h.dict fs
 | .gone=>∃φ,H a=some (.ext φ)
 | .dn kvs=>∃d:List (NK×V),H a=some (.dN K d)/\d.map (·.1)=kvs.map (·.1)/\Rps K F as (d.map (·.2)) (kvs.map (·.2))
 | .nf kvs=>∃(o:Obj) (d:List (NK×V)),H a=some (.frz o (.dN K d))/\d.map (·.1)=kvs.map (·.1)/\Rps K F as (d.map (·.2)) (kvs.map (·.2))
structure RlO(K:Frag)(mg:Str->Option Value)(O:aq)(H F:Hp)(as:List Addr):Prop where
 fh:Same F H
 fd:∀a o,F a=some o->isD o=true
 nd:as.Nodup
 len:as.length=O.length
 fa:∀a∈as,F a=none
 ob:∀(n:Nat) (a:Addr) (o:Ob),as[n]?=some a->O[n]?=some o->ObR K mg H F as a o
inductive Md where
 | v | s | o
 deriving DecidableEq
def kY:D->Bool
 | .lst _=>false
 | _=>true
def mO(P:Pt)(K:Frag)(H F:Hp)(as:List Addr):Md->V->D->Prop
 | .v,v,d=>Rp K F as v d
 | .s,v,d=>Rp K F as v d\/∃a c h,v=.ref a/\d=.lst h/\H a=some (.lst c)/\a∉as/\P a/\Rps K F as c h
 | .o,v,d=>(kY d=true/\Rp K F as v d)\/∃a c h,v=.ref a/\d=.lst h/\H a=some (.lst c)/\F a=none/\a∉as/\¬P a/\Rps K F as c h
structure SlO(K:Frag)(md:List Md)(P:Pt)(ρ:aB)(σ:St)(H F:Hp)(as:List Addr):Prop where
 len:σ.length=md.length
 len':ρ.length=md.length
 pd:∀a,P a->H a≠none
 sl:∀(i:Nat) (m:Md) (d:D),md[i]?=some m->ρ[i]?=some (some d)->∃v,σ[i]?=some (some v)/\mO P K H F as m v d
 inj:∀(i j:Nat) (a:Addr) (ds es:List D),md[i]?=some .o->md[j]?=some .o->ρ[i]?=some (some (.lst ds))->ρ[j]?=some (some (.lst es))->σ[i]?=some (some (.ref a))->σ[j]?=some (some (.ref a))->i=j
 pin:∀x∈P.ss,md[x.1]?=some .s/\ρ[x.1]?=some (some x.2.2)/\σ[x.1]?=some (some x.2.1)
section
variable {K:Frag}{mg:Str->Option Value}{md:List Md}{P:Pt}{ρ:aB}{σ:St}{H F H' F':Hp}{as as':List Addr}{O O':aq}
theorem mO.step{m:Md}{v:V}{d:D}(h:mO P K H F as m v d)(g:Gr H F as H' F' as'):mO P K H' F' as' m v d:=by
 cases m with
 |v=>exact Rp.gr (show Rp K F as v d from h) g
 |s =>
  rcases h with h | ⟨a,l,u,t,r,j,c,q,n⟩
  ·exact .inl (h.gr g)
  ·exact .inr ⟨a,l,u,t,r,g.fr _ _ j c rfl,g.out c (by rw[j];exact λz=>nomatch z),q,n.gr g⟩
 |o =>
  rcases h with⟨h1,h⟩ | ⟨a,l,u,t,r,j,y,c,q,n⟩
  ·exact .inl ⟨h1,h.gr g⟩
  ·have x:H a≠none:=by rw[j];exact λz=>nomatch z
   exact .inr ⟨a,l,u,t,r,g.fr _ _ j c rfl,by rw[g.fz a _ j c rfl];exact y,g.out c x,q,n.gr g⟩
theorem SlO.step(h:SlO K md P ρ σ H F as)(g:Gr H F as H' F' as'):SlO K md P ρ σ H' F' as' :=
 ⟨h.len,h.len',λa p z=>h.pd a p (g.dm a z),λi m d j c=>let ⟨v,q,r⟩:=h.sl i m d j c;⟨v,q,r.step g⟩,h.inj,h.pin⟩
end
def Sv(K:Frag)(H F:Hp)(as:List Addr)(v:V)(d:D):Prop :=
 Rp K F as v d\/∃a c h,v=.ref a/\d=.lst h/\H a=some (.lst c)/\a∉as/\Rps K F as c h
def Lk(K:Frag)(H F:Hp)(as:List Addr)(v:V)(d:D):Prop :=
 Rp K F as v d\/∃a c h,v=.ref a/\d=.lst h/\H a=some (.lst c)/\Rps K F as c h
def Ow(K:Frag)(N:Addr->Prop)(H F:Hp)(as:List Addr)(v:V)(d:D):Prop :=
 (kY d=true/\Rp K F as v d)\/∃a c h,v=.ref a/\d=.lst h/\H a=some (.lst c)/\F a=none/\a∉as/\N a/\Rps K F as c h
def bO(O:aq)(d:D):D:=match d with
 | .ob n=>match O[n]? with
  |some (.ml ds)=>.lst ds
  | _=>.ob n
 |d=>d
section
variable {K:Frag}{mg:Str->Option Value}{H0 H F H' F':Hp}{as as':List Addr}{O:aq}{v:V}{d:D}
theorem Sv.gr(h:Sv K H F as v d)(g:Gr H F as H' F' as'):Sv K H' F' as' v d:=by
 rcases h with h | ⟨a,l,r,q,n,j,c,m⟩
 ·exact .inl (h.gr g)
 ·exact .inr ⟨a,l,r,q,n,g.fr _ _ j c rfl,g.out c (by rw[j];exact λz=>nomatch z),m.gr g⟩
theorem Sv.lk(h:Sv K H F as v d)(r:RlO K mg O H F as):Lk K H F as v (bO O d):=by
 rcases h with h | ⟨a,c,j,rfl,rfl,q,x,m⟩
 ·cases d with
  |ob n =>
   obtain⟨a,rfl,l⟩:=h.unO;unfold bO;dsimp only
   split
   ·rename_i j e;obtain⟨c,u,t⟩:=r.ob n a _ l e;exact .inr ⟨a,c,j,rfl,rfl,u,t⟩
   ·exact .inl (Rp.mkO l)
  | _=>exact .inl h
 ·exact .inr ⟨a,c,j,rfl,rfl,q,m⟩
theorem Lk.list{ds:List D}(h:Lk K H F as v (.lst ds))(fh:Same F H):∃a xs,v=.ref a/\RdK K H a xs/\Rps K F as xs ds:=by
 rcases h with h | ⟨a,xs,n,m,l,j,c⟩
 ·obtain⟨a,xs,e,h1,h2⟩:=h.unL;exact⟨a,xs,e,h1.mono fh,h2⟩
 ·cases l;exact⟨a,xs,m,.inl (.inl j),c⟩
theorem Lk.rp(h:Lk K H F as v d)(c:kY d=true):Rp K F as v d:=by
 rcases h with h | ⟨a,l,j,q,rfl,n,m⟩
 ·exact h
 ·cases c
theorem Sv.rp(h:Sv K H F as v d)(c:kY d=true):Rp K F as v d:=by
 rcases h with h | ⟨a,l,j,q,rfl,n,m⟩
 ·exact h
 ·cases c
theorem Ow.sv{N:Addr->Prop}(h:Ow K N H F as v d):Sv K H F as v d:=by
 rcases h with⟨_,h⟩ | ⟨a,c,r,q,n,m,u,l,t,j⟩
 ·exact .inl h
 ·exact .inr ⟨a,c,r,q,n,m,l,j⟩
theorem Gr.lay{p:Addr}{o:HO}(c:H p=none):Gr H F as (upd H p o) F as :=
 ⟨λ_ _ _ _ _=>rfl,Same.refl F,⟨[],by simp,λ_ h=>nomatch h⟩,λa j e _ _=>by rw[bj (dC e c)];exact e,λa e=>by
  by_cases h:a=p
  ·subst h;exact c
  ·rwa [bj h] at e,λa j u e=>by rw[bj (dC e c)];exact e⟩
theorem ObR.keep{a:Addr}{o:Ob}(h:ObR K mg H F as a o)(l:H' a=H a)(e:Same F F')(m:∀(n:Nat) (a:Addr),as[n]?=some a->as'[n]?=some a):ObR K mg H' F' as' a o:=by
 cases o with
 |ins c fs =>
  obtain⟨C,t,gs,h1,h2,h3,h4⟩:=h;exact⟨C,t,gs,h1,by rw[l];exact h2,h3,Rps.mono e m _ h4⟩
 |ml ds =>
  obtain⟨j,h1,h2⟩:=h;exact⟨j,by rw[l];exact h1,Rps.mono e m _ h2⟩
 |dt kvs =>
  obtain⟨j,h1,h2,h3⟩:=h;exact⟨j,by rw[l];exact h1,h2,Rps.mono e m _ h3⟩
 |df kvs =>
  obtain⟨o,j,h1,h2,h3⟩:=h;exact⟨o,j,by rw[l];exact h1,h2,Rps.mono e m _ h3⟩
 |dk kvs =>
  obtain⟨j,h1,h2,h3⟩:=h;exact⟨j,by rw[l];exact h1,h2,Rps.mono e m _ h3⟩
 |kf kvs =>
  obtain⟨o,j,h1,h2,h3⟩:=h;exact⟨o,j,by rw[l];exact h1,h2,Rps.mono e m _ h3⟩
 |xc c fs =>
  obtain⟨C,q,u,h1,h2,h3,h4,r⟩:=h;exact⟨C,q,u,h1,by rw[l];exact h2,h3,h4,r.mono e m⟩
 |gone =>
  obtain⟨φ,h1⟩:=h;exact⟨φ,by rw[l];exact h1⟩
 |dn kvs =>
  obtain⟨j,h1,h2,h3⟩:=h;exact⟨j,by rw[l];exact h1,h2,Rps.mono e m _ h3⟩
 |nf kvs =>
  obtain⟨o,j,h1,h2,h3⟩:=h;exact⟨o,j,by rw[l];exact h1,h2,Rps.mono e m _ h3⟩
theorem RlO.at{n:Nat}{a:Addr}{o:Ob}(r:RlO K mg O H F as)(m:as[n]?=some a)(l:O[n]?=some o):H a≠none:=by
 have q:=r.ob n a o m l
 cases o with
 |ins c fs=>obtain⟨C,x,gs,h1,h2,_⟩:=q;rw[h2];exact λz=>nomatch z
 |ml y=>obtain⟨j,h1,_⟩:=q;rw[h1];exact λz=>nomatch z
 |dt h=>obtain⟨j,h1,_⟩:=q;rw[h1];exact λz=>nomatch z
 |df h=>obtain⟨o,j,h1,_⟩:=q;rw[h1];exact λz=>nomatch z
 |dk h=>obtain⟨j,h1,_⟩:=q;rw[h1];exact λz=>nomatch z
 |kf h=>obtain⟨o,j,h1,_⟩:=q;rw[h1];exact λz=>nomatch z
 |xc c fs=>obtain⟨C,t,u,_,h1,_⟩:=q;rw[h1];exact λz=>nomatch z
 |gone=>obtain⟨φ,h1⟩:=q;rw[h1];exact λz=>nomatch z
 |dn h=>obtain⟨j,h1,_⟩:=q;rw[h1];exact λz=>nomatch z
 |nf h=>obtain⟨o,j,h1,_⟩:=q;rw[h1];exact λz=>nomatch z
theorem RlO.all{a:Addr}(r:RlO K mg O H F as)(h:a∈as):H a≠none:=by
 obtain⟨n,c,e⟩:=List.mem_iff_getElem.mp h
 have j:n<O.length:=by rw[<-r.len];exact c
 exact r.at (n:=n) (by rw[zD c,e]) (zD j)
theorem RlO.lay{p:Addr}{o:HO}(r:RlO K mg O H F as)(j:H p=none):RlO K mg O (upd H p o) F as:=by
 refine⟨λa u e=>?_,r.fd,r.nd,r.len,r.fa,λn a u l c=>(r.ob n a u l c).keep (bj ?_) (Same.refl F) λ_ _ h=>h⟩
 ·have q:=r.fh a u e;rw[bj (dC q j)];exact q
 ·intro z;subst z;exact r.at l c j
theorem Gr.frz{p:Addr}{o:HO}(j:H p=none)(g:Gr H F as H' F' as')(m:F' p=none):Gr H F as H' (upd F' p o) as' :=
 ⟨λa h c l hd=>by rw[bj (λz=>by subst z;rw[j] at c;cases c)];exact g.fz a h c l hd,λa u e=>by
  have q:=g.ff a u e
  rw[bj (dC q m)];exact q,g.nw,g.fr,g.dm,g.kz⟩
theorem RlO.frz{p:Addr}{o:HO}(r:RlO K mg O H F as)(c:H p=some o)(j:F p=none)(l:p∉as)(hd:isD o=true):RlO K mg O H (upd F p o) as:=by
 have ff:Same F (upd F p o):=λa u e=>by rw[bj (dC e j)];exact e
 refine⟨λa u e=>?_,λa u e=>?_,r.nd,r.len,λa h=>?_,λn a u h1 h2=>(r.ob n a u h1 h2).keep rfl ff λ_ _ h=>h⟩
 ·by_cases h:a=p
  ·subst h;rw[dG] at e;cases e;exact c
  ·rw[bj h] at e;exact r.fh a u e
 ·by_cases h:a=p
  ·subst h;rw[dG] at e;cases e;exact hd
  ·rw[bj h] at e;exact r.fd a u e
 ·rw[bj (λz=>by subst z;exact l h)];exact r.fa a h
end
abbrev RR:=(Addr->Prop)->Hp->Hp->List Addr->V->D->Prop
def rV(K:Frag):RR:=λ_ _ F c v d=>Rp K F c v d
def rS(K:Frag):RR:=λ_ H F c v d=>Sv K H F c v d
def rO(K:Frag):RR:=λN H F c v d=>Ow K N H F c v d
def rA(K:Frag):Md->RR
 | .v=>rV K
 | _=>rS K
def iY(R:RR):Prop:=∀(N h:Addr->Prop) (H F:Hp) (c:List Addr) (v:V) (d:D),(∀a,N a->h a)->R N H F c v d->R h H F c v d
theorem dh{K:Frag}:iY (rV K):=λ_ _ _ _ _ _ _ _ h=>h
theorem fc{K:Frag}:iY (rO K):=λN B H F y v d j h=>by
 rcases h with h | ⟨a,c,x,u,t,r,q,n,m,l⟩
 ·exact .inl h
 ·exact .inr ⟨a,c,x,u,t,r,q,n,j a m,l⟩
def tM(K:Frag)(mg:Str->Option Value)(md:List Md)(P:Pt)(R:RR)(m:M D):TE:=λσ H Q =>
 ∃ρ O F j d n,RlO K mg O H F j/\SlO K md P ρ σ H F j/\m ρ O=.ok d n /\
  ∀v h l c,Gr H F j h l c->RlO K mg n h l c->R (λa=>H a=none) h l c v d->Q v h
def tMT(K:Frag)(mg:Str->Option Value)(md:List Md)(P:Pt)(m:M Bool):TT:=λσ H Q =>
 ∃ρ O F d b j,RlO K mg O H F d/\SlO K md P ρ σ H F d/\m ρ O=.ok b j /\
  ∀h l c,Gr H F d h l c->RlO K mg j h l c->Q b h
def fj(K:Frag)(H F:Hp)(as:List Addr):List Md->List V->List D->Prop
 | [],[],[]=>True
 |m::ms,v::vs,d::ds=>rA K m (λ_=>True) H F as v d/\fj K H F as ms vs ds
 | _,_,_=>False
def tMA(K:Frag)(mg:Str->Option Value)(md:List Md)(P:Pt)(ms:List Md)(m:M (List D)):TA:=λσ H Q =>
 ∃ρ O F h n q,RlO K mg O H F h/\SlO K md P ρ σ H F h/\m ρ O=.ok n q /\
  ∀l d j c,Gr H F h d j c->RlO K mg q d j c->fj K d j c ms l n->Q l d
def XE(X:Cx)(md:List Md)(P:Pt)(R:RR)(e:Expr)(m:M D):Prop:=PE X e (tM X.K X.mg md P R m)
def VE(X:Cx)(md:List Md)(P:Pt)(e:Expr)(m:M D):Prop:=PE X e (tM X.K X.mg md P (rV X.K) m)
def SE(X:Cx)(md:List Md)(P:Pt)(e:Expr)(m:M D):Prop:=PE X e (tM X.K X.mg md P (rS X.K) m)
def OE(X:Cx)(md:List Md)(P:Pt)(e:Expr)(m:M D):Prop:=PE X e (tM X.K X.mg md P (rO X.K) m)
def TsE(X:Cx)(md:List Md)(P:Pt)(e:Expr)(m:M Bool):Prop:=PT X e (tMT X.K X.mg md P m)
def TwE(X:Cx)(md:List Md)(P:Pt)(e:Expr)(m:M Bool):Prop:=PW X e (tMT X.K X.mg md P m)
def AE(X:Cx)(md:List Md)(P:Pt)(ms:List Md)(es:List Expr)(m:M (List D)):Prop:=PA X es (tMA X.K X.mg md P ms m)
def jC(K:Frag)(mg:Str->Option Value)(md:List Md)(P:Pt)(R:RR)(D:Ends)(H F:Hp)(as:List Addr):Fl->Prop
 | .nx ρ' O'=>∀j h l c,GrS P H F as h l c->RlO K mg O' h l c->SlO K md P ρ' j h l c->D.nx j h
 | .bk ρ' O'=>∀j h l c,GrS P H F as h l c->RlO K mg O' h l c->SlO K md P ρ' j h l c->D.bk j h
 | .ct ρ' O'=>∀j h l c,GrS P H F as h l c->RlO K mg O' h l c->SlO K md P ρ' j h l c->D.ct j h
 | .rt d O'=>∀v h l c,GrS P H F as h l c->RlO K mg O' h l c->R (λa=>¬P a) h l c v d->D.rt v h
 | .ex _ _=>False
 | .no=>False
def tMS(K:Frag)(mg:Str->Option Value)(md:List Md)(P:Pt)(R:RR)(m:MS):TS:=λD σ H =>
 ∃ρ O F c,RlO K mg O H F c/\SlO K md P ρ σ H F c/\jC K mg md P R D H F c (m ρ O)
def VS(X:Cx)(md:List Md)(P:Pt)(R:RR)(st:Stmt)(m:MS):Prop:=PS X st (tMS X.K X.mg md P R m)
def VSs(X:Cx)(md:List Md)(P:Pt)(R:RR)(st:List Stmt)(m:MS):Prop:=PSs X st (tMS X.K X.mg md P R m)
section
variable {X:Cx}{md:List Md}{P:Pt}{R:RR}
theorem PE.imp{e:Expr}{t t':TE}(h:PE X e t)(k:∀σ H Q,t' σ H Q->t σ H Q):PE X e t':=λpins s σ H Q I q=>h pins s σ H Q I (k σ H Q q)
theorem PT.imp{e:Expr}{t t':TT}(h:PT X e t)(k:∀σ H Q,t' σ H Q->t σ H Q):PT X e t':=λpins s σ H Q I q=>h pins s σ H Q I (k σ H Q q)
theorem PW.imp{e:Expr}{t t':TT}(h:PW X e t)(k:∀σ H Q,t' σ H Q->t σ H Q):PW X e t':=λw pins s σ H Q I q=>h w pins s σ H Q I (k σ H Q q)
theorem PA.imp{e:List Expr}{t t':TA}(h:PA X e t)(k:∀σ H Q,t' σ H Q->t σ H Q):PA X e t':=λc pins s σ H Q I q=>h c pins s σ H Q I (k σ H Q q)
theorem PS.imp{e:Stmt}{t t':TS}(h:PS X e t)(k:∀D σ H,t' D σ H->t D σ H):PS X e t':=λpins s σ H D I q=>h pins s σ H D I (k D σ H q)
theorem PSs.imp{e:List Stmt}{t t':TS}(h:PSs X e t)(k:∀D σ H,t' D σ H->t D σ H):PSs X e t':=λpins s σ H D I q=>h pins s σ H D I (k D σ H q)
def aa(i:Nat):M D:=λρ O=>match ρ[i]? with
 |some (some d)=>.ok d O
 | _=>.no
def mC(d:D):M D:=λ_ O=>.ok d O
def mG(m:M D):M D:=λρ O=>match m ρ O with
 | .ok d O'=>if kY d=true then .ok d O' else .no
 |r=>r
theorem uJ{i:Nat}{ρ:aB}{O c:aq}{d:D}(h:aa i ρ O=.ok d c):ρ[i]?=some (some d)/\c=O:=by
 unfold aa at h;split at h
 ·rename_i j e;cases h;exact⟨e,rfl⟩
 ·cases h
theorem Us{m:M D}{ρ:aB}{O j:aq}{d:D}(h:mG m ρ O=.ok d j):m ρ O=.ok d j/\kY d=true:=by
 unfold mG at h;split at h
 ·rename_i n q e;split at h
  ·rename_i l;cases h;exact⟨e,l⟩
  ·cases h
 ·rename_i c;exact absurd h (c _ _)
theorem SlO.get{K:Frag}{ρ:aB}{σ:St}{H F:Hp}{as:List Addr}{i:Nat}{d:D}(s:SlO K md P ρ σ H F as)(h:ρ[i]?=some (some d)):∃m v,md[i]?=some m/\σ[i]?=some (some v)/\mO P K H F as m v d:=by
 have c:i<md.length:=by rw[<-s.len'];exact(zj.mp h).1
 obtain⟨v,h1,h2⟩:=s.sl i md[i] d (zD c) h;exact⟨_,v,zD c,h1,h2⟩
theorem mO.sv{K:Frag}{H F:Hp}{as:List Addr}{m:Md}{v:V}{d:D}(h:mO P K H F as m v d):Sv K H F as v d:=by
 cases m with
 |v=>exact .inl h
 |s =>
  rcases h with h | ⟨a,c,t,r,q,n,l,u,j⟩
  ·exact .inl h
  ·exact .inr ⟨a,c,t,r,q,n,l,j⟩
 |o =>
  rcases h with⟨_,h⟩ | ⟨a,c,t,r,q,n,x,l,u,j⟩
  ·exact .inl h
  ·exact .inr ⟨a,c,t,r,q,n,l,j⟩
theorem aK(i:Nat){x:Str}{c:Pos}(n:X.N[i]?=some x:=by rfl)(l:Vis X.env.scope x:=by first | exact Or.inl rfl | exact Or.inr (Or.inl rfl) | exact Or.inr (Or.inr rfl))
  (hd:(x == ("__debug__":Str))=false:=by decide) (j:(x == ("__classdict__":Str))=false:=by decide):SE X md P (.Name x c) (aa i):=by
 refine(nM (i:=i) n l hd j).imp λσ H Q h=>?_
 obtain⟨ρ,O,F,t,d,u,r,s,e,k⟩:=h;obtain⟨q,rfl⟩:=uJ e;obtain⟨m,v,h1,h2,h3⟩:=s.get q;exact⟨v,h2,k v H F t Gr.refl r h3.sv⟩
theorem az(i:Nat){x:Str}{c:Pos}(m:md[i]?=some .v:=by rfl)(n:X.N[i]?=some x:=by rfl)(l:Vis X.env.scope x:=by first | exact Or.inl rfl | exact Or.inr (Or.inl rfl) | exact Or.inr (Or.inr rfl))
  (hd:(x == ("__debug__":Str))=false:=by decide) (j:(x == ("__classdict__":Str))=false:=by decide):VE X md P (.Name x c) (aa i):=by
 refine(nM (i:=i) n l hd j).imp λσ H Q h=>?_
 obtain⟨ρ,O,F,t,d,u,r,s,e,k⟩:=h;obtain⟨q,rfl⟩:=uJ e;obtain⟨v,h2,h3⟩:=s.sl i .v d m q;exact⟨v,h2,k v H F t Gr.refl r h3⟩
theorem aj{e:Expr}{m:M D}(h:VE X md P e m):SE X md P e m:=h.imp λσ H Q q=>by
 obtain⟨ρ,O,F,n,d,x,r,s,e,k⟩:=q;exact⟨ρ,_,F,n,_,_,r,s,e,λv t u c g j l=>k v t u c g j (.inl l)⟩
theorem aP{e:Expr}{m:M D}(h:OE X md P e m):SE X md P e m:=h.imp λσ H Q q=>by
 obtain⟨ρ,O,F,n,d,x,r,s,e,k⟩:=q;exact⟨ρ,_,F,n,_,_,r,s,e,λv t u c g j l=>k v t u c g j (Ow.sv l)⟩
theorem eE{e:Expr}{m:M D}(h:SE X md P e m):VE X md P e (mG m):=h.imp λσ H Q q=>by
 obtain⟨ρ,O,F,t,d,y,r,s,e,k⟩:=q;obtain⟨e,n⟩:=Us e;exact⟨ρ,_,F,t,_,_,r,s,e,λv u x c g j l=>k v u x c g j (Sv.rp l n)⟩
theorem bc{e:Expr}{m:M D}(h:OE X md P e m):VE X md P e m:=h.imp λσ H Q q=>by
 obtain⟨ρ,O,F,I,d,L,r,s,e,k⟩:=q;refine⟨ρ,_,F,I,_,_,r,s,e,λv y j c g x l=>?_⟩
 rcases l with⟨_,l⟩ | ⟨a,t,J,rfl,rfl,G,n,E,C,B⟩
 ·exact k v y j c g x l
 ·have ff:Same j (upd j a (.lst t)):=λb u q=>by rw[bj (dC q n)];exact q
  refine k _ y (upd j a (.lst t)) c (g.frz C n) (x.frz G n E rfl) (Rp.mkL (.inl (.inl dG)) (Rps.mono ff (λ_ _ z=>z) _ B))
theorem rJ{e:Expr}{v:V}{d:D}(h:PE X e (tC v))(hd:∀K F as,Rp K F as v d):VE X md P e (mC d):=h.imp λσ H Q q=>by
 obtain⟨ρ,O,F,as,d,c,r,s,e,k⟩:=q;cases e;exact k v H F as Gr.refl r (hd _ _ _)
theorem aD{i:Int}{j pos}:VE X md P (.Constant (.int i) j pos) (mC (.int i)):=rJ PL λ_ _ _=>Rp.int
theorem fZ{b:Bool}{j pos}:VE X md P (.Constant (.bool b) j pos) (mC (.bl b)):=rJ PN λ_ _ _=>Rp.bl
theorem Ut{j pos}:VE X md P (.Constant .none j pos) (mC .non):=rJ PP λ_ _ _=>Rp.non
theorem aJ{x:Str}{j pos}(l:List Nat)(c:x=S l:=by decide +kernel):VE X md P (.Constant (.str x) j pos) (mC (.str l)):=rJ G7 λ_ _ _=>by rw[c];exact Rp.str
theorem mQ{x:Str}{v:V}{d:D}{c:Pos}(h:∃u,X.mg x=some u/\RelV v u)(hd:∀K F as,Rp K F as v d)(l:Gl X x:=by rfl)(j:(x == ("__debug__":Str))=false:=by decide):VE X md P (.Name x c) (mC d):=rJ (Ie h l j) hd
def au:M (List D):=λ_ O=>.ok [] O
def ao(m:M D)(r:M (List D)):M (List D):=λρ O=>(m ρ O).bind λd j=>(r ρ j).bind λc h=>.ok (d::c) h
theorem aC:AE X md P [] [] au:=jN.imp λσ H Q q=>by
 obtain⟨ρ,O,F,c,d,h,r,s,e,k⟩:=q;cases e;exact k [] H F c Gr.refl r trivial
theorem rA.gr{K:Frag}{m:Md}{N:Addr->Prop}{H F j l:Hp}{as c:List Addr}{v:V}{d:D}(h:rA K m N H F as v d)(g:Gr H F as j l c):rA K m (λ_=>True) j l c v d:=by
 cases m with
 |v=>exact Rp.gr (show Rp K F as v d from h) g
 |s=>exact Sv.gr (show Sv K H F as v d from h) g
 |o=>exact Sv.gr (show Sv K H F as v d from h) g
theorem fj.gr{K:Frag}{H F j l:Hp}{as c:List Addr}(g:Gr H F as j l c):∀{ms:List Md}{vs:List V}{ds:List D},fj K H F as ms vs ds->fj K j l c ms vs ds
 | [],[],[],_=>trivial
 |m::ms,v::vs,d::ds,h=>⟨rA.gr h.1 g,fj.gr g h.2⟩
 | [],[],_::_,h=>h.elim
 | [],_::_,[],h=>h.elim
 | [],_::_,_::_,h=>h.elim
 | _::_,[],[],h=>h.elim
 | _::_,[],_::_,h=>h.elim
 | _::_,_::_,[],h=>h.elim
theorem Im(c:Md){e:Expr}{es:List Expr}{m:M D}{ms:List Md}{r:M (List D)}(h:XE X md P (rA X.K c) e m)(G:AE X md P ms es r)
  (hs:starEach (e::es) X.env=(false,eval e X.env)::starEach es X.env:=by exact dH rfl):AE X md P (c::ms) (e::es) (ao m r):=(iW h G hs).imp λσ H Q q=>by
 obtain⟨ρ,O,F,L,d,O',C,s,e,k⟩:=q;obtain⟨d,O1,J,e⟩:=Res.bind_ok e;obtain⟨Y,Z,I,e⟩:=Res.bind_ok e;cases e;refine⟨ρ,_,F,L,_,_,C,s,J,λv H1 W n u B E=>?_⟩;refine⟨ρ,_,W,n,_,_,B,s.step u,I,λx T U l t y j=>?_⟩;exact k (v::x) T U l (u.trans t) y ⟨rA.gr E t,j⟩
theorem aG{e:Expr}{es:List Expr}{m:M D}{ms:List Md}{r:M (List D)}(h:VE X md P e m)(c:AE X md P ms es r)
  (hs:starEach (e::es) X.env=(false,eval e X.env)::starEach es X.env:=by exact dH rfl):AE X md P (.v::ms) (e::es) (ao m r):=Im .v h c hs
theorem aN{e:Expr}{es:List Expr}{m:M D}{ms:List Md}{r:M (List D)}(h:SE X md P e m)(c:AE X md P ms es r)
  (hs:starEach (e::es) X.env=(false,eval e X.env)::starEach es X.env:=by exact dH rfl):AE X md P (.s::ms) (e::es) (ao m r):=Im .s h c hs
theorem fj.rps{K:Frag}{H F:Hp}{as:List Addr}:∀{n:Nat}{vs:List V}{ds:List D},fj K H F as (List.replicate n .v) vs ds->Rps K F as vs ds
 | 0,[],[],_=>Rps.nil
 |n+1,v::vs,d::ds,h=>by
  rw[List.replicate_succ] at h;exact Rps.cons h.1 (fj.rps h.2)
 | 0,[],_::_,h=>h.elim
 | 0,_::_,[],h=>h.elim
 | 0,_::_,_::_,h=>h.elim
 |n+1,[],[],h=>h.elim
 |n+1,[],_::_,h=>h.elim
 |n+1,_::_,[],h=>h.elim
def bx(r:M (List D)):M D:=λρ O=>(r ρ O).bind λc d=>if c.length<=1000000 then .ok (.lst c) d else .no
def bQ(r:M (List D)):M D:=λρ O=>(r ρ O).bind λc d=>if c.length<=1000000 then .ok (.tup c) d else .no
theorem jD{n:Nat}(h:n<=1000000):n<=sizeLine:=zK h (by decide)
theorem cI{es:List Expr}{m:Pos}{r:M (List D)}(n:Nat)(h:AE X md P (List.replicate n .v) es r):OE X md P (.List es m) (bx r):=(R0 h).imp λσ H Q q=>by
 obtain⟨ρ,O,F,as,d,G,y,s,e,k⟩:=q;obtain⟨ds,E,C,e⟩:=Res.bind_ok e;split at e
 ·rename_i hz;cases e;refine⟨ρ,_,F,as,_,_,y,s,C,λvs I l t x j hv=>?_⟩;have u:=hv.rps;refine⟨by rw[u.length];exact jD hz,λp c=>?_⟩
  have B:l p=none:=by
   cases q:l p with
   |none=>rfl
   |some o=>rw[j.fh p o q] at c;cases c
  refine k _ _ l t (x.trans (Gr.lay c)) (j.lay c) (.inr ⟨p,vs,ds,rfl,rfl,dG,B,λz=>j.all z c,x.dm p c,u⟩)
 ·cases e
theorem cQ{es:List Expr}{t:Pos}{x1}{r:M (List D)}(n:Nat)(h:AE X md P (List.replicate n .v) es r):VE X md P (.Tuple es x1 t) (bQ r):=(RZ h).imp λσ H Q q=>by
 obtain⟨ρ,O,F,as,d,I,C,s,e,k⟩:=q;obtain⟨ds,G,E,e⟩:=Res.bind_ok e;split at e
 ·rename_i hz;cases e;refine⟨ρ,_,F,as,_,_,C,s,E,λvs J j x B l hv=>?_⟩;have y:=hv.rps;refine⟨by rw[y.length];exact jD hz,λp c=>?_⟩
  have m:j p=none:=by
   cases q:j p with
   |none=>rfl
   |some o=>rw[l.fh p o q] at c;cases c
  have ff:Same j (upd j p (.tup vs)):=λb u q=>by rw[bj (dC q m)];exact q
  refine k _ _ (upd j p (.tup vs)) x ((B.trans (Gr.lay c)).frz (B.dm p c) m) ((l.lay c).frz dG m (λz=>l.all z c) rfl) (Rp.mkT (.inl dG) (Rps.mono ff (λ_ _ z=>z) _ y))
 ·cases e
def rD(K:Frag)(mg:Str->Option Value)(g:D->D->Option D):R2:=λx y H Q=>∃O F c n m d,RlO K mg O H F c/\Lk K H F c x n/\Lk K H F c y m/\g n m=some d /\
 ∀l h j,Gr H F c h j c->RlO K mg O h j c->Ow K (λa=>H a=none) h j c l d->Q l h
abbrev OpD(X:Cx)(f:Value->Value->Sem Value)(g:D->D->Option D):Prop:=OpR X f (rD X.K X.mg g)
def ak(g:D->D->Option D)(ma h:M D):M D:=λρ O=>(ma ρ O).bind λx j=>(h ρ j).bind λy c=>match g (bO c x) (bO c y) with
 |some d=>.ok d c
 |none=>.no
theorem xW{K:Frag}{mg:Str->Option Value}{g:D->D->Option D}{ma q:M D}{σ:St}{H:Hp}{Q:VK}(h:tM K mg md P (rO K) (ak g ma q) σ H Q):tOp (rD K mg g) (tM K mg md P (rS K) ma) (tM K mg md P (rS K) q) σ H Q:=by
 obtain⟨ρ,O,F,Y,d,O',r,sl,e,k⟩:=h;obtain⟨x,O1,W,e⟩:=Res.bind_ok e;obtain⟨y,O2,U,e⟩:=Res.bind_ok e;split at e
 ·rename_i d' J;cases e;refine⟨ρ,_,F,Y,_,_,r,sl,W,λv H1 F1 n m B G=>?_⟩;refine⟨ρ,_,F1,n,_,_,B,sl.step m,U,λu H2 F2 c l j I=>?_⟩;refine⟨_,F2,c,_,_,_,j,Sv.lk (Sv.gr G l) j,Sv.lk I j,J,λt Z F' T C E=>?_⟩;exact k t Z F' c ((m.trans l).trans T) C (fc _ _ _ _ _ _ _ (λa L=>(m.trans l).dm a L) E)
 ·cases e
theorem bu{j h:Expr}{c:Pos}{op:Operator}{g:D->D->Option D}{ma d:M D}(l:OpD X (binaryOp op) g)(m:SE X md P j ma)(hb:SE X md P h d):OE X md P (.BinOp j op h c) (ak g ma d):=
 (Q4 l m hb).imp λ_ _ _=>xW
theorem mR{j c:Expr}{d:Pos}{op:CmpOp}{g:D->D->Option D}{ma h:M D}(l:OpD X (compareOp op) g)(n:SE X md P j ma)(hb:SE X md P c h)(m:behindInMarks op c=false):OE X md P (.Compare j [op] [c] d) (ak g ma h):=
 (Rn l n hb m).imp λ_ _ _=>xW
def aH(m:M D):M Bool:=λρ O=>(m ρ O).bind λd c=>match d with
 | .bl b=>.ok b c
 | _=>.no
theorem xX{K:Frag}{mg:Str->Option Value}{m:M D}{σ:St}{H:Hp}{Q:Bool->Hp->Prop}(h:tMT K mg md P (aH m) σ H Q):xB (tM K mg md P (rO K) m) σ H Q:=by
 obtain⟨ρ,O,F,x,d,I,r,sl,e,k⟩:=h;obtain⟨d,G,u,e⟩:=Res.bind_ok e
 cases d with
 |bl c =>
  cases e;refine⟨ρ,_,F,x,_,_,r,sl,u,λv y B l q n j=>?_⟩
  rcases j with⟨_,j⟩ | ⟨a,C,E,_,t,_⟩
  ·exact⟨_,j.unB,k y B l q n⟩
  ·cases t
 | _=>cases e
theorem bB{l c:Expr}{d:Pos}{op:CmpOp}{g:D->D->Option D}{ma j:M D}(m:OpD X (compareOp op) g)(r:SE X md P l ma)(hb:SE X md P c j)(n:behindInMarks op c=false):TsE X md P (.Compare l [op] [c] d) (aH (ak g ma j)):=
 (Hn m r hb n).imp λσ H Q h=>by
  have q:=xX h;exact xW q
def pI(g g':D->D->Option D)(ma l j:M D):M D:=λρ O=>(ma ρ O).bind λx m=>(l ρ m).bind λy c=>match g (bO c x) (bO c y) with
 |some (.bl true)=>(j ρ c).bind λz h=>match g' (bO h y) (bO h z) with
  |some d=>.ok d h
  |none=>.no
 |some (.bl false)=>.ok (.bl false) c
 | _=>.no
theorem Uu{K:Frag}{mg:Str->Option Value}{g g':D->D->Option D}{ma Y W:M D}{σ:St}{H:Hp}{Q:VK}(h:tM K mg md P (rO K) (pI g g' ma Y W) σ H Q):
  Ho (rD K mg g) (rD K mg g') (tM K mg md P (rS K) ma) (tM K mg md P (rS K) Y) (tM K mg md P (rS K) W) σ H Q:=by
 obtain⟨ρ,O,F,as,d,O',r,sl,e,k⟩:=h;obtain⟨x,O1,e1,e⟩:=Res.bind_ok e;obtain⟨y,O2,e2,e⟩:=Res.bind_ok e;refine⟨ρ,_,F,as,_,_,r,sl,e1,λv H1 F1 U I r1 Z=>?_⟩;refine⟨ρ,_,F1,U,_,_,r1,sl.step I,e2,λu H2 F2 c n l B=>?_⟩;split at e
 ·rename_i C;obtain⟨z,O3,e3,e⟩:=Res.bind_ok e;refine⟨_,F2,c,_,_,_,l,Sv.lk (Sv.gr Z n) l,Sv.lk B l,C,λv' H' J g' t j=>?_⟩
  rcases j with⟨_,j⟩ | ⟨a,xs,ds,_,z,_⟩
  ·refine⟨true,j.unB,?_⟩;rw[if_pos rfl];split at e
   ·rename_i d' T;cases e;have G:=(I.trans n).trans g';refine⟨ρ,_,J,c,_,_,t,sl.step G,e3,λw H4 F4 m E q hz=>?_⟩;refine⟨_,F4,m,_,_,_,q,Sv.lk (Sv.gr (Sv.gr B g') E) q,Sv.lk hz q,T,λv5 H5 F5 g5 r5 L=>?_⟩;exact k v5 H5 F5 m ((G.trans E).trans g5) r5 (fc _ _ _ _ _ _ _ (λa ha=>(G.trans E).dm a ha) L)
   ·cases e
  ·cases z
 ·rename_i C;cases e;refine⟨_,F2,c,_,_,_,l,Sv.lk (Sv.gr Z n) l,Sv.lk B l,C,λv' H' J g' t j=>?_⟩
  rcases j with⟨_,j⟩ | ⟨a,xs,ds,_,z,_⟩
  ·refine⟨false,j.unB,?_⟩;rw[if_neg zm];exact k _ H' J c ((I.trans n).trans g') t (.inl ⟨rfl,Rp.bl⟩)
  ·cases z
 ·cases e
theorem Io{a b c:Expr}{h:Pos}{op d:CmpOp}{g g':D->D->Option D}{ma m l:M D}(n:OpD X (compareOp op) g)(j:OpD X (compareOp d) g')(t:SE X md P a ma)(hb:SE X md P b m)(r:SE X md P c l)
  (q:lastMarks [op,d] [b,c]=false:=by with_unfolding_all rfl):OE X md P (.Compare a [op,d] [b,c] h) (pI g g' ma m l):=(Ro n j t hb r q).imp λ_ _ _=>Uu
def isNon:D->Bool
 | .non=>true
 | _=>false
def Uv(m:M D):M D:=λρ O=>(m ρ O).bind λd c=>.ok (.bl (isNon d)) c
def uK(m:M D):M D:=λρ O=>(m ρ O).bind λd c=>.ok (.bl (!isNon d)) c
theorem Sv.isN{K:Frag}{H F:Hp}{as:List Addr}{v:V}{d:D}(h:Sv K H F as v d):decide (v=.non)=isNon d:=by
 rcases h with h | ⟨a,c,j,rfl,rfl,_⟩
 ·cases d with
  |non=>rw[h.unN];rfl
  |bl b=>rw[h.unB];rfl
  |int b=>rw[h.unI];rfl
  |str b=>rw[h.unS];rfl
  |lst b=>obtain⟨a,c,rfl,_⟩:=h.unL;rfl
  |tup b=>obtain⟨a,c,rfl,_⟩:=h.unT;rfl
  |dic k b=>obtain⟨a,c,rfl,_⟩:=h.unD;rfl
  |ob b=>obtain⟨a,rfl,_⟩:=h.unO;rfl
 ·rfl
theorem Uw{K:Frag}{mg:Str->Option Value}{m:M D}{σ:St}{H:Hp}{Q:VK}(h:tM K mg md P (rO K) (uK m) σ H Q):G8 (tM K mg md P (rS K) m) σ H Q:=by
 obtain⟨ρ,O,F,t,d,C,r,sl,e,k⟩:=h;obtain⟨x,B,q,e⟩:=Res.bind_ok e;cases e;refine⟨ρ,_,F,t,_,_,r,sl,q,λv u y c n j l=>?_⟩;dsimp only;rw[Sv.isN l];exact k _ u y c n j (.inl ⟨rfl,Rp.bl⟩)
theorem Ux{t t':TE}{σ:St}{H:Hp}{Q:Bool->Hp->Prop}(h:∀c,t σ H c->t' σ H c)(q:xB t σ H Q):tB t' σ H Q:=h _ q
theorem Uy{a:Expr}{c pos':Pos}{j}{m:M D}(h:SE X md P a m):TsE X md P (.Compare a [.IsNot] [.Constant .none j pos'] c) (aH (uK m)):=(Qc (Qa h)).imp λ_ _ _ q=>Ux (λ_=>Uw) (xX q)
def pJ:D->Option Bool
 | .non=>some false
 | .bl b=>some b
 | .int i=>some (i != 0)
 | .str l=>if l.length<=1000000 then some (!l.isEmpty) else none
 | .lst ds=>some (!ds.isEmpty)
 | .tup ds=>some (!ds.isEmpty)
 | .dic ks _=>some (!ks.isEmpty)
 | .ob _=>none
def cW(m:M D):M Bool:=λρ O=>(m ρ O).bind λd c=>match pJ (bO c d) with
 |some b=>.ok b c
 |none=>.no
theorem Ip{α β:Type}{xs:List α}{ys:List β}(h:xs.length=ys.length):(!xs.isEmpty) = !ys.isEmpty:=by
 cases xs<;>cases ys<;>simp_all
theorem Lk.tru{K:Frag}{H F:Hp}{as:List Addr}{v:V}{d:D}{b:Bool}(h:Lk K H F as v d)(fh:Same F H)(e:pJ d=some b):xC K v H b:=by
 cases d with
 |non=>rw[(h.rp rfl).unN];cases e;rfl
 |bl b=>rw[(h.rp rfl).unB];cases e;rfl
 |int b=>rw[(h.rp rfl).unI];cases e;rfl
 |str l =>
  rw[(h.rp rfl).unS];simp only[pJ] at e;split at e
  ·rename_i q;cases e;refine⟨by rw[gG];exact jD q,?_⟩;rw[gG]
   cases l with
   |nil=>rfl
   |cons c l =>
    have:((((c::l).length:Nat):Int) != 0)=true:=by
     rw[bne_iff_ne,zn];omega
    rw[this];rfl
  ·cases e
 |lst ds =>
  obtain⟨a,m,rfl,h1,h2⟩:=h.list fh;cases e;exact .inl ⟨m,h1.sq,(Ip h2.length).symm⟩
 |tup ds =>
  obtain⟨a,m,rfl,h1,h2⟩:=(h.rp rfl).unT;cases e;exact .inr (.inl ⟨m,Same.seqT fh h1,(Ip h2.length).symm⟩)
 |dic ks vs =>
  obtain⟨a,j,rfl,h1,rfl,h2⟩:=(h.rp rfl).unD;cases e;exact .inr (.inr ⟨j,fh _ _ h1,by cases j<;>rfl⟩)
 |ob n=>cases e
theorem gw{a:Expr}{m:M D}(h:SE X md P a m)(t:∀whole,isTrue a X.env whole=(do let v <-whole;standAt a.pos;holding [v] (truthy v)):=by intro _;rfl):TsE X md P a (cW m):=(Rt h t).imp λσ H Q q=>by
 obtain⟨ρ,O,F,B,d,I,r,sl,e,k⟩:=q;obtain⟨d,G,y,e⟩:=Res.bind_ok e;split at e
 ·rename_i c u;cases e;exact⟨ρ,_,F,B,_,_,r,sl,y,λv C E l x j n=>⟨_,Lk.tru (Sv.lk n j) j.fh u,k C E l x j⟩⟩
 ·cases e
def gH(a b:M Bool):M Bool:=λρ O=>(a ρ O).bind λc d=>if c=true then b ρ d else .ok false d
def cU(a b:M Bool):M Bool:=λρ O=>(a ρ O).bind λc d=>if c=true then .ok true d else b ρ d
def eF(a:M Bool):M Bool:=λρ O=>(a ρ O).bind λc d=>.ok (!c) d
theorem Uz{K:Frag}{mg:Str->Option Value}{ma q:M Bool}{σ:St}{H:Hp}{Q:Bool->Hp->Prop}(h:tMT K mg md P (gH ma q) σ H Q):G9 (tMT K mg md P ma) (tMT K mg md P q) σ H Q:=by
 obtain⟨ρ,O,F,B,d,J,r,sl,e,k⟩:=h;obtain⟨c,I,y,e⟩:=Res.bind_ok e;refine⟨ρ,_,F,B,_,_,r,sl,y,λE t j l n=>?_⟩
 cases c with
 |true =>
  rw[if_pos rfl] at e ⊢;exact⟨ρ,_,t,j,_,_,n,sl.step l,e,λC G m x u=>k C G m (l.trans x) u⟩
 |false =>
  rw[if_neg zm] at e ⊢;cases e;exact k E t j l n
theorem UG{K:Frag}{mg:Str->Option Value}{ma q:M Bool}{σ:St}{H:Hp}{Q:Bool->Hp->Prop}(h:tMT K mg md P (cU ma q) σ H Q):tOr (tMT K mg md P ma) (tMT K mg md P q) σ H Q:=by
 obtain⟨ρ,O,F,B,d,J,r,sl,e,k⟩:=h;obtain⟨c,I,y,e⟩:=Res.bind_ok e;refine⟨ρ,_,F,B,_,_,r,sl,y,λE t j l n=>?_⟩
 cases c with
 |true =>
  rw[if_pos rfl] at e ⊢;cases e;exact k E t j l n
 |false =>
  rw[if_neg zm] at e ⊢;exact⟨ρ,_,t,j,_,_,n,sl.step l,e,λC G m x u=>k C G m (l.trans x) u⟩
theorem rK{a:Expr}{c:Pos}{m:M Bool}(h:TsE X md P a m):TwE X md P (.BoolOp .And [a] c) m:=Qe h
theorem jE{a:Expr}{c:Pos}{m:M Bool}(h:TsE X md P a m):TwE X md P (.BoolOp .Or [a] c) m:=Qf h
theorem iZ{a b:Expr}{rest:List Expr}{c:Pos}{ma d:M Bool}(h:TsE X md P a ma)(hb:TwE X md P (.BoolOp .And (b::rest) c) d):TwE X md P (.BoolOp .And (a::b::rest) c) (gH ma d):=(Qg h hb).imp λ_ _ _=>Uz
theorem ie{a b:Expr}{rest:List Expr}{c:Pos}{ma d:M Bool}(h:TsE X md P a ma)(hb:TwE X md P (.BoolOp .Or (b::rest) c) d):TwE X md P (.BoolOp .Or (a::b::rest) c) (cU ma d):=(Qh h hb).imp λ_ _ _=>UG
theorem gJ{e:Expr}{m:M Bool}(h:TwE X md P e m):TsE X md P e m:=PW.pt h
theorem jF{a:Expr}{j:Pos}{m:M Bool}(h:TsE X md P a m):TsE X md P (.UnaryOp .Not a j) (eF m):=(Qi h).imp λσ H Q q=>by
 obtain⟨ρ,O,F,n,d,u,r,sl,e,k⟩:=q;obtain⟨c,t,l,e⟩:=Res.bind_ok e;cases e;exact⟨ρ,_,F,n,_,_,r,sl,l,k⟩
def jq(ma h:M D):M D:=λρ O=>(ma ρ O).bind λd c=>match d with
 | .bl true=>h ρ c
 | .bl false=>.ok (.bl false) c
 | _=>.no
def Ir(ma h:M D):M D:=λρ O=>(ma ρ O).bind λd c=>match d with
 | .bl true=>.ok (.bl true) c
 | .bl false=>h ρ c
 | _=>.no
def uL(ma:M D):M D:=λρ O=>(ma ρ O).bind λd c=>match d with
 | .bl b=>.ok (.bl (!b)) c
 | _=>.no
theorem nW{a:Expr}{c:Pos}{op}{m:M D}(h:VE X md P a m):VE X md P (.BoolOp op [a] c) m:=Ql h
theorem kZ{a b:Expr}{rest:List Expr}{h:Pos}{ma u:M D}(G:VE X md P a ma)(hb:VE X md P (.BoolOp .And (b::rest) h) u):VE X md P (.BoolOp .And (a::b::rest) h) (jq ma u):=(Qm G hb).imp λσ H Q q=>by
 obtain⟨ρ,O,F,L,d,Z,r,sl,e,k⟩:=q;obtain⟨x,Y,J,e⟩:=Res.bind_ok e;refine⟨ρ,_,F,L,_,_,r,sl,J,λv U y j l t E=>?_⟩
 cases x with
 |bl c =>
  refine⟨c,Rp.unB E,?_⟩
  cases c with
  |true =>
   rw[if_pos rfl];exact⟨ρ,_,y,j,_,_,t,sl.step l,e,λB T W n I C m=>k B T W n (l.trans I) C m⟩
  |false =>
   rw[if_neg zm];cases e;exact k _ U y j l t Rp.bl
 | _=>cases e
theorem Iu{a:Expr}{j:Pos}{m:M D}(h:VE X md P a m):VE X md P (.UnaryOp .Not a j) (uL m):=(Qn h).imp λσ H Q q=>by
 obtain⟨ρ,O,F,B,d,I,r,sl,e,k⟩:=q;obtain⟨x,G,y,e⟩:=Res.bind_ok e;refine⟨ρ,_,F,B,_,_,r,sl,y,λv C E l u n t=>?_⟩
 cases x with
 |bl c =>
  cases e;exact⟨c,Rp.unB t,k _ C E l u n Rp.bl⟩
 | _=>cases e
def mIf(t:M Bool)(a b:M D):M D:=λρ O=>(t ρ O).bind λc d=>if c=true then a ρ d else b ρ d
end
section
variable {K:Frag}{mg:Str->Option Value}{md:List Md}{P:Pt}{R:RR}{ρ:aB}{σ:St}{H F H' F':Hp}{as as':List Addr}{O O':aq}
theorem SlO.set{i:Nat}{m:Md}{v:V}{d:D}(s:SlO K md P ρ σ H F as)(t:md[i]?=some m)(E:m≠.s)(hv:mO P K H F as m v d)
  (G:∀(a:Addr) (ds:List D) (j:Nat) (es:List D),m=.o->v=.ref a->d=.lst ds->i≠j->md[j]?=some .o->ρ[j]?=some (some (.lst es))->σ[j]?≠some (some (.ref a))):SlO K md P (ρ.set i (some d)) (σ.set i (some v)) H F as:=by
 have n:i<md.length:=(zj.mp t).1;refine⟨by rw[jh];exact s.len,by rw[jh];exact s.len',s.pd,λj L T C y=>?_,λj k a ds es h1 h2 h3 h4 r q=>?_,λx Q=>?_⟩
 ·by_cases h:i=j
  ·subst h;rw[t] at C;cases C;rw[zR (by rw[s.len'];exact n)] at y;cases y;exact⟨v,zR (by rw[s.len];exact n),hv⟩
  ·rw[zf h] at y;rw[zf h];exact s.sl j L T C y
 ·by_cases l:i=j
  ·by_cases c:i=k
   ·rw[<-l,<-c]
   ·exfalso
    subst l;rw[t] at h1;cases h1;rw[zR (by rw[s.len'];exact n)] at h3;rw[zR (by rw[s.len];exact n)] at r;rw[zf c] at h4 q;cases h3;cases r;exact G a ds k es rfl rfl rfl c h2 h4 q
  ·by_cases c:i=k
   ·exfalso
    subst c;rw[t] at h2;cases h2;rw[zR (by rw[s.len'];exact n)] at h4;rw[zR (by rw[s.len];exact n)] at q;rw[zf l] at h3 r;cases h4;cases q;exact G a es j ds rfl rfl rfl l h1 h3 r
   ·rw[zf l] at h3 r;rw[zf c] at h4 q;exact s.inj j k a ds es h1 h2 h3 h4 r q
 ·obtain⟨B,J,I⟩:=s.pin x Q
  have u:i≠x.1:=λz=>by
   rw[<-z,t] at B;exact E (zQ B)
  exact⟨B,by rw[zf u];exact J,by rw[zf u];exact I⟩
theorem SlO.setV{i:Nat}{v:V}{d:D}(s:SlO K md P ρ σ H F as)(c:md[i]?=some .v)(hv:Rp K F as v d):SlO K md P (ρ.set i (some d)) (σ.set i (some v)) H F as :=
 s.set c (by decide) hv λ_ _ _ _ z=>nomatch z
theorem SlO.setN{i:Nat}{v:V}{d:D}(s:SlO K md P ρ σ H F as)(h:md[i]?=some .o)(c:kY d=true)(hv:Rp K F as v d):SlO K md P (ρ.set i (some d)) (σ.set i (some v)) H F as :=
 s.set h (by decide) (.inl ⟨c,hv⟩) λ_ _ _ _ _ _ z=>by subst z;cases c
theorem SlO.setO{i:Nat}{v:V}{d:D}{c:Hp}(s:SlO K md P ρ σ c F as)(g:Gr c F as H' F' as')(l:md[i]?=some .o)(hv:Ow K (λa=>c a=none) H' F' as' v d):SlO K md P (ρ.set i (some d)) (σ.set i (some v)) H' F' as':=by
 have s':=s.step g
 rcases hv with⟨t,hv⟩ | ⟨a,q,I,rfl,rfl,G,E,C,m,B⟩
 ·exact s'.setN l t hv
 ·refine s'.set l (by decide) (.inr ⟨a,q,I,rfl,rfl,G,E,C,λp=>s.pd a p m,B⟩) λb Q j T _ y hd L u x r=>?_
  cases y;obtain⟨v,h1,h2⟩:=s.sl j .o _ u x;rw[r] at h1;cases h1
  rcases h2 with⟨h2,_⟩ | ⟨U,J,_,n,_,h,_⟩
  ·cases h2
  ·cases n;rw[m] at h;cases h
end
section
variable {X:Cx}{md:List Md}{P:Pt}{R:RR}
def aW:MS:=λρ O=>.nx ρ O
def aA(a b:MS):MS:=λρ O=>match a ρ O with
 | .nx ρ' O'=>b ρ' O'
 |r=>r
theorem bK:VSs X md P R [] aW:=Qs.imp λD σ H q=>by
 obtain⟨ρ,O,F,c,r,s,k⟩:=q;exact k σ H F c GrS.refl r s
theorem jr{K:Frag}{mg:Str->Option Value}{D:Ends}{H F t u:Hp}{as q:List Addr}(g:GrS P H F as t u q){f:Fl}(k:jC K mg md P R D H F as f):jC K mg md P R D t u q f:=by
 cases f with
 |nx n r=>exact λc l m h j=>k c l m h (g.trans j)
 |bk n r=>exact λc l m h j=>k c l m h (g.trans j)
 |ct n r=>exact λc l m h j=>k c l m h (g.trans j)
 |rt d r=>exact λc l m h j=>k c l m h (g.trans j)
 |ex _ _=>exact k
 |no=>exact k
theorem aF{st:Stmt}{rest:List Stmt}{a b:MS}(h1:VS X md P R st a)(h2:VSs X md P R rest b):VSs X md P R (st::rest) (aA a b):=(Qt h1 h2).imp λD σ H q=>by
 obtain⟨ρ,O,F,n,r,s,k⟩:=q;refine⟨ρ,O,F,n,r,s,?_⟩;unfold aA at k
 cases e:a ρ O with
 |nx c h =>
  rw[e] at k;dsimp only at k
  exact λu y t j g m l=>⟨c,h,t,j,m,l,jr g k⟩
 |bk c h=>rw[e] at k;exact k
 |ct c h=>rw[e] at k;exact k
 |rt d h=>rw[e] at k;exact k
 |ex x h=>rw[e] at k;exact k
 |no=>rw[e] at k;exact k
theorem aL{st:Stmt}{a:MS}(h1:VS X md P R st a):VSs X md P R [st] a:=Qu h1
def pK:MS:=λ_ _=>.no
theorem xY{st:Stmt}:VS X md P R st pK:=(QB (X:=X) (st:=st)).imp λD σ H q=>by
 obtain⟨ρ,O,F,c,r,s,k⟩:=q;exact False.elim k
def nY(m:M D):MS:=λρ O=>match m ρ O with
 | .ok _ O'=>.nx ρ O'
 | .ex x O'=>.ex x O'
 | .no=>.no
theorem uM{e:Expr}{c:Pos}{m:M D}(h:SE X md P e m)(hs:swapsWith e none c.line X.env=pure false:=by rfl):VS X md P R (.Expr e c) (nY m):=(uB h hs).imp λD σ H q=>by
 obtain⟨ρ,O,F,j,r,s,k⟩:=q;unfold nY at k
 cases e:m ρ O with
 |ok d l =>
  rw[e] at k;exact⟨ρ,_,F,j,_,_,r,s,e,λv H' F' as' g r' _=>k σ H' F' as' g.toS r' (s.step g)⟩
 |ex x l=>rw[e] at k;exact False.elim k
 |no=>rw[e] at k;exact False.elim k
def aM(m:M D):MS:=λρ O=>match m ρ O with
 | .ok d O'=>.rt d O'
 | .ex x O'=>.ex x O'
 | .no=>.no
theorem Iw(u:iY R){e:Expr}{c:Pos}{m:M D}(h:PE X e (tM X.K X.mg md P R m)):VS X md P R (.Return (some e) c) (aM m):=(Ha h).imp λD σ H q=>by
 obtain⟨ρ,O,F,y,r,s,k⟩:=q;unfold aM at k
 cases e:m ρ O with
 |ok d B =>
  rw[e] at k;exact⟨ρ,_,F,y,_,_,r,s,e,λv C E j g l n=>k v C E j g.toS l (u _ _ _ _ _ _ _ (λa t p=>s.pd a p t) n)⟩
 |ex x B=>rw[e] at k;exact False.elim k
 |no=>rw[e] at k;exact False.elim k
theorem bD{e:Expr}{c:Pos}{m:M D}(h:VE X md P e m):VS X md P (rV X.K) (.Return (some e) c) (aM m):=Iw dh h
theorem nZ{e:Expr}{c:Pos}{m:M D}(h:OE X md P e m):VS X md P (rO X.K) (.Return (some e) c) (aM m):=Iw fc h
theorem lM(i:Nat){x:Str}{p h:Pos}(n:md[i]?=some .o:=by rfl)(t:X.N[i]?=some x:=by rfl)(m:Vis X.env.scope x:=by first | exact Or.inl rfl | exact Or.inr (Or.inl rfl) | exact Or.inr (Or.inr rfl))
  (hd:(x == ("__debug__":Str))=false:=by decide) (j:(x == ("__classdict__":Str))=false:=by decide):VS X md P (rO X.K) (.Return (some (.Name x p)) h) (aM (aa i)):=(Ha (nM (i:=i) t m hd j)).imp λD σ H q=>by
 obtain⟨ρ,O,F,J,r,s,k⟩:=q;unfold aM at k
 cases e:aa i ρ O with
 |ok d L =>
  rw[e] at k;obtain⟨c,rfl⟩:=uJ e;obtain⟨v,h1,h2⟩:=s.sl i .o d n c;refine⟨v,h1,k v H F J GrS.refl r ?_⟩
  rcases h2 with h2 | ⟨a,l,I,c,E,C,G,B,y,u⟩
  ·exact .inl h2
  ·exact .inr ⟨a,l,I,c,E,C,G,B,y,u⟩
 |ex x L=>rw[e] at k;exact False.elim k
 |no=>rw[e] at k;exact False.elim k
def aQ(t:M Bool)(a b:MS):MS:=λρ O=>match t ρ O with
 | .ok c O'=>if c=true then a ρ O' else b ρ O'
 | .ex x O'=>.ex x O'
 | .no=>.no
theorem bH{c:Expr}{a b:List Stmt}{j:Pos}{t:M Bool}{ma m:MS}(u:TsE X md P c t)(y:VSs X md P R a ma)(hb:VSs X md P R b m):VS X md P R (.If c a b j) (aQ t ma m):=(Qy u y hb).imp λD σ H q=>by
 obtain⟨ρ,O,F,B,r,s,k⟩:=q;unfold aQ at k
 cases e:t ρ O with
 |ok c h =>
  rw[e] at k;refine⟨ρ,_,F,B,_,_,r,s,e,λC n d g l=>?_⟩;dsimp only at k
  cases c with
  |true =>
   rw[if_pos rfl] at k ⊢;exact⟨ρ,h,n,d,l,s.step g,jr g.toS k⟩
  |false =>
   rw[if_neg zm] at k ⊢;exact⟨ρ,h,n,d,l,s.step g,jr g.toS k⟩
 |ex x h=>rw[e] at k;exact False.elim k
 |no=>rw[e] at k;exact False.elim k
def aO(i:Nat)(m:M D):MS:=λρ O=>match m ρ O with
 | .ok d O'=>.nx (ρ.set i (some d)) O'
 | .ex x O'=>.ex x O'
 | .no=>.no
theorem Iz{K:Frag}{mg:Str->Option Value}{i:Nat}{m:M D}{t:TE}(n:md[i]?=some .v)(l:∀σ H Q,tM K mg md P (rV K) m σ H Q->t σ H Q){D:Ends}{σ:St}{H:Hp}(q:tMS K mg md P R (aO i m) D σ H):qY t (qX i) D σ H:=by
 obtain⟨ρ,O,F,u,r,s,k⟩:=q;unfold aO at k
 cases e:m ρ O with
 |ok d y =>
  rw[e] at k;exact l _ _ _ ⟨ρ,_,F,u,_,_,r,s,e,λv B C c g h j=>k _ B C c g.toS h ((s.step g).setV n j)⟩
 |ex x y=>rw[e] at k;exact False.elim k
 |no=>rw[e] at k;exact False.elim k
theorem UJ{K:Frag}{mg:Str->Option Value}{i:Nat}{m:M D}{t:TE}(n:md[i]?=some .o)(l:∀σ H Q,tM K mg md P (rO K) m σ H Q->t σ H Q){D:Ends}{σ:St}{H:Hp}(q:tMS K mg md P R (aO i m) D σ H):qY t (qX i) D σ H:=by
 obtain⟨ρ,O,F,u,r,s,k⟩:=q;unfold aO at k
 cases e:m ρ O with
 |ok d y =>
  rw[e] at k;exact l _ _ _ ⟨ρ,_,F,u,_,_,r,s,e,λv B C c g h j=>k _ B C c g.toS h (s.setO g n j)⟩
 |ex x y=>rw[e] at k;exact False.elim k
 |no=>rw[e] at k;exact False.elim k
theorem bZ{i:Nat}{x:Str}{e:Expr}{c pos':Pos}{m:M D}(r:X.N.Nodup)(hi:X.N[i]?=some x)(d:Loc X.env.scope x)(h:VE X md P e m)(l:md[i]?=some .v:=by rfl)(j:swapsWith e (some (.Name x pos')) c.line X.env=pure false:=by rfl)
  (n:X.fn x=true\/X.env.scope.names.lookup x=some .local:=by first | exact .inl rfl | exact .inr rfl | assumption):VS X md P R (.Assign [.Name x pos'] e c) (aO i m):=(Hb (i:=i) r hi d h j n).imp λD σ H q=>Iz l (λ_ _ _ z=>z) q
theorem gK{i:Nat}{x:Str}{e:Expr}{c pos':Pos}{m:M D}(r:X.N.Nodup)(hi:X.N[i]?=some x)(d:Loc X.env.scope x)(h:OE X md P e m)(l:md[i]?=some .o:=by rfl)(j:swapsWith e (some (.Name x pos')) c.line X.env=pure false:=by rfl)
  (n:X.fn x=true\/X.env.scope.names.lookup x=some .local:=by first | exact .inl rfl | exact .inr rfl | assumption):VS X md P R (.Assign [.Name x pos'] e c) (aO i m):=(Hb (i:=i) r hi d h j n).imp λD σ H q=>UJ l (λ_ _ _ z=>z) q
abbrev MG:=D->aB->Option aB
def tMG(K:Frag)(mg:Str->Option Value)(md:List Md)(P:Pt)(g:MG):TG:=λv σ H Q=>∃ρ O F j d h,RlO K mg O H F j/\SlO K md P ρ σ H F j/\Rp K F j v d/\g d ρ=some h/\∀c,SlO K md P h c H F j->Q c H
def UL(K:Frag)(mg:Str->Option Value)(md:List Md)(P:Pt)(g:List D->aB->Option aB):TGs:=λl σ H Q=>∃ρ O F h j d,RlO K mg O H F h/\SlO K md P ρ σ H F h/\Rps K F h l j/\g j ρ=some d/\∀c,SlO K md P d c H F h->Q c H
def VG(X:Cx)(md:List Md)(P:Pt)(c:Expr)(g:MG):Prop:=PG X c (tMG X.K X.mg md P g)
def VGs(X:Cx)(md:List Md)(P:Pt)(c:List Expr)(g:List D->aB->Option aB):Prop:=PGs X c (UL X.K X.mg md P g)
theorem PG.imp{e:Expr}{t t':TG}(h:PG X e t)(k:∀v σ H Q,t' v σ H Q->t v σ H Q):PG X e t':=λpins s σ H v u Q I r q=>h pins s σ H v u Q I r (k v σ H Q q)
theorem PGs.imp{e:List Expr}{t t':TGs}(h:PGs X e t)(k:∀v σ H Q,t' v σ H Q->t v σ H Q):PGs X e t':=λpins s σ H v u Q I r q=>h pins s σ H v u Q I r (k v σ H Q q)
def mgN(i:Nat):MG:=λd ρ=>some (ρ.set i (some d))
theorem cX{i:Nat}{x:Str}{c:Pos}(n:X.N.Nodup)(hi:X.N[i]?=some x)(h:Loc X.env.scope x)(l:md[i]?=some .v:=by rfl)(m:X.fn x=true\/X.env.scope.names.lookup x=some .local:=by first | exact .inl rfl | exact .inr rfl | assumption):VG X md P (.Name x c) (mgN i):=
 (QC (i:=i) n hi h m).imp λv σ H Q q=>by
  obtain⟨ρ,O,F,u,d,t,r,s,j,e,k⟩:=q;cases e;exact k _ (s.setV l j)
def dW:List D->aB->Option aB:=λc ρ=>match c with
 | []=>some ρ
 | _=>none
def bC(g:MG)(r:List D->aB->Option aB):List D->aB->Option aB:=λc ρ=>match c with
 |d::c=>(g d ρ).bind λh=>r c h
 | []=>none
theorem mU:VGs X md P [] dW:=QG.imp λv σ H Q q=>by
 obtain⟨ρ,O,F,j,d,h,r,s,c,e,k⟩:=q
 cases d with
 |nil=>cases e;exact⟨c.un0,k _ s⟩
 |cons _ _=>cases e
theorem f9{e:Expr}{es:List Expr}{g:MG}{r:List D->aB->Option aB}(h1:VG X md P e g)(h2:VGs X md P es r)(hs:(assignEach (e::es) X.env).map (·.2)=assign e X.env::(assignEach es X.env).map (·.2):=by rfl):VGs X md P (e::es) (bC g r):=
 (QH h1 h2 hs).imp λv σ H Q q=>by
  obtain⟨ρ,O,F,l,c,h,j,s,u,e,k⟩:=q
  cases c with
  |nil=>cases e
  |cons d c =>
   obtain⟨x,n,rfl,t,y⟩:=u.un;unfold bC at e;dsimp only at e
   cases e1:g d ρ with
   |none=>rw[e1] at e;cases e
   |some ρ1 =>
    rw[e1] at e;exact⟨x,n,rfl,ρ,O,F,l,d,ρ1,j,s,t,e1,λB m=>⟨ρ1,O,F,l,c,h,j,m,y,e,k⟩⟩
def dO(n:Nat)(r:List D->aB->Option aB):MG:=λd ρ=>match d with
 | .tup ds=>if ds.length=n then r ds ρ else none
 | _=>none
theorem mV{es:List Expr}{j:Pos}{k:Nat}{r:List D->aB->Option aB}(n:Nat)(B:X.calm=true)(h:VGs X md P es r)(x:(assignEach es X.env).length=n:=by rfl)(l:(assignEach es X.env).findIdx? (·.1)=none:=by rfl):VG X md P (.Tuple es k j) (dO n r):=
 (QK B h x l).imp λv σ H Q q=>by
  obtain⟨ρ,O,F,C,d,c,m,s,u,e,k⟩:=q
  cases d with
  |tup ds =>
   obtain⟨a,t,rfl,h1,h2⟩:=u.unT;unfold dO at e;dsimp only at e;split at e
   ·rename_i y;exact⟨a,t,rfl,Same.seqT m.fh h1,by rw[h2.length];exact y,ρ,O,F,C,ds,c,m,s,h2,e,k⟩
   ·cases e
  | _=>cases e
def rM(m:M D)(g:MG):MS:=λρ O=>match m ρ O with
 | .ok d O'=>match g d ρ with
  |some c=>.nx c O'
  |none=>.no
 | .ex x O'=>.ex x O'
 | .no=>.no
theorem UT{c e:Expr}{j:Pos}{m:M D}{g:MG}(h:VE X md P e m)(I:VG X md P c g)(hs:swapsWithSole [c] e j.line X.env=pure false:=by rfl)(E:swappedStores [c] e X.env=pure none:=by rfl)
  (h1:(assignEach [c] X.env).map (·.2)=[assign c X.env]:=by rfl):VS X md P R (.Assign [c] e j) (rM m g):=(QL h I hs E h1).imp λD σ H q=>by
 obtain⟨ρ,O,F,J,r,s,k⟩:=q;unfold rM at k
 cases e:m ρ O with
 |ok d y =>
  rw[e] at k;dsimp only at k
  cases e2:g d ρ with
  |none=>rw[e2] at k;exact False.elim k
  |some ρ' =>
   rw[e2] at k;refine⟨ρ,_,F,J,_,_,r,s,e,λv L B l u t G=>?_⟩;exact⟨ρ,y,B,l,d,ρ',t,s.step u,G,e2,λn C=>k n L B l u.toS t C⟩
 |ex x y=>rw[e] at k;exact False.elim k
 |no=>rw[e] at k;exact False.elim k
end
structure pM(K:Frag)(mg:Str->Option Value)(P:Pt)(J:It)(ds:List D)(H F:Hp)(as:List Addr):Prop where
 turn:∀(i:Nat) (d:D) (H2 F2:Hp) (as2:List Addr),GrS P H F as H2 F2 as2->(∃O,RlO K mg O H2 F2 as2)->ds[i]?=some d->J.go i H2/\∀x H3,J.yld i H2 x H3->∃F3,Gr H2 F2 as2 H3 F3 as2/\(∀O,RlO K mg O H2 F2 as2->RlO K mg O H3 F3 as2)/\Rp K F3 as2 x d
 stop:∀(H2 F2:Hp) (as2:List Addr),GrS P H F as H2 F2 as2->(∃O,RlO K mg O H2 F2 as2)->J.stop ds.length H2
structure IK(K:Frag)(mg:Str->Option Value)(J:It)(ds:List D)(H F:Hp)(as:List Addr):Prop where
 turn:∀(i:Nat) (d:D) (H2 F2:Hp) (as2:List Addr),Gr H F as H2 F2 as2->(∃O,RlO K mg O H2 F2 as2)->ds[i]?=some d->J.go i H2/\∀x H3,J.yld i H2 x H3->∃F3,Gr H2 F2 as2 H3 F3 as2/\(∀O,RlO K mg O H2 F2 as2->RlO K mg O H3 F3 as2)/\Rp K F3 as2 x d
 stop:∀(H2 F2:Hp) (as2:List Addr),Gr H F as H2 F2 as2->(∃O,RlO K mg O H2 F2 as2)->J.stop ds.length H2
theorem pM.e{K:Frag}{mg:Str->Option Value}{P:Pt}{J:It}{ds:List D}{H F:Hp}{as:List Addr}(h:pM K mg P J ds H F as):IK K mg J ds H F as:=⟨λi d j l c g=>h.turn i d j l c g.toS,λj l c g=>h.stop j l c g.toS⟩
def IV(K:Frag)(mg:Str->Option Value)(md:List Md)(P:Pt)(m:M (List D)):TI:=λσ H Q=>∃ρ O F h l n,RlO K mg O H F h/\SlO K md P ρ σ H F h/\m ρ O=.ok l n /\
 ∀J d j c,Gr H F h d j c->RlO K mg n d j c->IK K mg J l d j c->Q J d
def VIc(X:Cx)(md:List Md)(P:Pt)(c iter:Expr)(m:M (List D)):Prop:=PI X c iter (IV X.K X.mg md P m)
def tMI(K:Frag)(mg:Str->Option Value)(md:List Md)(P:Pt)(m:M (List D)):TI:=λσ H Q=>∃ρ O F h l n,RlO K mg O H F h/\SlO K md P ρ σ H F h/\m ρ O=.ok l n /\
 ∀J d j c,Gr H F h d j c->RlO K mg n d j c->pM K mg P J l d j c->Q J d
def VI(X:Cx)(md:List Md)(P:Pt)(c iter:Expr)(m:M (List D)):Prop:=PI X c iter (tMI X.K X.mg md P m)
section
variable {X:Cx}{md:List Md}{P:Pt}{R:RR}
theorem PI.imp{c e:Expr}{t t':TI}(h:PI X c e t)(k:∀σ H Q,t' σ H Q->t σ H Q):PI X c e t':=λpins s σ H Q I q=>h pins s σ H Q I (k σ H Q q)
theorem uN{d e:Expr}{m:M (List D)}(h:VI X md P d e m):VIc X md P d e m:=h.imp λσ H Q q=>by
 obtain⟨ρ,O,F,t,n,u,r,s,e,k⟩:=q;exact⟨ρ,O,F,t,n,u,r,s,e,λJ x y c g j l=>k J x y c g j l.e⟩
def cz(g:MG)(b:MS):List D->MS
 | [],ρ,O=>.nx ρ O
 |d::ds,ρ,O=>match g d ρ with
  |none=>.no
  |some c=>match b c O with
   | .nx ρ2 O2=>cz g b ds ρ2 O2
   | .ct ρ2 O2=>cz g b ds ρ2 O2
   | .bk ρ2 O2=>.nx ρ2 O2
   |r=>r
def eG(m:M (List D))(g:MG)(b:MS):MS:=λρ O=>match m ρ O with
 | .ok ds O'=>cz g b ds ρ O'
 | .ex x O'=>.ex x O'
 | .no=>.no
theorem UV{K:Frag}{mg:Str->Option Value}{m:M (List D)}{g:MG}{b:MS}{D:Ends}{σ:St}{H:Hp}(q:tMS K mg md P R (eG m g b) D σ H):xj (tMI K mg md P m) (tMG K mg md P g) (tMS K mg md P R b) D σ H:=by
 obtain⟨ρ,O,F,as,r,s,k⟩:=q;unfold eG at k
 cases e:m ρ O with
 |ex x C=>rw[e] at k;exact False.elim k
 |no=>rw[e] at k;exact False.elim k
 |ok ds O1 =>
  rw[e] at k;dsimp only at k;refine⟨ρ,_,F,as,_,_,r,s,e,λJ H1 F1 G g1 r1 hJ=>?_⟩;have k1:=jr (R:=R) g1.toS k;refine⟨λi m W L=>m=ds.length - i/\i<=ds.length/\∃B C Q h,GrS P H1 F1 G L Q h/\RlO K mg C L Q h/\SlO K md P B W L Q h/\jC K mg md P R D L Q h (cz g b (ds.drop i) B C),⟨ds.length,by simp,Nat.zero_le _,ρ,O1,F1,G,GrS.refl,r1,s.step g1,by rw[List.drop_zero];exact k1⟩,?_⟩;rintro i n W L ⟨rfl,hi,B,C,Q,h,g',r',s',k'⟩
  by_cases Y:i<ds.length
  ·have hd:=zD Y;obtain⟨go,yl⟩:=hJ.turn i _ L Q h g' ⟨C,r'⟩ hd;rw[List.drop_eq_getElem_cons Y] at k';refine .inr ⟨go,λl u=>∃j I t c,GrS P H1 F1 G u t c/\RlO K mg I u t c/\SlO K md P j l u t c/\jC K mg md P R D u t c (cz g b (ds.drop (i+1)) j I),λl u h2=>⟨ds.length - (i+1),by omega,rfl,Y,h2⟩,λx H3 y=>?_⟩;obtain⟨F3,Z,r3,hx⟩:=yl x H3 y;have r3':=r3 C r';unfold cz at k'
   cases eg:g ds[i] B with
   |none=>rw[eg] at k';exact False.elim k'
   |some ρ1 =>
    rw[eg] at k';dsimp only at k';refine⟨B,C,F3,h,ds[i],ρ1,r3',s'.step Z,hx,eg,λσ4 s4=>?_⟩;refine⟨ρ1,C,F3,h,r3',s4,?_⟩;have g4:GrS P H1 F1 G H3 F3 h:=g'.trans Z.toS
    have keep:=λ{f}=>jr (K:=K) (mg:=mg) (md:=md) (R:=R) (D:=D) (f:=f) (Z.toS (P:=P))
    cases eb:b ρ1 C with
    |nx j I =>
     rw[eb] at k'
     exact λl u t c E U T=>⟨j,I,t,c,g4.trans E,U,T,jr E (keep k')⟩
    |ct j I =>
     rw[eb] at k'
     exact λl u t c E U T=>⟨j,I,t,c,g4.trans E,U,T,jr E (keep k')⟩
    |bk j I =>
     rw[eb] at k'
     exact λl u t c E U T=>k' l u t c (Z.toS.trans E) U T
    |rt d I =>
     rw[eb] at k'
     exact λv u t c E U T=>k' v u t c (Z.toS.trans E) U T
    |ex _ _=>rw[eb] at k';exact False.elim k'
    |no=>rw[eb] at k';exact False.elim k'
  ·have hi':i=ds.length:=by omega
   subst hi';refine .inl ⟨hJ.stop L Q h g' ⟨C,r'⟩,?_⟩;rw[List.drop_length] at k';exact k' W L Q h GrS.refl r' s'
theorem jG{c iter:Expr}{body:List Stmt}{d:Pos}{m:M (List D)}{g:MG}{b:MS}(n:X.calm=true)(hi:VI X md P c iter m)(l:VG X md P c g)(hb:VSs X md P R body b)(j:PassesOwn (model X.prog X.w) X.A X.env X.xe:=by exact PassesOwn.never)
  (h:∀x,foldedSetIterable iter X.env x=pure x:=by intro _;rfl):VS X md P R (.For c iter body [] d) (eG m g b):=(Hf j n hi l hb h).imp λ_ _ _ q=>UV q
def lN(t:M Bool)(b:MS):Nat->MS
 | 0,_,_=>.no
 |n+1,ρ,O=>match t ρ O with
  | .ok true O1=>match b ρ O1 with
   | .nx ρ2 O2=>lN t b n ρ2 O2
   | .ct ρ2 O2=>lN t b n ρ2 O2
   | .bk ρ2 O2=>.nx ρ2 O2
   |r=>r
  | .ok false O1=>.nx ρ O1
  | .ex x O'=>.ex x O'
  | .no=>.no
def rN(n:Nat)(t:M Bool)(b:MS):MS:=lN t b n
theorem UW{K:Frag}{mg:Str->Option Value}{n:Nat}{t:M Bool}{b:MS}{D:Ends}{σ:St}{H:Hp}(q:tMS K mg md P R (rN n t b) D σ H):Hc (tMT K mg md P t) (tMS K mg md P R b) D σ H:=by
 refine⟨λn l J=>tMS K mg md P R (lN t b n) D l J,⟨n,q⟩,?_⟩;rintro m σ1 H1 ⟨ρ,O,F,as,r,s,k⟩
 cases m with
 |zero=>exact False.elim k
 |succ m =>
  unfold lN at k
  cases e:t ρ O with
  |ex x W=>rw[e] at k;exact False.elim k
  |no=>rw[e] at k;exact False.elim k
  |ok c O1 =>
   rw[e] at k;refine⟨ρ,_,F,as,_,_,r,s,e,λU Q I E L=>?_⟩
   cases c with
   |false =>
    rw[if_neg zm];exact k σ1 U Q I E.toS L (s.step E)
   |true =>
    rw[if_pos rfl];refine⟨λl J=>tMS K mg md P R (lN t b m) D l J,λl J T=>⟨m,jg m,T⟩,ρ,O1,Q,I,L,s.step E,?_⟩;dsimp only at k
    have keep:=λ{f}=>jr (K:=K) (mg:=mg) (md:=md) (R:=R) (D:=D) (f:=f) (E.toS (P:=P))
    cases eb:b ρ O1 with
    |nx ρ2 O2 =>
     rw[eb] at k
     exact λj G C h B y u=>⟨ρ2,O2,C,h,y,u,jr B (keep k)⟩
    |ct ρ2 O2 =>
     rw[eb] at k
     exact λj G C h B y u=>⟨ρ2,O2,C,h,y,u,jr B (keep k)⟩
    |bk ρ2 O2 =>
     rw[eb] at k
     exact λj G C h B y u=>k j G C h (E.toS.trans B) y u
    |rt d O2 =>
     rw[eb] at k
     exact λj G C h B y u=>k j G C h (E.toS.trans B) y u
    |ex _ _=>rw[eb] at k;exact False.elim k
    |no=>rw[eb] at k;exact False.elim k
theorem U0(n:Nat){c:Expr}{body:List Stmt}{d:Pos}{t:M Bool}{b:MS}(j:TsE X md P c t)(hb:VSs X md P R body b)(h:PassesOwn (model X.prog X.w) X.A X.env X.xe:=by exact PassesOwn.never):VS X md P R (.While c body [] d) (rN n t b):=
 (QM h j hb).imp λ_ _ _ q=>UW q
def fB(g:MG)(t:M Bool)(m:M D):List D->aB->aq->List D->Res (List D)
 | [],ρ,O,acc=>.ok acc O
 |d::ds,ρ,O,acc=>match g d ρ with
  |none=>.no
  |some c=>match t c O with
   | .ok true O1=>match m c O1 with
    | .ok y O2=>fB g t m ds c O2 (acc++[y])
    | .ex x O'=>.ex x O'
    | .no=>.no
   | .ok false O1=>fB g t m ds c O1 acc
   | .ex x O'=>.ex x O'
   | .no=>.no
def mW(own:Nat)(cap:List Nat)(ρ:aB):aB:=List.replicate own none++cap.map λj=>(ρ[j]?).join
def ig(m:M (List D))(own:Nat)(cap:List Nat)(g:MG)(t:M Bool)(e:M D):M D:=λρ O=>(m ρ O).bind λc j=>if c.length<=1000000 then(fB g t e c (mW own cap ρ) j []).bind λd h=>.ok (.lst d) h else .no
def il:M Bool:=λ_ O=>.ok true O
def cMd(own:Nat)(cap:List Nat)(md:List Md):List Md:=List.replicate own .v++cap.map λj=>match md[j]? with
 |some .v=>.v
 | _=>.s
theorem U3{K:Frag}{ρ:aB}{σ:St}{H F:Hp}{as:List Addr}{own:List Str}{cap:List Nat}(s:SlO K md P ρ σ H F as)(B:∀j∈cap,j<md.length):SlO K (cMd own.length cap md) (Pt.all H) (mW own.length cap ρ) (compSt own cap σ) H F as:=by
 refine⟨by simp[compSt,cMd],by simp[mW,cMd],λa h=>h,λi m d l c=>?_,λi j a t G h1=>?_,λ_ z=>nomatch z⟩
 ·unfold mW at c;unfold cMd at l;unfold compSt
  by_cases n:i<own.length
  ·rw[zC (by simpa using n),List.getElem?_replicate_of_lt n] at c;cases c
  ·have hi':own.length<=i:=Nat.le_of_not_lt n;rw[zv (by simpa using hi'),List.length_replicate,zG] at c l;rw[zv (by simpa using hi'),ze,zG]
   cases q:cap[i - own.length]? with
   |none=>rw[q] at c;cases c
   |some j =>
    rw[q] at l c;simp only[Option.map_some,Option.some.injEq] at l c ⊢
    cases q2:ρ[j]? with
    |none=>rw[q2] at c;cases c
    |some o =>
     rw[q2] at c;have e2':o=some d:=c;subst e2';obtain⟨C,v,h1,h2,h3⟩:=s.get q2;rw[h1] at l;refine⟨v,by rw[h2];rfl,?_⟩
     cases C with
     |v=>dsimp only at l;subst l;exact h3
     |s =>
      dsimp only at l;subst l
      rcases h3 with h3 | ⟨a,u,t,l,c,r,y,E,x⟩
      ·exact .inl h3
      ·exact .inr ⟨a,u,t,l,c,r,y,(show H a≠none by rw[r];exact λz=>nomatch z),x⟩
     |o =>
      dsimp only at l;subst l
      rcases h3 with⟨_,h3⟩ | ⟨a,u,t,l,c,r,I,y,E,x⟩
      ·exact .inl h3
      ·exact .inr ⟨a,u,t,l,c,r,y,(show H a≠none by rw[r];exact λz=>nomatch z),x⟩
 ·exfalso
  unfold cMd at h1
  by_cases n:i<own.length
  ·rw[zC (by simpa using n),List.getElem?_replicate_of_lt n] at h1;cases h1
  ·have hi':own.length<=i:=Nat.le_of_not_lt n;rw[zv (by simpa using hi'),List.length_replicate,zG] at h1
   cases q:cap[i - own.length]? with
   |none=>rw[q] at h1;cases h1
   |some j =>
    rw[q] at h1;simp only[Option.map_some,Option.some.injEq] at h1
    split at h1<;>cases h1
end
section
variable {X:Cx}{md:List Md}{P:Pt}{R:RR}
def xM(K:Frag)(mg:Str->Option Value)(md:List Md)(R:RR)(m:M D):TE:=λσ H Q=>∃P,tM K mg md P R m σ H Q
def xMT(K:Frag)(mg:Str->Option Value)(md:List Md)(m:M Bool):TT:=λσ H Q=>∃P,tMT K mg md P m σ H Q
def xMG(K:Frag)(mg:Str->Option Value)(md:List Md)(g:MG):TG:=λv σ H Q=>∃P,tMG K mg md P g v σ H Q
theorem xm{e:Expr}{m:M D}(h:∀P,PE X e (tM X.K X.mg md P R m)):PE X e (xM X.K X.mg md R m):=λpins s σ H Q I ⟨P,q⟩=>h P pins s σ H Q I q
theorem xmg{e:Expr}{g:MG}(h:∀P,VG X md P e g):PG X e (xMG X.K X.mg md g):=λpins s σ H v u Q I r ⟨P,q⟩=>h P pins s σ H v u Q I r q
theorem xmt{e:List Expr}{m:M Bool}(h:∀P,nU X e (tMT X.K X.mg md P m)):nU X e (xMT X.K X.mg md m):=λpins s σ H Q I ⟨P,q⟩=>h P pins s σ H Q I q
def VIf(X:Cx)(md:List Md)(P:Pt)(e:List Expr)(m:M Bool):Prop:=nU X e (tMT X.K X.mg md P m)
theorem rP:VIf X md P [] il:=λpins s σ H Q I q=>by
 obtain⟨ρ,O,F,c,d,h,r,s,e,k⟩:=q;cases e;exact Tv pins _ σ H Q I (k H F c Gr.refl r)
theorem IW{K:Frag}{mg:Str->Option Value}{m:M (List D)}{own:List Str}{cap:List Nat}{g:MG}{t:M Bool}{e:M D}(hcap:∀j∈cap,j<md.length){σ:St}{H:Hp}{Q:VK}(q:tM K mg md P (rO K) (ig m own.length cap g t e) σ H Q):
  xR (IV K mg md P m) own cap (xMG K mg (cMd own.length cap md) g) (xMT K mg (cMd own.length cap md) t) (xM K mg (cMd own.length cap md) (rV K) e) σ H Q:=by
 obtain⟨ρ,O,F,as,d,OZ,r,s,eq,k⟩:=q;obtain⟨C,O1,e1,eq⟩:=Res.bind_ok eq;split at eq
 ·rename_i hz;obtain⟨yf,O2,e2,eq⟩:=Res.bind_ok eq;cases eq;refine⟨ρ,_,F,as,_,_,r,s,e1,λJ H1 F1 U g1 r1 hJ=>?_⟩;have sb:=U3 (own:=own) (s.step g1) hcap
  refine⟨λi n Z σ' Y=>n=C.length - i/\i<=C.length/\∃u I E h l,Gr H1 F1 U Y E h/\RlO K mg I Y E h/\SlO K (cMd own.length cap md) (Pt.all H1) u σ' Y E h/\Rps K E h Z l/\l.length<=i /\
   fB g t e (C.drop i) u I l=.ok yf OZ,⟨C.length,by simp,Nat.zero_le _,mW own.length cap ρ,O1,F1,U,[],Gr.refl,r1,sb,Rps.nil,zc _,by rw[List.drop_zero];exact e2⟩,?_⟩
  rintro i n Z σ' Y ⟨rfl,hi,u,I,E,h,l,g',r',s',hy,hl,ec⟩
  by_cases T:i<C.length
  ·obtain⟨go,yl⟩:=hJ.turn i _ Y E h g' ⟨I,r'⟩ (zD T)
   refine .inr ⟨go,?_,λZ σ2 H2=>∃ρ2 O3 F2 G B,Gr H1 F1 U H2 F2 G/\RlO K mg O3 H2 F2 G/\SlO K (cMd own.length cap md) (Pt.all H1) ρ2 σ2 H2 F2 G/\Rps K F2 G Z B/\B.length<=i+1 /\
    fB g t e (C.drop (i+1)) ρ2 O3 B=.ok yf OZ,λys2 σ2 H2 h2=>⟨C.length - (i+1),by omega,rfl,T,h2⟩,λx H3 y=>?_⟩
   ·rw[hy.length]
    have:=jD hz
    omega
   obtain⟨F3,g3,r3,hx⟩:=yl x H3 y;have r3':=r3 I r';have g13:=g'.trans g3;rw[List.drop_eq_getElem_cons T] at ec;unfold fB at ec
   cases eg:g C[i] u with
   |none=>rw[eg] at ec;cases ec
   |some ρ1 =>
    rw[eg] at ec;dsimp only at ec;refine⟨_,u,I,F3,h,C[i],ρ1,r3',s'.step g3,hx,eg,λσ4 s4=>?_⟩
    cases et:t ρ1 I with
    |ex _ _=>rw[et] at ec;cases ec
    |no=>rw[et] at ec;cases ec
    |ok c O4 =>
     rw[et] at ec;refine⟨_,ρ1,I,F3,h,c,O4,r3',s4,et,λH5 F5 as5 L r5=>?_⟩
     cases c with
     |false =>
      rw[if_neg zm];exact⟨ρ1,O4,F5,as5,l,g13.trans L,r5,s4.step L,(hy.gr g3).gr L,by omega,ec⟩
     |true =>
      rw[if_pos rfl];dsimp only at ec
      cases em:e ρ1 O4 with
      |ex _ _=>rw[em] at ec;cases ec
      |no=>rw[em] at ec;cases ec
      |ok yd O6 =>
       rw[em] at ec;refine⟨_,ρ1,O4,F5,as5,yd,O6,r5,s4.step L,em,λvy H7 F7 as7 g7 r7 hvy=>?_⟩;exact⟨ρ1,O6,F7,as7,l++[yd],(g13.trans L).trans g7,r7,(s4.step L).step g7,(((hy.gr g3).gr L).gr g7).snoc hvy,by rw[zd];show l.length+1<=i+1;omega,ec⟩
  ·have hi':i=C.length:=by omega
   subst hi';rw[List.drop_length] at ec;cases ec;refine .inl ⟨hJ.stop Y E h g' ⟨_,r'⟩,?_,λp W=>?_⟩
   ·rw[hy.length];exact zK hl (jD hz)
   ·have hF:E p=none:=by
     cases q:E p with
     |none=>rfl
     |some o=>rw[r'.fh p o q] at W;cases W
    exact k _ _ E h ((g1.trans g').trans (Gr.lay W)) (r'.lay W) (.inr ⟨p,Z,yf,rfl,rfl,dG,hF,λz=>r'.all z W,(g1.trans g').dm p W,hy⟩)
 ·cases eq
variable {tg iter elt:Expr}{ifs:List Expr}{scope:Scope}{pos:Pos}{mi:M (List D)}{g:MG}{t:M Bool}{e:M D}
theorem xZ(c:Scope)(d own:List Str)(cap:List Nat)(B:X.calm=true)(hi:VIc X md P tg iter mi)
  (u:∀C s H ex P,VG (dg X scope C (cH d own cap) s H ex) (cMd own.length cap md) P tg g) (n:∀C s H ex P,VIf (dg X scope C (cH d own cap) s H ex) (cMd own.length cap md) P ifs t)
  (y:∀C s H ex P,VE (dg X scope C (cH d own cap) s H ex) (cMd own.length cap md) P elt e)
  (h:∀j∈cap,j<md.length:=by decide) (l:X.env.scope=c:=by rfl) (m:X.N=d:=by rfl) (ok:pF c d scope own cap=true:=by decide +kernel) (r:∀x,foldedSetIterable iter X.env x=pure x:=by intro _;rfl):
  OE X md P (.ListComp elt [⟨tg,iter,ifs,0⟩] scope pos) (ig mi own.length cap g t e):=
 (TQ c d own cap B hi (λC s H ex=>xmg (u C s H ex)) (λC s H ex=>xmt (n C s H ex)) (λC s H ex=>xm (y C s H ex)) l m ok r).imp λ_ _ _ q=>IW h q
theorem Ja{i:Nat}{x:Str}{pos' c:Pos}(h:Scope)(l own:List Str)(cap:List Nat)(hN:X.N.Nodup)(W:X.N[i]?=some x)(hl:Loc X.env.scope x)(hc:X.calm=true)(hi:VIc X md P tg iter mi)
  (hg:∀C s H ex P,VG (dg X scope C (cH l own cap) s H ex) (cMd own.length cap md) P tg g) (Y:∀C s H ex P,VIf (dg X scope C (cH l own cap) s H ex) (cMd own.length cap md) P ifs t)
  (he:∀C s H ex P,VE (dg X scope C (cH l own cap) s H ex) (cMd own.length cap md) P elt e)
  (hm:md[i]?=some .v:=by rfl) (n:∀j∈cap,j<md.length:=by decide) (G:swapsWith (.ListComp elt [⟨tg,iter,ifs,0⟩] scope pos) (some (.Name x pos')) c.line X.env=pure true:=by rfl)
  (hf:X.fn x=true\/X.env.scope.names.lookup x=some .local:=by first | exact .inl rfl | exact .inr rfl | assumption)
  (I:X.env.scope=h:=by rfl) (J:X.N=l:=by rfl) (ok:pF h l scope own cap=true:=by decide +kernel) (Z:∀x,foldedSetIterable iter X.env x=pure x:=by intro _;rfl):
  VS X md P R (.Assign [.Name x pos'] (.ListComp elt [⟨tg,iter,ifs,0⟩] scope pos) c) (aO i (ig mi own.length cap g t e)):=
 (TV (i:=i) h l own cap hN W hl hc hi (λC s H ex=>xmg (hg C s H ex)) (λC s H ex=>xmt (Y C s H ex)) (λC s H ex=>xm (he C s H ex)) G hf I J ok Z).imp λD σ H q =>
  Iz hm (λσ H Q z=>IW n (by
   obtain⟨ρ,O,F,as,d,O',r,s,e,k⟩:=z;refine⟨ρ,_,F,as,_,_,r,s,e,λv U y m g T B=>?_⟩
   rcases B with⟨_,B⟩ | ⟨a,L,ds,rfl,rfl,e3,E,e5,e6,e7⟩
   ·exact k v U y m g T B
   ·have ff:Same y (upd y a (.lst L)):=λb u q=>by rw[bj (dC q E)];exact q
    exact k _ U (upd y a (.lst L)) m (g.frz e6 E) (T.frz e3 E e5 rfl) (Rp.mkL (.inl (.inl dG)) (Rps.mono ff (λ_ _ z=>z) _ e7)))) q
end
def vSp(K:Frag)(mg:Str->Option Value)(pm:List Md)(R:RR)(c:List D->aq->Res D):Sp:=λvs H Q _ =>
 ∃n O F l d q,RlO K mg O H F l/\fj K H F l pm vs n/\c n O=.ok d q/\∀v j m h,Gr H F l j m h->RlO K mg q j m h->R (λa=>H a=none) j m h v d->Q v j
def bV(n:Nat)(b:MS):List D->aq->Res D:=λc O=>match b (c.map some++List.replicate (n - c.length) none) O with
 | .rt d O'=>.ok d O'
 | .nx _ O'=>.ok .non O'
 | .ex x O'=>.ex x O'
 | _=>.no
theorem fj.len{K:Frag}{H F:Hp}{as:List Addr}:∀{ms:List Md}{vs:List V}{ds:List D},fj K H F as ms vs ds->vs.length=ms.length/\ds.length=ms.length
 | [],[],[],_=>⟨rfl,rfl⟩
 |m::ms,v::vs,d::ds,h=>by
  have:=fj.len h.2
  simp[this.1,this.2]
 | [],[],_::_,h=>h.elim
 | [],_::_,[],h=>h.elim
 | [],_::_,_::_,h=>h.elim
 | _::_,[],[],h=>h.elim
 | _::_,[],_::_,h=>h.elim
 | _::_,_::_,[],h=>h.elim
theorem fj.get{K:Frag}{H F:Hp}{as:List Addr}:∀{ms:List Md}{vs:List V}{ds:List D}{i:Nat}{m:Md}{d:D},fj K H F as ms vs ds->ms[i]?=some m->ds[i]?=some d->∃v,vs[i]?=some v/\rA K m (λ_=>True) H F as v d
 |m::ms,v::vs,d::ds,0,m',d',h,e1,e2=>by
  simp at e1 e2
  subst e1 e2;exact⟨v,rfl,h.1⟩
 |m::ms,v::vs,d::ds,i+1,m',d',h,e1,e2=>by
  obtain⟨c,h1,h2⟩:=fj.get (i:=i) (m:=m') (d:=d') h.2 (by simpa using e1) (by simpa using e2);exact⟨c,by simpa using h1,h2⟩
 | [],[],[],_,_,_,_,e1,_=>by simp at e1
 | [],[],_::_,_,_,_,h,_,_=>h.elim
 | [],_::_,[],_,_,_,h,_,_=>h.elim
 | [],_::_,_::_,_,_,_,h,_,_=>h.elim
 | _::_,[],[],_,_,_,h,_,_=>h.elim
 | _::_,[],_::_,_,_,_,h,_,_=>h.elim
 | _::_,_::_,[],_,_,_,h,_,_=>h.elim
theorem Jb{K:Frag}{H F:Hp}{as:List Addr}{N:List Str}{pm t:List Md}{vs:List V}{ds:List D}(h:fj K H F as pm vs ds)(I:(pm++t).length=N.length)(u:∀m∈pm,m≠.o):
  SlO K (pm++t) (Pt.all H) (ds.map some++List.replicate (N.length - ds.length) none) (start N vs) H F as:=by
 obtain⟨h1,h2⟩:=h.len;rw[zd] at I
 have L:vs.length<=N.length:=by omega
 have no:∀i a,(ds.map some++List.replicate (N.length - ds.length) none)[i]?=some (some a)->i<ds.length:=λi a e=>by
  by_cases n:i<ds.length
  ·exact n
  ·rw[zv (by simpa using n),List.getElem?_replicate] at e
   split at e<;>cases e
 refine⟨by unfold start;simp;omega,by simp;omega,λa z=>z,λi m d l c=>?_,λi j a x fs l c J=>?_,λ_ z=>nomatch z⟩
 ·have n:=no i d c;rw[zC (by simpa using n),zG] at c;rw[zC (by omega)] at l
  cases q:ds[i]? with
  |none=>rw[q] at c;cases c
  |some d' =>
   rw[q] at c;cases c;obtain⟨v,h3,h4⟩:=h.get l q;refine⟨v,?_,?_⟩
   ·unfold start;rw[zC (by simp;omega),zG,h3];rfl
   ·cases m with
    |v=>exact h4
    |s =>
     rcases h4 with h4 | ⟨a,G,x,E,C,r,B,y⟩
     ·exact .inl h4
     ·exact .inr ⟨a,G,x,E,C,r,B,(show H a≠none by rw[r];exact λz=>nomatch z),y⟩
    |o=>exact absurd rfl (u .o (zS l))
 ·have n:=no i _ J;rw[zC (by omega)] at l;exact absurd rfl (u .o (zS l))
section
variable {Pr:Program}{w:World}{K:Frag}{mg:Str->Option Value}{base:Heap}
theorem dI{x:Str}{st:Stmt}{N ps:List Str}{k:Nat}(Df:Def K mg x st)(S:bU N ps (aZ st))
  (hb:∀(kV G pm:Value) (an:Option Addr) (j ct:Value) (us:List Value),us.length=ps.length->bindArgs (PySem.W.fnOf x x (jB st) (gq st) (aZ st) .none kV G pm an j ct) ⟨us,[]⟩=pure (ps.zip us))
  (pm I:List Md) {R:RR}{b:MS} (Z:iY R) (C:∀N H F as,R N H F as .non .non) (B:pm.length=ps.length:=by rfl) (X:(pm++I).length=N.length:=by rfl) (U:∀m∈pm,m≠.o:=by decide)
  (body:∀(f:Addr) (j:Value) (A:Around) (outer:List Env) (s:Shared) (H:Hp) (E:XK),bJ k (A.deeper (envOfC x (aZ st) s.heap.objs.size f j))->∀P,VSs ((jO CX0 Pr w K mg base N x (aZ st) f j A outer s H E).nox) (pm++I) P R (gq st) b):
  Can Pr w K mg base x ps (k+1) (vSp K mg pm R (bV N.length b)):=by
 refine Df.can (k:=k) S hb (λJ H Q E h=>?_) (λf j A outer s H J Q E T h=>?_)
 ·obtain⟨t,O,F,as,d,O',r,a,_⟩:=h;rw[a.len.1,B]
 ·obtain⟨t,O,F,as,d,O',r,a,e,q⟩:=h;refine⟨_,body f j A outer s H E T (Pt.all H),?_⟩;refine⟨_,O,F,as,r,Jb a X U,?_⟩;unfold bV at e
  cases eb:b (t.map some++List.replicate (N.length - t.length) none) O with
  |rt d' O2 =>
   rw[eb] at e;cases e
   exact λv u y l g n L=>q v u y l g.gr n (Z _ _ _ _ _ _ _ (λc Y=>Classical.not_not.mp Y) L)
  |nx ρ O2 =>
   rw[eb] at e;cases e
   exact λσ' u y l g n _=>q _ u y l g.gr n (C _ _ _ _)
  |bk _ _=>rw[eb] at e;cases e
  |ct _ _=>rw[eb] at e;cases e
  |ex _ _=>rw[eb] at e;cases e
  |no=>rw[eb] at e;cases e
end
section
variable {X:Cx}{md:List Md}{P:Pt}{R:RR}{k:Nat}{x:Str}{ps:List Str}{p pos:Pos}{e:Expr}{es:List Expr}{pm:List Md}{c:List D->aq->Res D}{ma:M (List D)}
def bz(c:List D->aq->Res D)(ma:M (List D)):M D:=λρ O=>(ma ρ O).bind λd h=>c d h
theorem Jc{K:Frag}{mg:Str->Option Value}(B:iY R){E:XK}{σ:St}{H:Hp}{Q:VK}(q:tM K mg md P R (bz c ma) σ H Q):rG (vSp K mg pm R c) [] E (tMA K mg md P pm ma) σ H Q:=by
 obtain⟨ρ,O,F,J,d,T,r,s,e,k⟩:=q;obtain⟨I,L,G,e⟩:=Res.bind_ok e;refine⟨ρ,_,F,J,_,_,r,s,G,λZ H1 W h l m u=>?_⟩;dsimp only;rw[zB];exact⟨I,L,W,h,d,T,m,u,e,λv U Y j C n t=>k v U Y j (l.trans C) n (B _ _ _ _ _ _ _ (λa y=>l.dm a y) t)⟩
theorem Jd(r:iY R)(C:Can X.prog X.w X.K X.mg X.base x ps k (vSp X.K X.mg pm R c))(j:bJ k X.A)(n:AE X md P pm (e::es) ma)(l:Gl X x:=by rfl)(h:(x == ("__debug__":Str))=false:=by decide)
  (m:starEach (e::es) X.env=(false,eval e X.env)::starEach es X.env:=by exact dH rfl) (d:(backTo pos (starEach es X.env)).any (·.1)=false:=by exact fY rfl):PE X (.Call (.Name x p) (e::es) [] pos) (tM X.K X.mg md P R (bz c ma)):=
 (TX C j n l h m d).imp λ_ _ _ q=>Jc r q
theorem U4(m:iY R)(C:Can X.prog X.w X.K X.mg X.base x ps k (vSp X.K X.mg [] R c))(j:bJ k X.A)(l:Gl X x:=by rfl)(h:(x == ("__debug__":Str))=false:=by decide):PE X (.Call (.Name x p) [] [] pos) (tM X.K X.mg md P R (bz c au)):=
 (TY C j l h).imp λσ H Q q=>by
  have:=Jc (pm:=[]) (E:=E0) m q
  obtain⟨ρ,O,F,t,d,u,r,s,n,k⟩:=this;cases n;exact k [] H F t Gr.refl r trivial
end
section
variable {K:Frag}{mg:Str->Option Value}{H F:Hp}{as:List Addr}{O:aq}{Q:VK}{d:D}{p:Addr}{xs:List V}{ds:List D}
theorem dJ{v:V}(r:RlO K mg O H F as)(k:∀j c h,Gr H F as c h as->RlO K mg O c h as->Ow K (λa=>H a=none) c h as j d->Q j c)(l:kY d=true)(hv:Rp K F as v d):Q v H:=k v H F Gr.refl r (.inl ⟨l,hv⟩)
theorem RlO.frF(r:RlO K mg O H F as)(c:H p=none):F p=none:=by
 cases q:F p with
 |none=>rfl
 |some o=>rw[r.fh p o q] at c;cases c
theorem pN(r:RlO K mg O H F as)(k:∀l h j,Gr H F as h j as->RlO K mg O h j as->Ow K (λa=>H a=none) h j as l (.lst ds)->Q l h)(c:H p=none)(hs:Rps K F as xs ds):Q (.ref p) (upd H p (.lst xs)):=
 k _ _ F (Gr.lay c) (r.lay c) (.inr ⟨p,xs,ds,rfl,rfl,dG,r.frF c,λz=>r.all z c,c,hs⟩)
theorem Je(r:RlO K mg O H F as)(k:∀m h l,Gr H F as h l as->RlO K mg O h l as->Ow K (λa=>H a=none) h l as m (.tup ds)->Q m h)(c:H p=none)(hs:Rps K F as xs ds):Q (.ref p) (upd H p (.tup xs)):=by
 have j:=r.frF c
 have ff:Same F (upd F p (.tup xs)):=λb u q=>by rw[bj (dC q j)];exact q
 exact k _ _ (upd F p (.tup xs)) ((Gr.lay c).frz c j) ((r.lay c).frz dG j (λz=>r.all z c) rfl) (.inl ⟨rfl,Rp.mkT (.inl dG) (Rps.mono ff (λ_ _ z=>z) _ hs)⟩)
end
section
variable {X:Cx}
def U5(K:Frag):R2:=λx y H Q=>∃l b d c,x=.ref l/\y=.ref b/\RdK K H l d/\RdK K H b c/\d.length+c.length<=sizeLine/\∀p,H p=none->Q (.ref p) (upd H p (.lst (d++c)))
theorem U6:OpR X (binaryOp .Add) (U5 X.K):=by
 intro pins s σ H x y v u Q I t m h;obtain⟨l,b,O,J,rfl,rfl,B,C,T,q⟩:=h;cases t;cases m;obtain⟨z,d,n,r,e⟩:=B.ok I;obtain⟨L,c,R,j,F⟩:=C.ok I;have U:=r.length;have G:=j.length;refine PySem.P.add_list e F ?_ (by rw[zA,zA];omega)
 have E:d.toArray++c.toArray=(d++c).toArray:=by simp
 rw[E];exact⟨.ref _,_,I.lnew (t':=s.toks) (r.append j) (by rw[zd];omega),rfl,q _ I.fresh⟩
def U7(K:Frag):R2:=λx y H Q=>∃l k c,x=.ref l/\y=.int k/\RdK K H l c/\-(2 ^ 63)<=k/\k<2 ^ 63/\c.length * k.toNat<=sizeLine /\
 ∀p,H p=none->Q (.ref p) (upd H p (.lst (List.replicate k.toNat c).flatten))
theorem U8:OpR X (binaryOp .Mult) (U7 X.K):=by
 intro pins s σ H x y v u Q I P O h;obtain⟨l,k,Z,rfl,rfl,W,h1,h2,J,q⟩:=h;cases P;obtain⟨t,rfl⟩:=O;obtain⟨z,c,n,r,e⟩:=W.ok I;have R:=r.length
 have hlen:c.toArray.size * k.toNat<=sizeLine:=by rw[zA,<-R];exact J
 have C:¬c.toArray.size * k.toNat>(2 ^ 63 - 1) / 8:=by
  have:(sizeLine:Nat)<=(2 ^ 63 - 1) / 8:=by decide
  omega
 have B:¬(!Builtin.List.listFitsIndex k)=true:=by
  rw[fitsIndex_both h1 h2];exact zm
 have d:¬Builtin.List.listTooLong (c.toArray.size * k.toNat)=true:=by
  rw[HS hlen];exact zm
 have j:List.foldl (λG E=>G++E) #[] (List.replicate (if c.toArray.isEmpty=true then 0 else k.toNat) c.toArray)=(List.replicate k.toNat c).flatten.toArray:=by
  have Y:∀m:Nat,List.foldl (λG E=>G++E) #[] (List.replicate m c.toArray)=(List.replicate m c).flatten.toArray:=λm=>by
   have:=foldl_rep c m []
   rw[zM] at this;exact this
  rw[Y]
  cases c with
  |nil=>simp
  |cons a r'=>rw[if_neg (by simp)]
 refine wpAny_binaryOp_repeat_ref (T:="list") (U:="int") (by decide) ⟨_,e,rfl⟩ (λL=>typeIs_int L k t) noFill_list_mul F.fills_int_mul F.slot_int_rmul repeat_list F.slot_int_index.lookup
  (call_meets F.slot_int_rmul (typeIs_int s k t) F.entry_int_rmul (F.args_int_rmul_2 _ _) (int___rmul___int_list k t l c.toArray n)
   ⟨e,rfl,⟨_,e,rfl⟩,call_meets F.slot_list_mul ⟨_,e,rfl⟩ F.entry_list_mul (F.args_list_mul_2 _ _) (AutoListH.list___mul___list_int_3 l c.toArray n k t B C d) ⟨e,?_⟩⟩)
 rw[j];exact⟨.ref _,_,I.lnew (t':=s.toks) (r.rep k.toNat) (by rw[len_rep,Nat.mul_comm];exact J),rfl,q _ I.fresh⟩
def aX:D->D->Option D
 | .int i,.int j=>some (.int (i+j))
 | .int i,.bl k=>some (.int (i+b2i k))
 | .str a,.str b=>if a.length+b.length<=1000000 then some (.str (a++b)) else none
 | .lst a,.lst b=>if a.length+b.length<=1000000 then some (.lst (a++b)) else none
 | .tup a,.tup b=>if a.length+b.length<=1000000/\a≠[] then some (.tup (a++b)) else none
 | _,_=>none
instance (a:List D):Decidable (a≠[]):=match a with
 | []=>isFalse λh=>h rfl
 | _::_=>isTrue λh=>nomatch h
theorem b7:OpD X (binaryOp .Add) aX:=by
 intro pins s σ H x y v u Q I m l h;obtain⟨O,F,T,R,C,d,r,t,n,e,k⟩:=h
 cases R with
 |int i =>
  cases(t.rp rfl).unI
  cases C with
  |int j =>
   cases(n.rp rfl).unI;cases e;exact Q8 pins s σ H _ _ v u Q I m l ⟨i,j,rfl,rfl,dJ r k rfl Rp.int⟩
  |bl j =>
   cases(n.rp rfl).unB;cases e;exact Rh pins s σ H _ _ v u Q I m l ⟨i,j,rfl,rfl,dJ r k rfl Rp.int⟩
  | _=>cases e
 |str a =>
  cases(t.rp rfl).unS
  cases C with
  |str b =>
   cases(n.rp rfl).unS;simp only[aX] at e;split at e
   ·rename_i c;cases e;refine Ru pins s σ H _ _ v u Q I m l ⟨S a,S b,rfl,rfl,by rw[gG,gG];exact jD c,?_⟩;rw[T4];exact dJ r k rfl Rp.str
   ·cases e
  | _=>cases e
 |lst a =>
  obtain⟨p,B,rfl,h1,h2⟩:=t.list r.fh
  cases C with
  |lst b =>
   obtain⟨G,E,rfl,h3,h4⟩:=n.list r.fh;simp only[aX] at e;split at e
   ·rename_i c;cases e;exact U6 pins s σ H _ _ v u Q I m l ⟨p,G,B,E,rfl,rfl,h1,h3,by rw[h2.length,h4.length];exact jD c,λq J=>pN r k J (Rps.append h4 h2)⟩
   ·cases e
  | _=>cases e
 |tup a =>
  obtain⟨p,B,rfl,h1,h2⟩:=(t.rp rfl).unT
  cases C with
  |tup b =>
   obtain⟨G,E,rfl,h3,h4⟩:=(n.rp rfl).unT;simp only[aX] at e;split at e
   ·rename_i c;cases e
    have L:B≠[]:=λz=>c.2 (List.eq_nil_of_length_eq_zero (by rw[<-h2.length,z];rfl))
    refine SQ pins s σ H _ _ v u Q I m l ⟨p,G,B,E,rfl,rfl,Same.seqT r.fh h1,Same.seqT r.fh h3,L,by rw[h2.length,h4.length];exact jD c.1,λz=>?_,λ_ q J=>Je r k J (Rps.append h4 h2)⟩;have P:b=[]:=List.eq_nil_of_length_eq_zero (by rw[<-h4.length,z];rfl);subst P;rw[zB] at k;exact dJ r k rfl (t.rp rfl)
   ·cases e
  | _=>cases e
 | _=>cases e
def gI(C:Int->Int->Bool)(f:Int->Int->Int):D->D->Option D
 | .int i,.int j=>if C i j=true then some (.int (f i j)) else none
 | _,_=>none
theorem yc{f:Value->Value->Sem Value}{c:Int->Int->Prop}{g:Int->Int->Int}{C:Int->Int->Bool}(h:OpR X f (rI c λi j=>.int (g i j)))(t:∀i j,C i j=true->c i j):OpD X f (gI C g):=by
 intro pins s σ H x y v u Q I m l E;obtain⟨O,F,L,J,G,d,r,q,n,e,k⟩:=E
 cases J with
 |int i =>
  cases(q.rp rfl).unI
  cases G with
  |int j =>
   cases(n.rp rfl).unI;simp only[gI] at e;split at e
   ·rename_i B;cases e;exact h pins s σ H _ _ v u Q I m l ⟨i,j,rfl,rfl,t i j B,dJ r k rfl Rp.int⟩
   ·cases e
  | _=>cases e
 | _=>cases e
def mX:D->D->Option D:=gI (λ_ _=>true) λi j=>i - j
theorem ye:OpD X (binaryOp .Sub) mX:=by
 intro pins s σ H x y v u Q I h c n;obtain⟨O,F,B,t,q,d,r,m,l,e,k⟩:=n
 cases t with
 |int i =>
  cases(m.rp rfl).unI
  cases q with
  |int j =>
   cases(l.rp rfl).unI;cases e;exact Q9 pins s σ H _ _ v u Q I h c ⟨i,j,rfl,rfl,dJ r k rfl Rp.int⟩
  | _=>cases e
 | _=>cases e
def pO(i:Int):Bool:=decide (-(2 ^ 64)<i)&&decide (i<2 ^ 64)
theorem yg{i:Int}(h:pO i=true):-(2 ^ 64)<i/\i<2 ^ 64:=by
 unfold pO at h;rw[zy,decide_eq_true_eq,decide_eq_true_eq] at h;exact h
def fH:D->D->Option D
 | .int i,.int j=>if(pO i || pO j)=true then some (.int (i * j)) else none
 | .str l,.int n=>if -1000000<n/\n<1000000/\l.length * n.toNat<=16777216 then some (.str (List.replicate n.toNat l).flatten) else none
 | .lst l,.int n=>if -1000000<n/\n<1000000/\l.length * n.toNat<=1000000 then some (.lst (List.replicate n.toNat l).flatten) else none
 | _,_=>none
theorem rQ:OpD X (binaryOp .Mult) fH:=by
 intro pins s σ H x y v u Q I t m h;obtain⟨O,F,P,L,E,d,r,C,B,e,k⟩:=h
 cases L with
 |int i =>
  cases(C.rp rfl).unI
  cases E with
  |int j =>
   cases(B.rp rfl).unI;simp only[fH] at e;split at e
   ·rename_i c;cases e;refine Ra pins s σ H _ _ v u Q I t m ⟨i,j,rfl,rfl,?_,dJ r k rfl Rp.int⟩;rw[Bool.or_eq_true] at c
    rcases c with z | z
    ·exact .inl (yg z)
    ·exact .inr (yg z)
   ·cases e
  | _=>cases e
 |str l =>
  cases(C.rp rfl).unS
  cases E with
  |int n =>
   cases(B.rp rfl).unI;simp only[fH] at e;split at e
   ·rename_i c;cases e;exact Uq pins s σ H _ _ v u Q I t m ⟨l,n,rfl,rfl,c.1,c.2.1,c.2.2,dJ r k rfl Rp.str⟩
   ·cases e
  | _=>cases e
 |lst l =>
  obtain⟨p,G,rfl,h1,h2⟩:=C.list r.fh
  cases E with
  |int n =>
   cases(B.rp rfl).unI;simp only[fH] at e;split at e
   ·rename_i c;cases e;exact U8 pins s σ H _ _ v u Q I t m ⟨p,n,G,rfl,rfl,h1,by omega,by omega,by rw[h2.length];exact jD c.2.2,λq J=>pN r k J (h2.rep _)⟩
   ·cases e
  | _=>cases e
 | _=>cases e
def dq:D->D->Option D:=gI (λ_ j=>decide (0<j)) λi j=>i % j
theorem ir:OpD X (binaryOp .Mod) dq:=yc Rc λ_ _ h=>je h
def jP:D->D->Option D:=gI (λ_ j=>decide (0<j)&&decide (j<1073741824)) λi j=>i / j
theorem yh:OpD X (binaryOp .FloorDiv) jP:=yc Rb λi j h=>by
 rw[zy,decide_eq_true_eq,decide_eq_true_eq] at h;exact h
def lg:D->D->Option D:=gI (λi j=>decide (0<=j)&&(decide (j<=1000000)&&pO i)) λi j=>i ^ j.toNat
theorem yj:OpD X (binaryOp .Pow) lg:=yc Rf λi j h=>by
 rw[zy,zy,decide_eq_true_eq,decide_eq_true_eq] at h
 have:=yg h.2.2
 exact⟨h.1,h.2.1,by omega⟩
def mUn(g:D->Option D)(m:M D):M D:=λρ O=>(m ρ O).bind λd c=>match g (bO c d) with
 |some y=>.ok y c
 |none=>.no
def fJ:D->Option D
 | .int i=>some (.int (-i))
 | _=>none
theorem rR{md:List Md}{P:Pt}{a:Expr}{c:Pos}{m:M D}(h:SE X md P a m):OE X md P (.UnaryOp .USub a c) (mUn fJ m):=(Q5 Rg h).imp λσ H Q q=>by
 obtain⟨ρ,O,F,y,d,G,r,s,e,k⟩:=q;obtain⟨x,B,u,e⟩:=Res.bind_ok e;refine⟨ρ,_,F,y,_,_,r,s,u,λv C E j t l n=>?_⟩
 cases ed:bO B x with
 |int i =>
  rw[ed] at e;cases e
  have:=Sv.lk n l
  rw[ed] at this;exact⟨i,(this.rp rfl).unI,k _ C E j t l (.inl ⟨rfl,Rp.int⟩)⟩
 | _=>rw[ed] at e;cases e
def gCI(f:Int->Int->Bool):D->D->Option D
 | .int i,.int j=>some (.bl (f i j))
 | _,_=>none
theorem Jf{f:Value->Value->Sem Value}{g:Int->Int->Bool}(h:OpR X f (rI0 λi j=>.bl (g i j))):OpD X f (gCI g):=by
 intro pins s σ H x y v u Q I l c q;obtain⟨O,F,C,B,t,d,r,n,m,e,k⟩:=q
 cases B with
 |int i =>
  cases(n.rp rfl).unI
  cases t with
  |int j =>
   cases(m.rp rfl).unI;cases e;exact h pins s σ H _ _ v u Q I l c ⟨i,j,rfl,rfl,dJ r k rfl Rp.bl⟩
  | _=>cases e
 | _=>cases e
def gLt:D->D->Option D:=gCI λi j=>decide (i<j)
def gGt:D->D->Option D:=gCI λi j=>decide (j<i)
def gGe:D->D->Option D:=gCI λi j=>decide (j<=i)
def gLe:D->D->Option D
 | .int i,.int j=>some (.bl (decide (i<=j)))
 | .str a,.str b=>some (.bl (!decide (b<a)))
 | _,_=>none
theorem uO:OpD X (compareOp .LtE) gLe:=by
 intro pins s σ H x y v u Q I h c q;obtain⟨O,F,B,t,n,d,r,m,l,e,k⟩:=q
 cases t with
 |int i =>
  cases(m.rp rfl).unI
  cases n with
  |int j =>
   cases(l.rp rfl).unI;cases e;exact Rj pins s σ H _ _ v u Q I h c ⟨i,j,rfl,rfl,dJ r k rfl Rp.bl⟩
  | _=>cases e
 |str a =>
  cases(m.rp rfl).unS
  cases n with
  |str b =>
   cases(l.rp rfl).unS;cases e;refine T6 pins s σ H _ _ v u Q I h c ⟨S a,S b,rfl,rfl,?_⟩;rw[mL,mL];exact dJ r k rfl Rp.bl
  | _=>cases e
 | _=>cases e
theorem ym:OpD X (compareOp .Lt) gLt:=Jf Ri
theorem yo:OpD X (compareOp .Gt) gGt:=Jf Rk
mutual
def toP:D->PyData
 | .non=>.none
 | .bl b=>.bool b
 | .int i=>.int i
 | .str l=>.str (S l)
 | .lst ds=>.list (iK ds)
 | .tup ds=>.tuple (iK ds)
 | .dic _ _=>.none
 | .ob _=>.none
def iK:List D->List PyData
 | []=>[]
 |d::ds=>toP d::iK ds
end
mutual
def dX:D->Bool
 | .lst ds=>lO ds
 | .tup ds=>lO ds
 | .dic _ _=>false
 | .ob _=>false
 | _=>true
def lO:List D->Bool
 | []=>true
 |d::ds=>dX d&&lO ds
end
section
variable {K:Frag}{F:Hp}{as:List Addr}
mutual
theorem Rp.rep:∀(d:D) {v:V},dX d=true->Rp K F as v d->Rep K F v (toP d)
 | .non,v,_,h=>by rw[toP,Rep];exact h.unN
 | .bl b,v,_,h=>by rw[toP,Rep];exact h.unB
 | .int i,v,_,h=>by rw[toP,Rep];exact h.unI
 | .str x,v,_,h=>by rw[toP,Rep];exact h.unS
 | .lst ds,v,hp,h=>by
  obtain⟨a,c,h1,h2,h3⟩:=h.unL;rw[toP,Rep];rw[dX] at hp;exact⟨a,c,h1,h2.sq,Rps.rep' ds hp h3⟩
 | .tup ds,v,hp,h=>by
  obtain⟨a,c,h1,h2,h3⟩:=h.unT;rw[toP,Rep];rw[dX] at hp;exact⟨a,c,h1,h2,Rps.rep' ds hp h3⟩
 | .dic _ _,v,hp,h=>by rw[dX] at hp;cases hp
 | .ob _,v,hp,h=>by rw[dX] at hp;cases hp
theorem Rps.rep':∀(ds:List D) {xs:List V},lO ds=true->Rps K F as xs ds->cV K F xs (iK ds)
 | [],xs,_,h=>by rw[h.un0,iK];exact cV.nil
 |d::ds,xs,hp,h=>by
  obtain⟨x,r,rfl,h2,h3⟩:=h.un;rw[lO,zy] at hp;rw[iK];exact cV.cons (Rp.rep d hp.1 h2) (Rps.rep' ds hp.2 h3)
end
theorem Lk.rep{H:Hp}{d:D}{v:V}(h:Lk K H F as v d)(fh:Same F H)(c:dX d=true):Rep K H v (toP d):=by
 rcases h with h | ⟨a,j,l,rfl,rfl,h1,h2⟩
 ·exact Rep.mono fh _ (Rp.rep d c h)
 ·rw[dX] at c;rw[toP,Rep];exact⟨a,j,rfl,.inl (.inl h1),cV.mono fh _ (Rps.rep' l c h2)⟩
end
def okE(d:D):Bool:=dX d&&okD (toP d)
def lq(a b:D):Bool:=PyData.eqv (toP a) (toP b)
def gEq:D->D->Option D
 | .int i,.int j=>some (.bl (decide (i=j)))
 | .str a,.str b=>some (.bl (decide (a=b)))
 | .bl a,.bl b=>some (.bl (decide (a=b)))
 |a,b=>if(okE a&&okE b)=true then some (.bl (lq a b)) else none
def gNe:D->D->Option D
 | .int i,.int j=>some (.bl (!decide (i=j)))
 | .str a,.str b=>some (.bl (!decide (a=b)))
 | .bl a,.bl b=>some (.bl (!decide (a=b)))
 |a,b=>if(okE a&&okE b)=true then some (.bl (!lq a b)) else none
theorem Jg(a b:List Nat):decide (V.str (S a)=V.str (S b))=decide (a=b):=by
 by_cases h:a=b
 ·subst h;simp
 ·rw[zz h,zz];intro z;exact h (T5 (V.str.inj z))
theorem Jh(a b:Int):decide (V.int a=V.int b)=decide (a=b):=by
 by_cases h:a=b
 ·subst h;simp
 ·rw[zz h,zz];intro z;exact h (V.int.inj z)
theorem Ji(a b:Bool):decide (V.bl a=V.bl b)=decide (a=b):=by
 cases a<;>cases b<;>rfl
theorem U9{a b d:D}(h:gEq a b=some d):(∃i j,a=.int i/\b=.int j/\d=.bl (decide (i=j)))\/(∃i j,a=.str i/\b=.str j/\d=.bl (decide (i=j)))\/(∃i j,a=.bl i/\b=.bl j/\d=.bl (decide (i=j))) \/
  (okE a=true/\okE b=true/\d=.bl (lq a b)):=by
 unfold gEq at h;split at h
 ·cases h;exact .inl ⟨_,_,rfl,rfl,rfl⟩
 ·cases h;exact .inr (.inl ⟨_,_,rfl,rfl,rfl⟩)
 ·cases h;exact .inr (.inr (.inl ⟨_,_,rfl,rfl,rfl⟩))
 ·split at h
  ·rename_i c;rw[zy] at c;cases h;exact .inr (.inr (.inr ⟨c.1,c.2,rfl⟩))
  ·cases h
theorem Va{a b d:D}(h:gNe a b=some d):(∃i j,a=.int i/\b=.int j/\d=.bl (!decide (i=j)))\/(∃i j,a=.str i/\b=.str j/\d=.bl (!decide (i=j)))\/(∃i j,a=.bl i/\b=.bl j/\d=.bl (!decide (i=j))) \/
  (okE a=true/\okE b=true/\d=.bl (!lq a b)):=by
 unfold gNe at h;split at h
 ·cases h;exact .inl ⟨_,_,rfl,rfl,rfl⟩
 ·cases h;exact .inr (.inl ⟨_,_,rfl,rfl,rfl⟩)
 ·cases h;exact .inr (.inr (.inl ⟨_,_,rfl,rfl,rfl⟩))
 ·split at h
  ·rename_i c;rw[zy] at c;cases h;exact .inr (.inr (.inr ⟨c.1,c.2,rfl⟩))
  ·cases h
theorem bL{k:Nat}(n:bJ k X.A):OpD X (compareOp .Eq) gEq:=by
 intro pins s σ H x y v u Q I h c q;obtain⟨O,F,C,B,t,d,r,m,l,e,k⟩:=q
 rcases U9 e with⟨i,j,rfl,rfl,rfl⟩ | ⟨i,j,rfl,rfl,rfl⟩ | ⟨i,j,rfl,rfl,rfl⟩ | ⟨h1,h2,rfl⟩
 ·cases(m.rp rfl).unI;cases(l.rp rfl).unI;refine xx pins s σ H _ _ v u Q I h c ⟨rfl,?_⟩;rw[Jh];exact dJ r k rfl Rp.bl
 ·cases(m.rp rfl).unS;cases(l.rp rfl).unS;refine xx pins s σ H _ _ v u Q I h c ⟨rfl,?_⟩;rw[Jg];exact dJ r k rfl Rp.bl
 ·cases(m.rp rfl).unB;cases(l.rp rfl).unB;refine xx pins s σ H _ _ v u Q I h c ⟨rfl,?_⟩;rw[Ji];exact dJ r k rfl Rp.bl
 ·unfold okE at h1 h2;rw[zy] at h1 h2;exact T3 n pins s σ H _ _ v u Q I h c ⟨toP B,toP t,m.rep r.fh h1.1,l.rep r.fh h2.1,h1.2,h2.2,dJ r k rfl Rp.bl⟩
theorem lu{k:Nat}(n:bJ k X.A):OpD X (compareOp .NotEq) gNe:=by
 intro pins s σ H x y v u Q I h c q;obtain⟨O,F,C,B,t,d,r,m,l,e,k⟩:=q
 rcases Va e with⟨i,j,rfl,rfl,rfl⟩ | ⟨i,j,rfl,rfl,rfl⟩ | ⟨i,j,rfl,rfl,rfl⟩ | ⟨h1,h2,rfl⟩
 ·cases(m.rp rfl).unI;cases(l.rp rfl).unI;refine xA pins s σ H _ _ v u Q I h c ⟨rfl,?_⟩;rw[Jh];exact dJ r k rfl Rp.bl
 ·cases(m.rp rfl).unS;cases(l.rp rfl).unS;refine xA pins s σ H _ _ v u Q I h c ⟨rfl,?_⟩;rw[Jg];exact dJ r k rfl Rp.bl
 ·cases(m.rp rfl).unB;cases(l.rp rfl).unB;refine xA pins s σ H _ _ v u Q I h c ⟨rfl,?_⟩;rw[Ji];exact dJ r k rfl Rp.bl
 ·unfold okE at h1 h2;rw[zy] at h1 h2;exact Ib n pins s σ H _ _ v u Q I h c ⟨toP B,toP t,m.rep r.fh h1.1,l.rep r.fh h2.1,h1.2,h2.2,dJ r k rfl Rp.bl⟩
def toV:D->V
 | .bl b=>.bl b
 | .int i=>.int i
 | .str l=>.str (S l)
 | _=>.non
def lQ:D->Bool
 | .non=>true
 | .bl _=>true
 | .int _=>true
 | .str _=>true
 | _=>false
def eqF(x y:D):Bool:=eqV (toV x) (toV y)
theorem Rp.flat{K:Frag}{F:Hp}{as:List Addr}{v:V}{d:D}(h:Rp K F as v d)(c:lQ d=true):v=toV d/\kO v=true:=by
 cases d with
 |non=>rw[h.unN];exact⟨rfl,rfl⟩
 |bl b=>rw[h.unB];exact⟨rfl,rfl⟩
 |int b=>rw[h.unI];exact⟨rfl,rfl⟩
 |str b=>rw[h.unS];exact⟨rfl,rfl⟩
 | _=>cases c
theorem Rps.flat{K:Frag}{F:Hp}{as:List Addr}:∀{ds:List D}{xs:List V},Rps K F as xs ds->ds.all lQ=true->xs=ds.map toV/\xs.all kO=true
 | [],xs,h,_=>by rw[h.un0];exact⟨rfl,rfl⟩
 |d::ds,xs,h,hf=>by
  obtain⟨x,r,rfl,h2,h3⟩:=h.un;rw[List.all_cons,zy] at hf;obtain⟨m,l⟩:=h2.flat hf.1;obtain⟨j,c⟩:=Rps.flat h3 hf.2;exact⟨by rw[zx,<-m,<-j],by rw[List.all_cons,l,c];rfl⟩
def gIn(d:Bool):D->D->Option D
 | .str [c],.str l=>some (.bl (d ^^ decide (c∈l)))
 |x,.lst ds=>if(lQ x&&ds.all lQ)=true then some (.bl (d ^^ ds.any λy=>eqF y x)) else none
 |x,.tup ds=>if(lQ x&&ds.all lQ)=true then some (.bl (d ^^ ds.any λy=>eqF y x)) else none
 | _,_=>none
theorem Vb{m:Bool}{a b d:D}(h:gIn m a b=some d):(∃c l,a=.str [c]/\b=.str l/\d=.bl (m ^^ decide (c∈l)))\/(∃ds,(b=.lst ds\/b=.tup ds)/\lQ a=true/\ds.all lQ=true/\d=.bl (m ^^ ds.any λy=>eqF y a)):=by
 unfold gIn at h;split at h
 ·cases h;exact .inl ⟨_,_,rfl,rfl,rfl⟩
 ·split at h
  ·rename_i j;rw[zy] at j;cases h;exact .inr ⟨_,.inl rfl,j.1,j.2,rfl⟩
  ·cases h
 ·split at h
  ·rename_i j;rw[zy] at j;cases h;exact .inr ⟨_,.inr rfl,j.1,j.2,rfl⟩
  ·cases h
 ·cases h
theorem Vc{x:D}{ds:List D}:inV (toV x) (ds.map toV)=ds.any λy=>eqF y x:=by
 unfold inV;rw[List.any_map];rfl
theorem Vd{K:Frag}{mg:Str->Option Value}{H F:Hp}{as:List Addr}{O:aq}{v:V}{b:D}{ds:List D}(r:RlO K mg O H F as)(c:Lk K H F as v b)(hb:b=.lst ds\/b=.tup ds):∃p xs,v=.ref p/\(SqL K H p xs\/SqT K H p xs)/\Rps K F as xs ds:=by
 rcases hb with rfl | rfl
 ·obtain⟨p,xs,e,h1,h2⟩:=c.list r.fh;exact⟨p,xs,e,.inl h1.sq,h2⟩
 ·obtain⟨p,xs,e,h1,h2⟩:=(c.rp rfl).unT;exact⟨p,xs,e,.inr (Same.seqT r.fh h1),h2⟩
theorem Ve{d:D}(h:lQ d=true):kY d=true:=by cases d<;>first | rfl | cases h
theorem yp:OpD X (compareOp .In) (gIn false):=by
 intro pins s σ H x y v u Q I j h B;obtain⟨O,F,T,P,L,d,r,n,m,e,k⟩:=B
 rcases Vb e with⟨c,l,rfl,rfl,rfl⟩ | ⟨R,t,h1,h2,rfl⟩
 ·cases(n.rp rfl).unS;cases(m.rp rfl).unS;refine T7 pins s σ H _ _ v u Q I j h ⟨c,l,rfl,rfl,?_⟩;rw[Bool.false_xor] at k;exact dJ r k rfl Rp.bl
 ·obtain⟨p,q,rfl,h3,h4⟩:=Vd r m t;obtain⟨J,G⟩:=(n.rp (Ve h1)).flat h1;obtain⟨E,C⟩:=h4.flat h2;refine Ti pins s σ H _ _ v u Q I j h ⟨p,q,rfl,h3,G,C,?_⟩;rw[if_neg zm,J,E,Vc];rw[Bool.false_xor] at k;exact dJ r k rfl Rp.bl
def gIx:D->D->Option D
 | .lst ds,.int i=>atI ds i
 | .tup ds,.int i=>atI ds i
 | .str l,.int i=>if l.length<=1000000 then(atI l i).map λc=>.str [c] else none
 | _,_=>none
theorem Rps.atI{K:Frag}{F:Hp}{as:List Addr}{xs:List V}{ds:List D}{i:Int}{d:D}(h:Rps K F as xs ds)(e:atI ds i=some d):∃v,L2.atI xs i=some v/\Rp K F as v d:=by
 unfold L2.atI at e ⊢;rw[h.length]
 cases q:ixN ds.length i with
 |none=>rw[q] at e;cases e
 |some j =>
  rw[q] at e;exact h.get' e
def rDv(K:Frag)(mg:Str->Option Value)(g:D->D->Option D):R2:=λx y H Q=>∃O F c l j d,RlO K mg O H F c/\Lk K H F c x l/\Lk K H F c y j/\g l j=some d/\∀h,Rp K F c h d->Q h H
theorem Vf:IxR X (rDv X.K X.mg gIx):=by
 intro value slice pins s σ H x y v u Q I n m L h;obtain⟨O,F,R,P,G,d,r,B,t,e,k⟩:=L
 cases P with
 |lst ds =>
  obtain⟨p,j,rfl,h1,h2⟩:=B.list r.fh
  cases G with
  |int i =>
   cases(t.rp rfl).unI;obtain⟨z,E,C⟩:=h2.atI e;exact S9 value slice pins s σ H _ _ v u Q I n m ⟨p,j,i,z,rfl,rfl,h1.sq,E,k z C⟩ h
  | _=>cases e
 |tup ds =>
  obtain⟨p,j,rfl,h1,h2⟩:=(B.rp rfl).unT
  cases G with
  |int i =>
   cases(t.rp rfl).unI;obtain⟨z,E,C⟩:=h2.atI e;exact Tc value slice pins s σ H _ _ v u Q I n m ⟨p,j,i,z,rfl,rfl,Same.seqT r.fh h1,E,k z C⟩ h
  | _=>cases e
 |str l =>
  cases(B.rp rfl).unS
  cases G with
  |int i =>
   cases(t.rp rfl).unI;simp only[gIx] at e;split at e
   ·rename_i J
    cases q:L2.atI l i with
    |none=>rw[q] at e;cases e
    |some c =>
     rw[q] at e;cases e;exact Td value slice pins s σ H _ _ v u Q I n m ⟨S l,i,c,rfl,rfl,by rw[gG];exact jD J,by rw[mL];exact q,k _ Rp.str⟩ h
   ·cases e
  | _=>cases e
 | _=>cases e
theorem bA{md:List Md}{P:Pt}{a b:Expr}{l:Pos}{ma n:M D}(R:SE X md P a ma)(hb:SE X md P b n)(hs:HJ b:=by intro _ _;rfl):VE X md P (.Subscript a b l) (ak gIx ma n):=(S5 Vf R hb hs).imp λσ H Q h=>by
 obtain⟨ρ,O,F,W,d,O',r,sl,e,k⟩:=h;obtain⟨x,O1,U,e⟩:=Res.bind_ok e;obtain⟨y,O2,T,e⟩:=Res.bind_ok e;split at e
 ·rename_i d' L;cases e;refine⟨ρ,_,F,W,_,_,r,sl,U,λv H1 Z m t E I=>?_⟩;refine⟨ρ,_,Z,m,_,_,E,sl.step t,T,λu Y B c q j J=>?_⟩;exact⟨_,B,c,_,_,_,j,Sv.lk (Sv.gr I q) j,Sv.lk J j,L,λC G=>k C Y B c (t.trans q) j G⟩
 ·cases e
def tMO(K:Frag)(mg:Str->Option Value)(md:List Md)(P:Pt)(m:M (Option Int)):TO:=λσ H Q =>
 ∃ρ O F d b j,RlO K mg O H F d/\SlO K md P ρ σ H F d/\m ρ O=.ok b j/\∀h l c,Gr H F d h l c->RlO K mg j h l c->Q b h
def VO(X:Cx)(md:List Md)(P:Pt)(e:Option Expr)(m:M (Option Int)):Prop:=PO X e (tMO X.K X.mg md P m)
theorem PO.imp{e:Option Expr}{t t':TO}(h:PO X e t)(k:∀σ H Q,t' σ H Q->t σ H Q):PO X e t':=λpins s σ H Q I q=>h pins s σ H Q I (k σ H Q q)
def moN:M (Option Int):=λ_ O=>.ok none O
def moS(m:M D):M (Option Int):=λρ O=>(m ρ O).bind λd c=>match d with
 | .int i=>.ok (some i) c
 | _=>.no
theorem lz{md:List Md}{P:Pt}:VO X md P none moN:=Sw.imp λσ H Q q=>by
 obtain⟨ρ,O,F,c,d,h,r,s,e,k⟩:=q;cases e;exact k H F c Gr.refl r
theorem iM{md:List Md}{P:Pt}{e:Expr}{m:M D}(h:VE X md P e m):VO X md P (some e) (moS m):=(Sx h).imp λσ H Q q=>by
 obtain⟨ρ,O,F,u,d,E,r,s,e,k⟩:=q;obtain⟨x,C,t,e⟩:=Res.bind_ok e
 cases x with
 |int i =>
  cases e;exact⟨ρ,_,F,u,_,_,r,s,t,λv y B c n j l=>⟨i,Rp.unI l,k y B c n j⟩⟩
 | _=>cases e
def gSl(d:D)(lo hi:Option Int):Option D:=match d with
 | .lst ds=>some (.lst (cR ds lo hi))
 | .tup ds=>some (.tup (cR ds lo hi))
 | .str l=>if l.length<=16777216 then some (.str (cR l lo hi)) else none
 | _=>none
def Vg(K:Frag)(mg:Str->Option Value):V->Option Int->Option Int->Hp->VK->Prop:=λx lo n H Q=>∃O F c m d,RlO K mg O H F c/\Lk K H F c x m/\gSl m lo n=some d /\
 ∀l h j,Gr H F c h j c->RlO K mg O h j c->Ow K (λa=>H a=none) h j c l d->Q l h
theorem Rps.cut{K:Frag}{F:Hp}{as:List Addr}{xs:List V}{ds:List D}(h:Rps K F as xs ds)(lo hi:Option Int):Rps K F as (lJ xs lo hi) (cR ds lo hi):=by
 unfold lJ cR;rw[h.length];exact(h.drop _).take _
theorem Vh:SlR X (Vg X.K X.mg):=by
 intro pins s σ H x v vl n lo c sl Q I t y pl u h;obtain⟨O,F,G,E,d,r,j,e,k⟩:=h
 cases E with
 |lst ds =>
  obtain⟨p,m,rfl,h1,h2⟩:=j.list r.fh;cases e;exact Tg pins s σ H _ v vl n lo c sl Q I t y pl u ⟨p,m,rfl,h1.sq,λq B=>pN r k B (h2.cut lo c)⟩
 |tup ds =>
  obtain⟨p,m,rfl,h1,h2⟩:=(j.rp rfl).unT;cases e;refine Ue X.K rfl pins s σ H _ v vl n lo c sl Q I t y pl u ⟨p,m,rfl,Same.seqT r.fh h1,λz=>?_,λ_ q B=>Je r k B (h2.cut lo c)⟩
  have:cR ds lo c=ds:=by
   unfold cR;rw[<-h2.length,z.1,z.2,List.drop_zero,Nat.sub_zero,h2.length,List.take_length]
  rw[this] at k;exact dJ r k rfl (j.rp rfl)
 |str l =>
  cases(j.rp rfl).unS;simp only[gSl] at e;split at e
  ·rename_i C;cases e;exact Uc pins s σ H _ v vl n lo c sl Q I t y pl u ⟨l,rfl,zK C (Nat.le_of_eq sizeLine_eq.symm),dJ r k rfl Rp.str⟩
  ·cases e
 | _=>cases e
def mSl(m:M D)(lo hi:M (Option Int)):M D:=λρ O=>(m ρ O).bind λd n=>(lo ρ n).bind λl j=>(hi ρ j).bind λh c=>match gSl (bO c d) l h with
 |some y=>.ok y c
 |none=>.no
end
section
variable {X:Cx}{md:List Md}{P:Pt}{R:RR}
theorem jH{e:Expr}{lo hi:Option Expr}{Y t:Pos}{m:M D}{ml E:M (Option Int)}(he:SE X md P e m)(hl:VO X md P lo ml)(hh:VO X md P hi E):OE X md P (.Subscript e (.Slice lo hi none Y) t) (mSl m ml E):=(Sy Vh he hl hh).imp λσ H Q q=>by
 obtain⟨ρ,O,F,as,d,O',r,s,e,k⟩:=q;obtain⟨x,O1,e1,e⟩:=Res.bind_ok e;obtain⟨l,O2,e2,e⟩:=Res.bind_ok e;obtain⟨h,O3,e3,e⟩:=Res.bind_ok e;split at e
 ·rename_i y hg;cases e;refine⟨ρ,_,F,as,_,_,r,s,e1,λv H1 F1 B J U hv=>?_⟩;refine⟨ρ,_,F1,B,_,_,U,s.step J,e2,λH2 F2 u I T=>?_⟩;have j:=J.trans I;refine⟨ρ,_,F2,u,_,_,T,s.step j,e3,λH3 F3 n G C=>?_⟩;have c:=j.trans G;exact⟨_,F3,n,_,_,C,Sv.lk (Sv.gr (Sv.gr hv I) G) C,hg,λL H' F' g' W Z=>k L H' F' n (c.trans g') W (fc _ _ _ _ _ _ _ (λa ha=>c.dm a ha) Z)⟩
 ·cases e
def Lks(K:Frag)(H F:Hp)(as:List Addr):List V->List D->Prop
 | [],[]=>True
 |v::vs,d::ds=>Lk K H F as v d/\Lks K H F as vs ds
 | _,_=>False
theorem fj.lks{K:Frag}{mg:Str->Option Value}{O:aq}{H F:Hp}{as:List Addr}(r:RlO K mg O H F as):∀{ms:List Md}{vs:List V}{ds:List D},fj K H F as ms vs ds->Lks K H F as vs (ds.map (bO O))
 | [],[],[],_=>trivial
 |m::ms,v::vs,d::ds,h=>by
  refine⟨?_,fj.lks r h.2⟩
  have h1:Sv K H F as v d:=by
   cases m with
   |v=>exact .inl h.1
   |s=>exact h.1
   |o=>exact h.1
  exact h1.lk r
 | [],[],_::_,h=>h.elim
 | [],_::_,[],h=>h.elim
 | [],_::_,_::_,h=>h.elim
 | _::_,[],[],h=>h.elim
 | _::_,[],_::_,h=>h.elim
 | _::_,_::_,[],h=>h.elim
def rC(K:Frag)(mg:Str->Option Value)(g:List D->Option D):List V->Hp->VK->Prop:=λn H Q=>∃O F c m d,RlO K mg O H F c/\Lks K H F c n m/\g m=some d /\
 ∀l h j,Gr H F c h j c->RlO K mg O h j c->Ow K (λa=>H a=none) h j c l d->Q l h
abbrev rY(X:Cx)(f:Value)(g:List D->Option D):Prop:=lG X f (rC X.K X.mg g)
def bM(g:List D->Option D)(ma:M (List D)):M D:=λρ O=>(ma ρ O).bind λh c=>match g (h.map (bO c)) with
 |some d=>.ok d c
 |none=>.no
theorem Jj{K:Frag}{mg:Str->Option Value}{g:List D->Option D}{ms:List Md}{ma:M (List D)}{σ:St}{H:Hp}{Q:VK}(q:tM K mg md P (rO K) (bM g ma) σ H Q):tCB (rC K mg g) (tMA K mg md P ms ma) σ H Q:=by
 obtain⟨ρ,O,F,E,d,W,r,s,e,k⟩:=q;obtain⟨T,U,C,e⟩:=Res.bind_ok e;split at e
 ·rename_i y u;cases e;refine⟨ρ,_,F,E,_,_,r,s,C,λL Y I c j h t=>?_⟩;exact⟨_,I,c,_,_,h,t.lks h,u,λl G J B m n=>k l G J c (j.trans B) m (fc _ _ _ _ _ _ _ (λa x=>j.dm a x) n)⟩
 ·cases e
theorem dR{x:Str}{p c:Pos}{e:Expr}{es:List Expr}{j:String}{g:List D->Option D}{ms:List Md}{ma:M (List D)}(t:rY X (.builtin j) g)(m:X.mg x=none)(u:AE X md P ms (e::es) ma)(hv:bootBuiltins x=some (.builtin j):=by decide +kernel)(n:Gl X x:=by rfl)
  (l:x≠"__name__":=by decide) (h:(x == ("__debug__":Str))=false:=by decide) (r:starEach (e::es) X.env=(false,eval e X.env)::starEach es X.env:=by exact dH rfl) (d:(backTo c (starEach es X.env)).any (·.1)=false:=by exact fY rfl):
  OE X md P (.Call (.Name x p) (e::es) [] c) (bM g ma):=(xG t n m hv u l h r d).imp λ_ _ _ q=>Jj q
theorem Vi{x:Str}{p c:Pos}{e:Expr}{es:List Expr}{T:String}{g:List D->Option D}{ms:List Md}{ma:M (List D)}(r:rY X (.type T) g)(l:X.mg x=none)(t:AE X md P ms (e::es) ma)(hv:bootBuiltins x=some (.type T):=by decide +kernel)(m:Gl X x:=by rfl)
  (j:x≠"__name__":=by decide) (h:(x == ("__debug__":Str))=false:=by decide) (n:starEach (e::es) X.env=(false,eval e X.env)::starEach es X.env:=by exact dH rfl) (d:(backTo c (starEach es X.env)).any (·.1)=false:=by exact fY rfl):
  OE X md P (.Call (.Name x p) (e::es) [] c) (bM g ma):=(HB r m l hv t j h n d).imp λ_ _ _ q=>Jj q
theorem Lks.one{K:Frag}{H F:Hp}{as:List Addr}{vs:List V}{d:D}(h:Lks K H F as vs [d]):∃v,vs=[v]/\Lk K H F as v d:=by
 cases vs with
 |nil=>exact h.elim
 |cons v vs =>
  cases vs with
  |nil=>exact⟨v,rfl,h.1⟩
  |cons u c=>exact h.2.elim
theorem Lks.two{K:Frag}{H F:Hp}{as:List Addr}{vs:List V}{d e:D}(h:Lks K H F as vs [d,e]):∃v u,vs=[v,u]/\Lk K H F as v d/\Lk K H F as u e:=by
 cases vs with
 |nil=>exact h.elim
 |cons v vs =>
  cases vs with
  |nil=>exact h.2.elim
  |cons u us =>
   cases us with
   |nil=>exact⟨v,u,rfl,h.1,h.2.1⟩
   |cons w c=>exact h.2.2.elim
def bW:List D->Option D
 | [.str l]=>if l.length<=1000000 then some (.int l.length) else none
 | [.lst ds]=>some (.int ds.length)
 | [.tup ds]=>some (.int ds.length)
 | _=>none
theorem dY:rY X (.builtin "len") bW:=by
 intro pins s σ H m n Q I q h;obtain⟨O,F,x,u,d,r,c,e,k⟩:=h;unfold bW at e;split at e
 ·rename_i l;obtain⟨v,rfl,j⟩:=c.one;split at e
  ·rename_i t;cases e;cases(j.rp rfl).unS;refine call_len pins s σ H _ n Q I q ⟨_,_,rfl,⟨by rw[gG];exact jD t,rfl⟩,?_⟩;rw[gG];exact dJ r k rfl Rp.int
  ·cases e
 ·rename_i l;obtain⟨v,rfl,j⟩:=c.one;cases e;obtain⟨p,m,rfl,h1,h2⟩:=j.list r.fh;refine call_len pins s σ H _ n Q I q ⟨_,_,rfl,.inl ⟨m,h1.sq,rfl⟩,?_⟩;rw[h2.length];exact dJ r k rfl Rp.int
 ·rename_i l;obtain⟨v,rfl,j⟩:=c.one;cases e;obtain⟨p,m,rfl,h1,h2⟩:=(j.rp rfl).unT;refine call_len pins s σ H _ n Q I q ⟨_,_,rfl,.inr ⟨m,Same.seqT r.fh h1,rfl⟩,?_⟩;rw[h2.length];exact dJ r k rfl Rp.int
 ·cases e
def n6:List D->Option D
 | [.int i,.int j]=>some (.int (if j>i then j else i))
 | _=>none
def Vj:List D->Option D
 | [.int i,.int j]=>some (.int (if j<i then j else i))
 | _=>none
theorem Vk(q:X.calm=true):rY X (.builtin "max") n6:=by
 intro pins s σ H t j Q I l h;obtain⟨O,F,y,x,d,r,c,e,k⟩:=h;unfold n6 at e;split at e
 ·obtain⟨v,u,rfl,m,n⟩:=c.two;cases e;cases(m.rp rfl).unI;cases(n.rp rfl).unI;exact Rv q pins s σ H _ j Q I l ⟨_,_,rfl,dJ r k rfl Rp.int⟩
 ·cases e
def Jk:List D->Option D
 | [.int i]=>some (.int i)
 | [.bl b]=>some (.int (if b then 1 else 0))
 | _=>none
def uP:List D->Option D
 | [.lst ds]=>some (.lst ds)
 | [.tup ds]=>some (.lst ds)
 | _=>none
theorem Vl:rY X (.type "list") uP:=by
 intro pins s σ H j q Q I t h;obtain⟨O,F,x,u,d,r,c,e,k⟩:=h;unfold uP at e;split at e
 ·obtain⟨v,rfl,m⟩:=c.one;cases e;obtain⟨p,j,rfl,h1,h2⟩:=m.list r.fh;exact HR pins s σ H _ q Q I t ⟨p,j,rfl,.inl h1.sq,λl n=>pN r k n h2⟩
 ·obtain⟨v,rfl,m⟩:=c.one;cases e;obtain⟨p,j,rfl,h1,h2⟩:=(m.rp rfl).unT;exact HR pins s σ H _ q Q I t ⟨p,j,rfl,.inr (Same.seqT r.fh h1),λl n=>pN r k n h2⟩
 ·cases e
theorem dZ:bootBuiltins "len" = some (.builtin "len"):=by decide +kernel
theorem Vm:bootBuiltins "max" = some (.builtin "max"):=by decide +kernel
theorem Jl:bootBuiltins "int" = some (.type "int"):=by decide +kernel
theorem uQ:bootBuiltins "str" = some (.type "str"):=by decide +kernel
theorem Jm:bootBuiltins "bool" = some (.type "bool"):=by decide +kernel
theorem yq:bootBuiltins "list" = some (.type "list"):=by decide +kernel
theorem Jo:bootBuiltins "tuple" = some (.type "tuple"):=by decide +kernel
def tyD:D->Option String
 | .non=>some "NoneType"
 | .bl _=>some "bool"
 | .int _=>some "int"
 | .str _=>some "str"
 | .lst _=>some "list"
 | .tup _=>some "tuple"
 | .dic _ _=>some "dict"
 | .ob _=>none
def gM(t n:String):Bool:=t == n || (t == "bool" && n == "int")
def gO(n:String)(m:M D):M D:=λρ O=>(m ρ O).bind λd c=>match tyD (bO c d) with
 |some t=>.ok (.bl (gM t n)) c
 |none=>.no
def yr:List String:=["str","int","bool","list","tuple","dict"]
theorem Vn(K:Frag):∀d t,tyD d=some t->∀n∈yr,PySem.W.kitOne K (.type t) (.type n)=some (gM t n):=by
 intro d t e n c;simp only[yr,zh,List.not_mem_nil,or_false] at c
 cases d<;>cases e<;>rcases c with rfl | rfl | rfl | rfl | rfl | rfl<;>first | exact Ui K _ | kernel_rfl
theorem Lk.ty{K:Frag}{H F:Hp}{as:List Addr}{v:V}{d:D}{t:String}(h:Lk K H F as v d)(fh:Same F H)(e:tyD d=some t):TyQ K H v t:=by
 cases d with
 |non=>cases e;rw[(h.rp rfl).unN];exact .non
 |bl b=>cases e;rw[(h.rp rfl).unB];exact .bl _
 |int b=>cases e;rw[(h.rp rfl).unI];exact .int _
 |str b=>cases e;rw[(h.rp rfl).unS];exact .str _
 |lst j=>cases e;obtain⟨p,c,rfl,h1,h2⟩:=h.list fh;exact .lst h1.sq
 |tup j=>cases e;obtain⟨p,c,rfl,h1,h2⟩:=(h.rp rfl).unT;exact .tup (Same.seqT fh h1)
 |dic m l=>cases e;obtain⟨p,c,rfl,h1,h2⟩:=(h.rp rfl).unD;exact .dK (fh _ _ h1)
 |ob n=>cases e
theorem jJ(n:String){T:Str}{a:Expr}{p c j:Pos}{m:M D}(W:X.mg "isinstance" = none)(Z:X.mg T=none)(h:SE X md P a m)(hb:bootBuiltins T=some (.type n):=by decide +kernel)(U:n∈yr:=by decide)(Y:Gl X "isinstance":=by rfl)(C:Gl X T:=by rfl)
  (E:T≠"__name__":=by decide) (G:(T == ("__debug__":Str))=false:=by decide)
  (l:starEach [a,.Name T c] X.env=(false,eval a X.env)::starEach [.Name T c] X.env:=by exact dH rfl) (y:starEach [.Name T c] X.env=(false,eval (.Name T c) X.env)::starEach [] X.env:=by rfl) (B:(backTo j (starEach [.Name T c] X.env)).any (·.1)=false:=by exact fY rfl):
  OE X md P (.Call (.Name "isinstance" p) [a,.Name T c] [] j) (gO n m):=
 (xG (Uh X.K) Y W (by decide +kernel) (iW h (iW (PX (v:=.ty n) C Z hb rfl E G) jN y) l) (by decide) (by decide) l B).imp λσ H Q q=>by
  obtain⟨ρ,O,F,as,d,O',r,s,e,k⟩:=q;obtain⟨x,O1,e1,e⟩:=Res.bind_ok e;split at e
  ·rename_i t J;cases e;refine⟨ρ,_,F,as,_,_,r,s,e1,λv H1 F1 I g1 u L=>?_⟩;exact⟨v,n,t,_,rfl,Lk.ty (Sv.lk L u) u.fh J,Vn _ _ t J n U,k _ H1 F1 I g1 u (.inl ⟨rfl,Rp.bl⟩)⟩
  ·cases e
def pQ(m:M D):M (List D):=λρ O=>(m ρ O).bind λd c=>match d with
 | .lst ds=>.ok ds c
 | _=>.no
def yt(m:M D):M (List D):=λρ O=>(m ρ O).bind λd c=>match d with
 | .tup ds=>.ok ds c
 | _=>.no
theorem Vo{K:Frag}{mg:Str->Option Value}{H F:Hp}{as:List Addr}{a:Addr}{xs:List V}{ds:List D}(hs:Rps K F as xs ds)(m:∀(h j:Hp) (c:List Addr),GrS P H F as h j c->(∃O,RlO K mg O h j c)->RdK K h a xs):pM K mg P (Itl K a) ds H F as:=by
 refine⟨λi d h j c g r e=>?_,λh j c g r=>⟨xs,(m h j c g r).sq,by rw[hs.length];exact zc _⟩⟩;obtain⟨x,h1,h2⟩:=hs.get' e;have q:=m h j c g r;refine⟨⟨xs,x,q.sq,h1⟩,λy n l=>?_⟩;obtain⟨rfl,l⟩:=l
 have:=l xs q.sq
 rw[h1] at this;cases this;exact⟨j,Gr.refl,λ_ r=>r,h2.grS g⟩
end
section
variable {X:Cx}{pins:List (Addr×Obj)}{σ:St}{H:Hp}{s:Shared}
theorem Inv.turnL{ch:List Addr}{h':Heap}{t':Nat}(I:Inv X pins σ H s)(h:∀b∈ch,iJ X pins H b)(k:∀b o,b∉ch->s.heap.get? b=some o->h'.get? b=some o):Inv X pins σ H {s with heap:=h',toks:=t'}:=by
 have j:∀b u,H b=some u->b∉ch:=λb u e z=>by rw[(h b z).1] at e;cases e
 refine I.step (g':=s.gens) (d':=s.drawn) (ch:=ch) (λb x=>?_) (λb o _ _ d e _=>k b o d e) (λb o _ _ d e _=>⟨o.slots,k b o d e⟩) (λ_ _ _ _ n=>n)
  (λb o d e=>⟨o,k b o d e⟩) (λ_ _ e=>e) (λ_ _ _ e=>e) (λb J e=>⟨#[],by rw[e];simp⟩) (λm t=>?_) (λb u e=>?_) I.bare
 ·obtain⟨O,E,L,C,B,y⟩:=h b x;exact⟨C,E,B,y⟩
 ·obtain⟨o,F,G,l,r⟩:=t;exact⟨o,F,G,k _ o (λz=>(h _ z).2.1 rfl) l,r⟩
 ·refine(I.hok b u e).stay (λc v d q=>k c v ?_ q) (λ_ q=>q) λ_ _ q=>q
  rcases d with z | z
  ·rw[z];exact j b u e
  ·exact j c _ z
theorem Inv.turnT{ch:List Addr}{h':Heap}{t':Nat}{T:Addr}{vs:List V}{us:List Value}(I:Inv X pins σ H s)(h:∀b∈ch,iJ X pins H b)(k:∀b o,b∉ch->s.heap.get? b=some o->h'.get? b=some o)
  (y:s.heap.objs.size<=T) (x:IsTup h' T us.toArray) (hv:aV vs us) (hz:vs.length<=sizeLine):Inv X pins σ (upd H T (.tup vs)) {s with heap:=h',toks:=t'}:=by
 have j:H T=none:=I.hok.fresh y
 have l:∀b u,H b=some u->b∉ch:=λb u e z=>by rw[(h b z).1] at e;cases e
 have ne:∀b o,s.heap.get? b=some o->b≠T:=λb o e z=>by
  subst z;exact absurd (zg e) (Nat.not_lt_of_le y)
 refine I.step (g':=s.gens) (d':=s.drawn) (ch:=ch) (λb t=>?_) (λb o _ _ d e _=>k b o d e) (λb o _ _ d e _=>⟨o.slots,k b o d e⟩) (λb o _ e n=>by rw[bj (ne b o e)];exact n)
  (λb o d e=>⟨o,k b o d e⟩) (λb _ e=>by rw[bj (dC e j)];exact e) (λb _ _ e=>by rw[bj (dC e j)];exact e) (λb Q e=>⟨#[],by rw[bj (dC e j),e];simp⟩) (λm C=>?_) (λb u e=>?_) I.bare
 ·obtain⟨U,J,R,G,F,E⟩:=h b t;exact⟨G,J,F,E⟩
 ·obtain⟨o,L,O,B,r⟩:=C;exact⟨o,L,O,k _ o (λz=>(h _ z).2.1 rfl) B,r⟩
 ·by_cases t:b=T
  ·subst t;rw[dG] at e;cases e;exact⟨hz,us,hv,x⟩
  ·rw[bj t] at e
   refine(I.hok b u e).stay (λc v d q=>k c v ?_ q) (λc q=>by rw[bj (dC q j)];exact q) λc P q=>by rw[bj (dC q j)];exact q
   rcases d with z | z
   ·rw[z];exact l b u e
   ·exact l c _ z
end
def Ite(K:Frag)(l:Addr):It:=⟨λi H=>∃c x,SqL K H l c/\c[i]?=some x,λi H v d=>∃T x,v=.ref T/\H T=none/\d=upd H T (.tup [.int i,x])/\∀c,SqL K H l c->c[i]?=some x,λi H=>∃c,SqL K H l c/\c.length<=i⟩
def Jp(l:List Nat):It:=⟨λi _=>i<l.length,λi H v d=>∃T c,v=.ref T/\H T=none/\d=upd H T (.tup [.int i,.str (S [c])])/\l[i]?=some c,λi _=>l.length<=i⟩
theorem oh{h:Heap}{b:Addr}{o:Obj}{vs:Array Value}(e:h.get? b=some o)(d:o.data=.fields vs):∃o,h.get? b=some o/\∀v,o.data≠.cell v:=⟨o,e,λv z=>by rw[d] at z;cases z⟩
theorem Vp{P:Program}{w:World}{K:Frag}{elts:List Expr}{x1}{pos:Pos}(e it l:Addr)(hne:e≠it):Turn P w K (.Tuple elts x1 pos) (Ite K l) [e,it] e (λi h=>(∃old,IsEnum h e it i old)/\h.IsListIter it l i) where
 mem:=by simp
 obj:=λi h st b hb=>by
  obtain⟨⟨old,he⟩,o,ho,hc,hd⟩:=st
  rcases zh.mp hb with rfl | hb
  ·exact oh he rfl
  ·rw[zl.mp hb];exact oh ho hd
 keep:=λi h h' st k=>by
  obtain⟨⟨old,he⟩,o,ho,r⟩:=st;exact⟨⟨old,k e (by simp) _ he⟩,o,k it (by simp) o ho,r⟩
 item:=by
  intro X hP hw hK hc i pins s σ H E I hf st hg;subst hP hw hK;obtain⟨⟨old,he⟩,hit⟩:=st;obtain⟨xs,x,hq,hx⟩:=hg;obtain⟨its,rv,pl,hz⟩:=I.list hq;obtain⟨u,hu,ru⟩:=rv.get hx;have hT:H s.heap.objs.size=none:=I.hok.fresh (zc _);have elt:e<s.heap.objs.size:=zg he
  refine wpAny_pyNext_enum_item he hit pl.isList (x:=u) (by simpa using hu) hne λh' ho hit' hTup hsz hk=>⟨_,rfl,?_⟩
  refine wpAny_letOwnedTupleGo_enum ho λh'' he'' hs''=>⟨.ref s.heap.objs.size,_,?_,rfl,⟨s.heap.objs.size,x,rfl,hT,rfl,λys hy=>by rw[I.list_inj hy hq];exact hx⟩,⟨⟨_,by simpa using he''⟩,hit'.extBut hs''.extBut (Ne.symm hne)⟩,λb hb=>?_⟩
  ·show Inv X pins σ _ {s with heap:=h'',toks:=s.toks+1};refine I.turnT (ch:=[e,it]) (us:=[.int i s.toks,u]) hf (λb o hb q=>?_) (zc _) ⟨_,hs''.extBut _ _ (Nat.ne_of_gt elt) hTup,rfl,_,rfl⟩ (.cons ⟨_,rfl⟩ (.cons ru .nil)) (by show 2<=sizeLine;decide)
   have h1:b≠e:=λz=>hb (by simp[z])
   have h2:b≠it:=λz=>hb (by simp[z])
   exact hs''.extBut _ _ h1 (hk b o h1 h2 q)
  ·have q:=hf b hb;rw[bj (λz=>?_)]
   ·exact q.1
   ·obtain⟨o,ho⟩:∃o,s.heap.get? b=some o:=by
     rcases zh.mp hb with rfl | hb
     ·exact⟨_,he⟩
     ·rw[zl.mp hb];obtain⟨o,ho,_⟩:=hit;exact⟨o,ho⟩
    exact absurd (zg ho) (by rw[z];exact zX _)
 done:=by
  intro X hP hw hK hc i pins s σ H E I hf st hg;subst hP hw hK;obtain⟨⟨old,he⟩,hit⟩:=st;obtain⟨xs,hq,hl⟩:=hg;obtain⟨its,rv,pl,hz⟩:=I.list hq
  refine wpAny_pyNext_enum_end (I.ok.hd hc) he hit pl.isList (by have:=rv.length;simp;omega) λh' hx=>⟨rfl,?_⟩
  exact I.turnL (t':=s.toks) (ch:=[e,it]) hf λb o hb q=>hx b o (λz=>hb (by simp[z])) q
 self:=λA i s Q E st h=>by
  obtain⟨⟨old,he⟩,_⟩:=st;exact wpAny_pyIter_enum he h
theorem Vq{P:Program}{w:World}{K:Frag}{elts:List Expr}{x1}{pos:Pos}(e it:Addr)(l:List Nat)(t:Tok)(hne:e≠it):Turn P w K (.Tuple elts x1 pos) (Jp l) [e,it] e (λi h=>(∃old,IsEnum h e it i old)/\h.IsStrIter it "str_ascii_iterator" (S l) t i) where
 mem:=by simp
 obj:=λi h st b hb=>by
  obtain⟨⟨old,he⟩,o,ho,hc,hd⟩:=st
  rcases zh.mp hb with rfl | hb
  ·exact oh he rfl
  ·rw[zl.mp hb];exact oh ho hd
 keep:=λi h h' st k=>by
  obtain⟨⟨old,he⟩,o,ho,r⟩:=st;exact⟨⟨old,k e (by simp) _ he⟩,o,k it (by simp) o ho,r⟩
 item:=by
  intro X hP hw hK hc i pins s σ H E I hf st hg;subst hP hw hK;obtain⟨⟨old,he⟩,hit⟩:=st;have hg':i<l.length:=hg;have hT:H s.heap.objs.size=none:=I.hok.fresh (zc _);have elt:e<s.heap.objs.size:=zg he;have hd:X.A.in1.handled=none:=I.ok.hd hc
  refine wpAny_pyNext_enum_itemD (Draws.strAscii hd it (S l) t) he hit (by simpa [S] using hg') hne (λz=>hne (by simpa using z)) λu h' tk hP ho hit' hTup hsz hk=>⟨_,rfl,?_⟩
  obtain⟨c,tc,hcx,rfl⟩:=hP
  have hcl:l[i]?=some c:=by
   rw[<-hcx];simp[S]
  refine wpAny_letOwnedTupleGo_enum ho λh'' he'' hs''=>⟨.ref s.heap.objs.size,_,?_,rfl,⟨s.heap.objs.size,c,rfl,hT,rfl,hcl⟩,⟨⟨_,by simpa using he''⟩,?_⟩,λb hb=>?_⟩
  ·show Inv X pins σ _ {s with heap:=h'',toks:=tk+1};refine I.turnT (ch:=[e,it]) (us:=[.int i tk,.str ⟨#[c]⟩ tc]) hf (λb o hb q=>?_) (zc _) ⟨_,hs''.extBut _ _ (Nat.ne_of_gt elt) hTup,rfl,_,rfl⟩ (.cons ⟨_,rfl⟩ (.cons ⟨_,rfl⟩ .nil)) (by show 2<=sizeLine;decide)
   have h1:b≠e:=λz=>hb (by simp[z])
   have h2:b≠it:=λz=>hb (by simp[z])
   exact hs''.extBut _ _ h1 (hk b o h1 h2 q)
  ·obtain⟨o,ho',r⟩:=hit';exact⟨o,hs''.extBut _ _ (Ne.symm hne) ho',r⟩
  ·have q:=hf b hb;rw[bj (λz=>?_)]
   ·exact q.1
   ·obtain⟨o,ho⟩:∃o,s.heap.get? b=some o:=by
     rcases zh.mp hb with rfl | hb
     ·exact⟨_,he⟩
     ·rw[zl.mp hb];obtain⟨o,ho,_⟩:=hit;exact⟨o,ho⟩
    exact absurd (zg ho) (by rw[z];exact zX _)
 done:=by
  intro X hP hw hK hc i pins s σ H E I hf st hg;subst hP hw hK;obtain⟨⟨old,he⟩,hit⟩:=st;have hd:X.A.in1.handled=none:=I.ok.hd hc;have hg':l.length<=i:=hg;have hT:s.TypeIs (.ref e) "enumerate":=⟨_,he,rfl⟩;unfold pyNext
  refine za (wpAny_attempt (wpAny_callSpecial?_slot (name:=Str.ofString "__next__") hT F.slot_enumerate_next
   (wpAny_call_entry F.slot_enumerate_next hT F.entry_enumerate_next ?_ (F.args_enumerate_next_1 _))))
  show wpAny _ _ (field (.ref e) 2 >>= _) _ _ _;refine za (wpAny_field he rfl (x:=.ref it) rfl ?_);refine za (wpAny_nextOf_ascii_end hd hit (by simp[S];exact hg') λh' x he' hx'=>?_);obtain⟨o,ho,hc⟩:=hx';refine za (wpAny_isInstance (T:="StopIteration") (b:=true) ⟨o,ho,hc⟩ isSubtype_stop ?_);exact zb ⟨rfl,I.turnL (t':=s.toks) (ch:=[e,it]) hf λb o hb q=>he' b o (λz=>hb (by simp[z])) q⟩
 self:=λA i s Q E st h=>by
  obtain⟨⟨old,he⟩,_⟩:=st;exact wpAny_pyIter_enum he h
section
variable {X:Cx}{elts:List Expr}{x1:Nat}{tpos:Pos}
def Vr(K:Frag)(j:TA):TI:=λσ H R=>j σ H λh c=>∃a,h=[.ref a]/\(∃d,SqL K c a d)/\R (Ite K a) c
def Vs(d:TA):TI:=λσ H R=>d σ H λc h=>∃l,c=[.str (S l)]/\ascii l=true/\R (Jp l) h
theorem Vt{l:List Nat}(h:ascii l=true):strIterType (S l) = "str_ascii_iterator":=by
 unfold strIterType;rw[if_pos];unfold ascii at h;rw[List.all_eq_true] at h;simp[S];intro i c;simpa using h i c
theorem Vu{a:Expr}{m:TA}{p c:Pos}(B:Gl X "enumerate")(x:X.mg "enumerate" = none)(C:PA X [a] m)(hs:starEach [a] X.env=[(false,eval a X.env)]:=by exact pH rfl):PI X (.Tuple elts x1 tpos) (.Call (.Name "enumerate" p) [a] [] c) (Vr X.K m):=by
 intro pins s σ H R I h;refine Call_ (nO I B x boot_enumerate (PyProof.Rows.callWith_type1 (thn (C c pins s σ H _ I h) λus s1 ⟨vs,H1,I1,r1,q1⟩=>?_) hs rfl));obtain⟨l,e,⟨G,t⟩,q⟩:=q1;subst e;obtain⟨u,rfl,r⟩:=vals1 r1;cases r;obtain⟨E,J,pl,L⟩:=I1.list t
 refine call_enumerate_list pl.isList λO n j F y=>wpAny_pyIter_enum n ?_
 refine⟨s1.heap.objs.size+1,[s1.heap.objs.size+1,s1.heap.objs.size],_,_,H1,rfl,I1.kept (t':=s1.toks) y,Vp (s1.heap.objs.size+1) s1.heap.objs.size l (Nat.succ_ne_self _),⟨⟨_,n⟩,j⟩,λb d=>?_,q⟩
 have hb':s1.heap.objs.size<=b:=by
  rcases zh.mp d with rfl | d
  ·exact Nat.le_succ _
  ·rw[zl.mp d];exact zc _
 exact I1.fpOk hb' (I1.hok.fresh hb')
theorem Vv{a:Expr}{m:TA}{p c:Pos}(B:Gl X "enumerate")(r:X.mg "enumerate" = none)(C:PA X [a] m)(hs:starEach [a] X.env=[(false,eval a X.env)]:=by exact pH rfl):PI X (.Tuple elts x1 tpos) (.Call (.Name "enumerate" p) [a] [] c) (Vs m):=by
 intro pins s σ H R I h;refine Call_ (nO I B r boot_enumerate (PyProof.Rows.callWith_type1 (thn (C c pins s σ H _ I h) λus s1 ⟨vs,H1,I1,r1,q1⟩=>?_) hs rfl));obtain⟨l,e,x,q⟩:=q1;subst e;obtain⟨u,rfl,t,rfl⟩:=vals1 r1
 refine call_enumerate_str λF n d E y=>wpAny_pyIter_enum n ?_
 rw[Vt x] at d;refine⟨s1.heap.objs.size+1,[s1.heap.objs.size+1,s1.heap.objs.size],_,_,H1,rfl,I1.kept (t':=s1.toks) y,Vq (s1.heap.objs.size+1) s1.heap.objs.size l t (Nat.succ_ne_self _),⟨⟨_,n⟩,d⟩,λb j=>?_,q⟩
 have hb':s1.heap.objs.size<=b:=by
  rcases zh.mp j with rfl | j
  ·exact Nat.le_succ _
  ·rw[zl.mp j];exact zc _
 exact I1.fpOk hb' (I1.hok.fresh hb')
end
def rW(K:Frag)(P:Pt):RR:=λ_ H F c v d=>Rp K F c v d\/∃a h j,v=.ref a/\d=.lst j/\H a=some (.lst h)/\a∉c/\P a/\Rps K F c h j
def WE(X:Cx)(md:List Md)(P:Pt)(e:Expr)(m:M D):Prop:=PE X e (tM X.K X.mg md P (rW X.K P) m)
section
variable {X:Cx}{md:List Md}{P:Pt}{R:RR}
theorem pR{e:Expr}{m:M D}(h:VE X md P e m):WE X md P e m:=h.imp λσ H Q q=>by
 obtain⟨ρ,O,F,n,d,t,r,s,e,k⟩:=q;exact⟨ρ,O,F,n,d,t,r,s,e,λv u x c g j l=>k v u x c g j (.inl l)⟩
theorem mY(i:Nat){x:Str}{c:Pos}(m:md[i]?=some .s:=by rfl)(n:X.N[i]?=some x:=by rfl)(l:Vis X.env.scope x:=by first | exact Or.inl rfl | exact Or.inr (Or.inl rfl) | exact Or.inr (Or.inr rfl))
  (hd:(x == ("__debug__":Str))=false:=by decide) (j:(x == ("__classdict__":Str))=false:=by decide):WE X md P (.Name x c) (aa i):=by
 refine(nM (i:=i) n l hd j).imp λσ H Q h=>?_
 obtain⟨ρ,O,F,t,d,u,r,s,e,k⟩:=h;obtain⟨q,rfl⟩:=uJ e;obtain⟨v,h2,h3⟩:=s.sl i .s d m q;exact⟨v,h2,k v H F t Gr.refl r h3⟩
theorem uR{K:Frag}{mg:Str->Option Value}{N:Addr->Prop}{H F:Hp}{as:List Addr}{v:V}{ds:List D}(hv:rW K P N H F as v (.lst ds)):
  ∃a xs,v=.ref a/\Rps K F as xs ds/\∀(d h:Hp) (c:List Addr),GrS P H F as d h c->(∃O,RlO K mg O d h c)->RdK K d a xs:=by
 rcases hv with hv | ⟨a,xs,q,rfl,e,n,m,l,j⟩
 ·obtain⟨a,xs,rfl,h1,h2⟩:=hv.unL;exact⟨a,xs,rfl,h2,λd h c g ⟨O,r⟩=>(h1.mono g.ff).mono r.fh⟩
 ·cases e;exact⟨a,xs,rfl,j,λd h c g _=>.inl (.inl (g.fr _ _ l n m rfl))⟩
theorem Jq{u e:Expr}{m:M D}(h:WE X md P e m):VI X md P u e (pQ m):=(xg h).imp λσ H Q q=>by
 obtain⟨ρ,O,F,C,E,I,r,s,e,k⟩:=q;obtain⟨d,G,B,e⟩:=Res.bind_ok e
 cases d with
 |lst es =>
  cases e;refine⟨ρ,_,F,C,_,_,r,s,B,λv l n c y j x=>?_⟩;obtain⟨a,t,rfl,h1,h2⟩:=uR (mg:=X.mg) x;exact⟨a,rfl,⟨t,(h2 l n c GrS.refl ⟨_,j⟩).sq⟩,k _ l n c y j (Vo h1 h2)⟩
 | _=>cases e
theorem Jr{I e:Expr}{m:M D}(h:VE X md P e m):VI X md P I e (yt m):=(QV h).imp λσ H Q q=>by
 obtain⟨ρ,O,F,U,W,Z,r,s,e,k⟩:=q;obtain⟨d,Y,T,e⟩:=Res.bind_ok e
 cases d with
 |tup es =>
  cases e;refine⟨ρ,_,F,U,_,_,r,s,T,λv C E n L G J=>?_⟩;obtain⟨a,t,rfl,h1,h2⟩:=Rp.unT J
  have B:∀(j l:Hp) (c:List Addr),GrS P C E n j l c->(∃O,RlO X.K X.mg O j l c)->SqT X.K j a t:=λj l c g ⟨O,r⟩=>Same.seqT r.fh (Same.seqT g.ff h1)
  refine⟨a,rfl,⟨t,B C E n GrS.refl ⟨_,G⟩⟩,k _ C E n L G ⟨λi d j l c g r e=>?_,λj l c g r=>⟨t,B j l c g r,by rw[h2.length];exact zc _⟩⟩⟩;obtain⟨x,h3,h4⟩:=h2.get' e;have q:=B j l c g r;refine⟨⟨t,x,q,h3⟩,λy H3 u=>?_⟩;obtain⟨rfl,u⟩:=u
  have:=u t q
  rw[h3] at this;cases this;exact⟨l,Gr.refl,λ_ r=>r,h4.grS g⟩
 | _=>cases e
def dD(l:List Nat):List D:=l.map λc=>.str [c]
def yu(m:M D):M (List D):=λρ O=>(m ρ O).bind λd c=>match d with
 | .str l=>if ascii l=true then .ok (dD l) c else .no
 | _=>.no
theorem Js{K:Frag}{mg:Str->Option Value}{J:It}{ds:List D}{H F:Hp}{as:List Addr}(h1:∀(i:Nat) (d:D) (c:Hp),ds[i]?=some d->J.go i c/\∀x h,J.yld i c x h->h=c/\∀K F as,Rp K F as x d)(h2:∀c,J.stop ds.length c):pM K mg P J ds H F as :=
 ⟨λi d c l m _ _ e=>⟨(h1 i d c e).1,λx h y=>by
  obtain⟨rfl,j⟩:=(h1 i d c e).2 x h y
  exact⟨l,Gr.refl,λ_ r=>r,j _ _ _⟩⟩,λc _ _ _ _=>h2 c⟩
theorem Jt{u e:Expr}{m:M D}(h:SE X md P e m):VI X md P u e (yu m):=(Ua h).imp λσ H Q q=>by
 obtain⟨ρ,O,F,I,U,Z,r,s,e,k⟩:=q;obtain⟨d,Y,j,e⟩:=Res.bind_ok e
 cases d with
 |str l =>
  dsimp only at e;split at e
  ·rename_i E;cases e;refine⟨ρ,_,F,I,_,_,r,s,j,λv L T n G B C=>?_⟩;refine⟨l,(Sv.rp C rfl).unS,E,k _ L T n G B (Js (λi d J e=>?_) λJ=>by simp[dD,Its])⟩;unfold dD at e;rw[zG] at e
   cases q:l[i]? with
   |none=>rw[q] at e;cases e
   |some c =>
    rw[q] at e;cases e;refine⟨(zj.mp q).1,λx H3 y=>?_⟩;obtain⟨j,W,t,rfl⟩:=y;rw[q] at t;cases t;exact⟨j,λ_ _ _=>Rp.str⟩
  ·cases e
 | _=>cases e
def fD(lo:Int)(n:Nat):List D:=(List.range n).map λ(k:Nat)=>.int (lo+(k:Int))
def jt(m:M (List D)):M (List D):=λρ O=>(m ρ O).bind λc d=>match c with
 | [.int j]=>if j<=1000000000/\-1000000000<=j then .ok (fD 0 j.toNat) d else .no
 | _=>.no
theorem Vw{K:Frag}{mg:Str->Option Value}{lo:Int}{n:Nat}{H F:Hp}{as:List Addr}:pM K mg P (Itr lo n) (fD lo n) H F as:=Js (λi d j e=>by
 unfold fD at e;rw[zG] at e
 by_cases c:i<n
 ·rw[List.getElem?_range c] at e;cases e;refine⟨c,λx l y=>?_⟩;obtain⟨h,rfl⟩:=y;exact⟨h,λ_ _ _=>Rp.int⟩
 ·rw[jo (by simpa using c)] at e
  cases e) λj=>by simp[fD,Itr]
theorem fj.one{K:Frag}{H F:Hp}{as:List Addr}{m:Md}{vs:List V}{d:D}(h:fj K H F as [m] vs [d]):∃v,vs=[v]/\rA K m (λ_=>True) H F as v d:=by
 cases vs with
 |nil=>exact h.elim
 |cons v vs =>
  cases vs with
  |nil=>exact⟨v,rfl,h.1⟩
  |cons u c=>exact h.2.elim
theorem uT{l a:Expr}{p c:Pos}{m:M (List D)}(x:X.mg "range" = none)(B:AE X md P [.s] [a] m)(y:Gl X "range":=by rfl)(u:starEach [a] X.env=[(false,eval a X.env)]:=by exact pH rfl):VI X md P l (.Call (.Name "range" p) [a] [] c) (jt m):=(QZ y x B u).imp λσ H Q q=>by
 obtain⟨ρ,O,F,G,W,Z,r,s,e,k⟩:=q;obtain⟨U,Y,E,e⟩:=Res.bind_ok e;split at e
 ·rename_i j;split at e
  ·rename_i T;cases e;refine⟨ρ,_,F,G,_,_,r,s,E,λL I J h C n t=>?_⟩;obtain⟨v,rfl,d⟩:=t.one
   have:=(Sv.rp d rfl).unI
   subst this;exact⟨j,rfl,by omega,by omega,k _ I J h C n Vw⟩
  ·cases e
 ·cases e
def fG:Nat->List D->List D
 | _,[]=>[]
 |k,d::ds=>.tup [.int k,d]::fG (k+1) ds
theorem uU:∀(k:Nat) (ds:List D),(fG k ds).length=ds.length
 | _,[]=>rfl
 |k,d::ds=>by simp[fG,uU (k+1) ds]
theorem uV:∀(k:Nat) (ds:List D) (i:Nat),(fG k ds)[i]?=(ds[i]?).map λd=>.tup [.int ((k+i:Nat):Int),d]
 |k,[],i=>by simp[fG]
 |k,d::ds,0=>by simp[fG]
 |k,d::ds,i+1=>by
  rw[fG,zE,zE,uV (k+1) ds i];congr 1
  funext d
  congr 3;omega
theorem yw{K:Frag}{mg:Str->Option Value}{h d:Hp}{c:List Addr}{T:Addr}{xs:List V}{ds:List D}(x:∃O,RlO K mg O h d c)(j:h T=none)(t:Rps K d c xs ds):
  ∃m,Gr h d c (upd h T (.tup xs)) m c/\(∀O,RlO K mg O h d c->RlO K mg O (upd h T (.tup xs)) m c)/\Rp K m c (.ref T) (.tup ds):=by
 obtain⟨O,r⟩:=x;have l:=r.frF j
 have ff:Same d (upd d T (.tup xs)):=λb u q=>by rw[bj (dC q l)];exact q
 exact⟨upd d T (.tup xs),(Gr.lay j).frz j l,λy n=>(n.lay j).frz dG l (λz=>n.all z j) rfl,Rp.mkT (.inl dG) (Rps.mono ff (λ_ _ z=>z) _ t)⟩
def Ju(m:M D):M (List D):=λρ O=>(m ρ O).bind λd c=>match d with
 | .lst ds=>.ok (fG 0 ds) c
 | _=>.no
def Jv(m:M D):M (List D):=λρ O=>(m ρ O).bind λd c=>match d with
 | .str l=>if ascii l=true then .ok (fG 0 (dD l)) c else .no
 | _=>.no
variable {elts:List Expr}{x1:Nat}{tpos:Pos}
theorem Vx{a:Expr}{p u:Pos}{m:M D}(Y:X.mg "enumerate" = none)(h:WE X md P a m)(Z:Gl X "enumerate":=by rfl)(W:starEach [a] X.env=[(false,eval a X.env)]:=by exact pH rfl)(C:starEach [a] X.env=(false,eval a X.env)::starEach [] X.env:=by exact dH rfl):
  VI X md P (.Tuple elts x1 tpos) (.Call (.Name "enumerate" p) [a] [] u) (Ju m):=(Vu Z Y (iW h jN C) W).imp λσ H Q q=>by
 obtain⟨ρ,O,F,as,ds,O',r,s,e,k⟩:=q;obtain⟨d,O1,e1,e⟩:=Res.bind_ok e
 cases d with
 |lst es =>
  cases e;refine⟨ρ,_,F,as,_,_,r,s,e1,λv I J j g1 E U=>?_⟩;obtain⟨a,l,rfl,h1,h2⟩:=uR (mg:=X.mg) U;refine⟨a,rfl,⟨l,(h2 I J j GrS.refl ⟨_,E⟩).sq⟩,k _ I J j g1 E ⟨λi d n t c g r e=>?_,λn t c g r=>⟨l,(h2 n t c g r).sq,by rw[uU,h1.length];exact zc _⟩⟩⟩;rw[uV] at e
  cases q:es[i]? with
  |none=>rw[q] at e;cases e
  |some y =>
   rw[q] at e;cases e;obtain⟨x,h3,h4⟩:=h1.get' q;have G:=h2 n t c g r;refine⟨⟨l,x,G.sq,h3⟩,λz H3 L=>?_⟩;obtain⟨T,x',rfl,hT,rfl,B⟩:=L
   have:=B l G.sq
   rw[h3] at this;cases this;rw[zZ];exact yw r hT (Rps.cons Rp.int (Rps.cons (h4.grS g) Rps.nil))
 | _=>cases e
theorem Vy{a:Expr}{p n:Pos}{m:M D}(G:X.mg "enumerate" = none)(h:SE X md P a m)(J:Gl X "enumerate":=by rfl)(E:starEach [a] X.env=[(false,eval a X.env)]:=by exact pH rfl)(t:starEach [a] X.env=(false,eval a X.env)::starEach [] X.env:=by exact dH rfl):
  VI X md P (.Tuple elts x1 tpos) (.Call (.Name "enumerate" p) [a] [] n) (Jv m):=(Vv J G (iW h jN t) E).imp λσ H Q q=>by
 obtain⟨ρ,O,F,Y,ds,O',r,s,e,k⟩:=q;obtain⟨d,O1,W,e⟩:=Res.bind_ok e
 cases d with
 |str l =>
  dsimp only at e;split at e
  ·rename_i I;cases e;refine⟨ρ,_,F,Y,_,_,r,s,W,λv H1 F1 x U y C=>?_⟩;refine⟨l,by rw[(Sv.rp C rfl).unS],I,k _ H1 F1 x U y ⟨λi d Z F2 u g r e=>?_,λZ F2 u g r=>?_⟩⟩
   ·rw[uV] at e;unfold dD at e;rw[zG] at e
    cases q:l[i]? with
    |none=>rw[q] at e;cases e
    |some c =>
     rw[q] at e;cases e;refine⟨(zj.mp q).1,λz H3 B=>?_⟩;obtain⟨T,c',rfl,L,rfl,j⟩:=B;rw[q] at j;cases j;rw[zZ];exact yw r L (Rps.cons Rp.int (Rps.cons Rp.str Rps.nil))
   ·show l.length<=_;rw[uU];simp[dD]
  ·cases e
 | _=>cases e
def lA:List D->Option (List (List Nat))
 | []=>some []
 | .str l::ds=>(lA ds).map (l :: ·)
 | _=>none
theorem Rps.strs{K:Frag}{F:Hp}{as:List Addr}:∀{ds:List D}{xs:List V}{ls:List (List Nat)},Rps K F as xs ds->lA ds=some ls->xs=ls.map λl=>V.str (S l)
 | [],xs,bs,h,e=>by cases e;rw[h.un0];rfl
 |d::ds,xs,bs,h,e=>by
  obtain⟨x,r,rfl,h2,h3⟩:=h.un
  cases d with
  |str b =>
   unfold lA at e
   cases q:lA ds with
   |none=>rw[q] at e;cases e
   |some cs =>
    rw[q] at e;cases e;rw[h2.unS,Rps.strs h3 q];rfl
  | _=>cases e
def uW(m:M D):M D:=λρ O=>(m ρ O).bind λd c=>match bO c d with
 | .lst ds=>match lA ds with
  |some ls=>if(ls.map List.length).sum<=1000000 then .ok (.str ls.flatten) c else .no
  |none=>.no
 | _=>.no
theorem Vz{e:Expr}{j:Nat}{p apos c:Pos}{m:M D}(h:SE X md P e m){x:Str}(I:x=S []:=by decide +kernel)
  (u:((backTo c (starEach [e] X.env)).all (λx=>!x.1)&&(backToKw c (keywordEach [] X.env)).all (λx=>x.1.isSome)&&decide ([e].length+([]:List Keyword).length+(if([]:List Keyword).isEmpty then 0 else 1)<30))=true:=by rfl)
  (n:(apos.endLine == c.line)=true:=by rfl) (E:starEach [e] X.env=(false,eval e X.env)::starEach [] X.env:=by exact dH rfl) (t:attributeBase (.Constant (.str x) j p) "join" X.env (eval (.Constant (.str x) j p) X.env)=eval (.Constant (.str x) j p) X.env:=by rfl) (l:(backTo c (starEach [] X.env)).any (·.1)=false:=by exact fY rfl):
  OE X md P (.Call (.Attribute (.Constant (.str x) j p) "join" apos) [e] [] c) (uW m):=
 (rH PySem.F.plainAttrs_str PySem.F.slot_str_join PySem.F.type_str_join (Ul X.K) (G7 (x:=x)) (iW h jN E) t u n E l).imp λσ H Q q=>by
  obtain⟨ρ,O,F,U,d,O',r,s,e,k⟩:=q;obtain⟨y,W,T,e⟩:=Res.bind_ok e
  cases ed:bO W y with
  |lst ds =>
   rw[ed] at e;dsimp only at e
   cases es:lA ds with
   |none=>rw[es] at e;cases e
   |some ls =>
    rw[es] at e;dsimp only at e;split at e
    ·rename_i G;cases e;refine⟨rfl,ρ,_,F,U,_,_,r,s,T,λv Y Z C L B J=>?_⟩;have q:=Sv.lk J B;rw[ed] at q;obtain⟨a,xs,rfl,h1,h2⟩:=q.list B.fh;refine⟨a,ls,by rw[I],rfl,?_,G,k _ Y Z C L B (.inl ⟨rfl,Rp.str⟩)⟩;rw[<-h2.strs es];exact h1.sq
    ·cases e
  | _=>rw[ed] at e;cases e
def uX(mo m:M D):M D:=λρ O=>(mo ρ O).bind λa d=>(m ρ d).bind λb c=>match a,b with
 | .str l,.str n=>.ok (.bl (decide (l.take n.length=n))) c
 | _,_=>.no
theorem Jw{o e:Expr}{apos c:Pos}{mo m:M D}(T:VE X md P o mo)(h:VE X md P e m)
  (n:attributeBase o "startswith" X.env (eval o X.env)=eval o X.env:=by rfl)
  (t:((backTo c (starEach [e] X.env)).all (λx=>!x.1)&&(backToKw c (keywordEach [] X.env)).all (λx=>x.1.isSome)&&decide ([e].length+([]:List Keyword).length+(if([]:List Keyword).isEmpty then 0 else 1)<30))=true:=by rfl)
  (l:(apos.endLine == c.line)=true:=by rfl) (C:starEach [e] X.env=(false,eval e X.env)::starEach [] X.env:=by exact dH rfl) (j:(backTo c (starEach [] X.env)).any (·.1)=false:=by exact fY rfl):
  OE X md P (.Call (.Attribute o "startswith" apos) [e] [] c) (uX mo m):=
 (rH PySem.F.plainAttrs_str PySem.F.slot_str_startswith PySem.F.type_str_startswith Ur T (iW h jN C) n t l C j).imp λσ H Q q=>by
  obtain⟨ρ,O,F,Z,d,O',r,s,e,k⟩:=q;obtain⟨a,O1,Y,e⟩:=Res.bind_ok e;obtain⟨b,O2,W,e⟩:=Res.bind_ok e;split at e
  ·cases e;refine⟨ρ,_,F,Z,_,_,r,s,Y,λv H1 F1 B E I J=>?_⟩;cases Rp.unS J;refine⟨rfl,ρ,_,F1,B,_,_,I,s.step E,W,λu H2 F2 y U G L=>?_⟩;cases Rp.unS L;exact⟨_,_,rfl,rfl,k _ H2 F2 y (E.trans U) G (.inl ⟨rfl,Rp.bl⟩)⟩
  ·cases e
end
section
variable {K:Frag}{mg:Str->Option Value}{md:List Md}{P:Pt}{ρ:aB}{σ:St}{H F:Hp}{as:List Addr}{O:aq}{i:Nat}{a:Addr}{xs xs':List V}{ds ds':List D}
theorem SlO.own(s:SlO K md P ρ σ H F as)(d:md[i]?=some .o)(c:ρ[i]?=some (some (.lst ds))):∃a xs,σ[i]?=some (some (.ref a))/\H a=some (.lst xs)/\F a=none/\a∉as/\¬P a/\Rps K F as xs ds:=by
 obtain⟨v,h1,h2⟩:=s.sl i .o _ d c
 rcases h2 with⟨h2,_⟩ | ⟨a,xs,r,rfl,n,m,q,l,j,h⟩
 ·cases h2
 ·cases n;exact⟨a,xs,h1,m,q,l,j,h⟩
theorem SlO.mut(s:SlO K md P ρ σ H F as)(I:md[i]?=some .o)(B:ρ[i]?=some (some (.lst ds)))(y:σ[i]?=some (some (.ref a)))(hF:F a=none)(ha:a∉as)(Z:¬P a)(r:Rps K F as xs' ds'):SlO K md P (ρ.set i (some (.lst ds'))) σ (upd H a (.lst xs')) F as:=by
 have hi:i<md.length:=(zj.mp I).1;refine⟨s.len,by rw[jh];exact s.len',λc p=>?_,λj m d J u=>?_,λj k c l fs h1 h2 h3 h4 h5 h6=>?_,λx hx=>?_⟩
 ·have:=s.pd c p
  unfold upd
  split
  ·exact λz=>nomatch z
  ·exact this
 ·by_cases h:i=j
  ·subst h;rw[I] at J;cases J;rw[zR (by rw[s.len'];exact hi)] at u;cases u;exact⟨_,y,.inr ⟨a,xs',ds',rfl,rfl,dG,hF,ha,Z,r⟩⟩
  ·rw[zf h] at u;obtain⟨v,Y,n⟩:=s.sl j m d J u;refine⟨v,Y,?_⟩
   cases m with
   |v=>exact n
   |s =>
    rcases n with n | ⟨c,T,l,G,E,R,Q,C,L⟩
    ·exact .inl n
    ·exact .inr ⟨c,T,l,G,E,by rw[bj (λz=>Z (by rw[<-z];exact C))];exact R,Q,C,L⟩
   |o =>
    rcases n with n | ⟨c,T,l,G,E,R,z0,Q,C,L⟩
    ·exact .inl n
    ·refine .inr ⟨c,T,l,G,E,?_,z0,Q,C,L⟩;rw[bj]
     ·exact R
     ·intro z;subst z G E;exact h (s.inj i j c ds l I J B u y Y)
 ·have f:∀k l,(ρ.set i (some (.lst ds')))[k]?=some (some (D.lst l))->∃t,ρ[k]?=some (some (D.lst t)):=λk l q=>by
   by_cases h:i=k
   ·subst h;exact⟨ds,B⟩
   ·rw[zf h] at q;exact⟨l,q⟩
  obtain⟨t,q3⟩:=f j l h3;obtain⟨X,q4⟩:=f k fs h4;exact s.inj j k c t X h1 h2 q3 q4 h5 h6
 ·obtain⟨U,p2,p3⟩:=s.pin x hx
  have W:i≠x.1:=λz=>by rw[<-z,I] at U;cases U
  exact⟨U,by rw[zf W];exact p2,p3⟩
theorem Jx{xs:List V}(j:H a=some (.lst xs))(d:¬P a){o:HO}:GrS P H F as (upd H a o) F as :=
 ⟨λ_ _ _ _ _ _=>rfl,Same.refl F,⟨[],by simp,λ_ h=>nomatch h⟩,λc u p e _ _=>by rw[bj (λz=>d (by rw[<-z];exact p))];exact e,λc e=>by
  by_cases h:c=a
  ·subst h;rw[dG] at e;cases e
  ·rwa [bj h] at e,λc l u e=>by rw[bj (λz=>by rw[z,j] at e;cases e)];exact e⟩
theorem RlO.mut(r:RlO K mg O H F as)(m:F a=none)(l:a∉as){o:HO}:RlO K mg O (upd H a o) F as:=by
 refine⟨λc u e=>?_,r.fd,r.nd,r.len,r.fa,λn c u d j=>(r.ob n c u d j).keep (bj ?_) (Same.refl F) λ_ _ h=>h⟩
 ·rw[bj (dC e m)];exact r.fh c u e
 ·intro z;subst z;exact l (zS d)
end
section
variable {X:Cx}{md:List Md}{P:Pt}{R:RR}
def iQ(i:Nat)(m:M D):MS:=λρ O=>match m ρ O with
 | .ok d O'=>match ρ[i]? with
  |some (some (.lst ds))=>if ds.length<1000000 then .nx (ρ.set i (some (.lst (ds++[d])))) O' else .no
  | _=>.no
 | .ex x O'=>.ex x O'
 | .no=>.no
theorem VB{i:Nat}{m:M D}{ρ:aB}{O:aq}(K:Frag)(mg:Str->Option Value){D:Ends}{H F:Hp}{as:List Addr}(k:jC K mg md P R D H F as (iQ i m ρ O)):
  ∃d c ds,m ρ O=.ok d c/\ρ[i]?=some (some (.lst ds))/\ds.length<1000000/\jC K mg md P R D H F as (.nx (ρ.set i (some (.lst (ds++[d])))) c):=by
 unfold iQ at k;split at k
 ·rename_i d c e;split at k
  ·rename_i ds j;split at k
   ·rename_i h;exact⟨d,c,ds,e,j,h,k⟩
   ·exact False.elim k
  ·exact False.elim k
 ·exact False.elim k
 ·exact False.elim k
theorem rZ(i:Nat){x:Str}{p apos c u:Pos}{e:Expr}{m:M D}(h:VE X md P e m)(U:md[i]?=some .o:=by rfl)(hN:X.N[i]?=some x:=by rfl)(hv:Vis X.env.scope x:=by first | exact Or.inl rfl | exact Or.inr (Or.inl rfl) | exact Or.inr (Or.inr rfl))
  (hd:(x == ("__debug__":Str))=false:=by decide) (G:(x == ("__classdict__":Str))=false:=by decide)
  (n:attributeBase (.Name x p) "append" X.env (eval (.Name x p) X.env)=eval (.Name x p) X.env:=by rfl)
  (B:((backTo c (starEach [e] X.env)).all (λx=>!x.1)&&(backToKw c (keywordEach [] X.env)).all (λx=>x.1.isSome)&&decide ([e].length+([]:List Keyword).length+(if([]:List Keyword).isEmpty then 0 else 1)<30))=true:=by rfl)
  (l:(apos.endLine == c.line)=true:=by rfl) (T:starEach [e] X.env=(false,eval e X.env)::starEach [] X.env:=by exact dH rfl) (j:(backTo c (starEach [] X.env)).any (·.1)=false:=by exact fY rfl)
  (E:swapsWith (.Call (.Attribute (.Name x p) "append" apos) [e] [] c) none u.line X.env=pure false:=by rfl):
  VS X md P R (.Expr (.Call (.Attribute (.Name x p) "append" apos) [e] [] c) u) (iQ i m):=
 (uB (rH PySem.F.plainAttrs_list PySem.F.slot_list_append PySem.F.type_list_append HW (nM (i:=i) hN hv hd G) (iW h jN T) n B l T j) E).imp λD σ H q=>by
  obtain⟨ρ,O,F,as,r,s,k⟩:=q;obtain⟨d,O',ds,e,Z,hz,k⟩:=VB X.K X.mg k;obtain⟨a,J,h1,h2,h3,h4,Y,W⟩:=s.own U Z;refine⟨_,h1,.inl ⟨rfl,J,.inl (.inl h2)⟩,ρ,O,F,as,d,O',r,s,e,λy H1 F1 I t r1 hy=>?_⟩;have s1:=s.step t
  have hn:H a≠none:=by rw[h2];exact λz=>nomatch z
  have C:=t.fr _ _ h2 h4 rfl
  have Q:F1 a=none:=by rw[t.fz a _ h2 h4 rfl];exact h3
  have L:=t.out h4 hn
  have hn1:H1 a≠none:=by rw[C];exact λz=>nomatch z
  exact⟨a,J,y,rfl,rfl,C,by rw[W.length];exact zJ hz (by decide),k σ _ F1 I (t.toS.trans (Jx C Y)) (r1.mut Q L) (s1.mut U Z h1 Q L Y ((W.gr t).snoc hy))⟩
def VD(K:Frag):V->List V->Hp->VK->Prop:=λx h H Q=>∃l b d c,x=.ref l/\h=[.ref b]/\H l=some (.lst d)/\RdK K H b c/\d.length+c.length<=sizeLine/\Q .non (upd H l (.lst (d++c)))
theorem VF:MtM X "list.extend" (VD X.K):=by
 intro pins s σ H x Y v Z Q I B C h;obtain⟨l,b,W,T,rfl,rfl,y,J,hz,q⟩:=h;cases B;obtain⟨u,rfl,E⟩:=C.one;cases E;obtain⟨z,d,n,r,hl,e⟩:=I.lstM y;obtain⟨U,c,G,t,L⟩:=J.ok I;have O:=t.length
 have m:d.toArray.size+c.toArray.size<=sizeLine:=by rw[zA,zA];omega
 have j:¬(!d.toArray.isEmpty&&Builtin.List.listTooLong (d.toArray.size+c.toArray.size))=true:=by
  rw[HS m,Bool.and_false];exact zm
 refine call_meets F.slot_list_extend ⟨_,e,rfl⟩ F.entry_list_extend (F.args_list_extend_2 _ _)
  (AutoSeq1.list_extend_list_list_0 l d.toArray n b c.toArray G j (by rw[zA];omega) (by omega)) ⟨e,L,?_⟩
 refine⟨.non,_,I.lset (its':=d++c) y e (by simp) (r.append t) ?_,rfl,q⟩;rw[zd];omega
def ju(i:Nat)(m:M D):MS:=λρ O=>match m ρ O with
 | .ok d O'=>match ρ[i]?,bO O' d with
  |some (some (.lst ds)),.lst es=>if ds.length+es.length<=1000000 then .nx (ρ.set i (some (.lst (ds++es)))) O' else .no
  | _,_=>.no
 | .ex x O'=>.ex x O'
 | .no=>.no
theorem VH{i:Nat}{m:M D}{ρ:aB}{O:aq}(K:Frag)(mg:Str->Option Value){D:Ends}{H F:Hp}{as:List Addr}(k:jC K mg md P R D H F as (ju i m ρ O)):
  ∃d c ds es,m ρ O=.ok d c/\ρ[i]?=some (some (.lst ds))/\bO c d=.lst es/\ds.length+es.length<=1000000/\jC K mg md P R D H F as (.nx (ρ.set i (some (.lst (ds++es)))) c):=by
 unfold ju at k;split at k
 ·rename_i d c e;split at k
  ·rename_i ds es l j;split at k
   ·rename_i h;exact⟨d,c,ds,es,e,l,j,h,k⟩
   ·exact False.elim k
  ·exact False.elim k
 ·exact False.elim k
 ·exact False.elim k
theorem Jy(i:Nat){x:Str}{p apos c u:Pos}{e:Expr}{m:M D}(h:SE X md P e m)(Z:md[i]?=some .o:=by rfl)(hN:X.N[i]?=some x:=by rfl)(hv:Vis X.env.scope x:=by first | exact Or.inl rfl | exact Or.inr (Or.inl rfl) | exact Or.inr (Or.inr rfl))
  (hd:(x == ("__debug__":Str))=false:=by decide) (I:(x == ("__classdict__":Str))=false:=by decide)
  (n:attributeBase (.Name x p) "extend" X.env (eval (.Name x p) X.env)=eval (.Name x p) X.env:=by rfl)
  (B:((backTo c (starEach [e] X.env)).all (λx=>!x.1)&&(backToKw c (keywordEach [] X.env)).all (λx=>x.1.isSome)&&decide ([e].length+([]:List Keyword).length+(if([]:List Keyword).isEmpty then 0 else 1)<30))=true:=by rfl)
  (l:(apos.endLine == c.line)=true:=by rfl) (Y:starEach [e] X.env=(false,eval e X.env)::starEach [] X.env:=by exact dH rfl) (j:(backTo c (starEach [] X.env)).any (·.1)=false:=by exact fY rfl)
  (G:swapsWith (.Call (.Attribute (.Name x p) "extend" apos) [e] [] c) none u.line X.env=pure false:=by rfl):
  VS X md P R (.Expr (.Call (.Attribute (.Name x p) "extend" apos) [e] [] c) u) (ju i m):=
 (uB (rH PySem.F.plainAttrs_list PySem.F.slot_list_extend PySem.F.type_list_extend VF (nM (i:=i) hN hv hd I) (iW h jN Y) n B l Y j) G).imp λD σ H q=>by
  obtain⟨ρ,O,F,as,r,s,k⟩:=q;obtain⟨d,O',ds,es,e,e2,e3,hz,k⟩:=VH X.K X.mg k;obtain⟨a,L,h1,h2,h3,h4,h5,h6⟩:=s.own Z e2;refine⟨_,h1,.inl ⟨rfl,L,.inl (.inl h2)⟩,ρ,O,F,as,d,O',r,s,e,λy H1 F1 J t C hy=>?_⟩;have s1:=s.step t
  have hn:H a≠none:=by rw[h2];exact λz=>nomatch z
  have E:=t.fr _ _ h2 h4 rfl
  have U:F1 a=none:=by rw[t.fz a _ h2 h4 rfl];exact h3
  have T:=t.out h4 hn
  have hn1:H1 a≠none:=by rw[E];exact λz=>nomatch z
  have W:=Sv.lk hy C;rw[e3] at W;obtain⟨b,zs,rfl,w1,Q⟩:=W.list C.fh;exact⟨a,b,L,zs,rfl,rfl,E,w1,by rw[h6.length,Q.length];exact jD hz,k σ _ F1 J (t.toS.trans (Jx E h5)) (C.mut U T) (s1.mut Z e2 h1 U T h5 (Rps.append Q (h6.gr t)))⟩
end
def putD(f:Str)(v:D):List (Str×D)->List (Str×D)
 | []=>[(f,v)]
 | (g,x)::r=>if g=f then(g,v)::r else(g,x)::putD f v r
section
variable {K:Frag}{F:Hp}{as:List Addr}
theorem FsR.cons_inv{gs:List (Str×V)}{f:Str}{d:D}{fs:List (Str×D)}(h:FsR K F as gs ((f,d)::fs)):∃v gs',gs=(f,v)::gs'/\Rp K F as v d/\FsR K F as gs' fs:=by
 obtain⟨h1,h2⟩:=h
 cases gs with
 |nil=>cases h1
 |cons g gs' =>
  obtain⟨j,c⟩:=g;simp only[zx,List.cons.injEq] at h1;obtain⟨x,r,e,h3,h4⟩:=h2.un;simp only[zx,List.cons.injEq] at e;obtain⟨rfl,rfl⟩:=e;exact⟨c,gs',by rw[h1.1],h3,⟨h1.2,h4⟩⟩
theorem FsR.nil_inv{gs:List (Str×V)}(h:FsR K F as gs []):gs=[]:=List.map_eq_nil_iff.mp h.nm
theorem FsR.get:∀{fs:List (Str×D)}{gs:List (Str×V)}{f:Str}{d:D},FsR K F as gs fs->fs.lookup f=some d->∃v,gs.lookup f=some v/\Rp K F as v d
 | [],_,_,_,_,e=>by cases e
 | (g,x)::fs,gs,f,d,h,e=>by
  obtain⟨v,gs',rfl,h1,h2⟩:=h.cons_inv;rw[List.lookup_cons] at e ⊢
  cases q:f == g with
  |true =>
   rw[q] at e;cases e;exact⟨v,rfl,h1⟩
  |false =>
   rw[q] at e;exact FsR.get h2 e
theorem FsR.no:∀{fs:List (Str×D)}{gs:List (Str×V)}{f:Str},FsR K F as gs fs->fs.lookup f=none->gs.lookup f=none
 | [],_,_,h,e=>by rw[h.nil_inv];rfl
 | (g,x)::fs,gs,f,h,e=>by
  obtain⟨v,gs',rfl,h1,h2⟩:=h.cons_inv;rw[List.lookup_cons] at e ⊢
  cases q:f == g with
  |true=>rw[q] at e;cases e
  |false =>
   rw[q] at e;exact FsR.no h2 e
theorem FsR.put{f:Str}{v:V}{d:D}(hv:Rp K F as v d):∀{fs:List (Str×D)}{gs:List (Str×V)},FsR K F as gs fs->FsR K F as (fX f v gs) (putD f d fs)
 | [],_,h=>by
  rw[h.nil_inv];exact⟨rfl,Rps.cons hv Rps.nil⟩
 | (g,x)::fs,gs,h=>by
  obtain⟨u,gs',rfl,h1,h2⟩:=h.cons_inv;rw[fX,putD]
  by_cases q:g=f
  ·rw[if_pos q,if_pos q];exact⟨by simp[h2.nm],Rps.cons hv h2.vl⟩
  ·rw[if_neg q,if_neg q];have c:=FsR.put (f:=f) hv h2;exact⟨by simp[c.nm],Rps.cons h1 c.vl⟩
theorem FsR.length{fs:List (Str×D)}{gs:List (Str×V)}(h:FsR K F as gs fs):gs.length=fs.length:=by
 have:=congrArg List.length h.nm
 simpa using this
theorem RlO.set{mg:Str->Option Value}{O:aq}{H:Hp}{n:Nat}{a:Addr}{o:Ob}{u:HO}(r:RlO K mg O H F as)(l:as[n]?=some a)(t:ObR K mg (upd H a u) F as a o):RlO K mg (O.set n o) (upd H a u) F as:=by
 have x:=r.fa a (zS l);refine⟨λc w e=>?_,r.fd,r.nd,by rw[jh];exact r.len,r.fa,λk c w j d=>?_⟩
 ·rw[bj (dC e x)];exact r.fh c w e
 ·by_cases h:n=k
  ·subst h;rw[l] at j;cases j;rw[zR (by rw[<-r.len];exact(zj.mp l).1)] at d;cases d;exact t
  ·rw[zf h] at d
   refine(r.ob k c w j d).keep (bj ?_) (Same.refl F) λ_ _ h=>h
   intro z;subst z;obtain⟨B,q⟩:=zj.mp l;obtain⟨y,m⟩:=zj.mp j;exact h ((List.getElem_inj r.nd).mp (q.trans m.symm))
end
def KC(K:Frag)(mg:Str->Option Value)(c f:Str):Prop:=∃C,mg c=some (.ref C)/\Cls K C/\nQ K C f
section
variable {X:Cx}{md:List Md}{P:Pt}{R:RR}
def cJ(j:List Str)(f:Str)(m:M D):M D:=λρ O=>(m ρ O).bind λd h=>match d with
 | .ob n=>match h[n]? with
  |some (.ins c fs)=>if c∈j then match fs.lookup f with
   |some y=>.ok y h
   |none=>.no else .no
  | _=>.no
 | _=>.no
theorem gb{B:List Str}{f:Str}{o:Expr}{j:Pos}{m:M D}(G:∀c∈B,KC X.K X.mg c f)(h:VE X md P o m)(hb:attributeBase o f X.env (eval o X.env)=eval o X.env:=by rfl):VE X md P (.Attribute o f j) (cJ B f m):=(RN h hb).imp λσ H Q q=>by
 obtain⟨ρ,O,F,as,d,O',r,s,e,k⟩:=q;obtain⟨x,O1,e1,e⟩:=Res.bind_ok e
 cases x with
 |ob n =>
  dsimp only at e;split at e
  ·rename_i c fs Z;split at e
   ·rename_i l;split at e
    ·rename_i y Y;cases e;refine⟨ρ,_,F,as,_,_,r,s,e1,λv H1 F1 t W u E=>?_⟩;obtain⟨a,rfl,I⟩:=Rp.unO E;obtain⟨C,dx,gs,h1,h2,h3⟩:=u.ob n a _ I Z;obtain⟨C',h4,U,T⟩:=G c l;rw[h1] at h4;cases h4;obtain⟨w,L,J⟩:=h3.get Y;exact⟨a,C,dx,gs,w,rfl,h2,U,T,L,k w H1 F1 t W u J⟩
    ·cases e
   ·cases e
  ·cases e
 | _=>cases e
def d7(j:List Str)(f:Str)(mo h:M D):MS:=λρ O=>match h ρ O with
 | .ok d O1=>match mo ρ O1 with
  | .ok (.ob n) O2=>match O2[n]? with
   |some (.ins c fs)=>if c∈j/\fs.length<900 then .nx ρ (O2.set n (.ins c (putD f d fs))) else .no
   | _=>.no
  | _=>.no
 | .ex x O'=>.ex x O'
 | .no=>.no
theorem fK{W:List Str}{f:Str}{o value:Expr}{l pos':Pos}{mo L:M D}(hc:∀c∈W,KC X.K X.mg c f)(ho:VE X md P o mo)(hv:VE X md P value L)(hs:swapsWith value (some (.Attribute o f pos')) l.line X.env=pure false:=by rfl):VS X md P R (.Assign [.Attribute o f pos'] value l) (d7 W f mo L):=(RP ho hv hs).imp λD σ H q=>by
 obtain⟨ρ,O,F,as,r,s,k⟩:=q;unfold d7 at k;split at k
 ·rename_i d Y e1;split at k
  ·rename_i n O2 e2;split at k
   ·rename_i c fs eo;split at k
    ·rename_i G;refine⟨ρ,O,F,as,d,Y,r,s,e1,λy H1 F1 I U Z hy=>?_⟩;refine⟨ρ,Y,F1,I,.ob n,O2,Z,s.step U,e2,λz B E j T J hz=>?_⟩;have g:=U.trans T;obtain⟨a,rfl,t⟩:=Rp.unO hz;obtain⟨C,x,gs,h1,h2,h3⟩:=J.ob n a _ t eo;obtain⟨C',h4,h5,h6⟩:=hc c G.1;rw[h1] at h4;cases h4;have m:=zS t
     have hn:B a≠none:=by rw[h2];exact λz=>nomatch z
     have Q:Gr B E j (upd B a (.ins C x (fX f y gs))) E j:=⟨λ_ _ _ _ _=>rfl,Same.refl _,⟨[],by simp,λ_ h=>nomatch h⟩,λb u e hb _=>by rw[bj (λz=>hb (by rw[z];exact m))];exact e,λb e=>by
      by_cases h:b=a
      ·subst h;rw[dG] at e;cases e
      ·rwa [bj h] at e,λb o' u e=>by rw[bj (λz=>by rw[z,h2] at e;cases e)];exact e⟩
     refine⟨a,C,x,gs,rfl,h2,h5,h6,by rw[h3.length];omega,?_⟩;exact k σ _ E j (g.trans Q).toS (J.set t ⟨C,x,_,h1,dG,h3.put (Rp.gr hy T)⟩) ((s.step g).step Q)
    ·exact False.elim k
   ·exact False.elim k
  ·exact False.elim k
 ·exact False.elim k
 ·exact False.elim k
end
section
variable {Pr:Program}{w:World}{K:Frag}{mg:Str->Option Value}{base:Heap}
theorem Jz{x qual:Str}{st:Stmt}{f:Addr}{fd:FuncData}{N ps:List Str}{k:Nat}(Z:Fun K x qual st f fd)(S:bU N ps (aZ st))
  (pm G:List Md) {R:RR}{b:MS} (X:iY R) (C:∀N H F as,R N H F as .non .non) (B:pm.length=ps.length) (U:(pm++G).length=N.length) (T:∀m∈pm,m≠.o)
  (body:∀(j:Value) (A:Around) (outer:List Env) (s:Shared) (H:Hp) (E:XK),bJ k (A.deeper (envOfC qual (aZ st) s.heap.objs.size f j))->∀P,VSs ((jO CX0 Pr w K mg base N qual (aZ st) f j A outer s H E).nox) (pm++G) P R (gq st) b):
  eU Pr w K mg base CX0 (k+1) f fd ps (vSp K mg pm R (bV N.length b)):=by
 refine Z.ok S (λI H Q E h=>?_) (λj A outer s H I Q E L h=>?_)
 ·obtain⟨t,O,F,as,d,Y,r,a,_⟩:=h;rw[a.len.1,B]
 ·obtain⟨t,O,F,as,d,Y,r,a,e,q⟩:=h;refine⟨_,body j A outer s H E L (Pt.all H),?_⟩;refine⟨_,O,F,as,r,Jb a U T,?_⟩;unfold bV at e
  cases eb:b (t.map some++List.replicate (N.length - t.length) none) O with
  |rt d' O2 =>
   rw[eb] at e;cases e
   exact λv u y l g n J=>q v u y l g.gr n (X _ _ _ _ _ _ _ (λc W=>Classical.not_not.mp W) J)
  |nx ρ O2 =>
   rw[eb] at e;cases e
   exact λσ' u y l g n _=>q _ u y l g.gr n (C _ _ _ _)
  |bk _ _=>rw[eb] at e;cases e
  |ct _ _=>rw[eb] at e;cases e
  |ex _ _=>rw[eb] at e;cases e
  |no=>rw[eb] at e;cases e
def jw(K:Frag)(mg:Str->Option Value)(c m qual:Str)(st:Stmt):Prop:=∃C f fd,mg c=some (.ref C)/\Cls K C/\rz K C m f/\Fun K m qual st f fd
def gP(P:Program)(w:World)(K:Frag)(mg:Str->Option Value)(base:Heap)(c m:Str)(ps:List Str)(k:Nat)(sp:Sp):Prop :=
 ∃C f fd,mg c=some (.ref C)/\Cls K C/\rz K C m f/\Binds K fd ps []/\eU P w K mg base CX0 k f fd ps sp
def sr(P:Program)(w:World)(K:Frag)(mg:Str->Option Value)(base:Heap)(c:Str)(ps:List Str)(k:Nat)(sp:Sp):Prop :=
 ∃C f fd,mg c=some (.ref C)/\Mk K C f/\Binds K fd ps []/\eU P w K mg base CX0 k f fd ps sp
def uY(K:Frag)(mg:Str->Option Value)(c qual:Str)(st:Stmt):Prop:=∃C f fd,mg c=some (.ref C)/\Mk K C f/\Fun K "__init__" qual st f fd
theorem jQ{c x qual:Str}{st:Stmt}{N ps:List Str}{k:Nat}(y:jw K mg c x qual st)(S:bU N ps (aZ st))
  (hb:∀(kV n pm:Value) (u:Option Addr) (d ct:Value) (us:List Value),us.length=ps.length->bindArgs (PySem.W.fnOf x qual (jB st) (gq st) (aZ st) .none kV n pm u d ct) ⟨us,[]⟩=pure (ps.zip us))
  (pm h:List Md) {R:RR}{b:MS} (t:iY R) (l:∀N H F as,R N H F as .non .non) (j:pm.length=ps.length:=by rfl) (r:(pm++h).length=N.length:=by rfl) (q:∀m∈pm,m≠.o:=by decide)
  (body:∀(f:Addr) (d:Value) (A:Around) (outer:List Env) (s:Shared) (H:Hp) (E:XK),bJ k (A.deeper (envOfC qual (aZ st) s.heap.objs.size f d))->∀P,VSs ((jO CX0 Pr w K mg base N qual (aZ st) f d A outer s H E).nox) (pm++h) P R (gq st) b):
  gP Pr w K mg base c x ps (k+1) (vSp K mg pm R (bV N.length b)):=by
 obtain⟨C,f,fd,h1,h2,h3,h4⟩:=y;exact⟨C,f,fd,h1,h2,h3,h4.binds hb,Jz h4 S pm h t l j r q (body f)⟩
theorem JB{c qual:Str}{st:Stmt}{N ps:List Str}{k:Nat}(x:uY K mg c qual st)(S:bU N ps (aZ st))
  (hb:∀(kV n pm:Value) (u:Option Addr) (d ct:Value) (us:List Value),us.length=ps.length->bindArgs (PySem.W.fnOf "__init__" qual (jB st) (gq st) (aZ st) .none kV n pm u d ct) ⟨us,[]⟩=pure (ps.zip us))
  (pm h:List Md) {R:RR}{b:MS} (t:iY R) (l:∀N H F as,R N H F as .non .non) (j:pm.length=ps.length:=by rfl) (r:(pm++h).length=N.length:=by rfl) (q:∀m∈pm,m≠.o:=by decide)
  (body:∀(f:Addr) (d:Value) (A:Around) (outer:List Env) (s:Shared) (H:Hp) (E:XK),bJ k (A.deeper (envOfC qual (aZ st) s.heap.objs.size f d))->∀P,VSs ((jO CX0 Pr w K mg base N qual (aZ st) f d A outer s H E).nox) (pm++h) P R (gq st) b):
  sr Pr w K mg base c ps (k+1) (vSp K mg pm R (bV N.length b)):=by
 obtain⟨C,f,fd,h1,h2,h4⟩:=x;exact⟨C,f,fd,h1,h2,h4.binds hb,Jz h4 S pm h t l j r q (body f)⟩
end
section
variable {X:Cx}{md:List Md}{P:Pt}{R:RR}{k:Nat}{c m:Str}{ps:List Str}{p pos apos:Pos}{o e:Expr}{es:List Expr}{pm:List Md}{cf:List D->aq->Res D}{mo:M D}{ma:M (List D)}
def bN(c m:Str)(cf:List D->aq->Res D)(mo:M D)(ma:M (List D)):M D:=λρ O=>(mo ρ O).bind λd h=>match d with
 | .ob n=>match h[n]? with
  |some (.ins c' fs)=>if c'=c/\(fs.lookup m).isNone=true then(ma ρ h).bind λj l=>cf (.ob n::j) l else .no
  | _=>.no
 | _=>.no
theorem JC{K:Frag}{mg:Str->Option Value}{C:Addr}(hR:iY R)(hC:mg c=some (.ref C)){E:XK}{σ:St}{H:Hp}{Q:VK}(q:tM K mg md P R (bN c m cf mo ma) σ H Q):
  xE C m (vSp K mg (.v::pm) R cf) [] E (tM K mg md P (rV K) mo) (tMA K mg md P pm ma) σ H Q:=by
 obtain⟨ρ,O,F,as,d,O',r,s,e,k⟩:=q;obtain⟨x,T,e1,e⟩:=Res.bind_ok e
 cases x with
 |ob n =>
  dsimp only at e;split at e
  ·rename_i c' fs eo;split at e
   ·rename_i I;obtain⟨J,L,e2,e⟩:=Res.bind_ok e;refine⟨ρ,O,F,as,.ob n,T,r,s,e1,λv H1 F1 u j B G=>?_⟩;obtain⟨a,rfl,ha⟩:=Rp.unO G;obtain⟨C',dx,gs,h1,h2,h3⟩:=B.ob n a _ ha eo;rw[I.1,hC] at h1;cases h1;refine⟨a,dx,gs,rfl,h2,h3.no (Option.isNone_iff_eq_none.mp I.2),?_⟩;refine⟨ρ,T,F1,u,J,L,B,s.step j,e2,λvs H2 F2 t h W l=>?_⟩;dsimp only;rw[zB];exact⟨.ob n::J,L,F2,t,d,O',W,⟨Rp.gr G h,l⟩,e,λU H' F' y g' Y Z=>k U H' F' y ((j.trans h).trans g') Y (hR _ _ _ _ _ _ _ (λb hb=>(j.trans h).dm b hb) Z)⟩
   ·cases e
  ·cases e
 | _=>cases e
theorem VJ{pl:Sem Bool}(t:iY R)(M:gP X.prog X.w X.K X.mg X.base c m ps k (vSp X.K X.mg (.v::pm) R cf))(l:bJ k X.A)(n:VE X md P o mo)(r:AE X md P pm (e::es) ma)
  (d:starEach (e::es) X.env=(false,eval e X.env)::starEach es X.env:=by exact dH rfl) (h:(backTo pos (starEach es X.env)).any (·.1)=false:=by exact fY rfl)
  (j:eval (.Call (.Attribute o m apos) (e::es) [] pos) X.env=(do
   let ov <-eval o X.env
   standAt apos.atName
   let (f,first) <-holding [ov] (getMethod ov m pl)
   callWith pos f first (backTo pos (starEach (e::es) X.env)) (backToKw pos (keywordEach [] X.env))):=by rfl):
  PE X (.Call (.Attribute o m apos) (e::es) [] pos) (tM X.K X.mg md P R (bN c m cf mo ma)):=by
 obtain⟨C,f,fd,h1,h2,h3,h4,u⟩:=M
 exact(R4 (pl:=pl) (E:=E0) (ds:=[]) (dvs:=[]) n h2 h3 u l h4 .nil pD r d h j).imp λ_ _ _ q=>JC t h1 q
theorem JD{pl:Sem Bool}(J:iY R)(M:gP X.prog X.w X.K X.mg X.base c m ps k (vSp X.K X.mg [.v] R cf))(G:bJ k X.A)(I:VE X md P o mo)
  (B:eval (.Call (.Attribute o m apos) [] [] pos) X.env=(do
   let ov <-eval o X.env
   standAt apos.atName
   let (f,first) <-holding [ov] (getMethod ov m pl)
   callWith pos f first (backTo pos (starEach [] X.env)) (backToKw pos (keywordEach [] X.env))):=by rfl):
  PE X (.Call (.Attribute o m apos) [] [] pos) (tM X.K X.mg md P R (bN c m cf mo au)):=by
 obtain⟨C,f,fd,h1,h2,h3,h4,L⟩:=M
 refine(R5 (pl:=pl) (E:=E0) (ds:=[]) (dvs:=[]) I h2 h3 L G h4 .nil pD B).imp λσ H Q q=>?_
 obtain⟨ρ,O,F,as,d,O',r,s,e,k⟩:=JC (pm:=[]) (E:=E0) J h1 q;refine⟨ρ,O,F,as,d,O',r,s,e,λv l F' j g u y=>?_⟩;obtain⟨a,Z,fs,Y,W,U,t⟩:=k v l F' j g u y;refine⟨a,Z,fs,Y,W,U,?_⟩;obtain⟨ρ1,O1,F1,h,ds1,O2,n,s1,T,x⟩:=t;cases T;exact x [] l F1 h Gr.refl n trivial
def jR(c:Str)(cf:List D->aq->Res D)(ma:M (List D)):M D:=λρ O=>(ma ρ O).bind λh d=>match cf (.ob d.length::h) (d++[.ins c []]) with
 | .ok .non O2=>.ok (.ob d.length) O2
 | .ok _ _=>.no
 | .ex x O2=>.ex x O2
 | .no=>.no
theorem JF{K:Frag}{mg:Str->Option Value}{C:Addr}(hC:mg c=some (.ref C)){E:XK}{σ:St}{H:Hp}{Q:VK}(q:tM K mg md P (rV K) (jR c cf ma) σ H Q):
  xF C (vSp K mg (.v::pm) (rV K) cf) [] E (tMA K mg md P pm ma) σ H Q:=by
 obtain⟨ρ,O,F,as,d,O',r,s,e,k⟩:=q;obtain⟨ds,I,e1,e⟩:=Res.bind_ok e;split at e
 ·rename_i O2 ec;cases e;refine⟨ρ,O,F,as,ds,I,r,s,e1,λvs B u j g1 G Z=>?_⟩;intro x l W U hne;rw[zB]
  have L:upd B l (.own x) x=none:=by rw[bj hne.symm];exact W
  have gA:Gr B u j (upd B l (.own x)) u j:=Gr.lay U;have gB:Gr (upd B l (.own x)) u j (upd (upd B l (.own x)) x (.ins C l [])) u j:=Gr.lay L;have gC:Gr (upd (upd B l (.own x)) x (.ins C l [])) u j (upd (upd B l (.own x)) x (.ins C l [])) u j:=Gr.refl;have y:=gA.trans gB;have g2:Gr B u j (upd (upd B l (.own x)) x (.ins C l [])) u (j++[x]):=⟨y.fz,y.ff,⟨[x],rfl,λa t=>by rw[zl.mp t];exact W⟩,λa o e t hd=>y.fr a o e t hd,y.dm,y.kz⟩
  have nx:x∉j:=λz=>G.all z W
  have Y:=(G.lay (o:=.own x) U).lay (o:=.ins C l []) L
  have at_:∀(n:Nat) (a:Addr),j[n]?=some a->(j++[x])[n]?=some a:=λn a h=>by
   rw[zC (zj.mp h).1];exact h
  have r2:RlO K mg (I++[.ins c []]) (upd (upd B l (.own x)) x (.ins C l [])) u (j++[x]):=by
   refine⟨Y.fh,Y.fd,?_,by simp[G.len],λa t=>?_,λn a o t J=>?_⟩
   ·rw[List.nodup_append];refine⟨G.nd,by simp,λa t b hb=>?_⟩;rw[zl.mp hb];intro z;subst z;exact nx t
   ·rcases zu.mp t with z | z
    ·exact G.fa a z
    ·rw[zl.mp z];exact G.frF W
   ·by_cases hn:n<I.length
    ·rw[zC (by rw[G.len];exact hn)] at t;rw[zC hn] at J;exact(Y.ob n a o t J).keep rfl (Same.refl _) at_
    ·have hn':n=I.length:=by
      have:=(zj.mp J).1
      simp at this
      omega
     subst hn';rw[zv (zc _),Nat.sub_self] at J;rw[<-G.len,zv (zc _),Nat.sub_self] at t;cases J;cases t;exact⟨C,l,[],hC,dG,⟨rfl,Rps.nil⟩⟩
  have T:Rp K u (j++[x]) (.ref x) (.ob I.length):=Rp.mkO (by rw[<-G.len,zv (zc _),Nat.sub_self];rfl);refine⟨.ob I.length::ds,_,u,j++[x],.non,_,r2,⟨T,Z.gr g2⟩,ec,λv H3 F3 as3 g3 r3 hv=>?_⟩;exact⟨Rp.unN hv,k _ H3 F3 as3 ((g1.trans g2).trans g3) r3 (Rp.gr T g3)⟩
 ·cases e
 ·cases e
 ·cases e
theorem JG(M:sr X.prog X.w X.K X.mg X.base c ps k (vSp X.K X.mg (.v::pm) (rV X.K) cf))(j:bJ (k+1) X.A)(r:AE X md P pm (e::es) ma)(l:Gl X c:=by rfl)(h:(c == ("__debug__":Str))=false:=by decide)
  (n:starEach (e::es) X.env=(false,eval e X.env)::starEach es X.env:=by exact dH rfl) (d:(backTo pos (starEach es X.env)).any (·.1)=false:=by exact fY rfl):VE X md P (.Call (.Name c p) (e::es) [] pos) (jR c cf ma):=by
 obtain⟨C,f,fd,h1,h3,h4,t⟩:=M
 exact(R6 (E:=E0) (ds:=[]) (dvs:=[]) h3 t j l h1 h4 .nil pD r h n d).imp λ_ _ _ q=>JF h1 q
theorem JH(M:sr X.prog X.w X.K X.mg X.base c ps k (vSp X.K X.mg [.v] (rV X.K) cf))(h:bJ (k+1) X.A)(j:Gl X c:=by rfl)(d:(c == ("__debug__":Str))=false:=by decide):VE X md P (.Call (.Name c p) [] [] pos) (jR c cf au):=by
 obtain⟨C,f,fd,h1,h3,h4,l⟩:=M
 refine(R7 (E:=E0) (ds:=[]) (dvs:=[]) h3 l h j h1 h4 .nil pD d).imp λσ H Q q=>?_
 obtain⟨ρ,O,F,n,ds,t,r,s,e,k⟩:=JF (pm:=[]) (E:=E0) h1 q;cases e;exact k [] H F n Gr.refl r trivial
end
section
variable {X:Cx}{md:List Md}{P:Pt}{R:RR}
def ou:D->Option (List D)
 | .lst ds=>some ds
 | .tup ds=>some ds
 | .str l=>if ascii l=true then some (dD l) else none
 | _=>none
def d8(m:M D):M (List D):=λρ O=>(m ρ O).bind λd h=>match ou d with
 |some c=>.ok c h
 |none=>.no
theorem yx{e:Expr}{m:M D}(h:WE X md P e m):SE X md P e m:=h.imp λσ H Q q=>by
 obtain⟨ρ,O,F,E,d,G,r,s,e,k⟩:=q;refine⟨ρ,O,F,E,d,G,r,s,e,λv I J j g n c=>k v I J j g n ?_⟩
 rcases c with c | ⟨a,l,C,B,y,x,u,L,t⟩
 ·exact .inl c
 ·exact .inr ⟨a,l,C,B,y,x,u,t⟩
theorem pU{u e:Expr}{m:M D}(h:WE X md P e m):VI X md P u e (d8 m):=λpins s σ H Q I q=>by
 obtain⟨ρ,O,F,n,y,C,r,sl,e,k⟩:=q;obtain⟨d,B,j,e⟩:=Res.bind_ok e
 cases d with
 |lst t =>
  cases e;exact Jq h pins s σ H Q I ⟨ρ,O,F,n,_,_,r,sl,by unfold pQ;rw[j];rfl,k⟩
 |tup t =>
  cases e;exact Jr (eE (yx h)) pins s σ H Q I ⟨ρ,O,F,n,_,_,r,sl,by unfold yt mG;rw[j];rfl,k⟩
 |str l =>
  simp only[ou] at e;split at e
  ·rename_i t c;split at c
   ·rename_i x;cases c;cases e;refine Jt (yx h) pins s σ H Q I ⟨ρ,O,F,n,dD l,_,r,sl,?_,k⟩;unfold yu;rw[j];show(if ascii l=true then _ else _)=_;rw[if_pos x]
   ·cases c
  ·cases e
 | _=>cases e
theorem VL{I e:Expr}{m:M D}(h:SE X md P e m):VIc X md P I e (pQ m):=(xg h).imp λσ H Q q=>by
 obtain⟨ρ,O,F,as,ds,O',r,s,e,k⟩:=q;obtain⟨d,Z,W,e⟩:=Res.bind_ok e
 cases d with
 |lst es =>
  cases e;refine⟨ρ,_,F,as,_,_,r,s,W,λv E u t J G C=>?_⟩
  obtain⟨a,j,rfl,h1,h2⟩:∃a j,v=.ref a/\Rps X.K u t j ds/\∀(l n:Hp) (c:List Addr),Gr E u t l n c->(∃O,RlO X.K X.mg O l n c)->RdK X.K l a j:=by
   rcases C with C | ⟨a,j,Y,rfl,e,U,T,L⟩
   ·obtain⟨a,j,rfl,h1,h2⟩:=C.unL;exact⟨a,j,rfl,h2,λl n c g ⟨O,r⟩=>(h1.mono g.ff).mono r.fh⟩
   ·cases e;exact⟨a,j,rfl,L,λl n c g _=>.inl (.inl (g.fr _ _ U T rfl))⟩
  refine⟨a,rfl,⟨j,(h2 E u t Gr.refl ⟨_,G⟩).sq⟩,k _ E u t J G ⟨λi d l n c g r e=>?_,λl n c g r=>⟨j,(h2 l n c g r).sq,by rw[h1.length];exact zc _⟩⟩⟩;obtain⟨x,h3,h4⟩:=h1.get' e;have q:=h2 l n c g r;refine⟨⟨j,x,q.sq,h3⟩,λy H3 B=>?_⟩;obtain⟨rfl,B⟩:=B
  have:=B j q.sq
  rw[h3] at this;cases this;exact⟨n,Gr.refl,λ_ r=>r,h4.gr g⟩
 | _=>cases e
theorem yz{u e:Expr}{m:M D}(h:SE X md P e m):VIc X md P u e (d8 m):=λpins s σ H Q I q=>by
 obtain⟨ρ,O,F,n,y,C,r,sl,e,k⟩:=q;obtain⟨d,B,j,e⟩:=Res.bind_ok e
 cases d with
 |lst t =>
  cases e;exact VL h pins s σ H Q I ⟨ρ,O,F,n,_,_,r,sl,by unfold pQ;rw[j];rfl,k⟩
 |tup t =>
  cases e;exact uN (Jr (eE h)) pins s σ H Q I ⟨ρ,O,F,n,_,_,r,sl,by unfold yt mG;rw[j];rfl,k⟩
 |str l =>
  simp only[ou] at e;split at e
  ·rename_i t c;split at c
   ·rename_i x;cases c;cases e;refine uN (Jt h) pins s σ H Q I ⟨ρ,O,F,n,dD l,_,r,sl,?_,k⟩;unfold yu;rw[j];show(if ascii l=true then _ else _)=_;rw[if_pos x]
   ·cases c
  ·cases e
 | _=>cases e
def uZ(m:M D):M (List D):=λρ O=>(m ρ O).bind λd c=>match d with
 | .lst ds=>.ok (fG 0 ds) c
 | .str l=>if ascii l=true then .ok (fG 0 (dD l)) c else .no
 | _=>.no
variable {elts:List Expr}{x1:Nat}{tpos:Pos}
theorem JK{a:Expr}{p j:Pos}{m:M D}(t:X.mg "enumerate" = none)(h:WE X md P a m)(u:Gl X "enumerate":=by rfl)(n:starEach [a] X.env=[(false,eval a X.env)]:=by exact pH rfl)(c:starEach [a] X.env=(false,eval a X.env)::starEach [] X.env:=by exact dH rfl):
  VI X md P (.Tuple elts x1 tpos) (.Call (.Name "enumerate" p) [a] [] j) (uZ m):=λpins s σ H Q I q=>by
 obtain⟨ρ,O,F,y,B,C,r,sl,e,k⟩:=q;obtain⟨d,E,x,e⟩:=Res.bind_ok e
 cases d with
 |lst es =>
  cases e;exact Vx t h u n c pins s σ H Q I ⟨ρ,O,F,y,_,_,r,sl,by unfold Ju;rw[x];rfl,k⟩
 |str l=>exact Vy t (yx h) u n c pins s σ H Q I ⟨ρ,O,F,y,B,C,r,sl,by unfold Jv;rw[x];exact e,k⟩
 | _=>cases e
end
theorem VM{P:Program}{w:World}{K:PySem.W.Frag}{mg Q:Str->Option Value}{CX:CXT}{k:Nat}{fa a:Addr}{fd:FuncData}{x:Str}{sp:Sp}{c:Shared}{vs:List Value}{ns:List Int}
  (KX:K.In c.heap) (E:c.heap.Ns mainGlobals mg) (hb:c.heap.Ns builtinsNs Q) (U:∀x:Str,x≠"__name__"->Q x=bootBuiltins x) (L:c.heap.NoLimit) (hg:c.gens = #[])
  (O:c.heap.get? a=some {cls:=.type "list",data:=.seq vs.toArray}) (hi:IntsAre vs ns) (Z:ns.length<=sizeLine) (hr:bJ k callerA)
  (F:∀base:Heap,K.In base->base.Ns mainGlobals mg->eU P w K mg base CX k fa fd [x] sp) (y:∀(s:Shared) (u:Value),BindsTo s fd ⟨[u],[]⟩ [(x,u)])
  (T:∀H:Hp,nR H->RdK K H a (ns.map V.int)->sp [.ref a] H (λv _=>v=.bl true) λ_ _ _=>False)
  (X:∀H e l,CX [] H c (λ_ _ _=>False) e l->False):
  codeAny (model P w) callerA (.call (.ref fa) ⟨[.ref a],[]⟩) (λr l=>r=.ok (.ret (.bool true))/\OldK c.heap l.heap/\l.os=c.os/\AllBare l.gens) c:=by
 have Y:=xN hi;have I:=hi.length;have core:∀H:Hp,nR H->RdK K H a (ns.map V.int)->HOk P w H c.heap->(∀b,H b≠none->b=a)->(H a≠none->K.lookup a=none) ->
   codeAny (model P w) callerA (.call (.ref fa) ⟨[.ref a],[]⟩) (λr l=>r=.ok (.ret (.bool true))/\OldK c.heap l.heap/\l.os=c.os/\AllBare l.gens) c:=by
  intro H hO hS hok hA hK
  have j:∀{b:Addr}{o:Obj},c.heap.get? b=some o->H b=none->(iI c.heap H).get? b=some o:=λe n=>G3 e n
  have R:∀{b:Addr}{o:Obj}{B:Array DictEntry}{C:Nat},c.heap.get? b=some o->o.data=.dict B C->H b=none:=λ{b o B C} e d=>by
   cases q:H b with
   |none=>rfl
   |some u =>
    have e':b=a:=hA b (by rw[q];simp);subst e';rw[O] at e;cases e;have d':Data.seq vs.toArray _=Data.dict B C:=d;cases d'
  have t:∀{b:Addr}{m:Str->Option Value},c.heap.Ns b m->(iI c.heap H).Ns b m:=λ{b m} ⟨o,B,C,e,d,r⟩=>⟨o,B,C,j e (R e d),d,r⟩
  have G:K.In (iI c.heap H):=λb o e=>j (KX b o e) (by
   cases q:H b with
   |none=>rfl
   |some u =>
    have e':b=a:=hA b (by rw[q];simp);subst e'
    rw[hK (by rw[q];simp)] at e;cases e)
  have hM:Mod K mg (iI c.heap H):=⟨G,t E,⟨Q,t hb,U⟩,let ⟨mc,h1,h2⟩:=L;⟨mc,t h1,h2⟩⟩;have e0:kJ P w K mg (iI c.heap H) callerA [] c H:=⟨rfl,hM,λb o e=>G4 e,Nat.le_of_eq (GZ _ _),trivial,λb hb=>absurd (show b∈([]:List Addr) from hb) (by simp),hok,.of_eq hg⟩
  refine codeAny_mono ((F _ G (t E)).run callerA [] c H ⟨[.ref a],[]⟩ [.ref a] [.ref a] _ _ hr e0 (y c (.ref a)) (.cons rfl .nil) (T H hO hS)) λr l h=>?_
  cases r with
  |error e=>exact(X H e l h).elim
  |ok fl =>
   cases fl with
   |next=>exact False.elim h
   |brk=>exact False.elim h
   |cont=>exact False.elim h
   |ret u =>
    obtain⟨v,H',os,bare,un,J,r',q⟩:=h;have q':v=.bl true:=q;subst q';obtain rfl:u=Value.bool true:=r';refine⟨rfl,OldK.of_keep λb o e=>?_,os,bare⟩
    cases q:H b with
    |none=>exact un.keep b o e q (by intro z;exact absurd (show b∈([]:List Addr) from z) (by simp)) (by simp)
    |some u =>
     rcases hO b with z | ⟨ob,xs,z⟩
     ·rw[q] at z;cases z
     ·have z2:=un.frzs b ob _ z;obtain⟨e1,_⟩:=hok b _ z;obtain⟨e2,_⟩:=J b _ z2;rw[e] at e1;cases e1;exact e2
 cases hk:K.lookup a with
 |some o =>
  have e:=KX a o hk;rw[O] at e;cases e
  refine core (λ_=>none) (λ_=>.inl rfl) (.inr ⟨vs,_,hk,by rw[I];exact Z,Y⟩) (λb u z=>by have z':(none:Option HO)=some u:=z;cases z') (λb z=>absurd rfl z) λz=>absurd rfl z
 |none =>
  refine core (λb=>if b=a then some (.frz {cls:=.type "list",data:=.seq vs.toArray} (.lst (ns.map V.int))) else none) (λb=>?_) (.inl (.inr ⟨{cls:=.type "list",data:=.seq vs.toArray},if_pos rfl⟩)) (λb u z=>?_) (λb z=>?_) λ_=>hk
  ·by_cases hb:b=a
   ·exact .inr ⟨_,_,if_pos hb⟩
   ·exact .inl (if_neg hb)
  ·by_cases hb:b=a
   ·have z':=(if_pos hb).symm.trans z;cases z';subst hb;exact⟨O,by rw[ze];exact Z,vs,_,Y,O⟩
   ·have z':=(if_neg hb).symm.trans z;cases z'
  ·by_cases hb:b=a
   ·exact hb
   ·exact absurd (if_neg hb) z
theorem walk_ofR{l:PySem.W.OpenLaw}{n k:Nat}{q:Program}{loose:List Str}{XP:(Str->Option Value)->Heap->Prop}{YP:World->Heap->Prop}{d:DefRec}{K:Params->PySem.W.Frag}{CX:World->CXT}{sp:World->Sp}{x:Str}
  (hn:l.most=some n) (hn2:n<=sizeLine) (hdf:d.params.defaults=[]) (hr:bJ k callerA)
  (hY:∀(w:World) (h:Heap),YP w h->(K w.params).In h)
  (F:∀(w:World) (mg:Str->Option Value) (fa:Addr) (h:Heap),(K w.params).In h->h.Ns mainGlobals mg->mg d.name=some (.ref fa) ->
   ∃fd:FuncData,(∀(s:Shared) (u:Value),BindsTo s fd ⟨[u],[]⟩ [(x,u)]) /\
    ∀base:Heap,(K w.params).In base->base.Ns mainGlobals mg->eU l.prog w (K w.params) mg base (CX w) k fa fd [x] (sp w))
  (hsp:∀(w:World) (H:Hp) (a:Addr) (ns:List Int),ns.length<=n->nR H->RdK (K w.params) H a (ns.map V.int)->sp w [.ref a] H (λv _=>v=.bl true) λ_ _ _=>False)
  (hCX:∀(w:World) (H:Hp) (s:Shared) (e:Value) (s':Shared),CX w [] H s (λ_ _ _=>False) e s'->False):
  PySem.W.WalkO q loose XP YP l.row.toRowW d [] (λf vs=>PySem.call f vs):=by
 refine Att.attach_call hn hdf λw s₀ s₁ mg mb fa o pm cd doc a vs ns G Y ho hd hcd hmg hobj hints hlen hg=>?_
 have KX:=hY w _ Y;obtain⟨fd,hb,hF⟩:=F w mg fa _ KX G.T.g hmg
 exact VM KX G.T.g G.T.b G.T.builtins G.T.nolimit hg hobj hints (zK hlen hn2) hr hF hb (λH hO hS=>hsp w H a ns hlen hO hS) λH e s'=>hCX w H s₁ e s'
theorem cD{K:Frag}{mg:Str->Option Value}{f:Str}:∀c∈([]:List Str),KC K mg c f:=λ_ h=>nomatch h
theorem cF{K:Frag}{mg:Str->Option Value}{f c:Str}{l:List Str}(h:KC K mg c f)(m:∀c∈l,KC K mg c f):∀j∈c::l,KC K mg j f:=λj d=>by
 rcases zh.mp d with rfl | d
 ·exact h
 ·exact m j d
def wF:Nat:=1000000
def sp_law(K:Frag):Sp:=λvs H Q _=>∃(a:Addr) (ns:List Int),vs=[.ref a]/\RdK K H a (ns.map V.int)/\ns.length<=63/\nR H/\∀c,Q (.bl true) c
theorem Rps.ofInts{K:Frag}{F:Hp}{as:List Addr}:∀ns:List Int,Rps K F as (ns.map V.int) (ns.map D.int)
 | []=>Rps.nil
 |n::ns=>Rps.cons Rp.int (Rps.ofInts ns)
theorem VN{K:Frag}{mg:Str->Option Value}{c:List D->aq->Res D}(h:∀ns:List Int,ns.length<=63->∃d,c [.lst (ns.map D.int)] []=.ok (.bl true) d):∀vs H Q E,sp_law K vs H Q E->vSp K mg [.s] (rV K) c vs H Q E:=by
 rintro vs H Q E ⟨a,ns,rfl,hS,hl,hO,q⟩;obtain⟨d,e⟩:=h ns hl
 have r:RlO K mg [] H H []:=⟨Same.refl H,λb o e=>by
  rcases hO b with z | ⟨x,t,z⟩
  ·rw[e] at z;cases z
  ·rw[e] at z;cases z;rfl,List.nodup_nil,rfl,(λ_ z=>nomatch z),λn b o z=>by cases z⟩
 refine⟨[.lst (ns.map D.int)],[],H,[],.bl true,d,r,⟨.inl (Rp.mkL hS (Rps.ofInts ns)),trivial⟩,e,λv l y m g u j=>?_⟩;rw[Rp.unB j];exact q l
def keyOf:D->Option Key
 | .int i=>some (.inl i)
 | .str l=>some (.inr (S l))
 | _=>none
section
variable {X:Cx}{md:List Md}{P:Pt}
def Prs(K:Frag)(F:Hp)(as:List Addr):List (V×V)->List (D×D)->Prop
 | [],[]=>True
 |p::ps,d::ds=>Rp K F as p.1 d.1/\Rp K F as p.2 d.2/\Prs K F as ps ds
 | _,_=>False
def DPE(X:Cx)(md:List Md)(P:Pt)(n:Pos)(keys:List (Option Expr))(values:List Expr)(m:M (List (D×D))):Prop:=∃d:List (TE×TE),
 PPs X n keys values d/\∀σ H Q,(∃ρ O F h r t,RlO X.K X.mg O H F h/\SlO X.K md P ρ σ H F h/\m ρ O=.ok r t/\∀q j l c,Gr H F h j l c->RlO X.K X.mg t j l c->Prs X.K l c q r->Q q j)->xP d σ H Q
def VP:M (List (D×D)):=λ_ O=>.ok [] O
def VR(h d:M D)(r:M (List (D×D))):M (List (D×D)):=λρ O=>(h ρ O).bind λa m=>(d ρ m).bind λb l=>(r ρ l).bind λc j=>.ok ((a,b)::c) j
def keysOf:List (D×D)->Option (List Key)
 | []=>some []
 | (a,_)::r=>(keyOf a).bind λk=>(keysOf r).map (k :: ·)
def V0(m:M (List (D×D))):M D:=λρ O=>(m ρ O).bind λc h=>match keysOf c with
 |some d=>if d.Nodup/\c.length<=15 then .ok (.dic (c.map (·.1)) (c.map (·.2))) h else .no
 |none=>.no
end
section
variable {X:Cx}{md:List Md}{P:Pt}{k:Nat}{c x m:Str}{ps:List Str}{p pos apos:Pos}{o e:Expr}{es:List Expr}{pm:List Md}{cf:List D->aq->Res D}{mo:M D}{ma:M (List D)}
theorem dw(C:Can X.prog X.w X.K X.mg X.base x ps k (vSp X.K X.mg pm (rV X.K) cf))(j:bJ k X.A)(q:AE X md P pm (e::es) ma)(l:Gl X x:=by rfl)(h:(x == ("__debug__":Str))=false:=by decide)(n:starEach (e::es) X.env=(false,eval e X.env)::starEach es X.env:=by exact dH rfl)(d:(backTo pos (starEach es X.env)).any (·.1)=false:=by exact fY rfl):
  VE X md P (.Call (.Name x p) (e::es) [] pos) (bz cf ma):=Jd dh C j q l h n d
theorem mZ(C:Can X.prog X.w X.K X.mg X.base x ps k (vSp X.K X.mg pm (rO X.K) cf))(j:bJ k X.A)(q:AE X md P pm (e::es) ma)(l:Gl X x:=by rfl)(h:(x == ("__debug__":Str))=false:=by decide)(n:starEach (e::es) X.env=(false,eval e X.env)::starEach es X.env:=by exact dH rfl)(d:(backTo pos (starEach es X.env)).any (·.1)=false:=by exact fY rfl):
  OE X md P (.Call (.Name x p) (e::es) [] pos) (bz cf ma):=Jd fc C j q l h n d
theorem V1(C:Can X.prog X.w X.K X.mg X.base x ps k (vSp X.K X.mg [] (rV X.K) cf))(h:bJ k X.A)(j:Gl X x:=by rfl)(d:(x == ("__debug__":Str))=false:=by decide):VE X md P (.Call (.Name x p) [] [] pos) (bz cf au):=U4 dh C h j d
theorem lR{pl:Sem Bool}(M:gP X.prog X.w X.K X.mg X.base c m ps k (vSp X.K X.mg (.v::pm) (rO X.K) cf))(l:bJ k X.A)(n:VE X md P o mo)(q:AE X md P pm (e::es) ma)(d:starEach (e::es) X.env=(false,eval e X.env)::starEach es X.env:=by exact dH rfl)(h:(backTo pos (starEach es X.env)).any (·.1)=false:=by exact fY rfl)
  (j:eval (.Call (.Attribute o m apos) (e::es) [] pos) X.env=(do
   let ov <-eval o X.env
   standAt apos.atName
   let (f,first) <-holding [ov] (getMethod ov m pl)
   callWith pos f first (backTo pos (starEach (e::es) X.env)) (backToKw pos (keywordEach [] X.env))):=by rfl):OE X md P (.Call (.Attribute o m apos) (e::es) [] pos) (bN c m cf mo ma):=VJ fc M l n q d h j
theorem u0{pl:Sem Bool}(M:gP X.prog X.w X.K X.mg X.base c m ps k (vSp X.K X.mg [.v] (rV X.K) cf))(h:bJ k X.A)(j:VE X md P o mo)
  (d:eval (.Call (.Attribute o m apos) [] [] pos) X.env=(do
   let ov <-eval o X.env
   standAt apos.atName
   let (f,first) <-holding [ov] (getMethod ov m pl)
   callWith pos f first (backTo pos (starEach [] X.env)) (backToKw pos (keywordEach [] X.env))):=by rfl):VE X md P (.Call (.Attribute o m apos) [] [] pos) (bN c m cf mo au):=JD dh M h j d
theorem sE{pl:Sem Bool}(M:gP X.prog X.w X.K X.mg X.base c m ps k (vSp X.K X.mg [.v] (rO X.K) cf))(h:bJ k X.A)(j:VE X md P o mo)
  (d:eval (.Call (.Attribute o m apos) [] [] pos) X.env=(do
   let ov <-eval o X.env
   standAt apos.atName
   let (f,first) <-holding [ov] (getMethod ov m pl)
   callWith pos f first (backTo pos (starEach [] X.env)) (backToKw pos (keywordEach [] X.env))):=by rfl):OE X md P (.Call (.Attribute o m apos) [] [] pos) (bN c m cf mo au):=JD fc M h j d
end
def Itz(K:Frag)(j h:Addr):It:=⟨λi H=>∃d c x y,SqL K H j d/\SqL K H h c/\d[i]?=some x/\c[i]?=some y,
 λi H v l=>∃T x y,v=.ref T/\H T=none/\l=upd H T (.tup [x,y])/\(∀d,SqL K H j d->d[i]?=some x)/\∀c,SqL K H h c->c[i]?=some y,
 λi H=>∃d c,SqL K H j d/\SqL K H h c/\(d.length<=i\/c.length<=i)⟩
theorem V2{P:Program}{w:World}{K:Frag}{elts:List Expr}{x1}{pos:Pos}(z TI TO i1 i2 l1 l2:Addr)(D:ZipApart z TI TO i1 i2 l1 l2):Turn P w K (.Tuple elts x1 pos) (Itz K l1 l2) [z,TI,TO,i1,i2] z
  (λi h=>IsZip h z TI TO .none/\IsPair h TI (.ref i1) (.ref i2)/\(∃a b,IsPair h TO a b)/\h.IsListIter i1 l1 i/\h.IsListIter i2 l2 i) where
 mem:=by simp
 obj:=λi h st b hb=>by
  obtain⟨hz,hTI,⟨a,b',hTO⟩,⟨o1,ho1,hc1,hd1⟩,⟨o2,ho2,hc2,hd2⟩⟩:=st;simp only[zh,List.not_mem_nil,or_false] at hb
  rcases hb with rfl | rfl | rfl | rfl | rfl
  ·exact oh hz rfl
  ·exact⟨_,hTI,λv z=>nomatch z⟩
  ·exact⟨_,hTO,λv z=>nomatch z⟩
  ·exact oh ho1 hd1
  ·exact oh ho2 hd2
 keep:=λi h h' st k=>by
  obtain⟨hz,hTI,⟨a,b',hTO⟩,h1,h2⟩:=st;exact⟨k z (by simp) _ hz,k TI (by simp) _ hTI,⟨a,b',k TO (by simp) _ hTO⟩,h1.at λo e=>k i1 (by simp) o e,h2.at λo e=>k i2 (by simp) o e⟩
 item:=by
  intro X hP hw hK hc i pins s σ H E I hf st hg;subst hP hw hK;obtain⟨hz,hTI,⟨a,b',hTO⟩,h1,h2⟩:=st;obtain⟨xs,ys,x,y,hq1,hq2,hx,hy⟩:=hg;obtain⟨its1,rv1,pl1,hz1⟩:=I.list hq1;obtain⟨its2,rv2,pl2,hz2⟩:=I.list hq2;obtain⟨u1,hu1,ru1⟩:=rv1.get hx;obtain⟨u2,hu2,ru2⟩:=rv2.get hy;have hT:H s.heap.objs.size=none:=I.hok.fresh (zc _);have elt:z<s.heap.objs.size:=zg hz
  refine wpAny_pyNext_zip_item D hz hTI hTO h1 h2 pl1.isList pl2.isList (x:=u1) (y:=u2) (by simpa using hu1) (by simpa using hu2) λh' a1 a2 a3 a4 a5 a6 hk=>⟨_,rfl,?_⟩
  refine wpAny_letOwnedTupleGo_zip a1 λh'' hz'' hs''=>⟨.ref s.heap.objs.size,_,?_,rfl,⟨s.heap.objs.size,x,y,rfl,hT,rfl,λys' hy'=>by rw[I.list_inj hy' hq1];exact hx,λys' hy'=>by rw[I.list_inj hy' hq2];exact hy⟩,⟨hz'',hs''.extBut _ _ D.TIz (hk _ _ D.TIz D.TITO D.TIi1 D.TIi2 hTI),⟨_,_,hs''.extBut _ _ D.TOz a2⟩,a3.extBut hs''.extBut D.i1z,a4.extBut hs''.extBut D.i2z⟩,λb hb=>?_⟩
  ·show Inv X pins σ _ {s with heap:=h'',toks:=s.toks};refine I.turnT (ch:=[z,TI,TO,i1,i2]) (us:=[u1,u2]) hf (λb o hb q=>?_) (zc _) ⟨_,hs''.extBut _ _ (Nat.ne_of_gt elt) a5,rfl,_,rfl⟩ (.cons ru1 (.cons ru2 .nil)) (by show 2<=sizeLine;decide)
   have n1:b≠z:=λe=>hb (by simp[e])
   have n2:b≠TO:=λe=>hb (by simp[e])
   have n3:b≠i1:=λe=>hb (by simp[e])
   have n4:b≠i2:=λe=>hb (by simp[e])
   exact hs''.extBut _ _ n1 (hk b o n1 n2 n3 n4 q)
  ·have q:=hf b hb;rw[bj (λe=>?_)]
   ·exact q.1
   ·obtain⟨o,ho⟩:∃o,s.heap.get? b=some o:=by
     obtain⟨o1,ho1,_⟩:=h1;obtain⟨o2,ho2,_⟩:=h2;simp only[zh,List.not_mem_nil,or_false] at hb
     rcases hb with rfl | rfl | rfl | rfl | rfl
     ·exact⟨_,hz⟩
     ·exact⟨_,hTI⟩
     ·exact⟨_,hTO⟩
     ·exact⟨_,ho1⟩
     ·exact⟨_,ho2⟩
    exact absurd (zg ho) (by rw[e];exact zX _)
 done:=by
  intro X hP hw hK hc i pins s σ H E I hf st hg;subst hP hw hK;obtain⟨hz,hTI,⟨a,b',hTO⟩,h1,h2⟩:=st;obtain⟨xs,ys,hq1,hq2,hl⟩:=hg;obtain⟨its1,rv1,pl1,hz1⟩:=I.list hq1;obtain⟨its2,rv2,pl2,hz2⟩:=I.list hq2;have l1:=rv1.length;have l2:=rv2.length
  refine wpAny_pyNext_zip_end (I.ok.hd hc) D hz hTI hTO h1 h2 pl1.isList pl2.isList (by
   rcases hl with hl | hl
   ·left;simp;omega
   ·right;simp;omega) λh' hx=>⟨rfl,?_⟩
  exact I.turnL (t':=s.toks) (ch:=[z,TI,TO,i1,i2]) hf λb o hb q=>hx b o (λe=>hb (by simp[e])) (λe=>hb (by simp[e])) (λe=>hb (by simp[e])) (λe=>hb (by simp[e])) q
 self:=λA i s Q E st h=>wpAny_pyIter_zip st.1 h
section
variable {X:Cx}{md:List Md}{P:Pt}{R:RR}{elts:List Expr}{x1:Nat}{tpos:Pos}
def V3(K:Frag)(l:TA):TI:=λσ H R=>l σ H λj c=>∃a b,j=[.ref a,.ref b]/\(∃h,SqL K c a h)/\(∃d,SqL K c b d)/\R (Itz K a b) c
theorem V4{a b:Expr}{C:TA}{p c:Pos}(U:Gl X "zip")(Q:X.mg "zip" = none)(W:PA X [a,b] C)(hs:starEach [a,b] X.env=(false,eval a X.env)::starEach [b] X.env:=by exact dH rfl)(x:(backTo c (starEach [b] X.env)).any (·.1)=false:=by exact fY rfl):
  PI X (.Tuple elts x1 tpos) (.Call (.Name "zip" p) [a,b] [] c) (V3 X.K C):=by
 intro pins s σ H R I h;refine Call_ (nO I U Q boot_zip (PyProof.Rows.callWith_type1 (thn (W c pins s σ H _ I h) λus s1 ⟨vs,H1,I1,r1,q1⟩=>?_) hs x));obtain⟨F,E,e,⟨xs,u⟩,⟨ys,t⟩,q⟩:=q1;subst e;obtain⟨u1,u2,rfl,r,n⟩:=vals2 r1;cases r;cases n;obtain⟨O,Z,j,hz1⟩:=I1.list u;obtain⟨L,Y,d,hz2⟩:=I1.list t
 have a1:F<s1.heap.objs.size:=by obtain⟨_,e,_⟩:=j.isList;exact zg e
 have a2:E<s1.heap.objs.size:=by obtain⟨_,e,_⟩:=d.isList;exact zg e
 refine call_zip_2 j.isList d.isList λh' G B y m l hsz T=>wpAny_pyIter_zip G ?_
 refine⟨s1.heap.objs.size+4,[s1.heap.objs.size+4,s1.heap.objs.size+2,s1.heap.objs.size+3,s1.heap.objs.size,s1.heap.objs.size+1],_,_,H1,rfl,I1.kept (t':=s1.toks) T,V2 _ _ _ _ _ F E (zipApart_new a1 a2),⟨G,B,⟨_,_,y⟩,m,l⟩,λb J=>?_,q⟩
 have hb':s1.heap.objs.size<=b:=by
  simp only[zh,List.not_mem_nil,or_false] at J
  rcases J with rfl | rfl | rfl | rfl | rfl
  ·exact ji _ _
  ·exact ji _ _
  ·exact ji _ _
  ·exact zc _
  ·exact ji _ _
 exact I1.fpOk hb' (I1.hok.fresh hb')
def fO:List D->List D->List D
 |d::ds,e::es=>.tup [d,e]::fO ds es
 | _,_=>[]
theorem JL:∀(ds es:List D) (i:Nat) (x:D),(fO ds es)[i]?=some x->∃d e,ds[i]?=some d/\es[i]?=some e/\x=.tup [d,e]
 | [],es,i,x,h=>by simp[fO] at h
 |d::ds,[],i,x,h=>by simp[fO] at h
 |d::ds,e::es,0,x,h=>by
  simp[fO] at h
  exact⟨d,e,rfl,rfl,h.symm⟩
 |d::ds,e::es,i+1,x,h=>by
  obtain⟨j,c,h1,h2,h3⟩:=JL ds es i x (by simpa [fO] using h);exact⟨j,c,by simpa using h1,by simpa using h2,h3⟩
theorem JM:∀(ds es:List D),ds.length<=(fO ds es).length\/es.length<=(fO ds es).length
 | [],es=>.inl (Nat.zero_le _)
 |d::ds,[]=>.inr (Nat.zero_le _)
 |d::ds,e::es=>by
  rcases JM ds es with h | h
  ·left;simp[fO];exact h
  ·right;simp[fO];exact h
def u5(ma c:M D):M (List D):=λρ O=>(ma ρ O).bind λd j=>(c ρ j).bind λe h=>match d,e with
 | .lst ds,.lst es=>.ok (fO ds es) h
 | _,_=>.no
theorem V5{a b:Expr}{p t:Pos}{ma mb:M D}(hm:X.mg "zip" = none)(h:WE X md P a ma)(h':WE X md P b mb)(hg:Gl X "zip":=by rfl)(hs:starEach [a,b] X.env=(false,eval a X.env)::starEach [b] X.env:=by exact dH rfl)(U:starEach [b] X.env=(false,eval b X.env)::starEach [] X.env:=by exact dH rfl)(W:(backTo t (starEach [b] X.env)).any (·.1)=false:=by exact fY rfl):
  VI X md P (.Tuple elts x1 tpos) (.Call (.Name "zip" p) [a,b] [] t) (u5 ma mb):=(V4 hg hm (iW h (iW h' jN U) hs) hs W).imp λσ H Q q=>by
 obtain⟨ρ,O,F,as,ds,O',r,s,e,k⟩:=q;obtain⟨d1,O1,e1,e⟩:=Res.bind_ok e;obtain⟨d2,O2,e2,e⟩:=Res.bind_ok e
 cases d1 with
 |lst ds1 =>
  cases d2 with
  |lst ds2 =>
   cases e;refine⟨ρ,_,F,as,_,_,r,s,e1,λv H1 F1 Y g1 r1 hv=>?_⟩;refine⟨ρ,_,F1,Y,_,_,r1,s.step g1,e2,λu C E m I G hu=>?_⟩;obtain⟨a,n,rfl,h1,h2⟩:=uR (mg:=X.mg) hv;obtain⟨b,B,rfl,h3,h4⟩:=uR (mg:=X.mg) hu
   have h2':∀(j l:Hp) (c:List Addr),GrS P C E m j l c->(∃O,RlO X.K X.mg O j l c)->RdK X.K j a n:=λj l c g r=>h2 j l c (I.toS.trans g) r
   have h1':=h1.gr I;refine⟨a,b,rfl,⟨n,(h2' C E m GrS.refl ⟨_,G⟩).sq⟩,⟨B,(h4 C E m GrS.refl ⟨_,G⟩).sq⟩,k _ C E m (g1.trans I) G ⟨λi d j l c g r e=>?_,λj l c g r=>⟨n,B,(h2' j l c g r).sq,(h4 j l c g r).sq,?_⟩⟩⟩
   ·obtain⟨x',y',q1,q2,rfl⟩:=JL _ _ _ _ e;obtain⟨x,hx,rx⟩:=h1'.get' q1;obtain⟨y,hy,ry⟩:=h3.get' q2;have sx:=(h2' j l c g r).sq;have Z:=(h4 j l c g r).sq;refine⟨⟨n,B,x,y,sx,Z,hx,hy⟩,λz H4 hz=>?_⟩;obtain⟨T,x2,y2,rfl,hT,rfl,L,J⟩:=hz;have t1:=L n sx;have t2:=J B Z;rw[hx] at t1;rw[hy] at t2;cases t1;cases t2;exact yw r hT (Rps.cons (rx.grS g) (Rps.cons (ry.grS g) Rps.nil))
   ·rw[h1'.length,h3.length];exact JM ds1 ds2
  | _=>cases e
 | _=>cases e
def sG(m:MS):MS:=λρ O=>match m ρ O with
 | .rt d O'=>.rt d O'
 | _=>.no
theorem SlO.toV{K:Frag}{ρ:aB}{σ:St}{H F n:Hp}{as:List Addr}{i:Nat}(s:SlO K md P ρ σ H F as)(L:md[i]?=some .o)(ff:Same F n)
  (l:∀(j:Nat) (ds:List D) (a:Addr),j≠i->md[j]?=some .o->ρ[j]?=some (some (.lst ds))->σ[j]?=some (some (.ref a))->n a=F a)
  (hv:∀d,ρ[i]?=some (some d)->∃v,σ[i]?=some (some v)/\Rp K n as v d):SlO K (md.set i .v) P ρ σ H n as:=by
 have O:i<md.length:=(zj.mp L).1
 have back:∀(j:Nat),(md.set i Md.v)[j]?=some Md.o->j≠i/\md[j]?=some .o:=λj e=>by
  by_cases c:j=i
  ·subst c;rw[zR O] at e;cases e
  ·rw[zf (Ne.symm c)] at e;exact⟨c,e⟩
 refine⟨by rw[jh];exact s.len,by rw[jh];exact s.len',s.pd,λj m d h I=>?_,λj k a ds Z h1 h2 h3 h4 Y W=>s.inj j k a ds Z (back j h1).2 (back k h2).2 h3 h4 Y W,λx U=>?_⟩
 ·by_cases c:j=i
  ·subst c;rw[zR O] at h;cases h;exact hv d I
  ·rw[zf (Ne.symm c)] at h;obtain⟨v,q,t⟩:=s.sl j m d h I;refine⟨v,q,?_⟩
   cases m with
   |v=>exact Rp.mono ff (λ_ _ z=>z) _ t
   |s =>
    rcases t with t | ⟨a,r,ds,t1,t2,C,B,y,u⟩
    ·exact .inl (Rp.mono ff (λ_ _ z=>z) _ t)
    ·exact .inr ⟨a,r,ds,t1,t2,C,B,y,Rps.mono ff (λ_ _ z=>z) _ u⟩
   |o =>
    rcases t with⟨E,t⟩ | ⟨a,r,ds,rfl,rfl,C,E,B,y,u⟩
    ·exact .inl ⟨E,Rp.mono ff (λ_ _ z=>z) _ t⟩
    ·exact .inr ⟨a,r,ds,rfl,rfl,C,by rw[l j ds a c h I q];exact E,B,y,Rps.mono ff (λ_ _ z=>z) _ u⟩
 ·obtain⟨G,T,Q⟩:=s.pin x U
  have J:i≠x.1:=λz=>by rw[<-z,L] at G;cases G
  exact⟨by rw[zf J];exact G,T,Q⟩
theorem V6{K:Frag}{mg:Str->Option Value}{i:Nat}{m:MS}(t:md[i]?=some .o){D:Ends}{σ:St}{H:Hp}(q:tMS K mg md P R (sG m) D σ H):tMS K mg (md.set i .v) P R m D σ H:=by
 obtain⟨ρ,O,F,B,r,s,k⟩:=q;unfold sG at k
 cases e:m ρ O with
 |rt d O' =>
  rw[e] at k
  by_cases G:∃x,ρ[i]?=some (some (.lst x))
  ·obtain⟨x,n⟩:=G;obtain⟨a,y,h1,h2,h3,h4,Y,W⟩:=s.own t n
   have ff:Same F (upd F a (.lst y)):=λb u q=>by rw[bj (dC q h3)];exact q
   have Z:GrS P H F B H (upd F a (.lst y)) B:=⟨λc _ p _ _ _=>bj (λz=>Y (by rw[<-z];exact p)),ff,⟨[],by simp,λ_ h=>nomatch h⟩,λ_ _ _ h _ _=>h,λ_ h=>h,λ_ _ _ h=>h⟩;refine⟨ρ,O,upd F a (.lst y),B,r.frz h2 h3 h4 rfl,s.toV t ff (λj es b U Q L E=>?_) (λI l=>?_),?_⟩
   ·refine bj λz=>U ?_
    rw[z] at E;exact s.inj j i a es x Q t L n E h1
   ·rw[n] at l;cases l;exact⟨_,h1,Rp.mkL (.inl (.inl dG)) (Rps.mono ff (λ_ _ z=>z) _ W)⟩
   ·rw[e]
    exact λv H' F' C g J T=>k v H' F' C (Z.trans g) J T
  ·refine⟨ρ,O,F,B,r,s.toV t (Same.refl F) (λ_ _ _ _ _ _ _=>rfl) (λI l=>?_),by rw[e];exact k⟩;obtain⟨v,h1,h2⟩:=s.sl i .o I t l
   rcases h2 with⟨_,h2⟩ | ⟨a,y,x,_,rfl,_⟩
   ·exact⟨v,h1,h2⟩
   ·exact absurd ⟨x,l⟩ G
 | _=>rw[e] at k;exact False.elim k
theorem V7(i:Nat){st:Stmt}{m:MS}(c:md[i]?=some .o)(h:VS X (md.set i .v) P R st m):VS X md P R st (sG m):=h.imp λ_ _ _=>V6 c
end
section
variable {prog:Program}{w:World}{A:Around}{E:Value->Shared->Prop}
end
section
variable {X:Cx}{md:List Md}{P:Pt}{R:RR}
def mMl(m:M D):M D:=λρ O=>(m ρ O).bind λd c=>match d with
 | .lst ds=>.ok (.ob c.length) (c++[.ml ds])
 |d=>.ok d c
theorem JN{as:List Addr}{a:Addr}:∀(n:Nat) (c:Addr),as[n]?=some c->(as++[a])[n]?=some c:=λn c h=>by
 rw[zC (zj.mp h).1];exact h
theorem RlO.snocMl{K:Frag}{mg:Str->Option Value}{O:aq}{H F:Hp}{as:List Addr}{a:Addr}{xs:List V}{ds:List D}(r:RlO K mg O H F as)(t:H a=some (.lst xs))(u:F a=none)(q:a∉as)(m:Rps K F as xs ds):RlO K mg (O++[.ml ds]) H F (as++[a]):=by
 refine⟨r.fh,r.fd,List.nodup_append.mpr ⟨r.nd,by simp,λc h d hd=>by rw[zl.mp hd];exact λz=>q (z ▸ h)⟩,by rw[zd,zd,r.len];rfl,λc h=>?_,λn c o h j=>?_⟩
 ·rcases zu.mp h with h | h
  ·exact r.fa c h
  ·rw[zl.mp h];exact u
 ·by_cases l:n<as.length
  ·rw[zC l] at h;rw[zC (by rw[<-r.len];exact l)] at j;exact(r.ob n c o h j).keep rfl (Same.refl F) JN
  ·have hn':n=as.length:=by
    have:=(zj.mp h).1
    rw[zd,zL] at this;omega
   subst hn';rw[zv (zc _),Nat.sub_self] at h;rw[r.len,zv (zc _),Nat.sub_self] at j;cases h;cases j;exact⟨xs,t,Rps.mono (Same.refl F) JN _ m⟩
theorem pX{e:Expr}{m:M D}(h:OE X md P e m):VE X md P e (mMl m):=h.imp λσ H Q q=>by
 obtain⟨ρ,O,F,as,d,O',r,s,e,k⟩:=q;obtain⟨x,O1,Y,e⟩:=Res.bind_ok e;refine⟨ρ,_,F,as,_,_,r,s,Y,λv C E n j t u=>?_⟩
 rcases u with⟨G,u⟩ | ⟨a,xs,Z,rfl,rfl,W,U,T,L,J⟩
 ·cases x with
  |lst Z=>cases G
  | _=>cases e;exact k v C E n j t u
 ·cases e;obtain⟨y,I,B⟩:=j.nw;refine k (.ref a) C E (n++[a]) ⟨j.fz,j.ff,⟨y++[a],by rw[I,zk],λc l=>?_⟩,j.fr,j.dm,j.kz⟩ (t.snocMl W U T J) (Rp.mkO ?_)
  ·rcases zu.mp l with l | l
   ·exact B c l
   ·rw[zl.mp l];exact L
  ·rw[<-t.len,zv (zc _),Nat.sub_self];rfl
theorem V8{H F:Hp}{as:List Addr}{a:Addr}{h:HO}(l:a∈as)(d:H a=some h){o:HO}(j:∀o u,h≠.frz o u:=by intro _ _ z;cases z):Gr H F as (upd H a o) F as :=
 ⟨λ_ _ _ _ _=>rfl,Same.refl F,⟨[],by simp,λ_ h=>nomatch h⟩,λc u e hn _=>by rw[bj (λz=>hn (by rw[z];exact l))];exact e,λc e=>by
  by_cases h:c=a
  ·subst h;rw[dG] at e;cases e
  ·rwa [bj h] at e,λc m u e=>by rw[bj (λz=>by rw[z,d] at e;cases e;exact j _ _ rfl)];exact e⟩
theorem RlO.mutO{K:Frag}{mg:Str->Option Value}{O:aq}{H F:Hp}{as:List Addr}{n:Nat}{a:Addr}{xs:List V}{ds:List D}(r:RlO K mg O H F as)(j:as[n]?=some a)(B:Rps K F as xs ds):RlO K mg (O.set n (.ml ds)) (upd H a (.lst xs)) F as:=by
 have C:=zS j;refine⟨λc u e=>?_,r.fd,r.nd,by rw[jh];exact r.len,r.fa,λm c o l d=>?_⟩
 ·rw[bj (λz=>by rw[z,r.fa a C] at e;cases e)];exact r.fh c u e
 ·by_cases q:m=n
  ·subst q;rw[j] at l;cases l
   have t:m<O.length:=by rw[<-r.len];exact(zj.mp j).1
   rw[zR t] at d;cases d;exact⟨xs,dG,B⟩
  ·rw[zf (Ne.symm q)] at d
   refine(r.ob m c o l d).keep (bj λz=>q ?_) (Same.refl F) λ_ _ h=>h
   obtain⟨E,x⟩:=zj.mp l;obtain⟨G,y⟩:=zj.mp j;exact(List.getElem_inj r.nd).mp (x.trans (z.trans y.symm))
theorem RlO.ml{K:Frag}{mg:Str->Option Value}{O:aq}{H F:Hp}{as:List Addr}{n:Nat}{a:Addr}{ds:List D}(r:RlO K mg O H F as)(c:as[n]?=some a)(d:O[n]?=some (.ml ds)):∃xs,H a=some (.lst xs)/\Rps K F as xs ds:=r.ob n a _ c d
def oA(mo m:M D):MS:=λρ O=>match mo ρ O with
 | .ok (.ob n) O1=>match O1[n]? with
  |some (.ml _)=>match m ρ O1 with
   | .ok d O2=>match O2[n]? with
    |some (.ml ds)=>if ds.length<1000000 then .nx ρ (O2.set n (.ml (ds++[d]))) else .no
    | _=>.no
   | _=>.no
  | _=>.no
 | _=>.no
theorem JP{o e:Expr}{apos c C:Pos}{mo m:M D}(ho:VE X md P o mo)(h:VE X md P e m)
  (B:attributeBase o "append" X.env (eval o X.env)=eval o X.env:=by rfl)
  (E:((backTo c (starEach [e] X.env)).all (λx=>!x.1)&&(backToKw c (keywordEach [] X.env)).all (λx=>x.1.isSome)&&decide ([e].length+([]:List Keyword).length+(if([]:List Keyword).isEmpty then 0 else 1)<30))=true:=by rfl)
  (u:(apos.endLine == c.line)=true:=by rfl) (hs:starEach [e] X.env=(false,eval e X.env)::starEach [] X.env:=by exact dH rfl) (j:(backTo c (starEach [] X.env)).any (·.1)=false:=by exact fY rfl)
  (Q:swapsWith (.Call (.Attribute o "append" apos) [e] [] c) none C.line X.env=pure false:=by rfl):
  VS X md P R (.Expr (.Call (.Attribute o "append" apos) [e] [] c) C) (oA mo m):=
 (uB (rH PySem.F.plainAttrs_list PySem.F.slot_list_append PySem.F.type_list_append HW ho (iW h jN hs) B E u hs j) Q).imp λD σ H q=>by
  obtain⟨ρ,O,F,as,r,s,k⟩:=q;unfold oA at k;split at k
  ·rename_i n O1 e1;split at k
   ·rename_i ds0 e2;split at k
    ·rename_i d O2 e3;split at k
     ·rename_i ds e4;split at k
      ·rename_i hz;refine⟨ρ,O,F,as,_,_,r,s,e1,λv H1 F1 T I r1 hv=>?_⟩;obtain⟨a,rfl,ha⟩:=Rp.unO hv;obtain⟨L,x1,x2⟩:=r1.ml ha e2;refine⟨.inl ⟨rfl,L,.inl (.inl x1)⟩,ρ,O1,F1,T,d,O2,r1,s.step I,e3,λy H2 J t G Z hy=>?_⟩;have l:=G.at_ n a ha;obtain⟨Y,W,U⟩:=Z.ml l e4;have g3:Gr H2 J t (upd H2 a (.lst (Y++[y]))) J t:=V8 (zS l) W;exact⟨a,Y,y,rfl,rfl,W,by rw[U.length];exact zJ hz (by decide),k σ _ J t ((I.trans G).trans g3).toS (Z.mutO l (U.snoc hy)) (s.step ((I.trans G).trans g3))⟩
      ·exact False.elim k
     ·exact False.elim k
    ·exact False.elim k
   ·exact False.elim k
  ·exact False.elim k
def iR(n:Nat)(all:List D)(g:MG)(b:MS):List D->MS
 | [],ρ,O=>match O[n]? with
  |some (.ml es)=>if es.length=all.length then .nx ρ O else .no
  | _=>.no
 |d::ds,ρ,O=>match O[n]? with
  |some (.ml es)=>match es[all.length - (ds.length+1)]? with
   |some h=>match g h ρ with
    |none=>.no
    |some c=>match b c O with
     | .nx ρ2 O2=>iR n all g b ds ρ2 O2
     | .ct ρ2 O2=>iR n all g b ds ρ2 O2
     | .bk ρ2 O2=>.nx ρ2 O2
     |r=>r
   |none=>.no
  | _=>.no
def iu(m:M D)(g:MG)(b:MS):MS:=λρ O=>match m ρ O with
 | .ok (.ob n) O'=>match O'[n]? with
  |some (.ml ds)=>iR n ds g b ds ρ O'
  | _=>.no
 | .ok (.lst ds) O'=>cz g b ds ρ O'
 | _=>.no
theorem V9{K:Frag}{mg:Str->Option Value}{m:M D}{g:MG}{b:MS}{n:Nat}{ds:List D}{D:Ends}{σ:St}{H F:Hp}{as:List Addr}{ρ:aB}{O O1:aq}(r:RlO K mg O H F as)(s:SlO K md P ρ σ H F as)(e:m ρ O=.ok (.ob n) O1)(e2:O1[n]?=some (.ml ds))
  (k:jC K mg md P R D H F as (iR n ds g b ds ρ O1)):xj (Hd K (tM K mg md P (rW K P) m)) (tMG K mg md P g) (tMS K mg md P R b) D σ H:=by
 refine⟨ρ,O,F,as,_,_,r,s,e,λv H1 F1 E g1 r1 hv=>?_⟩
 have hv':Rp K F1 E v (.ob n):=by
  rcases hv with hv | ⟨a,W,ds',_,z,_⟩
  ·exact hv
  ·cases z
 obtain⟨a,rfl,ha⟩:=Rp.unO hv';obtain⟨xs0,x1,x2⟩:=r1.ml ha e2;have k1:=jr (R:=R) g1.toS k;refine⟨a,rfl,⟨xs0,.inl (.inl x1)⟩,λi m T Q=>m=ds.length - i/\i<=ds.length/\∃C Y I h,GrS P H1 F1 E Q I h/\RlO K mg Y Q I h/\SlO K md P C T Q I h/\jC K mg md P R D Q I h (iR n ds g b (ds.drop i) C Y),⟨ds.length,by simp,Nat.zero_le _,ρ,O1,F1,E,GrS.refl,r1,s.step g1,by rw[List.drop_zero];exact k1⟩,?_⟩;rintro i t T Q ⟨rfl,hi,C,Y,I,h,g',r',s',k'⟩;have ha':=g'.at_ n a ha
 by_cases hlt:i<ds.length
 ·rw[List.drop_eq_getElem_cons hlt] at k';unfold iR at k';split at k'
  ·rename_i es ee;obtain⟨W,y1,y2⟩:=r'.ml ha' ee
   have hidx:ds.length - ((ds.drop (i+1)).length+1)=i:=by rw[List.length_drop];omega
   rw[hidx] at k';split at k'
   ·rename_i d' ed;obtain⟨x,hx,rx⟩:=y2.get' ed;have hsq:SqL K Q a W:=.inl (.inl y1);refine .inr ⟨⟨W,x,hsq,hx⟩,λl u=>∃j G q c,GrS P H1 F1 E u q c/\RlO K mg G u q c/\SlO K md P j l u q c/\jC K mg md P R D u q c (iR n ds g b (ds.drop (i+1)) j G),λl u h2=>⟨ds.length - (i+1),by omega,rfl,hlt,h2⟩,λx' H3 y=>?_⟩;obtain⟨rfl,hy⟩:=y;have Z:=hy W hsq;rw[hx] at Z;cases Z;split at k'
    ·exact False.elim k'
    ·rename_i U eg;refine⟨C,Y,I,h,d',U,r',s',rx,eg,λσ4 s4=>?_⟩;refine⟨U,Y,I,h,r',s4,?_⟩
     cases eb:b U Y with
     |nx j G =>
      rw[eb] at k'
      exact λl u q c B L J=>⟨j,G,q,c,g'.trans B,L,J,jr B k'⟩
     |ct j G =>
      rw[eb] at k'
      exact λl u q c B L J=>⟨j,G,q,c,g'.trans B,L,J,jr B k'⟩
     |bk j G =>
      rw[eb] at k'
      exact λl u q c B L J=>k' l u q c B L J
     |rt d G =>
      rw[eb] at k'
      exact λv u q c B L J=>k' v u q c B L J
     |ex _ _=>rw[eb] at k';exact False.elim k'
     |no=>rw[eb] at k';exact False.elim k'
   ·exact False.elim k'
  ·exact False.elim k'
 ·have hi':i=ds.length:=by omega
  subst hi';rw[List.drop_length] at k';unfold iR at k';split at k'
  ·rename_i es ee;split at k'
   ·rename_i hl;obtain⟨W,y1,y2⟩:=r'.ml ha' ee;exact .inl ⟨⟨W,.inl (.inl y1),by rw[y2.length,hl];exact zc _⟩,k' T Q I h GrS.refl r' s'⟩
   ·exact False.elim k'
  ·exact False.elim k'
theorem u6{h iter:Expr}{body:List Stmt}{d:Pos}{m:M D}{g:MG}{b:MS}(u:X.calm=true)(hi:WE X md P iter m)(t:VG X md P h g)(hb:VSs X md P R body b)(l:PassesOwn (model X.prog X.w) X.A X.env X.xe:=by exact PassesOwn.never)
  (j:∀x,foldedSetIterable iter X.env x=pure x:=by intro _;rfl):VS X md P R (.For h iter body [] d) (iu m g b):=λpins s σ H D I q=>by
 obtain⟨ρ,O,F,E,r,sl,k⟩:=q;unfold iu at k;split at k
 ·rename_i n B c;split at k
  ·rename_i y C;exact Hf l u (xg hi) t hb j pins s σ H D I (V9 r sl c C k)
  ·exact False.elim k
 ·rename_i y B c;refine jG u (Jq hi) t hb l j pins s σ H D I ⟨ρ,O,F,E,r,sl,?_⟩;unfold eG
  have:pQ m ρ O=.ok y B:=by unfold pQ;rw[c];rfl
  rw[this];exact k
 ·exact False.elim k
end
def u9(K:Frag)(mg:Str->Option Value)(x:Str)(ls:List (List Nat)):Prop:=∃(a:Addr) (o:Obj) (c:Array Value) (n:Nat),mg x=some (.ref a)/\K.lookup a=some o/\o.cls=.type "tuple"/\o.data=.seq c n/\c.size<=sizeLine/\aV (ls.map λl=>V.str (S l)) c.toList
theorem Rps.texts{K:Frag}{F:Hp}{as:List Addr}:∀ls:List (List Nat),Rps K F as (ls.map λl=>V.str (S l)) (ls.map D.str)
 | []=>Rps.nil
 |l::ls=>Rps.cons Rp.str (Rps.texts ls)
theorem JQ{X:Cx}{md:List Md}{P:Pt}{x:Str}{ls:List (List Nat)}{c:Pos}(h:u9 X.K X.mg x ls)(u:Gl X x:=by rfl)(l:(x == ("__debug__":Str))=false:=by decide):VE X md P (.Name x c) (mC (.tup (ls.map D.str))):=by
 obtain⟨a,o,j,n,m,t,h1,h2,h3,h4⟩:=h
 refine(Ie (v:=.ref a) ⟨_,m,rfl⟩ u l).imp λσ H Q q=>?_
 obtain⟨ρ,O,F,y,d,B,r,s,e,k⟩:=q;cases e;exact k _ H F y Gr.refl r (Rp.mkT (.inr ⟨o,j,n,t,h1,h2,h3,h4⟩) (Rps.texts ls))
theorem cC{α:Type}{p:List α->Prop}(h:p []):∀us:List α,us.length=0->p us:=λus e=>by
 cases us with
 |nil=>exact h
 |cons a c=>cases e
theorem bF{α:Type}{p:List α->Prop}{n:Nat}(h:∀a,∀us:List α,us.length=n->p (a::us)):∀us:List α,us.length=n+1->p us:=λus e=>by
 cases us with
 |nil=>cases e
 |cons a c=>exact h a c (Nat.succ.inj e)
section
variable {prog:Program}{w:World}{κ:Type}[DecidableEq κ]{knd:HeapKind prog w κ}{A:Around}{E:Value->Shared->Prop}{s:Shared}
end
section
variable {X:Cx}{pins:List (Addr×Obj)}{σ:St}{H:Hp}{s:Shared}{a b:Addr}{v:V}{r:Value}{kvs:List (List Key×V)}{k:List Key}{A:Around}{E:Value->Shared->Prop}
end
def sH:List Value->Bool
 | []=>true
 | .int _ _::r=>sH r
 | _=>false
section
variable {K:Frag}{mg:Str->Option Value}{O:aq}{H F H' F':Hp}{as as':List Addr}
end
section
variable {X:Cx}{md:List Md}{P:Pt}{R:RR}
end
section
variable {X:Cx}
end
section
variable {X:Cx}{md:List Md}{P:Pt}{R:RR}
end
def dz(O:aq):Nat->D->D
 | 0,d=>d
 |n+1,.ob i=>match O[i]? with
  |some (.ml ds)=>.lst (ds.map (dz O n))
  | _=>.ob i
 |n+1,.lst ds=>.lst (ds.map (dz O n))
 |n+1,.tup ds=>.tup (ds.map (dz O n))
 | _+1,d=>d
section
variable {K:Frag}{mg:Str->Option Value}{O:aq}{H F:Hp}{as:List Addr}
theorem sI{n:Nat}(c:∀(d:D) (v:V),Rp K F as v d->dX (dz O n d)=true->Rep K H v (toP (dz O n d))):∀(ds:List D) (xs:List V),Rps K F as xs ds->lO (ds.map (dz O n))=true->cV K H xs (iK (ds.map (dz O n)))
 | [],xs,h,_=>by rw[h.un0];exact cV.nil
 |d::ds,xs,h,hp=>by
  obtain⟨x,r,rfl,h1,h2⟩:=h.un;rw[zx,lO,zy] at hp;rw[zx,iK];exact cV.cons (c d x h1 hp.1) (sI c ds r h2 hp.2)
theorem sJ(r:RlO K mg O H F as):∀(n:Nat) (d:D) (v:V),Rp K F as v d->dX (dz O n d)=true->Rep K H v (toP (dz O n d))
 | 0,d,v,h,hp=>Lk.rep (Or.inl h) r.fh hp
 |n+1,.ob i,v,h,hp=>by
  unfold dz at hp ⊢;split at hp
  ·rename_i j e;obtain⟨a,rfl,l⟩:=h.unO;obtain⟨c,h1,h2⟩:=r.ml l e;rw[dX] at hp;rw[toP,Rep];exact⟨a,c,rfl,.inl (.inl h1),sI (sJ r n) j c h2 hp⟩
  ·cases hp
 |n+1,.lst j,v,h,hp=>by
  unfold dz at hp ⊢;obtain⟨a,c,rfl,h1,h2⟩:=h.unL;rw[dX] at hp;rw[toP,Rep];exact⟨a,c,rfl,(h1.mono r.fh).sq,sI (sJ r n) j c h2 hp⟩
 |n+1,.tup j,v,h,hp=>by
  unfold dz at hp ⊢;obtain⟨a,c,rfl,h1,h2⟩:=h.unT;rw[dX] at hp;rw[toP,Rep];exact⟨a,c,rfl,Same.seqT r.fh h1,sI (sJ r n) j c h2 hp⟩
 |n+1,.non,v,h,hp=>Lk.rep (Or.inl h) r.fh hp
 |n+1,.bl _,v,h,hp=>Lk.rep (Or.inl h) r.fh hp
 |n+1,.int _,v,h,hp=>Lk.rep (Or.inl h) r.fh hp
 |n+1,.str _,v,h,hp=>Lk.rep (Or.inl h) r.fh hp
 |n+1,.dic _ _,v,h,hp=>Lk.rep (Or.inl h) r.fh hp
theorem JR(r:RlO K mg O H F as){n:Nat}{d:D}{v:V}(h:Sv K H F as v d)(c:dX (dz O n d)=true):Rep K H v (toP (dz O n d)):=by
 rcases h with h | ⟨a,j,q,rfl,rfl,m,t,l⟩
 ·exact sJ r n d v h c
 ·cases n with
  |zero=>exact Lk.rep (Or.inr ⟨a,j,q,rfl,rfl,m,l⟩) r.fh c
  |succ n =>
   unfold dz at c ⊢;rw[dX] at c;rw[toP,Rep];exact⟨a,j,rfl,.inl (.inl m),sI (sJ r n) q j l c⟩
end
section
variable {X:Cx}{md:List Md}{P:Pt}{R:RR}
def lB(c:Bool)(n:Nat)(ma d:M D):M D:=λρ O=>(ma ρ O).bind λx h=>(d ρ h).bind λy O2 =>
 if(okE (dz O2 n x)&&okE (dz O2 n y))=true then .ok (.bl (if c then !lq (dz O2 n x) (dz O2 n y) else lq (dz O2 n x) (dz O2 n y))) O2 else .no
theorem Wa{K:Frag}{mg:Str->Option Value}{c:Bool}{n:Nat}{ma B:M D}{σ:St}{H:Hp}{Q:VK}(h:tM K mg md P (rO K) (lB c n ma B) σ H Q):tOp (xU K c) (tM K mg md P (rS K) ma) (tM K mg md P (rS K) B) σ H Q:=by
 obtain⟨ρ,O,F,W,d,O',r,sl,e,k⟩:=h;obtain⟨x,O1,U,e⟩:=Res.bind_ok e;obtain⟨y,O2,T,e⟩:=Res.bind_ok e;split at e
 ·rename_i C;cases e;rw[zy] at C;obtain⟨l,j⟩:=C;unfold okE at l j;rw[zy] at l j;refine⟨ρ,_,F,W,_,_,r,sl,U,λv H1 F1 t G I J=>?_⟩;refine⟨ρ,_,F1,t,_,_,I,sl.step G,T,λu Y Z q E m L=>?_⟩;exact⟨_,_,JR m (Sv.gr J E) l.1,JR m L j.1,l.2,j.2,k _ Y Z q (G.trans E) m (.inl ⟨rfl,Rp.bl⟩)⟩
 ·cases e
theorem JS(n:Nat){k:Nat}(m:bJ k X.A){l j:Expr}{c:Pos}{ma d:M D}(r:SE X md P l ma)(hb:SE X md P j d):TsE X md P (.Compare l [.NotEq] [j] c) (aH (lB true n ma d)):=
 (Hn (Ib m) r hb (bw _)).imp λσ H Q h=>by
  have q:=xX h;exact Wa q
end
section
variable {X:Cx}{md:List Md}{P:Pt}{R:RR}
end
end L2
namespace L2
open PySem PySem.Spec PyProof.Rows PySem.W PySem.Calls
section
variable {prog:Program}{w:World}{A:Around}{E:Value->Shared->Prop}{s:Shared}{a:Addr}{vs out:List Value}{p:Array Nat}
def Keeps(s:Shared)(a:Addr)(h':Heap):Prop:=∀b o,b≠a->s.heap.get? b=some o->h'.get? b=some o
end
section
variable {X:Cx}
end
structure JT(mg:Str->Option Value):Prop extends Blt mg where
 sorted_:mg "sorted" = none
end L2
namespace L2
open PySem PySem.Spec PyProof.Rows
abbrev Wb(h:Heap)(z TI TO T:Addr)(b:Bool):Prop :=
 h.get? z=some {cls:=.type "zip",dict:=none,data:=.fields #[rawInt T,.bool b,.bool false,.ref TI,.ref TO],slots:=#[]}
section
variable {prog:Program}{w:World}{A:Around}{E:Value->Shared->Prop}{s:Shared}
structure ZS(base:Nat)(h:Heap)(z TI TO i1 i2 l1 l2 S:Addr)(xs ys acc:Array Value)(c i:Nat):Prop where
 zi:(IsZip h z TI TO .none/\∃a b,IsPair h TO a b)\/∃T b o,Wb h z TI TO T b/\h.get? T=some o/\T∉[z,TO,i1,i2,S]
 ti:IsPair h TI (.ref i1) (.ref i2)
 it1:h.IsListIter i1 l1 i
 it2:h.IsListIter i2 l2 i
 a1:h.IsList l1 xs
 a2:h.IsList l2 ys
 ls:h.get? S=some {cls:=.type "list",dict:=none,data:=.seq acc c,slots:=#[]}
 sz:acc.size=i
 tl:TO<h.objs.size
 nd:acc.toList.Nodup
 ts:∀(j:Nat) (v:Value),acc[j]?=some v->∃(T:Addr) (x y:Value),v=Value.ref T/\xs[j]?=some x/\ys[j]?=some y/\IsPair h T x y/\T∉[z,TO,i1,i2,S]/\base<=T
variable {R:PySem.Result->Shared->Prop}
end
section
variable {X:Cx}
end
section
variable {X:Cx}{md:List Md}{P:Pt}
end
section
end
end L2
namespace L2
open PySem PySem.Spec PyProof.Rows PySem.W
section
variable {X:Cx}{md:List Md}{P:Pt}
end
end L2
namespace L2
open PySem PySem.Spec PyProof.Rows
section
variable {X:Cx}{md:List Md}{P:Pt}{R:RR}
variable {elts:List Expr}{x1:Nat}{tpos:Pos}{a elt:Expr}{ifs:List Expr}{scope:Scope}{p pos pe:Pos}{m:M D}{g:MG}{t:M Bool}{e:M D}
end
section
variable {X:Cx}{md:List Md}{P:Pt}{R:RR}{tg:Expr}
end
structure QAs(mg:Str->Option Value):Prop extends JT mg where
 reversed_:mg "reversed" = none
end L2
namespace L2
open PySem PySem.Spec PyProof.Rows PySem.W PySem.Calls
abbrev SoM:=StateT SortSt Sem
def gal:Bool->Keyed->Array Keyed->Nat->Nat->Nat->SoM (Option Nat):=sortPriv% PySem.Builtin.gallop
def bey(d:Bool)(c:Keyed)(h:Array Keyed)(bs i:Nat):SoM (Option Bool):=do
 let x <-elem' h (bs+i)
 if d then lt' x c else return (<-lt' c x).map (!·)
theorem Wc(d:Bool)(h:Keyed)(j:Array Keyed)(bs n c:Nat):gal d h j bs n c=(do
 let mut la:=0
 let mut of:=1
 let mut lo:=0
 let mut hi:=0
 let some rt <-bey d h j bs c | return none
 if rt then
  let mx:=n - c
  for _ in [0:n] do
   if of>=mx then break
   let some mo <-bey d h j bs (c+of) | return none
   if !mo then break
   la:=of
   of:=2 * of+1
  lo:=c+la+1
  hi:=c+min of mx
 else
  let mx:=c+1
  for _ in [0:n] do
   if of>=mx then break
   let some fo <-bey d h j bs (c - of) | return none
   if fo then break
   la:=of
   of:=2 * of+1
  lo:=c+1 - min of mx
  hi:=c - la
 for _ in [0:n] do
  if lo>=hi then break
  let m:=lo+(hi - lo) / 2
  let some mo <-bey d h j bs m | return none
  if mo then lo:=m+1 else hi:=m
 return some hi):=rfl
section
variable {prog:Program}{w:World}{A:Around}{E:Value->Shared->Prop}{s:Shared}
theorem yC{ρ:Type}{f:Nat->Option ρ×Nat×Nat->SoM (ForInStep (Option ρ×Nat×Nat))}{n lo hi:Nat}{b:Nat->Bool}{st:SortSt}{Q:Option ρ×Nat×Nat->SortSt->Prop}
  (mono:∀i j,i<=j->j<n->b j=true->b i=true)
  (m:∀x lo hi (R:ForInStep (Option ρ×Nat×Nat)->SortSt->Prop),lo<=hi->hi<=n->(lo=hi->R (.done (none,lo,hi)) st)->(lo<hi->b (lo+(hi - lo) / 2)=true->R (.yield (none,lo+(hi - lo) / 2+1,hi)) st) ->
   (lo<hi->b (lo+(hi - lo) / 2)=false->R (.yield (none,lo,lo+(hi - lo) / 2)) st)->wpS (model prog w) A E s (f x (none,lo,hi)) R st)
  (h1:lo<=hi) (h2:hi<=n) (h3:∀i,i<lo->b i=true) (h4:∀i,hi<=i->i<n->b i=false)
  (h:∀k,k<=n->(∀i,i<k->b i=true)->(∀i,k<=i->i<n->b i=false)->Q (none,k,k) st):wpS (model prog w) A E s (forIn [0:n] (none,lo,hi) f) Q st:=by
 refine wpS_forRange (I:=λx c d=>d=st/\∃lo hi,c=(none,lo,hi)/\lo<=hi/\hi<=n/\hi - lo<=n - x/\(∀i,i<lo->b i=true)/\(∀i,hi<=i->i<n->b i=false)) ?_ ?_ ⟨rfl,lo,hi,rfl,h1,h2,by omega,h3,h4⟩
 ·rintro x c d _ hx ⟨rfl,lo,hi,rfl,h1,h2,h3,h4,h5⟩
  refine m x lo hi _ h1 h2 (λe=>?_) (λl e=>?_) λl e=>?_
  ·subst e;exact h lo h2 h4 h5
  ·exact⟨rfl,_,hi,rfl,by omega,h2,by omega,λi t=>mono i _ (by omega) (by omega) e,h5⟩
  ·refine⟨rfl,lo,_,rfl,by omega,by omega,by omega,h4,λi r q=>?_⟩
   cases e':b i with
   |false=>rfl
   |true=>rw[mono _ i r q e'] at e;cases e
 ·rintro c d ⟨rfl,lo,hi,rfl,h1,h2,h3,h4,h5⟩
  have:lo=hi:=by omega
  subst this;exact h lo h2 h4 h5
theorem JV{B:Bool}{C:Keyed}{H:Array Keyed}{bs n l:Nat}{st:SortSt}{b:Nat->Bool}{Q:Option Nat->SortSt->Prop}
  (hb:∀i (R:Option Bool->SortSt->Prop),i<n->R (some (b i)) st->wpS (model prog w) A E s (bey B C H bs i) R st)
  (mono:∀i j,i<=j->j<n->b j=true->b i=true) (F:l<n)
  (h:∀k,k<=n->(∀i,i<k->b i=true)->(∀i,k<=i->i<n->b i=false)->Q (some k) st):
  wpS (model prog w) A E s (gal B C H bs n l) Q st:=by
 rw[Wc]
 have t:∀i j,i<=j->j<n->b i=false->b j=false:=λi j h1 h2 h3=>by
  cases e:b j with
  |false=>rfl
  |true=>rw[mono i j h1 h2 e] at h3;cases h3
 refine wpS_bind (hb _ _ F ?_);dsimp only
 cases e0:b l with
 |true =>
  rw[if_pos rfl]
  refine wpS_bind (wpS_mono (wpS_forRange (I:=λx c m=>m=st/\∃d of,c=(none,d,of)/\d<of/\x<of/\l+d<n/\b (l+d)=true)
   (Q:=λc m=>m=st/\∃d of,c=(none,d,of)/\d<of/\l+d<n/\b (l+d)=true/\(n - l<=of\/l+of<n/\b (l+of)=false)) ?_ ?_ ⟨rfl,0,1,rfl,by omega,by omega,F,e0⟩) ?_)
  ·rintro x c m _ hx ⟨rfl,d,of,rfl,h1,h2,h3,h4⟩;dsimp only
   by_cases q:of>=n - l
   ·rw[if_pos q];exact wpS_pure ⟨rfl,d,of,rfl,h1,h3,h4,.inl q⟩
   ·rw[if_neg q];refine wpS_bind (hb _ _ (by omega) ?_);dsimp only
    cases e:b (l+of) with
    |false =>
     rw[if_pos (by decide)];exact wpS_pure ⟨rfl,d,of,rfl,h1,h3,h4,.inr ⟨by omega,e⟩⟩
    |true =>
     rw[if_neg (by decide)];exact wpS_pure ⟨rfl,of,_,rfl,by omega,by omega,by omega,e⟩
  ·rintro c m ⟨rfl,d,of,rfl,h1,h2,h3,h4⟩;exact⟨rfl,d,of,rfl,h1,h3,h4,.inl (by omega)⟩
  ·rintro c m ⟨rfl,d,of,rfl,h1,h3,h4,r⟩;dsimp only;refine wpS_bind (yC mono (λx lo hi R h1 h2 h3 h4 r=>?_) (lo:=l+d+1) (hi:=l+min of (n - l)) (by omega) (by omega) (λi hi=>?_) (λi G y=>?_) λk h2 h4 r=>wpS_pure (h k h2 h4 r))
   ·dsimp only
    by_cases q:lo>=hi
    ·rw[if_pos q];exact wpS_pure (h3 (by omega))
    ·rw[if_neg q];refine wpS_bind (hb _ _ (by omega) ?_);dsimp only
     cases e:b (lo+(hi - lo) / 2) with
     |true =>
      rw[if_pos rfl];exact wpS_pure (h4 (by omega) e)
     |false =>
      rw[if_neg (by decide)];exact wpS_pure (r (by omega) e)
   ·exact mono i _ (by omega) h3 h4
   ·rcases r with r | ⟨r,u⟩
    ·omega
    ·exact t _ i (by omega) y u
 |false =>
  rw[if_neg (by decide)]
  refine wpS_bind (wpS_mono (wpS_forRange (I:=λx c m=>m=st/\∃d of,c=(none,d,of)/\d<of/\x<of/\d<=l/\b (l - d)=false)
   (Q:=λc m=>m=st/\∃d of,c=(none,d,of)/\d<of/\d<=l/\b (l - d)=false/\(l+1<=of\/of<=l/\b (l - of)=true)) ?_ ?_ ⟨rfl,0,1,rfl,by omega,by omega,by omega,e0⟩) ?_)
  ·rintro x c m _ hx ⟨rfl,d,of,rfl,h1,h2,h3,h4⟩;dsimp only
   by_cases q:of>=l+1
   ·rw[if_pos q];exact wpS_pure ⟨rfl,d,of,rfl,h1,h3,h4,.inl q⟩
   ·rw[if_neg q];refine wpS_bind (hb _ _ (by omega) ?_);dsimp only
    cases e:b (l - of) with
    |true =>
     rw[if_pos rfl];exact wpS_pure ⟨rfl,d,of,rfl,h1,h3,h4,.inr ⟨by omega,e⟩⟩
    |false =>
     rw[if_neg (by decide)];exact wpS_pure ⟨rfl,of,_,rfl,by omega,by omega,by omega,e⟩
  ·rintro c m ⟨rfl,d,of,rfl,h1,h2,h3,h4⟩;exact⟨rfl,d,of,rfl,h1,h3,h4,.inl (by omega)⟩
  ·rintro c m ⟨rfl,d,of,rfl,h1,h3,h4,r⟩;dsimp only;refine wpS_bind (yC mono (λx lo hi R h1 h2 h3 h4 r=>?_) (lo:=l+1 - min of (l+1)) (hi:=l - d) (by omega) (by omega) (λi hi=>?_) (λi G y=>?_) λk h2 h4 r=>wpS_pure (h k h2 h4 r))
   ·dsimp only
    by_cases q:lo>=hi
    ·rw[if_pos q];exact wpS_pure (h3 (by omega))
    ·rw[if_neg q];refine wpS_bind (hb _ _ (by omega) ?_);dsimp only
     cases e:b (lo+(hi - lo) / 2) with
     |true =>
      rw[if_pos rfl];exact wpS_pure (h4 (by omega) e)
     |false =>
      rw[if_neg (by decide)];exact wpS_pure (r (by omega) e)
   ·rcases r with r | ⟨r,u⟩
    ·omega
    ·exact mono i _ (by omega) (by omega) u
   ·exact t _ i G y h4
def jx(prog:Program)(w:World)(A:Around)(E:Value->Shared->Prop)(s:Shared)(κ:SortKind)(rk:Keyed->Int)(l:List Keyed):Prop :=
 ∀x y,x∈l->y∈l->∀(st:SortSt) (Q:Option Bool->SortSt->Prop),kindOf st=κ->Q (some (decide (rk x<rk y))) st->wpS (model prog w) A E s (lt' x y) Q st
def Srt(rk:Keyed->Int)(l:List Keyed):Prop:=l.Pairwise λx y=>rk x<=rk y
variable {κ:SortKind}{rk:Keyed->Int}{all:List Keyed}
theorem eV{c:Array Keyed}{i:Nat}{x:Keyed}{st:SortSt}{Q:Keyed->SortSt->Prop}(e:c[i]?=some x)(h:Q x st):wpS (model prog w) A E s (elem' c i) Q st:=by
 rw[elem'_eq,e];exact wpS_pure h
def cut(p:Keyed->Bool)(T:List Keyed)(m:Nat):Bool:=(T[m]?).any p
theorem yD{p:Keyed->Bool}{T:List Keyed}{k:Nat}(h:∀i,i<k->cut p T i=true):∀x∈T.take k,p x=true:=λx c=>by
 obtain⟨i,d,e⟩:=List.getElem_of_mem c;rw[List.length_take] at d;rw[List.getElem_take] at e
 have:=h i (by omega)
 unfold cut at this;rw[zD (by omega),e] at this;exact this
theorem yE{p:Keyed->Bool}{T:List Keyed}{k:Nat}(h:∀i,k<=i->i<T.length->cut p T i=false):∀x∈T.drop k,p x=false:=λx c=>by
 obtain⟨i,d,e⟩:=List.getElem_of_mem c;rw[List.length_drop] at d;rw[List.getElem_drop] at e
 have:=h (k+i) (by omega) (by omega)
 unfold cut at this;rw[zD (by omega),e] at this;exact this
theorem yF{p:Keyed->Bool}{T:List Keyed}(hs:Srt rk T)(d:∀x y,rk x<=rk y->p y=true->p x=true)(i j:Nat)(c:i<=j)(l:j<T.length)(h:cut p T j=true):cut p T i=true:=by
 unfold cut at h ⊢;rw[zD (by omega)] at h ⊢
 rcases Nat.lt_or_eq_of_le c with q | q
 ·exact d _ _ (List.pairwise_iff_getElem.mp hs i j (by omega) l q) h
 ·subst q;exact h
theorem JW{j:Bool}{d:Keyed}{l:Array Keyed}{bs n:Nat}{T:List Keyed}{st:SortSt}(q:jx prog w A E s κ rk all)(r:kindOf st=κ)(u:(l.toList.drop bs).take n=T)(y:T.length=n)(t:∀x∈T,x∈all)(c:d∈all)
  (i:Nat) (R:Option Bool->SortSt->Prop) (hi:i<n) (h:R (some (cut (λx=>if j then decide (rk x<rk d) else !decide (rk d<rk x)) T i)) st):wpS (model prog w) A E s (bey j d l bs i) R st:=by
 unfold bey
 have hi':i<T.length:=by omega
 have e:l[bs+i]?=some T[i]:=by
  rw[<-Array.getElem?_toList,<-List.getElem?_drop,<-List.getElem?_take_of_lt hi,u];exact zD hi'
 refine wpS_bind (eV e ?_);unfold cut at h;rw[zD hi'] at h;have m:=t _ (zN hi')
 cases j with
 |true=>exact q _ _ m c _ _ r h
 |false=>exact wpS_bind (q _ _ c m _ _ r (wpS_pure h))
theorem yG{c:Keyed}{u:Array Keyed}{bs n t:Nat}{T:List Keyed}{st:SortSt}{Q:Option Nat->SortSt->Prop}(C:jx prog w A E s κ rk all)(F:kindOf st=κ)(H:(u.toList.drop bs).take n=T)(l:T.length=n)(B:∀x∈T,x∈all)(m:c∈all)(hs:Srt rk T)(G:t<n)
  (h:∀k,k<=n->(∀x∈T.take k,rk x<=rk c)->(∀x∈T.drop k,rk c<rk x)->Q (some k) st):wpS (model prog w) A E s (gal false c u bs n t) Q st:=by
 refine JV (λi R=>JW C F H l B m i R) (λi j r J=>yF hs (λx y I q=>?_) i j r (by omega)) G λk h1 h2 h3=>h k h1 (λx d=>?_) λx d=>?_
 ·simp at q ⊢;omega
 ·have:=yD h2 x d
  simpa using this
 ·have:=yE (λi a b=>h3 i a (by omega)) x d
  simpa using this
theorem yH{c:Keyed}{u:Array Keyed}{bs n t:Nat}{T:List Keyed}{st:SortSt}{Q:Option Nat->SortSt->Prop}(C:jx prog w A E s κ rk all)(F:kindOf st=κ)(H:(u.toList.drop bs).take n=T)(l:T.length=n)(B:∀x∈T,x∈all)(m:c∈all)(hs:Srt rk T)(G:t<n)
  (h:∀k,k<=n->(∀x∈T.take k,rk x<rk c)->(∀x∈T.drop k,rk c<=rk x)->Q (some k) st):wpS (model prog w) A E s (gal true c u bs n t) Q st:=by
 refine JV (λi R=>JW C F H l B m i R) (λi j r J=>yF hs (λx y I q=>?_) i j r (by omega)) G λk h1 h2 h3=>h k h1 (λx d=>?_) λx d=>?_
 ·simp at q ⊢;omega
 ·have:=yD h2 x d
  simpa using this
 ·have:=yE (λi a b=>h3 i a (by omega)) x d
  simpa using this
structure Mg(rk:Keyed->Int)(L M o:List Keyed)(i j:Nat):Prop where
 p:o.Perm (L.take i++M.take j)
 s:Srt rk o
 a:∀x∈o,∀y∈L.drop i,rk x<=rk y
 b:∀x∈o,∀y∈M.drop j,rk x<=rk y
theorem Mg.swap{L M o:List Keyed}{i j:Nat}(h:Mg rk L M o i j):Mg rk M L o j i:=⟨h.p.trans List.perm_append_comm,h.s,h.b,h.a⟩
theorem Srt.drop{L:List Keyed}(h:Srt rk L)(i:Nat):Srt rk (L.drop i):=List.Pairwise.sublist (List.drop_sublist _ _) h
theorem Srt.take{L:List Keyed}(h:Srt rk L)(i:Nat):Srt rk (L.take i):=List.Pairwise.sublist (List.take_sublist _ _) h
theorem Srt.cross{L:List Keyed}(h:Srt rk L)(k:Nat):∀x∈L.take k,∀y∈L.drop k,rk x<=rk y:=by
 have:Srt rk (L.take k++L.drop k):=by rw[List.take_append_drop];exact h
 exact(List.pairwise_append.mp this).2.2
theorem Mg.app{L M o:List Keyed}{i j:Nat}(h:Mg rk L M o i j)(k:Nat)(m:Srt rk L)(l:∀x∈(L.drop i).take k,∀y∈M.drop j,rk x<=rk y):Mg rk L M (o++(L.drop i).take k) (i+k) j:=by
 refine⟨?_,?_,?_,?_⟩
 ·rw[List.take_add,zk];refine(h.p.append_right _).trans ?_;rw[zk];exact List.Perm.append_left _ List.perm_append_comm
 ·exact List.pairwise_append.mpr ⟨h.s,(m.drop i).take k,λx l y c=>h.a x l y (List.mem_of_mem_take c)⟩
 ·intro x d y c;rw[<-List.drop_drop] at c
  rcases zu.mp d with q | q
  ·exact h.a x q y (jc c)
  ·exact(m.drop i).cross k x q y c
 ·intro x d y c
  rcases zu.mp d with q | q
  ·exact h.b x q y c
  ·exact l x q y c
theorem Mg.fin{L M o:List Keyed}{i j:Nat}(h:Mg rk L M o i j)(n:Srt rk L)(m:Srt rk M)(l:∀x∈L.drop i,∀y∈M.drop j,rk x<=rk y):(o++L.drop i++M.drop j).Perm (L++M)/\Srt rk (o++L.drop i++M.drop j):=by
 constructor
 ·have h1:(L.take i++M.take j++L.drop i++M.drop j).Perm (L++M):=by
   have e:L++M=(L.take i++L.drop i)++(M.take j++M.drop j):=by rw[List.take_append_drop,List.take_append_drop]
   rw[e];simp only[zk];refine List.Perm.append_left _ ?_;rw[<-zk,<-zk];exact List.Perm.append_right _ List.perm_append_comm
  exact((h.p.append_right _).append_right _).trans h1
 ·refine List.pairwise_append.mpr ⟨List.pairwise_append.mpr ⟨h.s,n.drop i,h.a⟩,m.drop j,λx d y c=>?_⟩
  rcases zu.mp d with q | q
  ·exact h.b x q y c
  ·exact l x q y c
end
def mLo:Array Keyed->Array Keyed->SoM (Array Keyed):=sortPriv% PySem.Builtin.mergeLo
def mHi:Array Keyed->Array Keyed->SoM (Array Keyed):=sortPriv% PySem.Builtin.mergeHi
abbrev sO(st:SortSt)(g:Nat):SortSt:=SortSt.mk' (kindOf st) (arrOf st) (pendingOf st) g (failedOf st)
def setG(g:Nat):SoM Unit:=modify λst=>sO st g
theorem Wd(a b:Array Keyed):mLo a b=(do
 rule "list.sort.merge-lo"
 let tot:=a.size+b.size
 let dn (u:Array Keyed) (i j:Nat):=u++a.extract i a.size++b.extract j b.size
 let la (u:Array Keyed) (i j:Nat):=u++b.extract j b.size++a.extract i a.size
 let mut u:Array Keyed:=#[<-elem' b 0]
 let mut i:=0
 let mut j:=1
 if j == b.size then return dn u i j
 if i+1 == a.size then return la u i j
 let mut mg:=gallopOf (<-get)
 for _ in [0:tot] do
  let mut p:=0
  let mut q:=0
  for _ in [0:tot] do
   let some z <-lt' (<-elem' b j) (<-elem' a i) | return dn u i j
   if z then
    u:=u.push (<-elem' b j);j:=j+1;q:=q+1;p:=0
    if j == b.size then return dn u i j
    if q>=mg then break
   else
    u:=u.push (<-elem' a i);i:=i+1;p:=p+1;q:=0
    if i+1 == a.size then return la u i j
    if p>=mg then break
  rule "list.sort.gallop"
  mg:=mg+1
  for _ in [0:tot] do
   if mg>1 then mg:=mg - 1
   setG mg
   let some k <-gal false (<-elem' b j) a i (a.size - i) 0 | return dn u i j
   p:=k
   if k>0 then
    u:=u++a.extract i (i+k);i:=i+k
    if i+1 == a.size then return la u i j
    if i == a.size then return dn u i j
   u:=u.push (<-elem' b j);j:=j+1
   if j == b.size then return dn u i j
   let some k <-gal true (<-elem' a i) b j (b.size - j) 0 | return dn u i j
   q:=k
   if k>0 then
    u:=u++b.extract j (j+k);j:=j+k
    if j == b.size then return dn u i j
   u:=u.push (<-elem' a i);i:=i+1
   if i+1 == a.size then return la u i j
   if p<7&&q<7 then break
  mg:=mg+1
  setG mg
 unsupported "internal:list.sort.merge-bound"):=rfl
section
variable {prog:Program}{w:World}{A:Around}{E:Value->Shared->Prop}{s:Shared}{κ:SortKind}{rk:Keyed->Int}{all:List Keyed}
structure SSm(st st':SortSt):Prop where
 k:kindOf st'=kindOf st
 a:arrOf st'=arrOf st
 p:pendingOf st'=pendingOf st
 f:failedOf st'=failedOf st
theorem vd(a:Array Keyed)(i:Nat):(a.extract i a.size).toList=a.toList.drop i:=by
 rw[Array.toList_extract,List.extract_eq_drop_take,List.take_of_length_le];rw[List.length_drop,Array.length_toList];exact zc _
theorem JX(a:Array Keyed)(i k:Nat):(a.extract i (i+k)).toList=(a.toList.drop i).take k:=by
 rw[Array.toList_extract,List.extract_eq_drop_take,Nat.add_sub_cancel_left]
def Gd(rk:Keyed->Int)(a b:Array Keyed)(st:SortSt)(r:Array Keyed)(c:SortSt):Prop:=r.toList.Perm (a.toList++b.toList)/\Srt rk r.toList/\SSm st c
theorem b8{α:Type}{c:Prop}[Decidable c]{x y:SoM α}{Q:α->SortSt->Prop}{st:SortSt}(h1:c->wpS (model prog w) A E s x Q st)(h2:¬c->wpS (model prog w) A E s y Q st):wpS (model prog w) A E s (if c then x else y) Q st:=by
 by_cases e:c
 ·rw[if_pos e];exact h1 e
 ·rw[if_neg e];exact h2 e
theorem m5{α:Type}{m:SoM α}{Q:α->SortSt->Prop}{st:SortSt}(T:(α->SortSt->Prop)->Prop)(h1:T Q)(h2:T Q->wpS (model prog w) A E s m Q st):wpS (model prog w) A E s m Q st:=h2 h1
theorem SSm.refl{st:SortSt}:SSm st st:=⟨rfl,rfl,rfl,rfl⟩
theorem vf{g:Nat}{st:SortSt}{Q:Unit->SortSt->Prop}(h:Q () (sO st g)):wpS (model prog w) A E s (setG g) Q st:=wpS_modify h
theorem SSm.put{st c:SortSt}(h:SSm st c)(g:Nat):SSm st (sO c g):=⟨h.k,h.a,h.p,h.f⟩
theorem take1{a:Array Keyed}{i:Nat}(hi:i<a.size):(a.toList.drop i).take 1=[a[i]]:=by
 rw[List.drop_eq_getElem_cons (by rw[Array.length_toList];exact hi)];simp
section
variable {a b u:Array Keyed}{i j:Nat}{st st':SortSt}
theorem yI(m:Mg rk a.toList b.toList u.toList i j)(sa:Srt rk a.toList)(hi:i<a.size)(h:∀y∈b.toList.drop j,rk a[i]<=rk y):Mg rk a.toList b.toList (u.push a[i]).toList (i+1) j:=by
 have:=m.app 1 sa (by rw[take1 hi];intro x c;rw[zl.mp c];exact h)
 rw[take1 hi] at this;rw[Array.toList_push];exact this
theorem yJ(m:Mg rk a.toList b.toList u.toList i j)(c:Srt rk b.toList)(d:j<b.size)(h:∀y∈a.toList.drop i,rk b[j]<=rk y):Mg rk a.toList b.toList (u.push b[j]).toList i (j+1):=(yI m.swap c d h).swap
theorem JZ(m:Mg rk a.toList b.toList u.toList i j)(sa:Srt rk a.toList)(k:Nat)(h:∀x∈(a.toList.drop i).take k,∀y∈b.toList.drop j,rk x<=rk y):Mg rk a.toList b.toList (u++a.extract i (i+k)).toList (i+k) j:=by
 rw[Array.toList_append,JX];exact m.app k sa h
theorem We(m:Mg rk a.toList b.toList u.toList i j)(c:Srt rk b.toList)(k:Nat)(h:∀x∈(b.toList.drop j).take k,∀y∈a.toList.drop i,rk x<=rk y):Mg rk a.toList b.toList (u++b.extract j (j+k)).toList i (j+k):=(JZ m.swap c k h).swap
theorem sS(m:Mg rk a.toList b.toList u.toList i j)(sa:Srt rk a.toList)(l:Srt rk b.toList)(S:SSm st st')(h:i=a.size\/j=b.size):Gd rk a b st (u++a.extract i a.size++b.extract j b.size) st':=by
 obtain⟨h1,h2⟩:=m.fin sa l (λx d y c=>by
  rcases h with h | h
  ·rw[List.drop_eq_nil_of_le (by rw[Array.length_toList];omega)] at d;cases d
  ·rw[List.drop_eq_nil_of_le (by rw[Array.length_toList];omega)] at c;cases c)
 refine⟨?_,?_,S⟩<;>rw[Array.toList_append,Array.toList_append,vd,vd]
 ·exact h1
 ·exact h2
theorem vg(m:Mg rk a.toList b.toList u.toList i j)(sa:Srt rk a.toList)(d:Srt rk b.toList)(S:SSm st st')(hi:i+1=a.size)(h4:∀y∈b.toList,rk y<=rk (a[i]'(by omega))):Gd rk a b st (u++b.extract j b.size++a.extract i a.size) st':=by
 obtain⟨h1,h2⟩:=m.swap.fin d sa (λx h y c=>by
  rw[List.drop_eq_getElem_cons (by rw[Array.length_toList];omega),List.drop_eq_nil_of_le (by rw[Array.length_toList];omega),zl] at c;rw[c]
  exact h4 x (jc h))
 refine⟨?_,?_,S⟩<;>rw[Array.toList_append,Array.toList_append,vd,vd]
 ·exact h1.trans List.perm_append_comm
 ·exact h2
theorem vh(d:Srt rk b.toList)(h:j<b.size):∀y∈b.toList.drop j,rk b[j]<=rk y:=λy c=>by
 have s:=d.drop j;rw[List.drop_eq_getElem_cons (by rw[Array.length_toList];exact h)] at s c
 rcases zh.mp c with q | q
 ·rw[q];exact Int.le_refl _
 ·exact(List.pairwise_cons.mp s).1 y q
end
theorem lU{α β:Type}{v:β}{y:β->SoM α}{Q:α->SortSt->Prop}{st:SortSt}(h:wpS (model prog w) A E s (y v) Q st):wpS (model prog w) A E s (have j:=v;y j) Q st:=h
theorem Wf{a b:Array Keyed}{st:SortSt}{Q:Array Keyed->SortSt->Prop}(hl:jx prog w A E s κ rk all)(hk:kindOf st=κ)(ha:∀x∈a.toList,x∈all)(hb:∀x∈b.toList,x∈all)(sa:Srt rk a.toList)(G:Srt rk b.toList)
  (h1:0<a.size) (h2:0<b.size) (h3:∀y∈a.toList,rk b[0]<=rk y) (h4:∀y∈b.toList,rk y<=rk a[a.size - 1])
  (h:∀r l,Gd rk a b st r l->Q r l):wpS (model prog w) A E s (mLo a b) Q st:=by
 have h4':∀i,(e:i+1=a.size)->∀y∈b.toList,rk y<=rk (a[i]'(by omega)):=λi e y L=>by
  have:=h4 y L
  have q:a.size - 1=i:=by omega
  simp only[q] at this;exact this
 have T:∀i,(e:i<a.size)->a[i]∈all:=λi e=>ha _ (Array.getElem_mem_toList e)
 have R:∀i,(e:i<b.size)->b[i]∈all:=λi e=>hb _ (Array.getElem_mem_toList e)
 have hla:∀i,((a.toList.drop i).take (a.size - i))=a.toList.drop i:=λi=>List.take_of_length_le (by rw[List.length_drop,Array.length_toList];exact zc _)
 have hlb:∀i,((b.toList.drop i).take (b.size - i))=b.toList.drop i:=λi=>List.take_of_length_le (by rw[List.length_drop,Array.length_toList];exact zc _)
 rw[Wd];refine wpS_bind (wpS_lift (zU ⟨rfl,?_⟩))
 iterate 3 refine lU ?_
 refine wpS_bind (eV (getElem?_pos b 0 h2) ?_);have m0:Mg rk a.toList b.toList #[b[0]].toList 0 1:=yJ (u:=#[]) ⟨.nil,.nil,(λx O=>nomatch O),(λx O=>nomatch O)⟩ G h2 h3
 iterate 3 refine lU ?_
 refine b8 (λe=>wpS_pure (h _ _ (sS m0 sa G SSm.refl (.inr (by simpa using e))))) λe1=>b8 (λe=>wpS_pure (h _ _ (vg m0 sa G SSm.refl (by simpa using e) (h4' _ (by simpa using e))))) λe2=>?_
 have e1':1≠b.size:=λz=>e1 (by simpa using z)
 have e2':1≠a.size:=λz=>e2 (by simpa using z)
 refine wpS_bind (wpS_get ?_);refine lU ?_
 refine wpS_bind (wpS_mono (wpS_forRange (I:=λx c l=>∃u i j mg,c=(none,u,i,j,mg)/\Mg rk a.toList b.toList u.toList i j/\i+1<a.size/\j<b.size/\x+1<=i+j/\SSm st l)
  (Q:=λc l=>∃r d,c=(some r,d)/\Gd rk a b st r l) ?_ ?_ ⟨_,_,_,_,rfl,m0,by omega,by omega,by omega,SSm.refl⟩) ?_)
 ·rintro x c l _ O ⟨u,i,j,mg,rfl,m,F,n,H,S⟩
  iterate 9 refine lU ?_
  refine wpS_bind (wpS_mono (wpS_forRange (I:=λy c C=>C=l/\∃u i j p q,c=(none,u,i,j,p,q)/\Mg rk a.toList b.toList u.toList i j/\i+1<a.size/\j<b.size/\x+1+y<=i+j)
   (Q:=λc C=>C=l/\((∃r d,c=(some r,d)/\Gd rk a b st r l)\/∃u i j p q,c=(none,u,i,j,p,q)/\Mg rk a.toList b.toList u.toList i j/\i+1<a.size/\j<b.size/\x+2<=i+j)) ?_ ?_ ⟨rfl,u,i,j,_,_,rfl,m,F,n,H⟩) ?_)
  ·rintro y c C _ L ⟨rfl,u,i,j,p,q,rfl,m,F,n,H⟩
   iterate 9 refine lU ?_
   refine wpS_bind (eV (getElem?_pos b j n) ?_);refine wpS_bind (eV (getElem?_pos a i (by omega)) ?_);refine wpS_bind (hl _ _ (R j n) (T i (by omega)) _ _ (S.k.trans hk) ?_);dsimp only;refine b8 (λz=>?_) (λz=>?_)
   ·have z':rk b[j]<rk a[i]:=je z;have B:=yJ m G n (λy L=>Int.le_trans (Int.le_of_lt z') (vh sa (by omega) y L));refine wpS_bind (eV (getElem?_pos b j n) ?_)
    refine b8 (λe=>wpS_pure ⟨rfl,.inl ⟨_,_,rfl,sS B sa G S (.inr (by simpa using e))⟩⟩) λe=>?_
    have Z:j+1≠b.size:=λz=>e (by simpa using z)
    exact b8 (λ_=>wpS_pure ⟨rfl,.inr ⟨_,_,_,_,_,rfl,B,F,by omega,by omega⟩⟩) λ_=>wpS_pure ⟨rfl,_,_,_,_,_,rfl,B,F,by omega,by omega⟩
   ·have z':rk a[i]<=rk b[j]:=Int.not_lt.mp λq=>z (zH q)
    have B:=yI m sa (by omega) (λy L=>Int.le_trans z' (vh G n y L));refine wpS_bind (eV (getElem?_pos a i (by omega)) ?_)
    refine b8 (λe=>wpS_pure ⟨rfl,.inl ⟨_,_,rfl,vg B sa G S (by simpa using e) (h4' _ (by simpa using e))⟩⟩) λe=>?_
    have Z:i+1+1≠a.size:=λz=>e (by simpa using z)
    exact b8 (λ_=>wpS_pure ⟨rfl,.inr ⟨_,_,_,_,_,rfl,B,by omega,n,by omega⟩⟩) λ_=>wpS_pure ⟨rfl,_,_,_,_,_,rfl,B,by omega,n,by omega⟩
  ·rintro c C ⟨rfl,u,i,j,p,q,rfl,m,F,n,H⟩;exact⟨rfl,.inr ⟨u,i,j,p,q,rfl,m,F,n,by omega⟩⟩
  ·rintro c C ⟨rfl,⟨r,d,rfl,g⟩ | ⟨u,i,j,p,q,rfl,m,F,n,H⟩⟩
   ·exact wpS_pure ⟨r,_,rfl,g⟩
   ·refine wpS_bind (wpS_lift (zU ⟨rfl,?_⟩));refine lU ?_
    refine wpS_bind (wpS_mono (wpS_forRange (I:=λy c l=>∃u i j mg p q,c=(none,u,i,j,mg,p,q)/\Mg rk a.toList b.toList u.toList i j/\i+1<a.size/\j<b.size/\x+2<=i+j/\SSm st l)
     (Q:=λc l=>(∃r d,c=(some r,d)/\Gd rk a b st r l)\/∃u i j mg p q,c=(none,u,i,j,mg,p,q)/\Mg rk a.toList b.toList u.toList i j/\i+1<a.size/\j<b.size/\x+2<=i+j/\SSm st l) ?_ ?_ ⟨u,i,j,_,_,_,rfl,m,F,n,H,S⟩) ?_)
    ·clear m F n H S
     rintro y c l _ L ⟨u,i,j,mg,p,q,rfl,m,F,n,H,S⟩
     extract_lets c1 u1 c2 i1 c3 j1 c4 g1 c5 p1 q1 j2 J g2
     refine m5 (λQ=>∀r mg,wpS (model prog w) A E s (J r mg) Q l) ?_ λW=>b8 (λ_=>W () _) λ_=>W () _
     dsimp (config:={zeta:=false,zetaHave:=false,zetaDelta:=true}) only
     clear g2 J
     intro _ mg;refine wpS_bind (vf ?_);have U:=S.put mg
     generalize sO l mg=Y at U ⊢
     refine wpS_bind (eV (getElem?_pos b j n) ?_);refine wpS_bind (yG hl (U.k.trans hk) (hla i) (by rw[List.length_drop,Array.length_toList]) (λx O=>ha x (jc O)) (R j n) (sa.drop i) (by omega) λk X P t=>?_);rw[List.drop_drop] at t;have B:=JZ m sa k (λx O y L=>Int.le_trans (P x O) (vh G n y L))
     dsimp (config:={zeta:=false,zetaHave:=false}) only
     extract_lets c6 J2 u2 i2
     refine m5 (λQ=>∀r (u:Array Keyed) i,Mg rk a.toList b.toList u.toList i j->i+1<a.size->x+2<=i+j->(∀y∈a.toList.drop i,rk b[j]<rk y)->wpS (model prog w) A E s (J2 r u i) Q Y) ?_ λW=>b8 (λk0=>b8 (λe=>wpS_pure (.inl ⟨_,_,rfl,vg B sa G U (by simpa using e) (h4' _ (by simpa using e))⟩)) λe=>b8 (λe=>wpS_pure (.inl ⟨_,_,rfl,sS B sa G U (.inl (by simpa using e))⟩)) λZ=>W () _ _ B ?_ (by omega) t) λk0=>W () _ _ m F H ?_
     rotate_left
     ·have e1:i+k+1≠a.size:=λz=>e (by simpa using z)
      have e2:i+k≠a.size:=λz=>Z (by simpa using z)
      omega
     ·have:k=0:=by omega
      rw[this] at t;exact t
     clear m F H B X P t
     intro _ u i m F H hlt;refine wpS_bind (eV (getElem?_pos b j n) ?_)
     have B:=yJ m G n λy L=>Int.le_of_lt (hlt y L)
     refine b8 (λe=>wpS_pure (.inl ⟨_,_,rfl,sS B sa G U (.inr (by simpa using e))⟩)) λe=>?_
     have hj1:j+1<b.size:=by
      have:j+1≠b.size:=λz=>e (by simpa using z)
      omega
     refine wpS_bind (eV (getElem?_pos a i (by omega)) ?_);refine wpS_bind (yH hl (U.k.trans hk) (hlb (j+1)) (by rw[List.length_drop,Array.length_toList]) (λx O=>hb x (jc O)) (T i (by omega)) (G.drop (j+1)) (by omega) λk' X P t=>?_);rw[List.drop_drop] at t;have m2:=We B G k' (λx O y L=>Int.le_trans (Int.le_of_lt (P x O)) (vh sa (by omega) y L))
     dsimp (config:={zeta:=false,zetaHave:=false}) only
     extract_lets c7 i3 J3 u3 j3
     refine m5 (λQ=>∀r (u:Array Keyed) j,Mg rk a.toList b.toList u.toList i j->j<b.size->x+2<=i+j->(∀y∈b.toList.drop j,rk a[i]<=rk y)->wpS (model prog w) A E s (J3 r u j) Q Y) ?_ λW=>b8 (λk0=>b8 (λe=>wpS_pure (.inl ⟨_,_,rfl,sS m2 sa G U (.inr (by simpa using e))⟩)) λe=>W () _ _ m2 ?_ (by omega) t) λk0=>W () _ _ B hj1 (by omega) ?_
     rotate_left
     ·have e1:j+1+k'≠b.size:=λz=>e (by simpa using z)
      omega
     ·have:k'=0:=by omega
      rw[this] at t;exact t
     clear m H B m2 X P t
     intro _ u j m n H hle;refine wpS_bind (eV (getElem?_pos a i (by omega)) ?_);have B:=yI m sa (by omega) hle
     refine b8 (λe=>wpS_pure (.inl ⟨_,_,rfl,vg B sa G U (by simpa using e) (h4' _ (by simpa using e))⟩)) λe=>?_
     have Z:i+1+1≠a.size:=λz=>e (by simpa using z)
     exact b8 (λ_=>wpS_pure (.inr ⟨_,_,_,_,_,_,rfl,B,by omega,n,by omega,U⟩)) λ_=>wpS_pure ⟨_,_,_,_,_,_,rfl,B,by omega,n,by omega,U⟩
    ·rintro c l ⟨u,i,j,mg,p,q,rfl,m,F,n,H,S⟩;exact .inr ⟨u,i,j,mg,p,q,rfl,m,F,n,H,S⟩
    ·rintro c l (⟨r,d,rfl,g⟩ | ⟨u,i,j,mg,p,q,rfl,m,F,n,H,S⟩)
     ·exact wpS_pure ⟨r,_,rfl,g⟩
     ·exact wpS_bind (vf (wpS_pure ⟨u,i,j,_,rfl,m,F,n,by omega,S.put _⟩))
 ·rintro c l ⟨u,i,j,mg,rfl,m,F,n,H,S⟩;omega
 ·rintro c l ⟨r,d,rfl,g⟩;exact wpS_pure (h r l g)
end
theorem Wg(a b:Array Keyed):mHi a b=(do
 rule "list.sort.merge-hi"
 let tot:=a.size+b.size
 let dn (u:Array Keyed) (i j:Nat):=a.extract 0 i++b.extract 0 j++u.reverse
 let fb (u:Array Keyed) (i j:Nat):=b.extract 0 j++a.extract 0 i++u.reverse
 let mut i:=a.size - 1
 let mut j:=b.size
 let mut u:Array Keyed:=#[<-elem' a i]
 if i == 0 then return dn u i j
 if j == 1 then return fb u i j
 let mut mg:=gallopOf (<-get)
 for _ in [0:tot] do
  let mut p:=0
  let mut q:=0
  for _ in [0:tot] do
   let some z <-lt' (<-elem' b (j - 1)) (<-elem' a (i - 1)) | return dn u i j
   if z then
    i:=i - 1;u:=u.push (<-elem' a i);p:=p+1;q:=0
    if i == 0 then return dn u i j
    if p>=mg then break
   else
    j:=j - 1;u:=u.push (<-elem' b j);q:=q+1;p:=0
    if j == 1 then return fb u i j
    if q>=mg then break
  rule "list.sort.gallop"
  mg:=mg+1
  for _ in [0:tot] do
   if mg>1 then mg:=mg - 1
   setG mg
   let some t <-gal false (<-elem' b (j - 1)) a 0 i (i - 1) | return dn u i j
   let k:=i - t
   p:=k
   if k>0 then
    u:=u++(a.extract t i).reverse;i:=t
    if i == 0 then return dn u i j
   j:=j - 1;u:=u.push (<-elem' b j)
   if j == 1 then return fb u i j
   let some t <-gal true (<-elem' a (i - 1)) b 0 j (j - 1) | return dn u i j
   let k:=j - t
   q:=k
   if k>0 then
    u:=u++(b.extract t j).reverse;j:=t
    if j == 1 then return fb u i j
    if j == 0 then return dn u i j
   i:=i - 1;u:=u.push (<-elem' a i)
   if i == 0 then return dn u i j
   if p<7&&q<7 then break
  mg:=mg+1
  setG mg
 unsupported "internal:list.sort.merge-bound"):=rfl
section
variable {prog:Program}{w:World}{A:Around}{E:Value->Shared->Prop}{s:Shared}{κ:SortKind}{rk:Keyed->Int}{all:List Keyed}
structure Mh(rk:Keyed->Int)(L M o:List Keyed)(i j:Nat):Prop where
 p:o.Perm (L.drop i++M.drop j)
 s:Srt rk o.reverse
 a:∀x∈o,∀y∈L.take i,rk y<=rk x
 b:∀x∈o,∀y∈M.take j,rk y<=rk x
theorem Mh.swap{L M o:List Keyed}{i j:Nat}(h:Mh rk L M o i j):Mh rk M L o j i:=⟨h.p.trans List.perm_append_comm,h.s,h.b,h.a⟩
theorem Mh.app{L M o:List Keyed}{i j:Nat}(h:Mh rk L M o i j)(t:Nat)(n:t<=i)(hi:i<=L.length)(r:Srt rk L)(l:∀x∈(L.take i).drop t,∀y∈M.take j,rk y<=rk x):Mh rk L M (o++((L.take i).drop t).reverse) t j:=by
 have hd:L.drop t=(L.take i).drop t++L.drop i:=by
  conv=>lhs;rw[<-List.take_append_drop i L]
  rw[List.drop_append,List.length_take,Nat.min_eq_left hi,Nat.sub_eq_zero_of_le n,List.drop_zero]
 have m:L.take t=(L.take i).take t:=by rw[List.take_take,Nat.min_eq_left n]
 refine⟨?_,?_,?_,?_⟩
 ·rw[hd];refine(h.p.append (List.reverse_perm _)).trans ?_;refine List.perm_append_comm.trans ?_;rw[zk]
 ·rw[List.reverse_append,List.reverse_reverse];exact List.pairwise_append.mpr ⟨(r.take i).drop t,h.s,λx l y c=>h.a y (List.mem_reverse.mp c) x (jc l)⟩
 ·intro x d y c;rw[m] at c
  rcases zu.mp d with q | q
  ·exact h.a x q y (List.mem_of_mem_take c)
  ·exact(r.take i).cross t y c x (List.mem_reverse.mp q)
 ·intro x d y c
  rcases zu.mp d with q | q
  ·exact h.b x q y c
  ·exact l x (List.mem_reverse.mp q) y c
theorem Mh.fin{L M o:List Keyed}{i j:Nat}(h:Mh rk L M o i j)(n:Srt rk L)(m:Srt rk M)(l:∀x∈L.take i,∀y∈M.take j,rk x<=rk y):(L.take i++M.take j++o.reverse).Perm (L++M)/\Srt rk (L.take i++M.take j++o.reverse):=by
 constructor
 ·refine(List.Perm.append_left _ ((List.reverse_perm o).trans h.p)).trans ?_
  have e:L++M=(L.take i++L.drop i)++(M.take j++M.drop j):=by rw[List.take_append_drop,List.take_append_drop]
  rw[e];simp only[zk];refine List.Perm.append_left _ ?_;rw[<-zk,<-zk];exact List.Perm.append_right _ List.perm_append_comm
 ·refine List.pairwise_append.mpr ⟨List.pairwise_append.mpr ⟨n.take i,m.take j,l⟩,h.s,λx d y c=>?_⟩
  rcases zu.mp d with q | q
  ·exact h.a y (List.mem_reverse.mp c) x q
  ·exact h.b y (List.mem_reverse.mp c) x q
section
variable {a b u:Array Keyed}{i j:Nat}{st st':SortSt}
theorem sU(a:Array Keyed)(t i:Nat):(a.extract t i).toList=(a.toList.take i).drop t:=by
 rw[Array.toList_extract,List.extract_eq_drop_take,List.drop_take]
theorem vm{a:Array Keyed}{i:Nat}(h0:0<i)(hi:i<=a.size):(a.toList.take i).drop (i - 1)=[a[i - 1]'(by omega)]:=by
 have:i - 1<(a.toList.take i).length:=by rw[List.length_take,Array.length_toList];omega
 rw[List.drop_eq_getElem_cons this,List.drop_eq_nil_of_le (by rw[List.length_take,Array.length_toList];omega)];simp
theorem vo(m:Mh rk a.toList b.toList u.toList i j)(sa:Srt rk a.toList)(h0:0<i)(hi:i<=a.size)(h:∀y∈b.toList.take j,rk y<=rk (a[i - 1]'(by omega))):Mh rk a.toList b.toList (u.push (a[i - 1]'(by omega))).toList (i - 1) j:=by
 have:=m.app (i - 1) (by omega) (by rw[Array.length_toList];exact hi) sa (by rw[vm h0 hi];intro x c;rw[zl.mp c];exact h)
 rw[vm h0 hi] at this;rw[Array.toList_push];exact this
theorem J0(m:Mh rk a.toList b.toList u.toList i j)(c:Srt rk b.toList)(h0:0<j)(d:j<=b.size)(h:∀y∈a.toList.take i,rk y<=rk (b[j - 1]'(by omega))):Mh rk a.toList b.toList (u.push (b[j - 1]'(by omega))).toList i (j - 1):=(vo m.swap c h0 d h).swap
theorem J1(m:Mh rk a.toList b.toList u.toList i j)(sa:Srt rk a.toList)(t:Nat)(c:t<=i)(hi:i<=a.size)(h:∀x∈(a.toList.take i).drop t,∀y∈b.toList.take j,rk y<=rk x):Mh rk a.toList b.toList (u++(a.extract t i).reverse).toList t j:=by
 rw[Array.toList_append,Array.toList_reverse,sU];exact m.app t c (by rw[Array.length_toList];exact hi) sa h
theorem Wh(m:Mh rk a.toList b.toList u.toList i j)(c:Srt rk b.toList)(t:Nat)(d:t<=j)(l:j<=b.size)(h:∀x∈(b.toList.take j).drop t,∀y∈a.toList.take i,rk y<=rk x):Mh rk a.toList b.toList (u++(b.extract t j).reverse).toList i t:=(J1 m.swap c t d l h).swap
theorem sV(m:Mh rk a.toList b.toList u.toList i j)(sa:Srt rk a.toList)(c:Srt rk b.toList)(S:SSm st st')(h:i=0\/j=0):Gd rk a b st (a.extract 0 i++b.extract 0 j++u.reverse) st':=by
 obtain⟨h1,h2⟩:=m.fin sa c (λx l y d=>by
  rcases h with h | h
  ·subst h;cases l
  ·subst h;cases d)
 refine⟨?_,?_,S⟩<;>rw[Array.toList_append,Array.toList_append,Array.toList_reverse,sU,sU,List.drop_zero,List.drop_zero]
 ·exact h1
 ·exact h2
theorem vp(m:Mh rk a.toList b.toList u.toList i j)(sa:Srt rk a.toList)(d:Srt rk b.toList)(S:SSm st st')(l:j=1)(h0:0<b.size)(h3:∀y∈a.toList,rk b[0]<=rk y):Gd rk a b st (b.extract 0 j++a.extract 0 i++u.reverse) st':=by
 obtain⟨h1,h2⟩:=m.swap.fin d sa (λx c y h=>by
  subst l;have e:b.toList.take 1=[b[0]]:=take1 (i:=0) h0;rw[e,zl] at c;rw[c]
  exact h3 y (List.mem_of_mem_take h))
 refine⟨?_,?_,S⟩<;>rw[Array.toList_append,Array.toList_append,Array.toList_reverse,sU,sU,List.drop_zero,List.drop_zero]
 ·exact h1.trans List.perm_append_comm
 ·exact h2
theorem vq(sa:Srt rk a.toList)(h0:0<i)(hi:i<=a.size):∀y∈a.toList.take i,rk y<=rk (a[i - 1]'(by omega)):=λy d=>by
 have c:=(sa.take i).cross (i - 1);rw[vm h0 hi] at c;have e:a.toList.take i=(a.toList.take i).take (i - 1)++(a.toList.take i).drop (i - 1):=(List.take_append_drop _ _).symm;rw[e,vm h0 hi] at d
 rcases zu.mp d with q | q
 ·exact c y q _ zp
 ·rw[zl.mp q];exact Int.le_refl _
end
theorem Wi{a b:Array Keyed}{st:SortSt}{Q:Array Keyed->SortSt->Prop}(hl:jx prog w A E s κ rk all)(hk:kindOf st=κ)(ha:∀x∈a.toList,x∈all)(hb:∀x∈b.toList,x∈all)(sa:Srt rk a.toList)(P:Srt rk b.toList)
  (h1:0<a.size) (h2:0<b.size) (h3:∀y∈a.toList,rk b[0]<=rk y) (h4:∀y∈b.toList,rk y<=rk a[a.size - 1])
  (h:∀r l,Gd rk a b st r l->Q r l):wpS (model prog w) A E s (mHi a b) Q st:=by
 have Z:∀i,(e:i<a.size)->a[i]∈all:=λi e=>ha _ (Array.getElem_mem_toList e)
 have Y:∀i,(e:i<b.size)->b[i]∈all:=λi e=>hb _ (Array.getElem_mem_toList e)
 rw[Wg];refine wpS_bind (wpS_lift (zU ⟨rfl,?_⟩));refine wpS_bind (eV (getElem?_pos a (a.size - 1) (by omega)) ?_)
 have m0:Mh rk a.toList b.toList #[a[a.size - 1]].toList (a.size - 1) b.size:=by
  refine vo (u:=#[]) ⟨?_,.nil,(λx W=>nomatch W),(λx W=>nomatch W)⟩ sa h1 (zc _) λy R=>h4 y (List.mem_of_mem_take R)
  rw[<-Array.length_toList,List.drop_length,<-Array.length_toList,List.drop_length];exact .nil
 refine b8 (λe=>wpS_pure (h _ _ (sV m0 sa P SSm.refl (.inl (by simpa using e))))) λe1=>b8 (λe=>wpS_pure (h _ _ (vp m0 sa P SSm.refl (by simpa using e) h2 h3))) λe2=>?_
 have e1':a.size - 1≠0:=λz=>e1 (by simpa using z)
 have e2':b.size≠1:=λz=>e2 (by simpa using z)
 refine wpS_bind (wpS_get ?_)
 refine wpS_bind (wpS_mono (wpS_forRange (I:=λx c l=>∃i j u mg,c=(none,i,j,u,mg)/\Mh rk a.toList b.toList u.toList i j/\0<i/\i<=a.size/\1<j/\j<=b.size/\i+j+x+1<=a.size+b.size/\SSm st l)
  (Q:=λc l=>∃r d,c=(some r,d)/\Gd rk a b st r l) ?_ ?_ ⟨_,_,_,_,rfl,m0,by omega,by omega,by omega,by omega,by omega,SSm.refl⟩) ?_)
 ·rintro x c l _ W ⟨i,j,u,mg,rfl,m,n,C,B,G,O,S⟩
  refine wpS_bind (wpS_mono (wpS_forRange (I:=λy c L=>L=l/\∃i j u p q,c=(none,i,j,u,p,q)/\Mh rk a.toList b.toList u.toList i j/\0<i/\i<=a.size/\1<j/\j<=b.size/\i+j+x+1+y<=a.size+b.size)
   (Q:=λc L=>L=l/\((∃r d,c=(some r,d)/\Gd rk a b st r l)\/∃i j u p q,c=(none,i,j,u,p,q)/\Mh rk a.toList b.toList u.toList i j/\0<i/\i<=a.size/\1<j/\j<=b.size/\i+j+x+2<=a.size+b.size)) ?_ ?_ ⟨rfl,i,j,u,_,_,rfl,m,n,C,B,G,O⟩) ?_)
  ·rintro y c L _ R ⟨rfl,i,j,u,p,q,rfl,m,n,C,B,G,O⟩;refine wpS_bind (eV (getElem?_pos b (j - 1) (by omega)) ?_);refine wpS_bind (eV (getElem?_pos a (i - 1) (by omega)) ?_);refine wpS_bind (hl _ _ (Y (j - 1) (by omega)) (Z (i - 1) (by omega)) _ _ (S.k.trans hk) ?_);dsimp only;refine b8 (λz=>?_) (λz=>?_)
   ·have z':rk b[j - 1]<rk a[i - 1]:=je z;have H:=vo m sa n C (λy R=>Int.le_trans (vq P (by omega) G y R) (Int.le_of_lt z'));refine wpS_bind (eV (getElem?_pos a (i - 1) (by omega)) ?_)
    refine b8 (λe=>wpS_pure ⟨rfl,.inl ⟨_,_,rfl,sV H sa P S (.inl (by simpa using e))⟩⟩) λe=>?_
    have e':i - 1≠0:=λz=>e (by simpa using z)
    exact b8 (λ_=>wpS_pure ⟨rfl,.inr ⟨_,_,_,_,_,rfl,H,by omega,by omega,B,G,by omega⟩⟩) λ_=>wpS_pure ⟨rfl,_,_,_,_,_,rfl,H,by omega,by omega,B,G,by omega⟩
   ·have z':rk a[i - 1]<=rk b[j - 1]:=Int.not_lt.mp λq=>z (zH q)
    have H:=J0 m P (by omega) G (λy R=>Int.le_trans (vq sa n C y R) z');refine wpS_bind (eV (getElem?_pos b (j - 1) (by omega)) ?_)
    refine b8 (λe=>wpS_pure ⟨rfl,.inl ⟨_,_,rfl,vp H sa P S (by simpa using e) h2 h3⟩⟩) λe=>?_
    have e':j - 1≠1:=λz=>e (by simpa using z)
    exact b8 (λ_=>wpS_pure ⟨rfl,.inr ⟨_,_,_,_,_,rfl,H,n,C,by omega,by omega,by omega⟩⟩) λ_=>wpS_pure ⟨rfl,_,_,_,_,_,rfl,H,n,C,by omega,by omega,by omega⟩
  ·rintro c L ⟨rfl,i,j,u,p,q,rfl,m,n,C,B,G,O⟩;exact⟨rfl,.inr ⟨i,j,u,p,q,rfl,m,n,C,B,G,by omega⟩⟩
  ·rintro c L ⟨rfl,⟨r,d,rfl,g⟩ | ⟨i,j,u,p,q,rfl,m,n,C,B,G,O⟩⟩
   ·exact wpS_pure ⟨r,_,rfl,g⟩
   ·refine wpS_bind (wpS_lift (zU ⟨rfl,?_⟩))
    refine wpS_bind (wpS_mono (wpS_forRange (I:=λy c l=>∃i j u mg p q,c=(none,i,j,u,mg,p,q)/\Mh rk a.toList b.toList u.toList i j/\0<i/\i<=a.size/\1<j/\j<=b.size/\i+j+x+2<=a.size+b.size/\SSm st l)
     (Q:=λc l=>(∃r d,c=(some r,d)/\Gd rk a b st r l)\/∃i j u mg p q,c=(none,i,j,u,mg,p,q)/\Mh rk a.toList b.toList u.toList i j/\0<i/\i<=a.size/\1<j/\j<=b.size/\i+j+x+2<=a.size+b.size/\SSm st l) ?_ ?_ ⟨i,j,u,_,_,_,rfl,m,n,C,B,G,O,S⟩) ?_)
    ·clear m n C B G O S
     rintro y c l _ R ⟨i,j,u,mg,p,q,rfl,m,n,C,B,G,O,S⟩
     extract_lets c1 i1 c2 j1 c3 u1 c4 g1 c5 p1 q1 j2 J g2
     refine m5 (λQ=>∀r mg,wpS (model prog w) A E s (J r mg) Q l) ?_ λhJ=>b8 (λ_=>hJ () _) λ_=>hJ () _
     dsimp (config:={zeta:=false,zetaHave:=false,zetaDelta:=true}) only
     clear g2 J
     intro _ mg;refine wpS_bind (vf ?_);have S1:=S.put mg
     generalize sO l mg=st1 at S1 ⊢
     refine wpS_bind (eV (getElem?_pos b (j - 1) (by omega)) ?_);refine wpS_bind (yG hl (S1.k.trans hk) (T:=a.toList.take i) (by rw[List.drop_zero]) (by rw[List.length_take,Array.length_toList];omega) (λx W=>ha x (List.mem_of_mem_take W)) (Y (j - 1) (by omega)) (sa.take i) (by omega) λt U F X=>?_);rw[List.take_take,Nat.min_eq_left U] at F;have H:=J1 m sa t U C (λx W y R=>Int.le_trans (vq P (by omega) G y R) (Int.le_of_lt (X x W)))
     dsimp (config:={zeta:=false,zetaHave:=false}) only
     extract_lets c6 c7 J2 u2 i2
     refine m5 (λQ=>∀r i (u:Array Keyed),Mh rk a.toList b.toList u.toList i j->0<i->i<=a.size->i+j+x+2<=a.size+b.size->(∀y∈a.toList.take i,rk y<=rk b[j - 1])->wpS (model prog w) A E s (J2 r i u) Q st1) ?_ λhJ=>b8 (λk0=>b8 (λe=>wpS_pure (.inl ⟨_,_,rfl,sV H sa P S1 (.inl (by simpa using e))⟩)) λe=>hJ () _ _ H ?_ (by omega) (by omega) F) λk0=>hJ () _ _ m n C O ?_
     rotate_left
     ·have e1:t≠0:=λz=>e (by simpa using z)
      omega
     ·have k0':¬i - t>0:=k0
      have:t=i:=by omega
      rw[this] at F;exact F
     clear m n C O H U F X
     dsimp (config:={zeta:=false,zetaHave:=false,zetaDelta:=true}) only
     intro _ i u m n C O hlt;refine wpS_bind (eV (getElem?_pos b (j - 1) (by omega)) ?_);have H:=J0 m P (by omega) G hlt
     refine b8 (λe=>wpS_pure (.inl ⟨_,_,rfl,vp H sa P S1 (by simpa using e) h2 h3⟩)) λe=>?_
     have hj1:j - 1≠1:=λz=>e (by simpa using z)
     refine wpS_bind (eV (getElem?_pos a (i - 1) (by omega)) ?_);refine wpS_bind (yH hl (S1.k.trans hk) (T:=b.toList.take (j - 1)) (by rw[List.drop_zero]) (by rw[List.length_take,Array.length_toList];omega) (λx W=>hb x (List.mem_of_mem_take W)) (Z (i - 1) (by omega)) (P.take (j - 1)) (by omega) λt U F X=>?_);rw[List.take_take,Nat.min_eq_left U] at F;have m2:=Wh H P t U (by omega) (λx W y R=>Int.le_trans (vq sa n C y R) (X x W))
     dsimp (config:={zeta:=false,zetaHave:=false}) only
     extract_lets c7 c8 i3 J3 u3 j3
     refine m5 (λQ=>∀r j (u:Array Keyed),Mh rk a.toList b.toList u.toList i j->1<j->j<=b.size->i+j+x+2<=a.size+b.size->(∀y∈b.toList.take j,rk y<=rk a[i - 1])->wpS (model prog w) A E s (J3 r j u) Q st1) ?_ λhJ=>b8 (λk0=>b8 (λe=>wpS_pure (.inl ⟨_,_,rfl,vp m2 sa P S1 (by simpa using e) h2 h3⟩)) λe=>b8 (λe=>wpS_pure (.inl ⟨_,_,rfl,sV m2 sa P S1 (.inr (by simpa using e))⟩)) λe'=>hJ () _ _ m2 ?_ (by omega) (by omega) λy R=>Int.le_of_lt (F y R)) λk0=>hJ () _ _ H (by omega) (by omega) (by omega) ?_
     rotate_left
     ·have e1:t≠1:=λz=>e (by simpa using z)
      have e2:t≠0:=λz=>e' (by simpa using z)
      omega
     ·have k0':¬j - 1 - t>0:=k0
      have:t=j - 1:=by omega
      rw[this] at F
      exact λy R=>Int.le_of_lt (F y R)
     clear m O H m2 U F X
     dsimp (config:={zeta:=false,zetaHave:=false,zetaDelta:=true}) only
     intro _ j u m B G O hle;refine wpS_bind (eV (getElem?_pos a (i - 1) (by omega)) ?_);have H:=vo m sa n C hle
     refine b8 (λe=>wpS_pure (.inl ⟨_,_,rfl,sV H sa P S1 (.inl (by simpa using e))⟩)) λe=>?_
     have e':i - 1≠0:=λz=>e (by simpa using z)
     exact b8 (λ_=>wpS_pure (.inr ⟨_,_,_,_,_,_,rfl,H,by omega,by omega,B,G,by omega,S1⟩)) λ_=>wpS_pure ⟨_,_,_,_,_,_,rfl,H,by omega,by omega,B,G,by omega,S1⟩
    ·rintro c l ⟨i,j,u,mg,p,q,rfl,m,n,C,B,G,O,S⟩;exact .inr ⟨i,j,u,mg,p,q,rfl,m,n,C,B,G,O,S⟩
    ·rintro c l (⟨r,d,rfl,g⟩ | ⟨i,j,u,mg,p,q,rfl,m,n,C,B,G,O,S⟩)
     ·exact wpS_pure ⟨r,_,rfl,g⟩
     ·exact wpS_bind (vf (wpS_pure ⟨i,j,u,_,rfl,m,n,C,B,G,by omega,S.put _⟩))
 ·rintro c l ⟨i,j,u,mg,rfl,m,n,C,B,G,O,S⟩;omega
 ·rintro c l ⟨r,d,rfl,g⟩;exact wpS_pure (h r l g)
end
theorem Wj(i:Nat):mergeAt' i=(do
 let s <-get
 let (some (x,m,pw),some (y,n,_)):=((pendingOf s)[i]?,(pendingOf s)[i+1]?) | unsupported "internal:list.sort.pending"
 set (setPending s (((pendingOf s).setIfInBounds i (x,m+n,pw)).eraseIdxIfInBounds (i+1)))
 let some k <-gal false (<-elem' (arrOf s) y) (arrOf s) x m 0 | return false
 let (x,m):=(x+k,m - k)
 if m == 0 then return true
 let some n <-gal true (<-elem' (arrOf s) (x+m - 1)) (arrOf s) y n (n - 1) | return false
 if n == 0 then return true
 let u:=(arrOf s).extract x y
 let v:=(arrOf s).extract y (y+n)
 let r <-if m<=n then mLo u v else mHi u v
 modify λs=>setArr s (r.toList.zipIdx.foldl (λa p=>a.setIfInBounds (x+p.2) p.1) (arrOf s))
 return (failedOf (<-get)).isNone):=rfl
theorem J4(x:Nat):∀(M:List Keyed) (n:Nat) (c:Array Keyed) (P W S:List Keyed),c.toList=P++W++S->W.length=M.length->P.length=x+n ->
  ((M.zipIdx n).foldl (λa p=>a.setIfInBounds (x+p.2) p.1) c).toList=P++M++S
 | [],n,c,P,W,S,h,hl,_=>by
  rw[List.length_eq_zero_iff.mp hl] at h;exact h
 |m::M,n,c,P,[],S,h,hl,_=>nomatch hl
 |m::M,n,c,P,y::W,S,h,hl,hp=>by
  rw[List.zipIdx_cons,List.foldl_cons]
  have:=J4 x M (n+1) (c.setIfInBounds (x+n) m) (P++[m]) W S ?_ (Nat.succ.inj hl) (by rw[zd,hp];rfl)
  ·rw[this];simp
  ·rw[Array.toList_setIfInBounds,h,<-hp,zk,List.set_append_right _ _ (zc _),Nat.sub_self];simp
section
variable {prog:Program}{w:World}{A:Around}{E:Value->Shared->Prop}{s:Shared}{κ:SortKind}{rk:Keyed->Int}{all:List Keyed}
theorem Wk{c:SortSt}{st:SortSt}{Q:PUnit->SortSt->Prop}(h:Q ⟨⟩ c):wpS (model prog w) A E s (set c:SoM PUnit) Q st:=by
 unfold wpS;rw[StateT.run_set];exact zb ⟨rfl,h⟩
theorem J5{c:Array Keyed}{P X S:List Keyed}{y:Keyed}{i:Nat}(h:c.toList=P++(X++y::S))(hi:i=P.length+X.length):c[i]?=some y:=by
 rw[<-Array.getElem?_toList,h,zv (by omega),zv (by omega),show i - P.length - X.length=0 by omega];rfl
theorem J6{c:Array Keyed}{P X S:List Keyed}(h:c.toList=P++(X++S)):(c.toList.drop P.length).take X.length=X:=by
 rw[h,List.drop_left,List.take_left]
theorem Wl{i x m y n pw pv:Nat}{P X Y S:List Keyed}{st:SortSt}{Q:Bool->SortSt->Prop}(hl:jx prog w A E s κ rk all)(T:kindOf st=κ)(hf:failedOf st=none)
  (hp1:(pendingOf st)[i]?=some (x,m,pw)) (hp2:(pendingOf st)[i+1]?=some (y,n,pv)) (l:(arrOf st).toList=P++(X++(Y++S))) (hx:P.length=x) (hm:X.length=m) (hy:y=x+m) (hn:Y.length=n) (hm0:0<m) (hn0:0<n)
  (R:Srt rk X) (O:Srt rk Y) (L:∀z∈(arrOf st).toList,z∈all)
  (h:∀(c:SortSt) Z,Z.Perm (X++Y)->Srt rk Z->kindOf c=κ->failedOf c=none->pendingOf c=((pendingOf st).setIfInBounds i (x,m+n,pw)).eraseIdxIfInBounds (i+1)->(arrOf c).toList=P++(Z++S)->Q true c):
  wpS (model prog w) A E s (mergeAt' i) Q st:=by
 have hX:∀z∈X,z∈all:=λz j=>L z (by rw[l];simp[j])
 have hY:∀z∈Y,z∈all:=λz j=>L z (by rw[l];simp[j])
 obtain⟨t,F,rfl⟩:∃t F,Y=t::F:=by
  cases Y with
  |nil=>simp at hn;omega
  |cons a b=>exact⟨a,b,rfl⟩
 have J:(arrOf st).toList=(P++X)++((t::F)++S):=by rw[l,zk]
 have hPX:(P++X).length=y:=by rw[zd];omega
 have e0:(arrOf st)[y]?=some t:=J5 (P:=P++X) (X:=[]) J (by rw[hPX];rfl)
 have t1:((arrOf st).toList.drop x).take m=X:=by rw[<-hx,<-hm];exact J6 l
 have t2:((arrOf st).toList.drop y).take n=t::F:=by rw[<-hPX,<-hn];exact J6 J
 rw[Wj];refine wpS_bind (wpS_get ?_);rw[hp1,hp2];refine wpS_bind (Wk ?_);refine wpS_bind (eV e0 ?_);refine wpS_bind (yG hl T t1 hm hX (hY _ zp) R hm0 λk hk1 W hk3=>?_)
 have I:∀z∈t::F,rk t<=rk z:=λz j=>by
  rcases zh.mp j with q | q
  ·rw[q];exact Int.le_refl _
  ·exact(List.pairwise_cons.mp O).1 z q
 refine b8 (λe=>wpS_pure (h _ (X++(t::F)) (.refl _) ?_ T hf rfl (by rw[zk];exact l))) λe=>?_
 ·have e':m - k=0:=by simpa using e
  rw[List.take_of_length_le (by omega)] at W;exact List.pairwise_append.mpr ⟨R,O,λa H b C=>Int.le_trans (W a H) (I b C)⟩
 have hkm:k<m:=by
  have:¬m - k=0:=λz=>e (by simpa using z)
  omega
 obtain⟨U,B,rfl⟩:∃U B,X=U++[B]:=⟨_,_,(List.dropLast_concat_getLast (by intro z;rw[z] at hm;simp at hm;omega)).symm⟩
 have hX1:U.length+1=m:=by rw[<-hm,zd];rfl
 have e1:(arrOf st)[x+k+(m - k) - 1]?=some B:=J5 (P:=P) (X:=U) (S:=(t::F)++S) (by rw[l];simp) (by omega)
 have u:∀z∈U++[B],rk z<=rk B:=λz j=>by
  rcases zu.mp j with q | q
  ·exact(List.pairwise_append.mp R).2.2 z q _ zp
  ·rw[zl.mp q];exact Int.le_refl _
 refine wpS_bind (eV e1 ?_);refine wpS_bind (yH hl T t2 hn hY (hX _ (by simp)) O (by omega) λd hj1 hj2 G=>?_)
 refine b8 (λe=>wpS_pure (h _ ((U++[B])++(t::F)) (.refl _) ?_ T hf rfl (by rw[zk];exact l))) λe=>?_
 ·have e':d=0:=by simpa using e
  rw[e',List.drop_zero] at G;exact List.pairwise_append.mpr ⟨R,O,λa H b C=>Int.le_trans (u a H) (G b C)⟩
 have hk20:0<d:=by
  have:¬d=0:=λz=>e (by simpa using z)
  omega
 generalize hT:U++[B]=X at *
 generalize hU:t::F=Y at *
 have eu:((arrOf st).extract (x+k) y).toList=X.drop k:=by
  rw[Array.toList_extract,List.extract_eq_drop_take,l,<-hx,List.drop_append,List.drop_eq_nil_of_le (by omega),zM,show P.length+k - P.length=k by omega,List.drop_append,show k - X.length=0 by omega,List.drop_zero];exact List.take_left' (by rw[List.length_drop];omega)
 have ev:((arrOf st).extract y (y+d)).toList=Y.take d:=by
  rw[JX,<-t2,List.take_take,Nat.min_eq_left hj1]
 have fin:∀r c,Gd rk ((arrOf st).extract (x+k) y) ((arrOf st).extract y (y+d)) (setPending st (((pendingOf st).setIfInBounds i (x,m+n,pw)).eraseIdxIfInBounds (i+1))) r c ->
   wpS (model prog w) A E s (do modify λs=>setArr s (r.toList.zipIdx.foldl (λa p=>a.setIfInBounds (x+k+p.2) p.1) (arrOf s));return (failedOf (<-get)).isNone:SoM Bool) Q c:=by
  rintro r c ⟨g1,g2,S'⟩;rw[eu,ev] at g1;refine wpS_bind (wpS_modify (wpS_bind (wpS_get ?_)))
  have hfl:(failedOf c).isNone=true:=by rw[S'.f];show(failedOf st).isNone=true;rw[hf];rfl
  refine wpS_pure ?_;show Q (failedOf c).isNone _;rw[hfl]
  have hdec:(arrOf c).toList=(P++X.take k)++(X.drop k++Y.take d)++(Y.drop d++S):=by
   rw[S'.a];show(arrOf st).toList=_;rw[l]
   conv=>lhs;rw[<-List.take_append_drop k X,<-List.take_append_drop d Y]
   simp only[zk]
  refine h _ (X.take k++r.toList++Y.drop d) ?_ ?_ (S'.k.trans T) (S'.f.trans hf) S'.p ?_
  ·have e:X++Y=X.take k++(X.drop k++Y.take d)++Y.drop d:=by
    conv=>lhs;rw[<-List.take_append_drop k X,<-List.take_append_drop d Y]
    simp only[zk]
   rw[e];exact(List.Perm.append_left _ g1).append_right _
  ·have c1:=R.cross k;refine List.pairwise_append.mpr ⟨List.pairwise_append.mpr ⟨R.take k,g2,λa H b C=>?_⟩,O.drop d,λa H b C=>?_⟩
   ·rcases zu.mp (g1.mem_iff.mp C) with q | q
    ·exact c1 a H b q
    ·exact Int.le_trans (W a H) (I b (List.mem_of_mem_take q))
   ·rcases zu.mp H with q | q
    ·exact Int.le_trans (u a (List.mem_of_mem_take q)) (G b C)
    ·rcases zu.mp (g1.mem_iff.mp q) with q | q
     ·exact Int.le_trans (u a (jc q)) (G b C)
     ·exact O.cross d a q b C
  ·show(r.toList.zipIdx.foldl (λa p=>a.setIfInBounds (x+k+p.2) p.1) (arrOf c)).toList=_;rw[J4 (x+k) r.toList 0 (arrOf c) (P++X.take k) _ _ hdec g1.length_eq.symm (by rw[zd,List.length_take];omega)];simp only[zk]
 have su:((arrOf st).extract (x+k) y).size=m - k:=by rw[<-Array.length_toList,eu,List.length_drop,hm]
 have sv:((arrOf st).extract y (y+d)).size=d:=by rw[<-Array.length_toList,ev,List.length_take];omega
 have q1:∀z∈((arrOf st).extract (x+k) y).toList,z∈all:=λz j=>by rw[eu] at j;exact hX z (jc j)
 have q2:∀z∈((arrOf st).extract y (y+d)).toList,z∈all:=λz j=>by rw[ev] at j;exact hY z (List.mem_of_mem_take j)
 have q3:Srt rk ((arrOf st).extract (x+k) y).toList:=by rw[eu];exact R.drop k
 have q4:Srt rk ((arrOf st).extract y (y+d)).toList:=by rw[ev];exact O.take d
 have gv:((arrOf st).extract y (y+d))[0]'(by omega)=t:=by
  have:((arrOf st).extract y (y+d)).toList[0]'(by rw[Array.length_toList];omega)=t:=by
   simp only[ev,<-hU]
   cases d with
   |zero=>omega
   |succ d=>rfl
  rw[<-this];simp
 have gu:((arrOf st).extract (x+k) y)[((arrOf st).extract (x+k) y).size - 1]'(by omega)=B:=by
  have:((arrOf st).extract (x+k) y).toList[((arrOf st).extract (x+k) y).size - 1]'(by rw[Array.length_toList];omega)=B:=by
   simp only[eu,List.getElem_drop,<-hT,su];rw[List.getElem_append_right (by omega)];simp
  rw[<-this];simp
 have q5:∀z∈((arrOf st).extract (x+k) y).toList,rk (((arrOf st).extract y (y+d))[0]'(by omega))<=rk z:=λz j=>by
  rw[gv];rw[eu] at j;exact Int.le_of_lt (hk3 z j)
 have q6:∀z∈((arrOf st).extract y (y+d)).toList,rk z<=rk (((arrOf st).extract (x+k) y)[((arrOf st).extract (x+k) y).size - 1]'(by omega)):=λz j=>by
  rw[gu];rw[ev] at j;exact Int.le_of_lt (hj2 z j)
 refine b8 (λ_=>wpS_bind ?_) λ_=>wpS_bind ?_
 ·exact Wf hl (show kindOf (setPending st _)=κ from T) q1 q2 q3 q4 (by omega) (by omega) q5 q6 fin
 ·exact Wi hl (show kindOf (setPending st _)=κ from T) q1 q2 q3 q4 (by omega) (by omega) q5 q6 fin
end
section
variable {prog:Program}{w:World}{A:Around}{E:Value->Shared->Prop}{s:Shared}{κ:SortKind}{rk:Keyed->Int}{all:List Keyed}
theorem Wm{xs:Array Keyed}{P S:List Keyed}{x y:Keyed}(h:xs.toList=P++y::x::S):(xs.swapIfInBounds (P.length+1) P.length).toList=P++x::y::S:=by
 have m:xs.size=P.length+(S.length+2):=by rw[<-Array.length_toList,h,zd];rfl
 have c:∀k,xs[k]?=(P++y::x::S)[k]?:=λk=>by rw[<-h,Array.getElem?_toList]
 refine List.ext_getElem? λk=>?_
 rw[Array.getElem?_toList,getElem?_swapIB (by omega) (by omega),c,c,c]
 rcases Nat.lt_trichotomy k P.length with q | q | q
 ·rw[if_neg (by omega),if_neg (by omega),zC q,zC q]
 ·subst q;rw[if_pos rfl,zv (by omega),zv (zc _),Nat.add_sub_cancel_left,Nat.sub_self];rfl
 ·rw[if_neg (by omega)]
  by_cases d:P.length+1=k
  ·subst d;rw[if_pos rfl,zv (zc _),zv (by omega),Nat.add_sub_cancel_left,Nat.sub_self];rfl
  ·rw[if_neg d,zv (by omega),zv (by omega)];obtain⟨j,l⟩:∃j,k - P.length=j+2:=⟨k - P.length - 2,by omega⟩;rw[l];rfl
theorem J7(xs:Array Keyed)(S:List Keyed)(x:Keyed):∀(B P:List Keyed),xs.toList=P++(B++x::S)->(bubble xs (P.length+B.length) B.length).toList=P++x::(B++S)
 | [],P,h=>h
 |y::B,P,h=>by
  have e:P.length+(y::B).length=(P++[y]).length+B.length:=by simp;omega
  rw[zn,bubble_succ,<-zn,e];have c:=J7 xs S x B (P++[y]) (by rw[h];simp)
  have:=Wm (xs:=bubble xs ((P++[y]).length+B.length) B.length) (P:=P) (x:=x) (y:=y) (S:=B++S) (by rw[c];simp)
  rw[show(P++[y]).length+B.length - B.length=P.length+1 by simp,Nat.add_sub_cancel];exact this
theorem Wn{xs:Array Keyed}{P W S:List Keyed}(h:xs.toList=P++(W++S)):(mirror xs P.length (P.length+W.length) ((P.length+W.length - P.length) / 2)).toList=P++(W.reverse++S):=by
 have j:xs.size=P.length+(W.length+S.length):=by rw[<-Array.length_toList,h,zd,zd]
 have c:∀k,xs[k]?=(P++(W++S))[k]?:=λk=>by rw[<-h,Array.getElem?_toList]
 refine List.ext_getElem? λk=>?_
 rw[Array.getElem?_toList,getElem?_mirror_all (by omega),c,c]
 by_cases q:k<P.length
 ·rw[if_neg (by omega),zC q,zC q]
 ·by_cases d:k<P.length+W.length
  ·rw[if_pos (by omega),zv (by omega),zv (l₁:=P) (i:=k) (by omega),zC (by omega),zC (by rw[List.length_reverse];omega),List.getElem?_reverse (by omega)];congr 1;omega
  ·rw[if_neg (by omega),zv (by omega),zv (l₁:=P) (i:=k) (by omega),zv (by omega),zv (by rw[List.length_reverse];omega),List.length_reverse]
theorem vz{i j:Nat}{x y:Keyed}{st:SortSt}{Q:Option Bool->SortSt->Prop}(l:jx prog w A E s κ rk all)(m:kindOf st=κ)(hi:(arrOf st)[i]?=some x)(n:(arrOf st)[j]?=some y)(d:x∈all)(c:y∈all)(h:Q (some (decide (rk x<rk y))) st):
  wpS (model prog w) A E s (ltAt' i j) Q st:=by
 rw[ltAt'_eq];refine wpS_bind (wpS_get ?_);exact wpS_bind (eV hi (wpS_bind (eV n (l x y d c st Q m h))))
theorem m6{xs:Array Keyed}{P R:List Keyed}(h:xs.toList=P++R){k:Nat}(c:k<R.length):xs[P.length+k]?=some R[k]:=by
 rw[<-Array.getElem?_toList,h,zv (by omega),Nat.add_sub_cancel_left];exact zD c
structure Kept(st st':SortSt):Prop where
 k:kindOf st'=kindOf st
 p:pendingOf st'=pendingOf st
 f:failedOf st'=failedOf st
theorem Kept.refl{st:SortSt}:Kept st st:=⟨rfl,rfl,rfl⟩
theorem Wo{P R:List Keyed}{n ok:Nat}{st:SortSt}{Q:Bool->SortSt->Prop}(hl:jx prog w A E s κ rk all)(hk:kindOf st=κ)(Y:(arrOf st).toList=P++R)(C:∀z∈R,z∈all)(hn:n<=R.length)(h0:0<n)(hok:ok<=n)(hs:Srt rk (R.take ok))
  (h:∀(d:SortSt) W,W.Perm (R.take n)->Srt rk W->Kept st d->(arrOf d).toList=P++(W++R.drop n)->Q true d):wpS (model prog w) A E s (binarySort' P.length n ok) Q st:=by
 rw[binarySort'_eq]
 refine wpS_bind (wpS_mono (wpS_forRange (I:=λk c d=>c=(none,())/\Kept st d/\∃W,W.Perm (R.take k)/\Srt rk W/\(arrOf d).toList=P++(W++R.drop k))
  (Q:=λc d=>c=(none,())/\Kept st d/\∃W,W.Perm (R.take n)/\Srt rk W/\(arrOf d).toList=P++(W++R.drop n)) ?_ ?_ ?_) ?_)
 ·rintro k c d hk1 hk2 ⟨rfl,K,W,hp,hW,ha'⟩
  have Z:W.length=k:=by rw[hp.length_eq,List.length_take];omega
  have G:k<R.length:=by omega
  have hWa:∀z∈W,z∈all:=λz F=>C z (List.mem_of_mem_take (hp.mem_iff.mp F))
  have hx:(arrOf d)[P.length+k]?=some R[k]:=by
   have:=m6 (k:=k) ha' (by rw[zd,List.length_drop];omega)
   rw[this,List.getElem_append_right (by omega)];simp[Z]
  refine wpS_bind (wpS_mono (Q:=λc m=>m=d/\∃l,c=(none,l,l)/\l<=k/\(∀z∈W.take l,rk z<=rk R[k])/\(∀z∈W.drop l,rk R[k]<rk z)) ?_ ?_)
  ·refine yC (b:=cut (λz=>!decide (rk R[k]<rk z)) W) (λi j X hj=>yF hW (λx y hxy q=>?_) i j X (by omega)) (λx lo u Rr h1 h2 h3 h4 h5=>?_) (Nat.zero_le _) (zc _) (λi u=>absurd u (Nat.not_lt_zero _)) (λi h1 h2=>absurd h1 (by omega)) λl U T O=>?_
   ·simp at q ⊢;omega
   ·dsimp only
    by_cases J:lo>=u
    ·rw[if_pos J];exact wpS_pure (h3 (by omega))
    ·rw[if_neg J]
     have t:(lo+u) / 2=lo+(u - lo) / 2:=by omega
     have hm:lo+(u - lo) / 2<W.length:=by omega
     have L:=m6 (k:=(lo+u) / 2) ha' (by rw[zd];omega);rw[List.getElem_append_left (by omega)] at L
     have B:cut (λz=>!decide (rk R[k]<rk z)) W (lo+(u - lo) / 2) = !decide (rk R[k]<rk (W[(lo+u) / 2]'(by omega))):=by
      unfold cut;rw[zD hm];simp only[t];rfl
     refine wpS_bind (vz hl (K.k.trans hk) hx L (C _ (zN G)) (hWa _ (zN _)) ?_);dsimp only
     cases e:decide (rk R[k]<rk (W[(lo+u) / 2]'(by omega))) with
     |true =>
      rw[if_pos rfl,t];exact wpS_pure (h5 (by omega) (by rw[B,e];rfl))
     |false =>
      rw[if_neg (by decide),t];exact wpS_pure (h4 (by omega) (by rw[B,e];rfl))
   ·refine⟨rfl,l,rfl,U,λz F=>?_,λz F=>?_⟩
    ·have:=yD T z F
     simpa using this
    ·have:=yE (λi a b=>O i a (by omega)) z F
     simpa using this
  ·rintro c m ⟨rfl,l,rfl,hlk,q1,q2⟩;show wpS _ _ _ _ (do moveDown' (P.length+k) (P.length+l);pure (ForInStep.yield (none,()))) _ _;rw[moveDown'_eq];refine wpS_bind (wpS_modify (wpS_pure ⟨rfl,⟨K.k,K.p,K.f⟩,W.take l++R[k]::W.drop l,?_,?_,?_⟩))
   ·rw[List.take_succ_eq_append_getElem G];refine List.perm_middle.trans ?_;rw[List.take_append_drop];exact(List.Perm.cons _ hp).trans (List.perm_append_singleton R[k] (R.take k)).symm
   ·refine List.pairwise_append.mpr ⟨hW.take l,List.pairwise_cons.mpr ⟨λz F=>Int.le_of_lt (q2 z F),hW.drop l⟩,λx H y L=>?_⟩
    rcases zh.mp L with q | q
    ·rw[q];exact q1 x H
    ·exact hW.cross l x H y q
   ·have:=J7 (arrOf m) (R.drop (k+1)) R[k] (W.drop l) (P++W.take l) (by
     rw[ha',List.drop_eq_getElem_cons G]
     conv=>lhs;rw[<-List.take_append_drop l W]
     simp only[zk])
    have e1:(P++W.take l).length+(W.drop l).length=P.length+k:=by rw[zd,List.length_take,List.length_drop];omega
    have e2:(W.drop l).length=P.length+k - (P.length+l):=by rw[List.length_drop];omega
    rw[e1,e2] at this;show(bubble (arrOf m) (P.length+k) (P.length+k - (P.length+l))).toList=_;rw[this];simp only[zk,List.cons_append]
 ·rintro c d ⟨rfl,K,W,r⟩;rw[show max (max ok 1) n=n by omega] at r;exact⟨rfl,K,W,r⟩
 ·refine⟨rfl,Kept.refl,R.take (max ok 1),.refl _,?_,by rw[List.take_append_drop];exact Y⟩
  by_cases e:ok=0
  ·subst e
   cases R with
   |nil=>exact .nil
   |cons a b=>exact List.pairwise_singleton _ _
  ·rw[show max ok 1=ok by omega];exact hs
 ·rintro c d ⟨rfl,K,W,r1,r2,r3⟩;exact wpS_pure (h d W r1 r2 K r3)
end
section
variable {prog:Program}{w:World}{A:Around}{E:Value->Shared->Prop}{s:Shared}{κ:SortKind}{rk:Keyed->Int}{all:List Keyed}
theorem yK{r:Keyed->Keyed->Prop}(j:∀a b c,r a b->r b c->r a c){R:List Keyed}{n:Nat}(h1:1<=n)(t:n<R.length)(h:(R.take n).Pairwise r)(e:r (R[n - 1]'(by omega)) R[n]):(R.take (n+1)).Pairwise r:=by
 rw[List.take_succ_eq_append_getElem t];refine List.pairwise_append.mpr ⟨h,List.pairwise_singleton _ _,λx d y l=>?_⟩;rw[zl.mp l];obtain⟨m,rfl⟩:∃m,n=m+1:=⟨n - 1,by omega⟩;rw[List.take_succ_eq_append_getElem (by omega)] at h d
 rcases zu.mp d with q | q
 ·exact j _ _ _ ((List.pairwise_append.mp h).2.2 x q _ zp) e
 ·rw[zl.mp q];exact e
theorem J8{ρ:Type}{f:Nat->Option ρ×Nat->SoM (ForInStep (Option ρ×Nat))}{R:List Keyed}{a:Nat}{st:SortSt}{Q:Option ρ×Nat->SortSt->Prop}
  (j:∀x k (C:ForInStep (Option ρ×Nat)->SortSt->Prop),1<=k->(t:k<R.length)->(rk R[k]<rk R[k - 1]->C (.done (none,k)) st)->(rk R[k - 1]<=rk R[k]->C (.yield (none,k+1)) st)->wpS (model prog w) A E s (f x (none,k)) C st)
  (h1:1<=a) (l:a<=R.length) (hs:Srt rk (R.take a)) (h:∀n,a<=n->n<=R.length->Srt rk (R.take n)->(n=R.length\/∃m:n<R.length,rk R[n]<rk R[n - 1])->Q (none,n) st):
  wpS (model prog w) A E s (forIn [a:R.length] (none,a) f) Q st:=by
 refine wpS_forRange (I:=λx c d=>d=st/\c=(none,x)/\Srt rk (R.take x)) ?_ ?_ ⟨rfl,rfl,hs⟩
 ·rintro x c d hax hx ⟨rfl,rfl,hs'⟩
  refine j x x _ (by omega) hx (λq=>h x hax (by omega) hs' (.inr ⟨hx,q⟩)) λq=>⟨rfl,rfl,?_⟩
  exact yK (r:=λx y=>rk x<=rk y) (λa b c=>Int.le_trans) (by omega) hx hs' q
 ·rintro c d ⟨rfl,rfl,hs'⟩;rw[show max a R.length=R.length by omega] at hs' ⊢;exact h _ l (zc _) hs' (.inl rfl)
theorem Wq{P R:List Keyed}{st:SortSt}{Q:Option Nat->SortSt->Prop}(X:jx prog w A E s κ rk all)(U:kindOf st=κ)(l:(arrOf st).toList=P++R)(j:∀z∈R,z∈all)(h0:0<R.length)(hd:R.Pairwise λx y=>rk x≠rk y)
  (h:∀(d:SortSt) t n,t.Perm R->1<=n->n<=R.length->Srt rk (t.take n)->Kept st d->(arrOf d).toList=P++t->Q (some n) d):wpS (model prog w) A E s (countRun' P.length R.length) Q st:=by
 rw[countRun'_eq]
 have step:∀{t:List Keyed}{d:SortSt},Kept st d->t.Perm R->(arrOf d).toList=P++t->∀k (C:Option Bool->SortSt->Prop),1<=k->(U:k<t.length)->C (some (decide (rk t[k]<rk t[k - 1]))) d->wpS (model prog w) A E s (ltAt' (P.length+k) (P.length+k - 1)) C d:=λ{t d} K hp ha k C h1 h2 hC=>by
  have O:P.length+k - 1=P.length+(k - 1):=by omega
  rw[O];exact vz X (K.k.trans U) (m6 ha h2) (m6 ha (by omega)) (j _ (hp.mem_iff.mp (zN _))) (j _ (hp.mem_iff.mp (zN _))) hC
 have one:Srt rk (R.take 1):=by
  cases R with
  |nil=>exact .nil
  |cons a b=>exact List.pairwise_singleton _ _
 refine wpS_bind (J8 (R:=R) (λx k C h1 h2 h3 h4=>?_) (zc 1) h0 one λn G F L T=>?_)
 ·refine wpS_bind (step Kept.refl (.refl _) l k _ h1 h2 ?_);dsimp only
  cases e:decide (rk R[k]<rk R[k - 1]) with
  |true =>
   rw[if_pos rfl];exact wpS_pure (h3 (je e))
  |false =>
   rw[if_neg (by decide)];exact wpS_pure (h4 (Int.not_lt.mp (of_decide_eq_false e)))
 dsimp only
 refine b8 (λe=>wpS_pure (h st R n (.refl _) G F L Kept.refl l)) λe=>?_
 have hn:n<R.length:=by
  have:n≠R.length:=λz=>e (by simpa using z)
  omega
 obtain⟨_,Z⟩:=T.resolve_left (zt hn)
 refine b8 (λq=>?_) λq=>?_
 ·have O:P.length+n - 1=P.length+(n - 1):=by omega
  have e3:P.length=P.length+0:=rfl;have g1:=m6 (k:=0) l (by omega);rw[O];refine wpS_bind (vz X U g1 (m6 l (by omega)) (j _ (zN _)) (j _ (zN _)) ?_);dsimp only
  have J:rk R[0]<rk R[n - 1]:=by
   have a1:=List.pairwise_iff_getElem.mp hd 0 (n - 1) (by omega) (by omega) (by omega);have a2:=List.pairwise_iff_getElem.mp L 0 (n - 1) (by rw[List.length_take];omega) (by rw[List.length_take];omega) (by omega);rw[List.getElem_take,List.getElem_take] at a2;omega
  rw[zH J,if_pos rfl];exact wpS_pure (h st R n (.refl _) G F L Kept.refl l)
 ·have hn1':n=1:=by omega
  subst hn1'
  have two:(R.take 2).Pairwise λx y=>rk y<=rk x:=yK (r:=λx y=>rk y<=rk x) (λa b c p q=>Int.le_trans q p) (zc 1) hn (by
   cases R with
   |nil=>exact .nil
   |cons a b=>exact List.pairwise_singleton _ _) (Int.le_of_lt Z)
  refine wpS_bind (wpS_lift (zU ⟨rfl,?_⟩));refine wpS_bind (wpS_mono (wpS_forRange (I:=λx c d=>d=st/\c=(none,x,0)/\(R.take x).Pairwise λx y=>rk y<=rk x) (Q:=λc d=>d=st/\∃m,c=(none,m,0)/\2<=m/\m<=R.length/\(R.take m).Pairwise λx y=>rk y<=rk x) ?_ ?_ ⟨rfl,rfl,two⟩) ?_)
  ·rintro x c d hx1 hx2 ⟨rfl,rfl,hp⟩;refine wpS_bind (step Kept.refl (.refl _) l x _ (by omega) hx2 ?_);dsimp only
   cases e:decide (rk R[x]<rk R[x - 1]) with
   |true =>
    rw[if_pos rfl,if_neg (by decide)];exact wpS_pure ⟨rfl,rfl,yK (r:=λx y=>rk y<=rk x) (λa b c p q=>Int.le_trans q p) (by omega) hx2 hp (Int.le_of_lt (je e))⟩
   |false =>
    rw[if_neg (by decide)]
    have O:P.length+x - 1=P.length+(x - 1):=by omega
    rw[O];refine wpS_bind (vz X U (m6 l (by omega)) (m6 l hx2) (j _ (zN _)) (j _ (zN _)) ?_);dsimp only
    have hr:rk R[x - 1]<rk R[x]:=by
     have a1:=List.pairwise_iff_getElem.mp hd (x - 1) x (by omega) hx2 (by omega);have a2:=Int.not_lt.mp (of_decide_eq_false e);omega
    rw[zH hr,if_pos rfl];exact wpS_pure ⟨rfl,x,rfl,by omega,by omega,hp⟩
  ·rintro c d ⟨rfl,rfl,hp⟩;rw[show max (1+1) R.length=R.length by omega] at hp ⊢;exact⟨rfl,_,rfl,by omega,zc _,hp⟩
  ·rintro c d ⟨rfl,m,rfl,hm1,hm2,hp⟩;dsimp only;rw[if_neg (by decide)]
   have H:(R.take m).length=m:=by rw[List.length_take];omega
   have u:=Wn (xs:=arrOf d) (P:=P) (W:=R.take m) (S:=R.drop m) (by rw[List.take_append_drop];exact l);rw[H] at u;refine wpS_bind (wpS_reverse ?_)
   have hlen:((R.take m).reverse++R.drop m).length=R.length:=by rw[zd,List.length_reverse,H,List.length_drop];omega
   have B:((R.take m).reverse++R.drop m).Perm R:=by
    conv=>rhs;rw[<-List.take_append_drop m R]
    exact(List.reverse_perm _).append_right _
   have hK:Kept d (setArr d (mirror (arrOf d) P.length (P.length+m) ((P.length+m - P.length) / 2))):=⟨rfl,rfl,rfl⟩
   have Y:Srt rk (((R.take m).reverse++R.drop m).take m):=by
    rw[List.take_left' (by rw[List.length_reverse,H])];exact List.pairwise_reverse.mpr hp
   generalize hR':(R.take m).reverse++R.drop m=t at *
   rw[<-hlen];refine wpS_bind (J8 (R:=t) (λx k C h1 h2 h3 h4=>?_) (by omega) (by omega) Y λn G F L T=>?_)
   ·refine wpS_bind (step hK B u k _ h1 h2 ?_);dsimp only
    cases e:decide (rk t[k]<rk t[k - 1]) with
    |true =>
     rw[if_pos rfl];exact wpS_pure (h3 (je e))
    |false =>
     rw[if_neg (by decide)];exact wpS_pure (h4 (Int.not_lt.mp (of_decide_eq_false e)))
   ·exact wpS_pure (h _ t n B (by omega) (by omega) L hK u)
end
def starts:Nat->List (List Keyed)->List (Nat×Nat)
 | _,[]=>[]
 |o,r::rs=>(o,r.length)::starts (o+r.length) rs
theorem starts_app:∀(d c:List (List Keyed)) (o:Nat),starts o (d++c)=starts o d++starts (o+d.flatten.length) c
 | [],c,o=>rfl
 |r::d,c,o=>by
  show(o,r.length)::starts (o+r.length) (d++c)=_;rw[starts_app d c];simp only[List.flatten_cons,zd,Nat.add_assoc];rfl
theorem yL:∀(c:List (List Keyed)) (o:Nat),(starts o c).length=c.length
 | [],o=>rfl
 |r::c,o=>by show(starts _ c).length+1=_;rw[yL c];rfl
abbrev pr2:Nat×Nat×Nat->Nat×Nat:=λp=>(p.1,p.2.1)
theorem J9{α β:Type}(f:α->β):∀(l:List α) (i:Nat),(l.eraseIdx i).map f=(l.map f).eraseIdx i
 | [],_=>rfl
 | _::_,0=>rfl
 |x::l,i+1=>congrArg (f x :: ·) (J9 f l i)
theorem Wr(g:Nat×Nat×Nat->Nat×Nat×Nat)(h:∀x,pr2 (g x)=pr2 x)(l:List (Nat×Nat×Nat))(i:Nat):(l.modify i g).map pr2=l.map pr2:=by
 refine List.ext_getElem? λk=>?_
 rw[zG,zG,List.getElem?_modify]
 cases l[k]? with
 |none=>rfl
 |some x =>
  by_cases e:i=k
  ·simp only[e,if_true,Option.map_some,Option.map_eq_map,h]
  ·simp[e]
section
variable {prog:Program}{w:World}{A:Around}{E:Value->Shared->Prop}{s:Shared}{κ:SortKind}{rk:Keyed->Int}{all:List Keyed}
structure RS(κ:SortKind)(rk:Keyed->Int)(all:List Keyed)(rs:List (List Keyed))(S:List Keyed)(st:SortSt):Prop where
 k:kindOf st=κ
 f:failedOf st=none
 p:(pendingOf st).toList.map pr2=starts 0 rs
 a:(arrOf st).toList=rs.flatten++S
 g:(arrOf st).toList.Perm all
 s:∀r∈rs,Srt rk r/\0<r.length
theorem RS.size{c:List (List Keyed)}{S:List Keyed}{st:SortSt}(H:RS κ rk all c S st):(pendingOf st).size=c.length:=by
 rw[<-Array.length_toList,<-ze (f:=pr2),H.p,yL]
theorem RS.merge{j:List (List Keyed)}{S:List Keyed}{st:SortSt}{i:Nat}{Q:Bool->SortSt->Prop}(hl:jx prog w A E s κ rk all)(H:RS κ rk all j S st)(hi:i+1<j.length)
  (h:∀l u,RS κ rk all u S l->u.length+1=j.length->u.flatten.length=j.flatten.length->Q true l):wpS (model prog w) A E s (mergeAt' i) Q st:=by
 obtain⟨c,X,Y,d,rfl,h1⟩:∃c X Y d,j=c++X::Y::d/\c.length=i:=by
  refine⟨j.take i,j[i],j[i+1],j.drop (i+2),?_,by rw[List.length_take];omega⟩;rw[<-List.drop_eq_getElem_cons,<-List.drop_eq_getElem_cons,List.take_append_drop]
 have B:=H.p;rw[starts_app] at B
 have L:starts (0+c.flatten.length) (X::Y::d)=(c.flatten.length,X.length)::(c.flatten.length+X.length,Y.length)::starts (c.flatten.length+X.length+Y.length) d:=by
  rw[zZ];rfl
 rw[L] at B;have hsl:=yL c 0
 have R:((pendingOf st).toList.map pr2)[i]?=some (c.flatten.length,X.length):=by
  rw[B,zv (by omega),show i - (starts 0 c).length=0 by omega];rfl
 have P:((pendingOf st).toList.map pr2)[i+1]?=some (c.flatten.length+X.length,Y.length):=by
  rw[B,zv (by omega),show i+1 - (starts 0 c).length=1 by omega];rfl
 rw[zG,Array.getElem?_toList] at R P;obtain⟨⟨x,m,pw⟩,e1,e2⟩:=Option.map_eq_some_iff.mp R;obtain⟨⟨y,n,pv⟩,e3,e4⟩:=Option.map_eq_some_iff.mp P;obtain⟨G,F⟩:=Prod.mk.inj e2;obtain⟨e7,C⟩:=Prod.mk.inj e4
 change x=_ at G
 change m=_ at F
 change y=_ at e7
 change n=_ at C
 have O:(arrOf st).toList=c.flatten++(X++(Y++(d.flatten++S))):=by
  rw[H.a,jf,List.flatten_cons,List.flatten_cons];simp only[zk]
 obtain⟨W,hX⟩:=H.s X (by simp);obtain⟨U,hY⟩:=H.s Y (by simp)
 refine Wl hl H.k H.f e1 e3 O G.symm F.symm (by omega) C.symm (by omega) (by omega) W U (λz hz=>H.g.mem_iff.mp hz) λl Z t J k' f' p' T=>h l (c++Z::d) ⟨k',f',?_,?_,?_,?_⟩ (by simp;omega) ?_
 ·rw[p',Array.toList_eraseIdxIfInBounds,Array.toList_setIfInBounds,J9,List.map_set,B,starts_app]
  have I:Z.length=X.length+Y.length:=by rw[t.length_eq,zd]
  rw[List.set_append_right _ _ (by omega),List.eraseIdx_append_of_length_le (by omega),show i - (starts 0 c).length=0 by omega,show i+1 - (starts 0 c).length=1 by omega];congr 1;show(x,m+n)::_=(0+c.flatten.length,Z.length)::starts (0+c.flatten.length+Z.length) d;rw[I,zZ,<-G,F,C,Nat.add_assoc];rfl
 ·rw[T,jf,List.flatten_cons];simp only[zk]
 ·rw[T];refine List.Perm.trans ?_ H.g;rw[O,<-zk X];exact List.Perm.append_left _ (t.append_right _)
 ·intro r hr
  rcases zu.mp hr with q | q
  ·exact H.s r (by simp[q])
  ·rcases zh.mp q with q | q
   ·rw[q];exact⟨J,by rw[t.length_eq,zd];omega⟩
   ·exact H.s r (by simp[q])
 ·simp only[jf,List.flatten_cons,zd,t.length_eq];omega
theorem Ws{st:SortSt}{Q:Unit->SortSt->Prop}(hl:jx prog w A E s κ rk all)(hk:kindOf st=κ)(hf:failedOf st=none)(hp:pendingOf st = #[])(ha:(arrOf st).toList=all)(hd:all.Pairwise λx y=>rk x≠rk y)
  (h:∀l:SortSt,(arrOf l).toList.Perm all->Srt rk (arrOf l).toList->failedOf l=none->Q () l):wpS (model prog w) A E s sortRuns' Q st:=by
 rw[sortRuns'_eq];refine wpS_bind (wpS_get ?_)
 have hsz:(arrOf st).size=all.length:=by rw[<-ha,Array.length_toList]
 rw[hsz]
 have flat:∀d:List (List Keyed),(∀r∈d,Srt rk r/\0<r.length)->d.length<=d.flatten.length:=λd=>by
  induction d with
  |nil=>intro _;exact Nat.zero_le _
  |cons r d ih =>
   intro U
   have:=ih λq hq=>U q (zr _ hq)
   have:=(U r zp).2
   rw[zn,List.flatten_cons,zd];omega
 refine wpS_bind (wpS_mono (wpS_forRange (I:=λx c l=>∃d S,RS κ rk all d S l/\c=(none,d.flatten.length)/\x<=d.flatten.length)
  (Q:=λc l=>∃d,RS κ rk all d [] l/\c=(none,d.flatten.length)) ?_ ?_ ⟨[],all,⟨hk,hf,by rw[hp];rfl,ha,by rw[ha],(λr U=>nomatch U)⟩,rfl,Nat.zero_le _⟩) ?_)
 ·rintro x c st1 _ hx ⟨d,S,H,rfl,hxl⟩
  have htot:d.flatten.length+S.length=all.length:=by rw[<-zd,<-H.a,H.g.length_eq]
  refine lU ?_
  refine b8 (λe=>?_) λe=>?_
  ·have e':d.flatten.length>=all.length:=e
   have:S=[]:=List.length_eq_zero_iff.mp (by omega)
   subst this;exact wpS_pure ⟨d,H,rfl⟩
  ·have e':¬d.flatten.length>=all.length:=e
   have hS:all.length - d.flatten.length=S.length:=by omega
   have hdS:S.Pairwise λx y=>rk x≠rk y:=by
    have h1:=(H.g.pairwise_iff (λ{x y} h=>Ne.symm h)).mpr hd;rw[H.a] at h1;exact(List.pairwise_append.mp h1).2.1
   have Z:∀z∈S,z∈all:=λz hz=>H.g.mem_iff.mp (by rw[H.a];exact zu.mpr (.inr hz))
   show wpS (model prog w) A E s (countRun' d.flatten.length (all.length - d.flatten.length) >>= _) _ st1;rw[hS];refine wpS_bind (Wq hl H.k H.a Z (by omega) hdS λu F n L hn1 hn2 X K2 C=>?_)
   dsimp (config:={zeta:=false,zetaHave:=false}) only
   extract_lets n0 J fo n1
   have G:RS κ rk all d F u:=⟨K2.k.trans H.k,K2.f.trans H.f,by rw[K2.p];exact H.p,C,by rw[C];refine List.Perm.trans ?_ H.g;rw[H.a];exact List.Perm.append_left _ L,H.s⟩;have hS2:F.length=S.length:=L.length_eq
   have hS2a:∀z∈F,z∈all:=λz hz=>Z z (L.mem_iff.mp hz)
   refine m5 (λQ=>∀r n (W T:List Keyed) (B:SortSt),RS κ rk all d (W++T) B->W.length=n->0<n->Srt rk W->wpS (model prog w) A E s (J r n) Q B) ?_ λhJ=>b8 (λq=>?_) λq=>hJ () n (F.take n) (F.drop n) u (by rw[List.take_append_drop];exact G) (by rw[List.length_take];omega) hn1 X
   ·dsimp (config:={zeta:=false,zetaHave:=false,zetaDelta:=true}) only
    intro _ n W T B H3 O hn0 hW;refine wpS_bind (wpS_get ?_)
    extract_lets lo2 J2
    refine m5 (λQ=>∀r (j:List (List Keyed)) (m:SortSt),RS κ rk all j (W++T) m->j.flatten.length=d.flatten.length->wpS (model prog w) A E s (J2 r) Q m) ?_ λhJ2=>?_
    ·dsimp (config:={zeta:=false,zetaHave:=false,zetaDelta:=true}) only
     intro _ j m t h4;refine wpS_bind (wpS_modify (wpS_pure ⟨j++[W],T,⟨t.k,t.f,?_,?_,t.g,?_⟩,?_,?_⟩))
     ·show((pendingOf m).push _).toList.map pr2=_;rw[Array.toList_push,zI,t.p,starts_app,h4,zZ,<-O];rfl
     ·show(arrOf m).toList=_;rw[t.a];simp
     ·intro r U
      rcases zu.mp U with q | q
      ·exact t.s r q
      ·rw[zl.mp q];exact⟨hW,by omega⟩
     ·rw[jf,zd,h4];simp[O]
     ·rw[jf,zd,h4,List.flatten_cons,List.flatten_nil,zB,O];omega
    ·clear_value J2
     cases eb:(pendingOf B).back? with
     |none=>exact hJ2 () d B H3 rfl
     |some q =>
      obtain⟨s1,n2,pp⟩:=q
      dsimp (config:={zeta:=false,zetaHave:=false}) only
      generalize power' all.length (2 * s1+n2) (2 * s1+n2+n2+n) all.length=pw
      refine lU ?_
      refine wpS_bind (wpS_mono (wpS_forRange (I:=λy c l=>∃j,RS κ rk all j (W++T) l/\c=(none,())/\j.flatten.length=d.flatten.length)
       (Q:=λc l=>∃j,RS κ rk all j (W++T) l/\c=(none,())/\j.flatten.length=d.flatten.length) ?_ ?_ ⟨d,H3,rfl,rfl⟩) ?_)
      ·rintro y c m _ hy ⟨j,t,rfl,h4⟩;refine wpS_bind (wpS_get ?_);refine lU ?_
       by_cases Y:(pendingOf m).size>1
       ·rw[if_pos Y]
        cases eq:(pendingOf m)[(pendingOf m).size - 2]? with
        |none=>exact wpS_pure ⟨j,t,rfl,h4⟩
        |some q =>
         obtain⟨a1,a2,a3⟩:=q;dsimp only
         refine b8 (λ_=>wpS_pure ⟨j,t,rfl,h4⟩) λ_=>?_
         have hsz4:=t.size;refine wpS_bind (t.merge hl (by omega) λst5 rs5 H5 g1 g2=>?_);rw[if_neg (by decide)];exact wpS_pure ⟨rs5,H5,rfl,g2.trans h4⟩
       ·rw[if_neg Y];exact wpS_pure ⟨j,t,rfl,h4⟩
      ·rintro c m r;exact r
      ·rintro c m ⟨j,t,rfl,h4⟩;refine wpS_bind (wpS_modify (hJ2 _ j _ ⟨t.k,t.f,?_,t.a,t.g,t.s⟩ h4));show((pendingOf m).modify _ _).toList.map pr2=_;rw[Array.toList_modify];exact(Wr (λx=>(x.1,x.2.1,pw)) (λx=>rfl) _ _).trans t.p
   ·clear_value J
    have q':n<minRun' all.length all.length 0:=q;refine wpS_bind (wpS_lift (zU ⟨rfl,?_⟩))
    have hfo:fo=min S.length (minRun' all.length all.length 0):=by first | rfl | (show min (all.length - d.flatten.length) _=_;rw[hS])
    generalize minRun' all.length all.length 0=mr at q' hfo
    refine wpS_bind (Wo (P:=d.flatten) (R:=F) hl G.k C hS2a (n:=fo) (ok:=n0) (by omega) (by omega) (show n<=fo by omega) X λB W w1 w2 w3 w4=>?_);rw[if_neg (by decide)]
    have hWl:W.length=fo:=by rw[w1.length_eq,List.length_take];omega
    refine hJ () fo W (F.drop fo) B ⟨w3.k.trans G.k,w3.f.trans G.f,by rw[w3.p];exact G.p,w4,?_,G.s⟩ hWl (by omega) w2;rw[w4];refine List.Perm.trans ?_ G.g;rw[C];refine List.Perm.append_left _ ?_
    conv=>rhs;rw[<-List.take_append_drop fo F]
    exact w1.append_right _
 ·rintro c st1 ⟨d,S,H,rfl,hxl⟩
  have htot:d.flatten.length+S.length=all.length:=by rw[<-zd,<-H.a,H.g.length_eq]
  have:S=[]:=List.length_eq_zero_iff.mp (by omega)
  subst this;exact⟨d,H,rfl⟩
 ·rintro c st1 ⟨d,H,rfl⟩
  have hfl:d.flatten.length=all.length:=by rw[<-H.g.length_eq,H.a,zB]
  refine wpS_bind (wpS_mono (wpS_forRange (I:=λx c l=>∃d,RS κ rk all d [] l/\c=(none,())/\d.length+x<=all.length)
   (Q:=λc l=>∃d,RS κ rk all d [] l/\c=(none,())/\d.length<=1) ?_ ?_ ⟨d,H,rfl,by have:=flat d H.s;omega⟩) ?_)
  ·rintro x c u _ hx ⟨d,H,rfl,hlen⟩;refine wpS_bind (wpS_get ?_)
   refine b8 (λe=>?_) λe=>?_
   ·have e':(pendingOf u).size<=1:=e;rw[H.size] at e';exact wpS_pure ⟨d,H,rfl,e'⟩
   ·have e':¬(pendingOf u).size<=1:=e;rw[H.size] at e'
    extract_lets i0 bf i1
    have hi1:i1+1<d.length:=by
     have h0:i0=d.length - 2:=by show(pendingOf u).size - 2=_;rw[H.size]
     have:i1<=i0:=by
      show(if _ then i0 - 1 else i0)<=i0
      split
      ·exact Nat.sub_le _ _
      ·exact zc _
     omega
    refine wpS_bind (H.merge hl hi1 λB j H' h1 h2=>?_);rw[if_neg (by decide)];exact wpS_pure ⟨j,H',rfl,by omega⟩
  ·rintro c u ⟨d,H,rfl,hlen⟩;exact⟨d,H,rfl,by omega⟩
  ·rintro c u ⟨d,H,rfl,hlen⟩;refine wpS_pure (h u H.g ?_ H.f);rw[H.a,zB]
   match d,hlen,H.s with
   | [],_,_=>exact .nil
   | [r],_,hs=>rw[List.flatten_cons,List.flatten_nil,zB];exact(hs r zp).1
   | _::_::_,hlen,_=>simp at hlen
end
def Ris(t:SetTable):Prop:=t.place.toList.Pairwise (· < ·)/\t.dummies = #[]
theorem vA{l:List Nat}(h:l.Pairwise (· < ·)){i j x y:Nat}(c:i<j)(m:l[i]?=some x)(d:l[j]?=some y):x<y:=by
 obtain⟨h1,rfl⟩:=zj.mp m;obtain⟨h2,rfl⟩:=zj.mp d;exact List.pairwise_iff_getElem.mp h i j h1 h2 c
theorem yM(xs:Array Nat)(k:Nat)(d:xs.toList.Pairwise (· < ·)):∀(fuel lo hi:Nat),hi<=xs.size->lo<=hi->hi - lo<=fuel->(∀i x,i<lo->xs.toList[i]?=some x->x<k)->(∀i x,hi<=i->xs.toList[i]?=some x->k<=x) ->
  (∀i x,i<SetTable.below.go xs k fuel lo hi->xs.toList[i]?=some x->x<k)/\(∀i x,SetTable.below.go xs k fuel lo hi<=i->xs.toList[i]?=some x->k<=x)/\SetTable.below.go xs k fuel lo hi<=xs.size
 | 0,lo,hi,h1,h2,h3,h4,h5=>by
  unfold SetTable.below.go
  have e:lo=hi:=by omega
  subst e;exact⟨h4,h5,h1⟩
 |fuel+1,lo,hi,h1,h2,h3,h4,h5=>by
  unfold SetTable.below.go
  by_cases n:lo<hi
  ·rw[if_pos n];dsimp only
   have m:(lo+hi) / 2<xs.size:=by omega
   have q:xs.getD ((lo+hi) / 2) k=xs[(lo+hi) / 2]:=by simp[Array.getD,m]
   have h:xs.toList[(lo+hi) / 2]?=some xs[(lo+hi) / 2]:=by rw[Array.getElem?_toList,Array.getElem?_eq_getElem m]
   rw[q]
   split
   ·rename_i j;refine yM xs k d fuel _ _ h1 (by omega) (by omega) (λi x l c=>?_) h5
    by_cases e:i=(lo+hi) / 2
    ·rw[e,h] at c;cases c;exact j
    ·exact Nat.lt_trans (vA d (by omega) c h) j
   ·rename_i j;refine yM xs k d fuel _ _ (by omega) (by omega) (by omega) h4 (λi x l c=>?_)
    by_cases e:i=(lo+hi) / 2
    ·rw[e,h] at c;cases c;omega
    ·have:=vA d (show(lo+hi) / 2<i by omega) h c
     omega
  ·rw[if_neg n]
   have e:lo=hi:=by omega
   subst e;exact⟨h4,h5,h1⟩
theorem Ka{xs:Array Nat}(k:Nat)(c:xs.toList.Pairwise (· < ·)):(∀i x,i<SetTable.below xs k->xs.toList[i]?=some x->x<k)/\(∀i x,SetTable.below xs k<=i->xs.toList[i]?=some x->k<=x)/\SetTable.below xs k<=xs.size:=by
 unfold SetTable.below;refine yM xs k c xs.size 0 xs.size (zc _) (Nat.zero_le _) (by omega) (λi x h=>absurd h (Nat.not_lt_zero _)) (λi x h e=>?_);rw[jo (by rw[Array.length_toList];exact h)] at e;cases e
def lV(xs:Array Nat)(i:Nat):Nat:=if i=0 then 0 else xs.getD (i - 1) 0+1
theorem Kc{xs:Array Nat}(c:xs.toList.Pairwise (· < ·)){i:Nat}(hi:i<=xs.size):SetTable.below xs (lV xs i)=i:=by
 obtain⟨h1,h2,h3⟩:=Ka (xs:=xs) (lV xs i) c
 generalize SetTable.below xs (lV xs i)=b at h1 h2 h3
 have at':∀k (h:k<xs.size),xs.toList[k]?=some xs[k]:=λk h=>by rw[Array.getElem?_toList,Array.getElem?_eq_getElem h]
 unfold lV at h1 h2
 by_cases h0:i=0
 ·subst h0
  by_cases d:b=0
  ·exact d
  ·have:=h1 0 _ (by omega) (at' 0 (by omega))
   simp at this
 ·rw[if_neg h0] at h1 h2
  have e:xs.getD (i - 1) 0=xs[i - 1]'(by omega):=by simp[Array.getD,show i - 1<xs.size by omega]
  rw[e] at h1 h2
  rcases Nat.lt_trichotomy b i with q | q | q
  ·have:=h2 (i - 1) _ (by omega) (at' (i - 1) (by omega))
   omega
  ·exact q
  ·have a1:=h1 i _ q (at' i (by omega));have a2:=vA c (show i - 1<i by omega) (at' (i - 1) (by omega)) (at' i (by omega));omega
theorem Wt(t:SetTable)(p:SetTable.Probe):(t.advance p).dummy=p.dummy:=by
 unfold SetTable.advance
 split<;>rfl
theorem has_none(j:Nat):SetTable.has #[] j=false:=rfl
theorem Kd(t:SetTable)(f:Nat->Int)(h:Int)(hd:t.dummies = #[]):∀(fuel:Nat) (p:SetTable.Probe) (j:Nat) (d:Option Nat),p.dummy=none->SetTable.probe.go t f h fuel p=some (.empty j d)->d=none/\t.slot j=.empty
 | 0,p,j,d,h1,h2=>by unfold SetTable.probe.go at h2;cases h2
 |fuel+1,p,j,d,h1,h2=>by
  unfold SetTable.probe.go at h2
  cases hs:t.slot p.j with
  |empty =>
   rw[hs] at h2;cases h2;exact⟨h1,hs⟩
  |dummy =>
   unfold SetTable.slot at hs;dsimp only at hs;rw[hd,has_none] at hs
   split at hs<;>cases hs
  |live i =>
   rw[hs] at h2;dsimp only at h2;split at h2
   ·cases h2
   ·exact Kd t f h hd fuel _ j d ((Wt t p).trans h1) h2
theorem Ris.stand(t:SetTable)(n:Nat):Ris (t.standIn n):=by
 refine⟨?_,rfl⟩;show(Array.range n).toList.Pairwise _;rw[Array.toList_range];exact List.pairwise_lt_range
theorem Ris.orStand{t:SetTable}(h:Ris t)(n:Nat):Ris (t.orStandIn n):=by
 unfold SetTable.orStandIn
 split
 ·exact h
 ·exact .stand t n
theorem Ris.put{t:SetTable}(h:Ris t){j:Nat}(u:t.slot j=.empty):Ris (t.put j).1:=by
 obtain⟨m,hd⟩:=h;obtain⟨h1,h2,h3⟩:=Ka (xs:=t.place) j m
 have d:t.place.toList[SetTable.below t.place j]?≠some j:=λe=>by
  rw[Array.getElem?_toList] at e;unfold SetTable.slot at u;dsimp only at u;rw[e,if_pos (by simp)] at u;cases u
 refine⟨?_,?_⟩
 ·show(SetTable.insertAt t.place (SetTable.below t.place j) j).toList.Pairwise _;rw[SetTable.toList_insertAt]
  generalize SetTable.below t.place j=b at h1 h2 h3 d
  generalize t.place.toList=l at m h1 h2 d
  have r:∀z∈l.drop b,j<z:=λz B=>by
   obtain⟨n,c⟩:=List.mem_iff_getElem?.mp B;rw[List.getElem?_drop] at c;have q:=h2 (b+n) z (by omega) c
   rcases Nat.lt_or_eq_of_le q with q | q
   ·exact q
   ·subst q
    by_cases E:n=0
    ·subst E;exact absurd c d
    ·have F:b<l.length:=by
      have:=(zj.mp c).1
      omega
     have I:=zD F
     have:=vA m (show b<b+n by omega) I c
     have:=h2 b _ (zc _) I
     omega
  have H:∀z∈l.take b,z<j:=λz B=>by
   obtain⟨n,c⟩:=List.mem_iff_getElem?.mp B;rw[List.getElem?_take] at c;split at c
   ·exact h1 n z (by assumption) c
   ·cases c
  refine List.pairwise_append.mpr ⟨m.sublist (List.take_sublist ..),List.pairwise_cons.mpr ⟨r,m.sublist (List.drop_sublist ..)⟩,λx G y C=>?_⟩
  rcases zh.mp C with rfl | C
  ·exact H x G
  ·exact Nat.lt_trans (H x G) (r y C)
 ·show(if SetTable.has t.dummies j=true then _ else _)=_;rw[hd,has_none];rfl
theorem Ris.lay{t:SetTable}(h:Ris t)(es:Array (Int×Value))(k:Int)(x:Value):Ris (layNew t es k x).2.1:=by
 unfold layNew
 split
 ·rename_i slot l e;refine Ris.orStand ?_ _;unfold SetTable.freeSlot SetTable.probe at e;split at e
  ·rename_i j d q;obtain⟨rfl,c⟩:=Kd t _ k h.2 _ _ j d rfl q;cases e;exact h.put c
  ·cases e
 ·exact .stand t _
theorem Ris.relay(t:SetTable)(es:Array (Int×Value))(n:Nat):Ris (relayAll t es n).2.1:=by
 unfold relayAll
 split
 ·rename_i y order e;dsimp only
  split
  ·unfold SetTable.relaid SetTable.laid at e
   cases q:SetTable.layClean (SetTable.sizeAbove n - 1) (Array.map (λx=>x.fst) es) with
   |none=>rw[q] at e;cases e
   |some ow =>
    rw[q] at e;cases e;refine⟨?_,rfl⟩;dsimp only;rw[List.map_filterMap]
    generalize SetTable.sizeAbove n - 1=m
    have h:∀l:List Nat,l.Pairwise (· < ·)->(l.filterMap λj=>(((ow.getD j none).map (j,·)).map (·.1):Option Nat)).Pairwise (· < ·)/\∀z∈l.filterMap (λj=>(((ow.getD j none).map (j,·)).map (·.1):Option Nat)),z∈l:=λl=>by
     induction l with
     |nil=>exact λ_=>⟨.nil,λz c=>c⟩
     |cons x l ih =>
      intro u;obtain⟨a1,a2⟩:=List.pairwise_cons.mp u;obtain⟨r,d⟩:=ih a2;rw[List.filterMap_cons]
      cases ow.getD x none with
      |none=>exact⟨r,λz c=>zr _ (d z c)⟩
      |some v =>
       refine⟨List.pairwise_cons.mpr ⟨λz c=>a1 z (d z c),r⟩,λz c=>?_⟩
       rcases zh.mp c with rfl | c
       ·exact zp
       ·exact zr _ (d z c)
    exact(h _ List.pairwise_lt_range).1
  ·exact .stand t _
 ·exact .stand t _
def stepI(ss:List Int)(x:Int):List Int:=if x∈ss then ss else ss++[x]
def oE(es:Array (Int×Value)):List Int:=es.toList.map λe=>numOf e.2
def gf(prog:Program)(w:World)(h:Heap)(a:Addr)(ss:List Int)(o:Obj)(es:Array (Int×Value))(ep:Nat)(t:SetTable):Prop :=
 h.get? a=some o/\o.ExactSet/\o.data=.set es ep t/\ElemsOf (PySem.intKind prog w) es.toList/\(oE es).Perm ss/\es.size<scanBound/\t.fits es.size=true/\Ris t/\t.led = !w.params.followText "set-order"
def eH(prog:Program)(w:World)(h:Heap)(a:Addr)(ss:List Int):Prop:=∃o c d t,gf prog w h a ss o c d t
section
variable {prog:Program}{w:World}{A:Around}{E:Value->Shared->Prop}{s:Shared}{a:Addr}{ss:List Int}
theorem eH.at{h h':Heap}(x:eH prog w h a ss)(k:∀o,h.get? a=some o->h'.get? a=some o):eH prog w h' a ss :=
 let ⟨o,es,ep,t,h1,r⟩:=x;⟨o,es,ep,t,k o h1,r⟩
theorem eH.len{h:Heap}(x:eH prog w h a ss):ss.length<scanBound:=by
 obtain⟨o,j,l,t,h1,h2,h3,h4,d,c,_⟩:=x;rw[<-d.length_eq];unfold oE;rw[ze];exact c
theorem Wu(t:SetTable)(es:Array (Int×Value))(n:Nat):(relayAll t es n).2.1.led=t.led:=by
 unfold relayAll
 split
 ·rename_i c order e;dsimp only
  split
  ·unfold SetTable.relaid SetTable.laid at e
   cases q:SetTable.layClean (SetTable.sizeAbove n - 1) (Array.map (λx=>x.fst) es) with
   |none=>rw[q] at e;cases e
   |some ow =>
    rw[q] at e;cases e;rfl
  ·rfl
 ·rfl
theorem Wv(t:SetTable)(n:Nat):(t.orStandIn n).led=t.led:=by
 unfold SetTable.orStandIn
 split<;>rfl
theorem Ww(t:SetTable)(es:Array (Int×Value))(h:Int)(x:Value):(layNew t es h x).2.1.led=t.led:=by
 unfold layNew
 split
 ·exact Wv _ _
 ·rfl
theorem Ke{h:Heap}{o:Obj}{es:Array (Int×Value)}{ep:Nat}{t:SetTable}(r:h.get? a=some o)(l:o.ExactSet)(hd:o.data=.set es ep t)
  {c:Array (Int×Value)}{t':SetTable} (m:ElemsOf (PySem.intKind prog w) c.toList) (q:(oE c).Perm ss) (hb:c.size<scanBound) (u:t'.fits c.size=true) (j:Ris t') (d:t'.led = !w.params.followText "set-order"):
  (h.update a (Obj.putSet c t')).get? a=some {o with data:=.set c (ep+1) t'}/\eH prog w (h.update a (Obj.putSet c t')) a ss:=by
 have n:(h.update a (Obj.putSet c t')).get? a=some {o with data:=.set c (ep+1) t'}:=by
  have:=Heap.get?_update_self (Obj.putSet c t') r (by rw[putSet_of c t' hd];rfl)
  rw[putSet_of c t' hd] at this;exact this
 exact⟨n,_,c,ep+1,t',n,l,rfl,m,q,hb,u,j,d⟩
theorem Kf{g:Bool->Sem Unit}(X:∀(b:Bool) (j:Shared) (W:Unit->Shared->Prop),W () j->wpAny (model prog w) A (g b) W E j)
  {o:Obj}{es:Array (Int×Value)}{ep:Nat}{t:SetTable} (U:s.heap.get? a=some o) (G:o.ExactSet) (hd:o.data=.set es ep t)
  {c:Array (Int×Value)}{t2:SetTable} (n:ElemsOf (PySem.intKind prog w) c.toList) (C:(oE c).Perm ss) (x:c.size<scanBound) (O:t2.fits c.size=true) (L:Ris t2) (m:t2.led = !w.params.followText "set-order") {d:Bool}{R:Option Bool->Shared->Prop}
  (h:∀h',Heap.SameBut a s.heap h'->eH prog w h' a ss->R (some true) {s with heap:=h'}):
  wpAny (model prog w) A (do
    storeSet a c t2
    if(!d&&t2.tooFull)=true then do
      g (relayAll t2 c (SetTable.grown c.size)).2.2
      storeSet a (relayAll t2 c (SetTable.grown c.size)).1 (relayAll t2 c (SetTable.grown c.size)).2.1
      pure (some true)
     else pure (some true)) R E s:=by
 refine za (wpAny_storeSet_of U hd ?_ (fits_of_scanBound x));obtain⟨F,Q⟩:=Ke (prog:=prog) (w:=w) U G hd n C x O L m;have l:=Heap.SameBut.update s.heap a (Obj.putSet c t2)
 split
 ·have B:=relayAll_perm t2 c (SetTable.grown c.size);have u:=relayAll_fits t2 c (SetTable.grown c.size);have q:=Ris.relay t2 c (SetTable.grown c.size);have r:=Wu t2 c (SetTable.grown c.size)
  generalize hRl:relayAll t2 c (SetTable.grown c.size)=Y at B u q r ⊢
  obtain⟨y,Z,T⟩:=Y;dsimp only at B u q r ⊢;have I:ElemsOf (PySem.intKind prog w) y.toList:=n.perm B
  have J:y.size=c.size:=by rw[<-Array.length_toList,B.length_eq,Array.length_toList]
  have H:y.size<scanBound:=by rw[J];exact x
  refine za (X _ _ _ ?_);refine za (wpAny_storeSet_of F rfl ?_ (fits_of_scanBound H));obtain⟨_,P⟩:=Ke (prog:=prog) (w:=w) F G rfl I ((B.map _).trans C) H u q (r.trans m);exact zb (h _ (l.trans (Heap.SameBut.update _ a _)) P)
 ·exact zb (h _ l Q)
theorem Wx{x:Int}{tk:Tok}{Q:Bool->Shared->Prop}(hS:eH prog w s.heap a ss)(R:ss.length+1<scanBound)
  (h:∀h' b,Heap.SameBut a s.heap h'->eH prog w h' a (stepI ss x)->Q b {s with heap:=h'}):
  wpAny (model prog w) A (setAddHashed a (.int x tk) ((PySem.intKind prog w).hash x)) Q E s:=by
 obtain⟨o,n,ep,t,X,J,hd,r,W,hb,hf,hpl,u⟩:=hS
 have G:(PySem.intKind prog w).is x (.int x tk)=true:=by
  show Value.isInt x (.int x tk)=true;simp[Value.isInt]
 have hlen:n.size=ss.length:=by rw[<-W.length_eq];unfold oE;rw[ze,Array.length_toList]
 have hb1:n.size+1<scanBound:=by rw[hlen];exact R
 have hsc:(Value.int x tk).scannable=true:=rfl
 have Z:∀e∈n.toList,∀y,(PySem.intKind prog w).is y e.2=true↔numOf e.2=y:=λe he y=>by
  obtain⟨⟨k,hk,_⟩,_⟩:=r e he;obtain⟨t',ht⟩:=Value.isInt_shape hk;rw[ht];show Value.isInt y (.int k t')=true↔k=y;simp[Value.isInt]
 unfold setAddHashed setAddHashedIn;refine jd (za (wpAny_setState_of X hd hf ?_));dsimp only;rw[byScan_of hsc hb r];simp only[↓reduceIte];unfold setAddByScan;refine za ?_;refine za (zU ?_);refine za (wpAny_setScan_of G X hd hf r ?_)
 cases hr:List.findIdx? (λe=>(PySem.intKind prog w).is x e.2) n.toList with
 |some j =>
  dsimp only;obtain⟨hj,hpj,_⟩:=List.findIdx?_eq_some_iff_getElem.mp hr;have U:x∈ss:=W.mem_iff.mp (zT.mpr ⟨n.toList[j],zN hj,(Z _ (zN hj) x).mp hpj⟩);refine zb (zb ?_)
  have e:s = {s with heap:=s.heap}:=by cases s;rfl
  rw[e];exact h s.heap _ (Heap.SameBut.refl a s.heap) ⟨o,n,ep,t,X,J,hd,r,by rw[stepI,if_pos U];exact W,hb,hf,hpl,u⟩
 |none =>
  dsimp only
  have U:x∉ss:=λU=>by
   obtain⟨e,he,q⟩:=zT.mp (W.mem_iff.mpr U)
   have:=List.findIdx?_eq_none_iff.mp hr e he
   rw[(Z e he x).mpr q] at this;exact Bool.noConfusion this
  have hgw:∀(b:Bool) {l:Shared}{Y:Unit->Shared->Prop},Y () l->wpAny (model prog w) A (match b with | true=>rule "set.scan.the-table-gave-way" | false=>pure ()) Y E l :=
   λb l Y F=>by cases b<;>first | exact zb F | exact zU F
  have c:=layNew_perm t n ((PySem.intKind prog w).hash x) (.int x tk);have d:=layNew_fits t n ((PySem.intKind prog w).hash x) (.int x tk);have C:=Ww t n ((PySem.intKind prog w).hash x) (.int x tk);have B:=hpl.lay n ((PySem.intKind prog w).hash x) (.int x tk)
  generalize hL:layNew t n ((PySem.intKind prog w).hash x) (.int x tk)=L at c d C B ⊢
  obtain⟨P,t1,T,gave⟩:=L;dsimp only at c d C B ⊢;rw[Array.toList_push] at c;have H:ElemsOf (PySem.intKind prog w) P.toList:=(r.push G hsc).perm c
  have hp1:(oE P).Perm (stepI ss x):=by
   rw[stepI,if_neg U];refine(c.map λe=>numOf e.2).trans ?_;rw[zI];exact W.append_right _
  have hb1':P.size<scanBound:=by rw[<-Array.length_toList,c.length_eq,zd,Array.length_toList];simpa using hb1
  refine za (hgw _ ?_)
  split
  ·refine za ?_;refine za (m:=hashByValue 8 (.int x tk)) (zb ?_);refine zb ?_;simp only[↓reduceIte];refine Kf ?_ X J hd H hp1 hb1' d B (C.trans u) ?_
   ·intro b l Y F;cases b<;>first | exact zb F | exact zU F
   ·intro h' I O;dsimp only;exact zb (h h' _ I O)
  ·rename_i hnp;refine za (zb ?_);simp only[↓reduceIte];refine Kf ?_ X J hd H hp1 hb1' d B (C.trans u) ?_
   ·intro b l Y F;cases b<;>first | exact zb F | exact zU F
   ·intro h' I O;dsimp only;exact zb (h h' _ I O)
theorem isI(x:Int)(t:Tok):(PySem.intKind prog w).is x (.int x t)=true:=by
 show Value.isInt x (.int x t)=true;simp[Value.isInt]
theorem Wy(ns:List Int):(List.range' 0 ns.length).map (λi=>ns.getD i 0)=ns:=by
 apply List.ext_getElem
 ·simp
 ·intro i h1 h2;simp[jl,h2]
theorem Wz{R:Result->Shared->Prop}{I:Addr}{fp m:List Addr}{G:Array GenState->Array GenState->Prop}{n:Nat}{P:Nat->Value->Prop}{St:Nat->Shared->Prop}(W:WalksS prog w A.in1 I fp m G n P St)(S:Addr)(y:S∉fp)
  (c:Nat->Int) (B:∀i v,P i v->∃t,v=.int (c i) t) (hb:n+1<scanBound):
  ∀(k i:Nat) (s:Shared) (ss:List Int),n - i=k->i<=n->St i s->ss.length<=i->eH prog w s.heap S ss ->
   (∀d,Moved (S::m) G s d->eH prog w d.heap S (((List.range' i (n - i)).map c).foldl stepI ss)->R (.ok (.ret .none)) d) ->
   codeAny (model prog w) A (.builtin "set.update.loop" ⟨[.ref S,.ref I],[]⟩) R s:=by
 have x:S∉m:=λh=>y (W.sub _ h)
 have j:∀b∈m,b∈S::m:=λb hb=>zr _ hb
 intro k
 induction k with
 |zero =>
  intro i s ss Y Z l T L O
  have U:i=n:=by omega
  subst U;refine jj PyProof.Rows.F.entry_set_update_loop ?_;rw[Around.under_plainId PyProof.Rows.F.plain_set_update_loop _];show wpAny _ A.in1 (pyNext (.ref I) >>= _) _ _ s;refine za (W.done s _ _ l λd q=>?_);show wpAny _ A.in1 (ret Value.none) _ _ d;refine zb (O d (q.mono j) ?_);rw[Nat.sub_self]
  exact L.at λo e=>q.heap S _ x e
 |succ k ih =>
  intro i s ss Y Z l T L O
  have u:i<n:=by omega
  refine jj PyProof.Rows.F.entry_set_update_loop ?_;rw[Around.under_plainId PyProof.Rows.F.plain_set_update_loop _];show wpAny _ A.in1 (pyNext (.ref I) >>= _) _ _ s;refine za (W.item i s _ _ u l λv d hP C q=>?_);obtain⟨t,rfl⟩:=B i v hP
  have hS':eH prog w d.heap S ss:=L.at λo e=>q.heap S _ x e
  show wpAny _ A.in1 (holding [Value.int (c i) t] (setAdd S (.int (c i) t)) >>= _) _ _ d;refine za (jd ?_);unfold setAdd;refine jd ?_;refine za ((PySem.intKind prog w).pyHash (k:=c i) (isI _ _) ?_)
  refine Wx (s:={d with toks:=d.toks+1}) hS' (by omega) λh' b r X=>?_
  refine zb ⟨plainId_quiet PyProof.Rows.F.plain_set_update_loop _,ih (i+1) _ (stepI ss (c i)) (by omega) u (W.frame _ d _ _ C (Nat.le_succ _) λb hb o e=>?_) ?_ X λQ H J=>?_⟩
  ·rw[r.2 b (λh:b=S=>y (by rw[<-h];exact hb))];exact e
  ·unfold stepI
   split
   ·omega
   ·rw[zd,zL];omega
  ·refine O Q (Moved.trans W.gtrans ((q.mono j).then_heap (Nat.le_succ _) λb o hb e=>?_) H) ?_
   ·rw[r.2 b (λh:b=S=>hb (by rw[h];exact zp))];exact e
   ·rw[show n - i=(n - (i+1))+1 by omega,List.range'_succ,zx,List.foldl_cons];exact J
theorem WD(x:Value){Q₁:Value->Shared->Prop}
  (h:Q₁ (.ref s.heap.objs.size) {s with heap:=s.heap.push {cls:=.type "set",dict:=none,data:=.set #[] 0 (.fresh 0 0 (!w.params.followText "set-order"))}}):
  codeAny (model prog w) A (.call (.builtin "set.__new__") ⟨[.type "set",x],[]⟩) (wants Q₁ E) s:=by
 refine codeAny_of_tree ?_;show wpAny _ A.in1 (do checkBuiltinCall "set.__new__" ⟨[.type "set",x],[]⟩;again (.builtin "set.__new__" ⟨[.type "set",x],[]⟩)) _ _ s;refine za (wpAny_of_eq (PySem.F.newCall_set_1 x) (zb ⟨plainId_quiet PySem.F.plain_set_new _,jj PySem.F.entry_set_new ?_⟩));rw[Around.under_plainId PySem.F.plain_set_new _];unfold Builtin.«set.__new__» Builtin.Frozenset.newClass;have c:=sub_set_self;obtain⟨j,g,d,tk,os⟩:=s;dsimp only
 wp_walk
 refine wpAny_askSetting (zb ?_);dsimp only;simp only[newObj];refine za (wpAny_alloc (zb ?_));exact zb h
theorem Kg{h:Heap}:eH prog w (h.push {cls:=.type "set",dict:=none,data:=.set #[] 0 (.fresh 0 0 (!w.params.followText "set-order"))}) h.objs.size []:=
 ⟨_,#[],0,_,zF _ rfl,⟨rfl,rfl,rfl⟩,rfl,λe c=>by simp at c,.nil,by decide,by rfl,⟨.nil,rfl⟩,rfl⟩
set_option maxHeartbeats 8000000 in
theorem WK{l:Addr}{items:Array Value}{ns:List Int}{Q:Value->Shared->Prop}
  (hh:A.handled=none) (hl:s.heap.IsList l items) (hi:IntsAre items.toList ns) (hb:items.size+1<scanBound)
  (h:∀(h':Heap) (tk:Nat),eH prog w h' s.heap.objs.size (ns.foldl stepI []) ->
   (∀b o,s.heap.get? b=some o->h'.get? b=some o)->Q (.ref s.heap.objs.size) {s with heap:=h',toks:=tk}):
  wpAny (model prog w) A (call (.type "set") [.ref l]) Q E s:=by
 obtain⟨c,tl,hmro⟩:=PySem.F.called_set.mro;have hmade:=PySem.F.called_set.made;have hsub:=PySem.F.called_set.sub;refine wpAny_call (codeAny_of_tree ?_);show wpAny _ _ (callAny (.type "set") _) _ _ _;refine zb ⟨Code.quiet_builtin _ (by decide +kernel),jj PySem.F.entry_type_call ?_⟩;rw[Around.under_plain (weight_type_call_type "set" [.ref l] []) rfl];have h1:=PySem.F.called_set.notType;have h2:=PySem.F.called_set.canCreate;have hct:=PySem.F.typeCall_set_1 (.ref l)
 repeat (any_goals (first | assumption | wp_step))
 generalize hO:({cls:=.type "set",dict:=none,data:=.set #[] 0 (.fresh 0 0 (!w.params.followText "set-order"))}:Obj)=O0
 refine codeAny_mono (WD (.ref l) (E:=E) (Q₁:=λobj q=>obj=.ref s.heap.objs.size/\q = {s with heap:=s.heap.push O0}) (by rw[hO];exact⟨rfl,rfl⟩)) λr q T=>?_
 cases r with
 |error e=>exact T
 |ok fl =>
  cases fl with
  |ret obj =>
   obtain⟨rfl,rfl⟩:=T
   have hfr:eH prog w (s.heap.push O0) s.heap.objs.size []:=by rw[<-hO];exact Kg
   have hS:(s.heap.push O0).get? s.heap.objs.size=some O0:=by rw[<-hO];exact zF _ rfl
   have P:O0.cls=.type "set":=by rw[<-hO]
   have hdat:O0.data=.set #[] 0 (.fresh 0 0 (!w.params.followText "set-order")):=by rw[<-hO]
   have hT:Shared.TypeIs {s with heap:=s.heap.push O0} (.ref s.heap.objs.size) "set":=⟨_,hS,P⟩;have hli:=PySem.F.called_set.init.lookup;have hbi:=PySem.F.called_set.init.bind (.ref s.heap.objs.size)
   repeat (any_goals (first | assumption | wp_step))
   refine codeAny_mono (codeAny_call_builtin (R:=wants (λr n=>r=.none/\∃h' tk,n = {s with heap:=h',toks:=tk} /\
     eH prog w h' s.heap.objs.size (ns.foldl stepI []) /\
     (∀b o,s.heap.get? b=some o->h'.get? b=some o)) E) PySem.F.called_set.init.plain PySem.F.entry_set_init (check_set_init_1 hT ?_)) λJ n d=>?_
   ·subst hO;obtain⟨ol,B,I,nl,H⟩:=hl;obtain⟨ocls,y,odata,m⟩:=ol;simp only at I H;subst I;subst H;have hol':(s.heap.push {cls:=.type "set",dict:=none,data:=.set #[] 0 (.fresh 0 0 (!w.params.followText "set-order"))}).get? l=some {cls:=.type "list",dict:=y,data:=.seq items nl,slots:=m}:=zo _ B;have hsls:=PySem.F.sub_list_set;have hslf:=PySem.F.sub_list_frozenset
    have hne:(Value.type "list" == Value.type "dict")=false:=by decide
    have G:(s.heap.push {cls:=.type "set",dict:=none,data:=.set #[] 0 (.fresh 0 0 (!w.params.followText "set-order"))}).IsList l items:=⟨_,hol',rfl,nl,rfl⟩;unfold Builtin.«set.__init__» noKeywords Builtin.Frozenset.updateFrom
    generalize hPI:pyIter=PI
    wp_walk
    subst hPI;refine wpAny_pyIter_list G ?_;refine za (wpAny_runValue ?_);have C:l<s.heap.objs.size:=zg B
    have Z:A.in1.in1.in1.handled=none:=by simp[hh]
    have O:l≠(s.heap.push {cls:=.type "set",dict:=none,data:=.set #[] 0 (.fresh 0 0 (!w.params.followText "set-order"))}).objs.size:=by
     rw[Heap.size_push];exact zt (jm C)
    have hSf:s.heap.objs.size∉[(s.heap.push {cls:=.type "set",dict:=none,data:=.set #[] 0 (.fresh 0 0 (!w.params.followText "set-order"))}).objs.size,l]:=by
     rw[Heap.size_push];simp only[zh,zl,List.not_mem_nil,or_false,not_or];exact⟨zt (jg _),Nat.ne_of_gt C⟩
    have X:ns.length=items.size:=by rw[<-hi.nums,ze,Array.length_toList]
    have L:∀(i:Nat) (v:Value),items[i]?=some v->∃t,v=.int ((λi=>ns.getD i 0) i) t:=λi v hv=>by
     have hv':items.toList[i]?=some v:=by rw[Array.getElem?_toList];exact hv
     obtain⟨x,t,rfl⟩:=hi.all v (zS hv');refine⟨t,?_⟩
     have u:(items.toList.map numOf)[i]?=some x:=by rw[zG,hv'];rfl
     rw[hi.nums] at u;show Value.int x t=Value.int (ns.getD i 0) t;rw[jl,u];rfl
    refine Wz ((Walks.list Z _ l O items).toS) s.heap.objs.size
     hSf (λi=>ns.getD i 0) L hb (items.size - 0) 0 _ [] (by omega) (Nat.zero_le _)
     ⟨⟨_,zF _ rfl,rfl,rfl⟩,(G.push _)⟩ (zc _) (Kg.at λo e=>zo _ e) ?hR
    intro s' u j;rw[Nat.sub_zero,<-X] at j;rw[Wy] at j;obtain⟨h',g',d',U,W⟩:=s';have eg:g'=s.gens:=u.gens;have ed:d'=s.drawn:=u.drawn;have eo:W=s.os:=u.os;subst eg;subst ed;subst eo;show wpAny _ _ _ _ _ _;refine zb ?_;show wpAny _ _ (ret Value.none) _ _ _;refine zb ⟨rfl,h',U,rfl,j,λb o e=>?_⟩;have hb':=zg e;have hb1:b≠s.heap.objs.size:=zt hb'
    have hb2:b≠(s.heap.push {cls:=.type "set",dict:=none,data:=.set #[] 0 (.fresh 0 0 (!w.params.followText "set-order"))}).objs.size:=by
     rw[Heap.size_push];exact zt (jm hb')
    exact u.heap b o (by simp only[zh,zl,List.not_mem_nil,or_false,not_or];exact⟨hb1,hb2⟩) (zo _ (zo _ e))
   ·cases J with
    |error e=>exact d
    |ok fl₂ =>
     cases fl₂ with
     |ret r =>
      obtain⟨rfl,h',tk,rfl,j,Y⟩:=d
      repeat (any_goals (first | assumption | wp_step))
      exact h _ _ j Y
     | _=>exact d.elim
  | _=>exact T.elim
end
theorem jT:Slot "set_iterator" "__next__" "set_iterator.__next__" :=
 .of (owner:="set_iterator") (n:="__next__") (by rw[typeLookup_type,builtinLookup_eq_fast];kernel_rfl) (by decide +kernel) (by decide +kernel) (by decide +kernel)
  (by first | exact .inl (by decide +kernel) | exact .inr (by decide +kernel)) (by rw[isSubtype_type];kernel_rfl)
theorem vB:entryFor table "set_iterator.__next__" = some Builtin.«set_iterator.__next__»:=entryFor_of_tree (by kernel_rfl)
theorem vC(a:Value):argsOk "set_iterator.__next__" ⟨[a],[]⟩:=by unfold argsOk;kernel_rfl
theorem Kh:Slot "set_iterator" "__iter__" "set_iterator.__iter__" :=
 .of (owner:="set_iterator") (n:="__iter__") (by rw[typeLookup_type,builtinLookup_eq_fast];kernel_rfl) (by decide +kernel) (by decide +kernel) (by decide +kernel)
  (by first | exact .inl (by decide +kernel) | exact .inr (by decide +kernel)) (by rw[isSubtype_type];kernel_rfl)
theorem WL:entryFor table "set_iterator.__iter__" = some Builtin.«dict_keyiterator.__iter__» :=
 entryFor_alias (id':="dict_keyiterator.__iter__") (by kernel_rfl) rfl (by decide +kernel) (by kernel_rfl)
theorem WM(a:Value):argsOk "set_iterator.__iter__" ⟨[a],[]⟩:=by unfold argsOk;kernel_rfl
theorem WN:entryFor table "set.__iter__" = some Builtin.«frozenset.__iter__» :=
 entryFor_alias (id':="frozenset.__iter__") (by kernel_rfl) rfl (by decide +kernel) (by kernel_rfl)
def ItS(h:Heap)(I a:Addr)(first:Value)(i n ep:Nat):Prop:=∃o,h.get? I=some o/\o.cls=.type "set_iterator"/\o.data=.fields #[first,.int i 0,.ref a,.int n 0,.int ep 0]
section
variable {prog:Program}{w:World}{A:Around}{E:Value->Shared->Prop}{s:Shared}{a:Addr}{ss:List Int}{o:Obj}{es:Array (Int×Value)}{ep:Nat}{t:SetTable}
theorem ItS.typeIs{I:Addr}{first:Value}{i n:Nat}(h:ItS s.heap I a first i n ep):s.TypeIs (.ref I) "set_iterator":=let ⟨o,h1,h2,_⟩:=h;⟨o,h1,h2⟩
theorem WQ{M:Model}{c:Source}{n:Nat}{Q:Nat->Shared->Prop}(j:n≠0)(h:∀i d,i<n->Q i {s with drawn:=d}):wpAny M A (choose c n) Q E s :=
 λΓ p l=>⟨j,h _ _ (Nat.mod_lt _ (Nat.pos_of_ne_zero j))⟩
theorem yN{α:Type}:∀(l:List α) (i:Nat) (h:i<l.length),(l[i]::l.eraseIdx i).Perm l
 |x::xs,0,_=>.refl _
 |x::xs,i+1,h=>(List.Perm.swap _ _ _).trans ((yN xs i (Nat.lt_of_succ_lt_succ h)).cons x)
theorem Kl{M:Model}{α:Type}:∀(n:Nat) (xs:List α) (s:Shared) (Q:List α->Shared->Prop),xs.length=n->(∀ys d,ys.Perm xs->Q ys {s with drawn:=d})->wpAny M A (drawOrder n xs) Q E s
 | 0,xs,s,Q,hl,h=>by
  rw[List.length_eq_zero_iff.mp hl] at h;exact zb (h [] s.drawn .nil)
 |n+1,[],s,Q,hl,h=>by cases hl
 |n+1,x::xs,s,Q,hl,h=>by
  unfold drawOrder;refine za (WQ (by simp) λi d c=>?_);rw[zD c];refine za (Kl n _ _ _ ?_ λys l j=>?_)
  ·rw[List.length_eraseIdx_of_lt c];omega
  ·exact zb (h _ l ((j.cons _).trans (yN _ _ c)))
theorem WR{Q:Value->Shared->Prop}(x:gf prog w s.heap a ss o es ep t)
  (h1:(w.params.followText "set-order" = true\/(!t.plain&&decide (es.size>1))=false)->Q (.ref s.heap.objs.size) {s with heap:=s.heap.push {cls:=.type "set_iterator",data:=.fields #[.int 0 0,.int 0 0,.ref a,.int es.size 0,.int ep 0]}})
  (h2:w.params.followText "set-order" = false->∀(ps:List Nat) d,ps.Perm (List.range es.size)->Q (.ref (s.heap.objs.size+1)) {s with drawn:=d,heap:=(s.heap.push {cls:=.type "tuple",data:=.seq (ps.map λi=>Value.int (i:Nat) 0).toArray}).push {cls:=.type "set_iterator",data:=.fields #[.ref s.heap.objs.size,.int 0 0,.ref a,.int es.size 0,.int ep 0]}}):
  wpAny (model prog w) A (pyIter (.ref a)) Q E s:=by
 obtain⟨l,r,hd,C,G,B,q,n,y⟩:=x;have u:s.TypeIs (.ref a) "set":=⟨o,l,r.1⟩;refine wpAny_pyIter_slot u PySem.F.slot_set_iter (wpAny_call_entry PySem.F.slot_set_iter u WN ?_ (PySem.F.args_set_iter_1 _));unfold Builtin.«frozenset.__iter__» Builtin.Frozenset.slot0 slotArgs;simp only[List.isEmpty_nil,Bool.not_true,Bool.false_eq_true,↓reduceIte,bind_assoc,zw,bne_self_eq_false];unfold Builtin.Frozenset.addrOf Builtin.Frozenset.sizeOf;refine za (zb ?_);dsimp only;refine za (zb ?_);refine za (za (wpAny_setEntries_of l hd q (zb ?_)));unfold setDrawn setsByText;refine za (za (wpAny_setState_of l hd q ?_))
 refine za (za (wpAny_askSetting (zb ?_)));refine zb ?_;refine wpAny_ite_split (λc=>?_) (λc=>?_)
 ·change (!w.params.followText "set-order" && (!t.plain&&decide (es.size>1)))=true at c
  have j:w.params.followText "set-order" = false:=by
   cases h:w.params.followText "set-order" with
   |false=>rfl
   |true=>rw[h] at c;cases c
  refine za (Kl _ _ _ _ List.length_range λps d m=>?_)
  have n:ps.length=es.size:=by rw[m.length_eq,List.length_range]
  refine za (wpAny_newTuple ?_ (by rw[ze,n,sizeLine_eq];unfold scanBound at B;omega));have ho':(s.heap.push {cls:=.type "tuple",data:=.seq (ps.map λi=>rawInt (i:Nat)).toArray}).get? a=some o:=zo _ l;refine za (wpAny_setEpoch_of (s:={s with drawn:=d,heap:=s.heap.push {cls:=.type "tuple",data:=.seq (ps.map λi=>rawInt (i:Nat)).toArray}}) ho' hd q ?_);unfold newFields;refine za (wpAny_newObj_type (zb ⟨_,rfl,"set_iterator",_,⟨_,zF _ rfl,rfl⟩,jT.lookup,?_⟩))
  have:=h2 j ps d m
  rw[Heap.size_push];exact this
 ·change ¬(!w.params.followText "set-order" && (!t.plain&&decide (es.size>1)))=true at c
  have j:w.params.followText "set-order" = true\/(!t.plain&&decide (es.size>1))=false:=by
   cases h:w.params.followText "set-order" with
   |true=>exact .inl rfl
   |false =>
    rw[h] at c;exact .inr (by simpa using c)
  refine za (zb ?_);refine za (wpAny_setEpoch_of l hd q ?_);unfold newFields;exact za (wpAny_newObj_type (zb ⟨_,rfl,"set_iterator",_,⟨_,zF _ rfl,rfl⟩,jT.lookup,h1 j⟩))
theorem vD{h:Heap}{I:Addr}{o:Obj}{vs:Array Value}{i:Nat}{x:Value}(d:h.get? I=some o)(hd:o.data=.fields vs):∃c,(h.update I (Obj.mapFields (·.setIfInBounds i x))).get? I=some c/\c.cls=o.cls/\c.data=.fields (vs.setIfInBounds i x):=
 ⟨_,Heap.get?_update_self _ d (Obj.isFreed_of_fields (Obj.data_mapFields hd _)),Obj.cls_mapFields ..,by rw[Obj.data_mapFields hd]⟩
theorem Km{I:Addr}{sl:Int}{nx i n:Nat}{v:Value}{Q:Option Value->Shared->Prop}(c:ItS s.heap I a (.int sl 0) i n ep)(x:gf prog w s.heap a ss o es ep t)(y:es.size=n)
  (hs:∀(P:Around) (m:Option (Value×Nat)->Shared->Prop) (O:Value->Shared->Prop),m (some (v,nx)) s->wpAny (model prog w) P (setNext a sl.toNat i ep) m O s)
  (F:∀h',ItS h' I a (.int nx 0) (i+1) n ep->Heap.SameBut I s.heap h'->Q (some v) {s with heap:=h'}):wpAny (model prog w) A (pyNext (.ref I)) Q E s:=by
 obtain⟨W,h,C,d⟩:=id c;obtain⟨u,T,hd,U,Y,Z,B,R,q⟩:=x;unfold pyNext
 refine za (wpAny_attempt (wpAny_callSpecial?_slot (name:=Str.ofString "__next__") c.typeIs jT
  (wpAny_call_entry jT c.typeIs vB ?_ (vC _))))
 unfold Builtin.«set_iterator.__next__» slotArgs;simp only[List.isEmpty_nil,Bool.not_true,Bool.false_eq_true,↓reduceIte,bind_assoc,zw,bne_self_eq_false];refine za (zb ?_);dsimp only;refine za (wpAny_fieldsOf h d ?_);dsimp only;refine za (wpAny_setEntries_of u hd B ?_);rw[if_neg (by rw[y];simp)];refine za (hs _ _ _ ?_);dsimp only;refine za (wpAny_setField h d (by simp) ?_);obtain⟨X,j,L,l⟩:=vD (i:=0) (x:=rawInt (nx:Nat)) h d;refine za (wpAny_setField (s:={s with heap:=s.heap.update I (Obj.mapFields (·.setIfInBounds 0 (rawInt (nx:Nat))))}) j l (by simp) ?_);obtain⟨r,G,J,H⟩:=vD (i:=1) (x:=rawInt ((i:Int)+1)) j l
 refine zb ⟨_,rfl,zb (F _ ⟨r,G,J.trans (L.trans C),by rw[H];simp[rawInt]⟩ ((Heap.SameBut.update ..).trans (Heap.SameBut.update ..)))⟩
theorem Ko{I:Addr}{sl:Int}{i n:Nat}{Q:Option Value->Shared->Prop}(u:A.handled=none)(c:ItS s.heap I a (.int sl 0) i n ep)(x:gf prog w s.heap a ss o es ep t)(r:es.size=n)
  (hs:∀(F:Around) (j:Option (Value×Nat)->Shared->Prop) (C:Value->Shared->Prop),j none s->wpAny (model prog w) F (setNext a sl.toNat i ep) j C s)
  (B:∀h',Heap.ExtBut I s.heap h'->Q none {s with heap:=h'}):wpAny (model prog w) A (pyNext (.ref I)) Q E s:=by
 obtain⟨L,h,P,d⟩:=id c;obtain⟨q,H,hd,J,O,R,y,G,l⟩:=x;unfold pyNext
 refine za (wpAny_attempt (wpAny_callSpecial?_slot (name:=Str.ofString "__next__") c.typeIs jT
  (wpAny_call_entry jT c.typeIs vB ?_ (vC _))))
 unfold Builtin.«set_iterator.__next__» slotArgs;simp only[List.isEmpty_nil,Bool.not_true,Bool.false_eq_true,↓reduceIte,bind_assoc,zw,bne_self_eq_false];refine za (zb ?_);dsimp only;refine za (wpAny_fieldsOf h d ?_);dsimp only;refine za (wpAny_setEntries_of q hd y ?_);rw[if_neg (by rw[r];simp)];refine za (hs _ _ _ ?_);dsimp only;refine za (wpAny_setField h d (by simp) ?_);refine za ?_;simp only[newExc,newTuple];refine za (wpAny_newObj_type ?_ (by size_fits));refine za (m:=firstArgMember _ _) (wpAny_of_eq (a:=Value.none) (by first | rfl | (simp only[firstArgMember];rfl)) ?_)
 refine wpAny_newObj_type ?_ (by size_fits);simp only[raiseNew];refine za (wpAny_handled ?_);rw[show A.in1.handled=none from u];refine za (zb (wpAny_throw ?_));refine za (wpAny_isInstance (T:="StopIteration") (b:=true) ⟨_,zF _ rfl,rfl⟩ isSubtype_stop ?_);exact zb (B _ (((Heap.SameBut.update ..).extBut.push _).push _))
theorem WT{I T:Addr}{p i n:Nat}{v:Value}{hs:Int}{oT:Obj}{vs:Array Value}{u:Nat}{Q:Option Value->Shared->Prop}(c:ItS s.heap I a (.ref T) i n ep)(x:gf prog w s.heap a ss o es ep t)(y:es.size=n)
  (F:s.heap.get? T=some oT) (j:oT.data=.seq vs u) (hv:vs[i]?=some (.int (p:Nat) 0)) (B:es[p]?=some (hs,v))
  (G:∀h',ItS h' I a (.ref T) (i+1) n ep->Heap.SameBut I s.heap h'->Q (some v) {s with heap:=h'}):wpAny (model prog w) A (pyNext (.ref I)) Q E s:=by
 obtain⟨U,h,C,d⟩:=id c;obtain⟨l,P,hd,R,W,X,m,O,q⟩:=x;unfold pyNext
 refine za (wpAny_attempt (wpAny_callSpecial?_slot (name:=Str.ofString "__next__") c.typeIs jT
  (wpAny_call_entry jT c.typeIs vB ?_ (vC _))))
 unfold Builtin.«set_iterator.__next__» slotArgs;simp only[List.isEmpty_nil,Bool.not_true,Bool.false_eq_true,↓reduceIte,bind_assoc,zw,bne_self_eq_false];refine za (zb ?_);dsimp only;refine za (wpAny_fieldsOf h d ?_);dsimp only;refine za (wpAny_setEntries_of l hd m ?_);rw[if_neg (by rw[y];simp)];refine za (wpAny_seqItems F j ?_);dsimp only;rw[show(i:Int).toNat=i from rfl,hv];dsimp only;unfold setNextDrawn;refine za (za (wpAny_setState_of l hd m ?_));dsimp only;rw[if_neg (by simp)];rw[show((p:Nat):Int).toNat=p from rfl,B];refine za (zb ?_);refine zb ?_;refine za (wpAny_setField h d (by simp) ?_)
 obtain⟨r,H,L,J⟩:=vD (i:=1) (x:=rawInt ((i:Int)+1)) h d;exact zb ⟨_,rfl,zb (G _ ⟨r,H,L.trans C,by rw[J];simp[rawInt]⟩ (Heap.SameBut.update ..))⟩
theorem WW{I T:Addr}{i n:Nat}{oT:Obj}{vs:Array Value}{q:Nat}{Q:Option Value->Shared->Prop}(y:A.handled=none)(c:ItS s.heap I a (.ref T) i n ep)(x:gf prog w s.heap a ss o es ep t)(u:es.size=n)
  (C:s.heap.get? T=some oT) (j:oT.data=.seq vs q) (hv:vs[i]?=none)
  (F:∀h',Heap.ExtBut I s.heap h'->Q none {s with heap:=h'}):wpAny (model prog w) A (pyNext (.ref I)) Q E s:=by
 obtain⟨P,h,W,d⟩:=id c;obtain⟨r,L,hd,O,U,X,B,J,l⟩:=x;unfold pyNext
 refine za (wpAny_attempt (wpAny_callSpecial?_slot (name:=Str.ofString "__next__") c.typeIs jT
  (wpAny_call_entry jT c.typeIs vB ?_ (vC _))))
 unfold Builtin.«set_iterator.__next__» slotArgs;simp only[List.isEmpty_nil,Bool.not_true,Bool.false_eq_true,↓reduceIte,bind_assoc,zw,bne_self_eq_false];refine za (zb ?_);dsimp only;refine za (wpAny_fieldsOf h d ?_);dsimp only;refine za (wpAny_setEntries_of r hd B ?_);rw[if_neg (by rw[u];simp)];refine za (wpAny_seqItems C j ?_);dsimp only;rw[show(i:Int).toNat=i from rfl,hv];dsimp only;refine za (wpAny_setField h d (by simp) ?_);obtain⟨R,G,Y,H⟩:=vD (i:=0) (x:=rawInt 0) h d;refine za (wpAny_setField (s:={s with heap:=s.heap.update I (Obj.mapFields (·.setIfInBounds 0 (rawInt 0)))}) G H (by simp) ?_)
 refine za ?_;simp only[newExc,newTuple];refine za (wpAny_newObj_type ?_ (by size_fits));refine za (m:=firstArgMember _ _) (wpAny_of_eq (a:=Value.none) (by first | rfl | (simp only[firstArgMember];rfl)) ?_);refine wpAny_newObj_type ?_ (by size_fits);simp only[raiseNew];refine za (wpAny_handled ?_);rw[show A.in1.handled=none from y];refine za (zb (wpAny_throw ?_));refine za (wpAny_isInstance (T:="StopIteration") (b:=true) ⟨_,zF _ rfl,rfl⟩ isSubtype_stop ?_);exact zb (F _ ((((Heap.SameBut.update ..).trans (Heap.SameBut.update ..)).extBut.push _).push _))
theorem yO{I:Addr}{first:Value}{i n:Nat}{Q:Value->Shared->Prop}(c:ItS s.heap I a first i n ep)(h:Q (.ref I) s):wpAny (model prog w) A (pyIter (.ref I)) Q E s:=by
 refine wpAny_pyIter_slot c.typeIs Kh (wpAny_call_entry Kh c.typeIs WL ?_ (WM _));unfold Builtin.«dict_keyiterator.__iter__»;refine za (m:=slotArgs "__iter__" 0 _) (zb ?_);exact zb ⟨_,rfl,"set_iterator",_,c.typeIs,jT.lookup,h⟩
theorem Kp{i sl:Nat}{q:Around}{l:Option (Value×Nat)->Shared->Prop}{n:Value->Shared->Prop}(x:gf prog w s.heap a ss o es ep t)(c:w.params.followText "set-order" = true)
  (h:l (((pickOrder (w.params.setOrder a ep) es)[i]?).map λe=>(e.2,sl)) s):wpAny (model prog w) q (setNext a sl i ep) l n s:=by
 obtain⟨d,u,hd,y,B,C,j,r,m⟩:=x;unfold setNext setsByText;refine za (wpAny_setState_of d hd j ?_);dsimp only;refine za (za (wpAny_askSetting (zb ?_)));rw[if_pos (show(⟨(model prog w).prog,(model prog w).w.params⟩:Setting).params.followText "set-order" = true from c)];rw[if_neg (by simp)];unfold setWalk setsByText;refine za (za (wpAny_setState_of d hd j ?_));dsimp only;refine za (za (wpAny_askSetting (zb ?_)));rw[if_pos (show(⟨(model prog w).prog,(model prog w).w.params⟩:Setting).params.followText "set-order" = true from c)];exact za (wpAny_askSetting (zb (zb h)))
theorem Kq{sl:Nat}{q:Around}{i:Nat}{n:Option (Value×Nat)->Shared->Prop}{y:Value->Shared->Prop}(x:gf prog w s.heap a ss o es ep t)(c:w.params.followText "set-order" = false)(h1:(!t.plain&&decide (es.size>1))=false)
  (h:n (match es[SetTable.below t.place sl]?,t.place[SetTable.below t.place sl]? with | some (_,x),some j=>some (x,j+1) | _,_=>none) s):wpAny (model prog w) q (setNext a sl i ep) n y s:=by
 obtain⟨r,C,hd,F,G,H,u,B,d⟩:=x
 have m:t.led=true:=by rw[d,c];rfl
 unfold setNext setsByText;refine za (wpAny_setState_of r hd u ?_);dsimp only;refine za (za (wpAny_askSetting (zb ?_)));rw[if_neg (show ¬(⟨(model prog w).prog,(model prog w).w.params⟩:Setting).params.followText "set-order" = true from λz=>by have:=c.symm.trans z;cases this)];refine wpAny_ite_split (λl=>?_) (λl=>?_)
 ·change (!t.plain&&decide (es.size>1))=true at l
  rw[h1] at l;cases l
 ·refine za ?_;show wpAny (model prog w) q (if(!t.led && !es.isEmpty)=true then unsupported "set:maker-not-led" else pure ()) _ _ _;rw[if_neg (by rw[m];simp)];refine zb ?_;exact zb h
theorem Kr{α:Type}(next:Nat->Nat):∀(fuel k:Nat) (left:List α) (out:Array α),left.length=fuel->(pickOrder.go next fuel k left out).toList.Perm (out.toList++left)
 | 0,k,left,out,h=>by
  rw[List.length_eq_zero_iff.mp h];unfold pickOrder.go;simp
 |fuel+1,k,left,out,h=>by
  unfold pickOrder.go;have c:next k % left.length<left.length:=Nat.mod_lt _ (by omega);rw[zD c];dsimp only;refine(Kr next fuel (k+1) _ _ (by rw[List.length_eraseIdx_of_lt c];omega)).trans ?_;rw[Array.toList_push,zk];exact List.Perm.append_left _ (yN left _ c)
theorem sW{α:Type}(next:Nat->Nat)(xs:Array α):(pickOrder next xs).toList.Perm xs.toList:=by
 have:=Kr next xs.size 0 xs.toList #[] (Array.length_toList ..)
 unfold pickOrder;simpa using this
theorem map_range{α:Type}(xs:Array α)(ps:List Nat)(h:ps.Perm (List.range xs.size)):∃ys:List α,ys.Perm xs.toList/\ps.length=ys.length/\∀(i p:Nat),ps[i]?=some p->xs[p]?=ys[i]?:=by
 have d:∀p∈ps,p<xs.size:=λp n=>List.mem_range.mp (h.mem_iff.mp n)
 refine⟨ps.filterMap λp=>xs[p]?,?_,?_,?_⟩
 ·refine(h.filterMap _).trans ?_
  have:(List.range xs.size).filterMap (λp=>xs[p]?)=xs.toList:=by
   have e:∀l:List α,(List.range l.length).filterMap (λp=>l[p]?)=l:=λl=>by
    induction l with
    |nil=>rfl
    |cons x l ih =>
     rw[zn,List.range_succ_eq_map,List.filterMap_cons,List.filterMap_map];simp only[zq];congr 1
   have:=e xs.toList
   simpa using this
  rw[this]
 ·have e:∀l:List Nat,(∀p∈l,p<xs.size)->l.length=(l.filterMap λp=>xs[p]?).length:=λl=>by
   induction l with
   |nil=>intro _;rfl
   |cons p l ih =>
    intro c;rw[List.filterMap_cons,Array.getElem?_eq_getElem (c p zp)];dsimp only;rw[zn,zn,<-ih λq m=>c q (zr _ m)]
  exact e ps d
 ·have e:∀(l:List Nat),(∀p∈l,p<xs.size)->∀(i p:Nat),l[i]?=some p->xs[p]?=(l.filterMap λp=>xs[p]?)[i]?:=λl=>by
   induction l with
   |nil=>intro _ i p j;cases j
   |cons q l ih =>
    intro c i p j;rw[List.filterMap_cons,Array.getElem?_eq_getElem (c q zp)];dsimp only
    cases i with
    |zero =>
     cases j;rw[Array.getElem?_eq_getElem (c q zp)];rfl
    |succ i=>exact ih (λq m=>c q (zr _ m)) i p j
  exact e ps d
end
def PIt(xs:List Int)(i:Nat)(v:Value):Prop:=∃x t,xs[i]?=some x/\v=.int x t
section
variable {prog:Program}{w:World}{A:Around}{E:Value->Shared->Prop}{s:Shared}{a:Addr}{ss:List Int}{o:Obj}{es:Array (Int×Value)}{ep:Nat}{t:SetTable}
theorem ItS.at{h h':Heap}{I:Addr}{first:Value}{i n:Nat}(x:ItS h I a first i n ep)(e:∀o,h.get? I=some o->h'.get? I=some o):ItS h' I a first i n ep:=let ⟨o,ho,r⟩:=x;⟨o,e _ ho,r⟩
theorem gf.at{h h':Heap}(x:gf prog w h a ss o es ep t)(e:∀o,h.get? a=some o->h'.get? a=some o):gf prog w h' a ss o es ep t:=⟨e _ x.1,x.2⟩
theorem yP{I:Addr}{h':Heap}(e:Heap.SameBut I s.heap h'):Moved [I] Eq s {s with heap:=h'}:=⟨λb o c q=>(e.2 b λz=>c (by rw[z];exact zl.mpr rfl)).trans q,rfl,rfl,rfl,zc _⟩
theorem yQ{I:Addr}{h':Heap}(e:Heap.ExtBut I s.heap h'):Moved [I] Eq s {s with heap:=h'}:=⟨λb o c q=>e b o (λz=>c (by rw[z];exact zl.mpr rfl)) q,rfl,rfl,rfl,zc _⟩
theorem yR{x:gf prog w s.heap a ss o es ep t}{l:List (Int×Value)}(j:l.Perm es.toList){i:Nat}{e:Int×Value}(d:l[i]?=some e):PIt (l.map λe=>numOf e.2) i e.2:=by
 obtain⟨⟨k,m,_⟩,_⟩:=x.2.2.2.1 e (j.mem_iff.mp (zS d));obtain⟨h,c⟩:=Value.isInt_shape m;exact⟨k,h,by rw[zG,d,Option.map_some,c];rfl,c⟩
theorem WX{I:Addr}(hh:A.handled=none)(hne:a≠I)(hft:w.params.followText "set-order" = true):
  WalksS prog w A I [I,a] [I] Eq es.size (PIt ((pickOrder (w.params.setOrder a ep) es).toList.map λe=>numOf e.2)) (λi s=>ItS s.heap I a (.int 0 0) i es.size ep/\gf prog w s.heap a ss o es ep t) where
 sub:=by simp
 grefl:=λ_=>rfl
 gtrans:=λ_ _ _ h1 h2=>h1.trans h2
 frame:=λi s h' tk st _ k=>⟨st.1.at λo e=>k I (by simp) o e,st.2.at λo e=>k a (by simp) o e⟩
 item:=λi s Q E hi st hQ=>by
  have hsz:(pickOrder (w.params.setOrder a ep) es).size=es.size:=by rw[<-Array.length_toList,(sW _ es).length_eq,Array.length_toList]
  have he:(pickOrder (w.params.setOrder a ep) es)[i]?=some ((pickOrder (w.params.setOrder a ep) es)[i]'(by omega)):=Array.getElem?_eq_getElem (by omega)
  refine Km (nx:=0) st.1 st.2 rfl (λA' Q' E' q=>Kp st.2 hft (by rw[he];exact q)) λh' it' sb=>hQ _ _ ?_ ⟨it',st.2.at λo e=>(sb.2 a hne).trans e⟩ (yP sb)
  exact yR (x:=st.2) (sW _ es) (by rw[Array.getElem?_toList];exact he)
 done:=λs Q E st hQ=>by
  have hsz:(pickOrder (w.params.setOrder a ep) es).size=es.size:=by rw[<-Array.length_toList,(sW _ es).length_eq,Array.length_toList]
  have he:(pickOrder (w.params.setOrder a ep) es)[es.size]?=none:=Array.getElem?_eq_none (by omega)
  exact Ko hh st.1 st.2 rfl (λA' Q' E' q=>Kp st.2 hft (by rw[he];exact q)) λh' e=>hQ _ (yQ e)
 self:=λi s Q E st h=>yO st.1 h
theorem WY{I:Addr}(hh:A.handled=none)(hne:a≠I)(hft:w.params.followText "set-order" = false)(h1:(!t.plain&&decide (es.size>1))=false)(hr:Ris t)(hsz:t.place.size=es.size):
  WalksS prog w A I [I,a] [I] Eq es.size (PIt (es.toList.map λe=>numOf e.2)) (λi s=>ItS s.heap I a (.int (lV t.place i:Nat) 0) i es.size ep/\gf prog w s.heap a ss o es ep t) where
 sub:=by simp
 grefl:=λ_=>rfl
 gtrans:=λ_ _ _ h1 h2=>h1.trans h2
 frame:=λi s h' tk st _ k=>⟨st.1.at λo e=>k I (by simp) o e,st.2.at λo e=>k a (by simp) o e⟩
 item:=λi s Q E hi st hQ=>by
  have hp:i<t.place.size:=by omega
  have e1:es[i]?=some (es[i]):=Array.getElem?_eq_getElem hi;have e2:t.place[i]?=some (t.place[i]):=Array.getElem?_eq_getElem hp
  refine Km (nx:=lV t.place (i+1)) (v:=es[i].2) st.1 st.2 rfl (λA' Q' E' q=>Kq st.2 hft h1 ?_) λh' it' sb=>hQ _ _ ?_ ⟨it',st.2.at λo e=>(sb.2 a hne).trans e⟩ (yP sb)
  ·rw[Int.toNat_natCast,Kc hr.1 (by omega),e1,e2]
   have:lV t.place (i+1)=t.place[i]+1:=by simp[lV,Array.getD,hp]
   rw[this] at q;exact q
  ·exact yR (x:=st.2) (.refl _) (by rw[Array.getElem?_toList];exact e1)
 done:=λs Q E st hQ=>by
  refine Ko hh st.1 st.2 rfl (λA' Q' E' q=>Kq st.2 hft h1 ?_) λh' e=>hQ _ (yQ e)
  rw[Int.toNat_natCast,Kc hr.1 (by omega),Array.getElem?_eq_none (zc _)];exact q
 self:=λi s Q E st h=>yO st.1 h
theorem W0{I T:Addr}{oT:Obj}{ps:List Nat}{nT:Nat}{ys:List (Int×Value)}(hh:A.handled=none)(hne:a≠I)(hnT:T≠I)(hTd:oT.data=.seq (ps.map λi=>Value.int (i:Nat) 0).toArray nT)
  (hy:ys.Perm es.toList) (hl:ps.length=es.size) (hp:∀(i p:Nat),ps[i]?=some p->es[p]?=ys[i]?):
  WalksS prog w A I [I,a,T] [I] Eq es.size (PIt (ys.map λe=>numOf e.2)) (λi s=>ItS s.heap I a (.ref T) i es.size ep/\gf prog w s.heap a ss o es ep t/\s.heap.get? T=some oT) where
 sub:=by simp
 grefl:=λ_=>rfl
 gtrans:=λ_ _ _ h1 h2=>h1.trans h2
 frame:=λi s h' tk st _ k=>⟨st.1.at λo e=>k I (by simp) o e,st.2.1.at λo e=>k a (by simp) o e,k T (by simp) _ st.2.2⟩
 item:=λi s Q E hi st hQ=>by
  have hi':i<ps.length:=by omega
  have e1:=zD hi'
  have hyl:ys.length=es.size:=by rw[hy.length_eq,Array.length_toList]
  have e2:=zD (l:=ys) (i:=i) (by omega);have e3:=(hp i _ e1).trans e2
  refine WT (hs:=_) st.1 st.2.1 rfl st.2.2 hTd (p:=ps[i]) ?_ (v:=(ys[i]'(by omega)).2) e3 λh' it' sb=>hQ _ _ ?_ ⟨it',st.2.1.at λo e=>(sb.2 a hne).trans e,(sb.2 T hnT).trans st.2.2⟩ (yP sb)
  ·rw[List.getElem?_toArray,zG,e1];rfl
  ·exact yR (x:=st.2.1) hy e2
 done:=λs Q E st hQ=>by
  refine WW hh st.1 st.2.1 rfl st.2.2 hTd ?_ λh' e=>hQ _ (yQ e)
  rw[List.getElem?_toArray,zG,jo (by omega)];rfl
 self:=λi s Q E st h=>yO st.1 h
theorem W2{Q:Value->Shared->Prop}(B:A.handled=none)(J:eH prog w s.heap a ss)
  (h:∀(q:Shared) (I:Addr) (fp:List Addr) (St:Nat->Shared->Prop) (xs:List Int),(∀b o,s.heap.get? b=some o->q.heap.get? b=some o)->q.gens=s.gens->q.os=s.os->q.toks=s.toks->xs.Perm ss->s.heap.objs.size<=I ->
   (∀b∈fp,b=a\/s.heap.objs.size<=b)->WalksS prog w A I fp [I] Eq xs.length (PIt xs) St->St 0 q->Q (.ref I) q):wpAny (model prog w) A (pyIter (.ref a)) Q E s:=by
 obtain⟨o,es,ep,t,x⟩:=J;have n:=zg x.1
 have hlen:es.size=ss.length:=by rw[<-x.2.2.2.2.1.length_eq];unfold oE;rw[ze,Array.length_toList]
 refine WR x (λr=>?_) (λm ps d l=>?_)
 ·have F:gf prog w (s.heap.push {cls:=.type "set_iterator",data:=.fields #[.int 0 0,.int 0 0,.ref a,.int es.size 0,.int ep 0]}) a ss o es ep t:=x.at λo e=>zo _ e
  cases m:w.params.followText "set-order" with
  |true =>
   have W:=WX (prog:=prog) (o:=o) (ss:=ss) (es:=es) (ep:=ep) (t:=t) B (zt n) m;refine h _ _ [s.heap.objs.size,a] (λi j=>ItS j.heap s.heap.objs.size a (.int 0 0) i es.size ep/\gf prog w j.heap a ss o es ep t) ((pickOrder (w.params.setOrder a ep) es).toList.map λe:Int×Value=>numOf e.2) (λb o e=>zo _ e) rfl rfl rfl (((sW _ es).map λe:Int×Value=>numOf e.2).trans (show(es.toList.map λe:Int×Value=>numOf e.2).Perm ss from x.2.2.2.2.1)) (zc _) (λb c=>?_) ?_ ⟨⟨_,zF _ rfl,rfl,rfl⟩,F⟩
   ·rcases zh.mp c with rfl | c
    ·exact .inr (zc _)
    ·exact .inl (zl.mp c)
   ·rw[ze,(sW _ es).length_eq,Array.length_toList];exact W
  |false =>
   have h1:(!t.plain&&decide (es.size>1))=false:=by
    rcases r with r | r
    ·rw[m] at r;cases r
    ·exact r
   have l:t.place.size=es.size:=by
    have u:=x.2.2.2.2.2.2.1;simp only[SetTable.fits,zy,beq_iff_eq] at u;omega
   have W:=WY (prog:=prog) (o:=o) (ss:=ss) (ep:=ep) B (zt n) m h1 x.2.2.2.2.2.2.2.1 l;refine h _ _ [s.heap.objs.size,a] (λi j=>ItS j.heap s.heap.objs.size a (.int (lV t.place i:Nat) 0) i es.size ep/\gf prog w j.heap a ss o es ep t) (es.toList.map λe:Int×Value=>numOf e.2) (λb o e=>zo _ e) rfl rfl rfl (show(es.toList.map λe:Int×Value=>numOf e.2).Perm ss from x.2.2.2.2.1) (zc _) (λb c=>?_) ?_ ⟨⟨_,zF _ rfl,rfl,rfl⟩,F⟩
   ·rcases zh.mp c with rfl | c
    ·exact .inr (zc _)
    ·exact .inl (zl.mp c)
   ·rw[ze,Array.length_toList];exact W
 ·obtain⟨G,y,L,H⟩:=map_range es ps l
  have hl':ps.length=es.size:=by rw[l.length_eq,List.length_range]
  have C:(s.heap.push {cls:=.type "tuple",data:=.seq (ps.map λi=>Value.int (i:Nat) 0).toArray}).objs.size=s.heap.objs.size+1:=Heap.size_push _ _;have W:=W0 (prog:=prog) (w:=w) (A:=A) (a:=a) (ss:=ss) (o:=o) (ep:=ep) (t:=t) (I:=s.heap.objs.size+1) (T:=s.heap.objs.size) (oT:={cls:=.type "tuple",data:=.seq (ps.map λi=>Value.int (i:Nat) 0).toArray}) (ps:=ps) B (zt (jm n)) (zt (jg _)) rfl y hl' H;refine h _ _ [s.heap.objs.size+1,a,s.heap.objs.size] (λi j=>ItS j.heap (s.heap.objs.size+1) a (.ref s.heap.objs.size) i es.size ep/\gf prog w j.heap a ss o es ep t/\j.heap.get? s.heap.objs.size=some {cls:=.type "tuple",data:=.seq (ps.map λi=>Value.int (i:Nat) 0).toArray}) (G.map λe:Int×Value=>numOf e.2) (λb o e=>zo _ (zo _ e)) rfl rfl rfl ((y.map λe:Int×Value=>numOf e.2).trans (show(es.toList.map λe:Int×Value=>numOf e.2).Perm ss from x.2.2.2.2.1)) (Nat.le_succ _) (λb c=>?_) ?_ ⟨⟨_,by rw[<-C];exact zF _ rfl,rfl,rfl⟩,x.at λo e=>zo _ (zo _ e),zo _ (zF _ rfl)⟩
  ·rcases zh.mp c with rfl | c
   ·exact .inr (Nat.le_succ _)
   ·rcases zh.mp c with rfl | c
    ·exact .inl rfl
    ·exact .inr (by rw[zl.mp c];exact zc _)
  ·rw[ze,y.length_eq,Array.length_toList];exact W
theorem W3{r:Addr}{Q:Bool->Shared->Prop}(d:s.TypeIs (.ref r) "set")(h:Q false s):wpAny (model prog w) A (Builtin.List.listLengthHint (.ref r)) Q E s:=by
 unfold Builtin.List.listLengthHint;refine za (wpAny_specialOf d PySem.F.slot_set_len.lookup ?_)
 generalize hid:("set.__len__":String)=j
 wp_delta
 rw[show splitId j=some ("set","__len__") from by subst hid;decide +kernel];subst hid;refine za (wpAny_isInstance (T:="set") (b:=true) d (by rw[isSubtype_type];kernel_rfl) ?_);refine wpAny_ite_split (λc=>absurd c (by decide)) (λ_=>?_);refine wpAny_ite_split (λ_=>?_) (λc=>absurd (by decide +kernel) c);refine za (wpAny_typeOf d ?_);exact zb h
theorem W4:∀{xs:List Int}{acc:Array Value},ItemsOf (PIt xs) acc xs.length->IntsAre acc.toList xs:=by
 intro xs acc h
 have e:∀(c:List Value) (xs:List Int),c.length=xs.length->(∀i v,c[i]?=some v->PIt xs i v)->IntsAre c xs:=λc=>by
  induction c with
  |nil=>intro xs j _;cases xs with
   |nil=>exact .nil
   |cons x xs=>cases j
  |cons v c ih =>
   intro xs j d
   cases xs with
   |nil=>cases j
   |cons x xs =>
    obtain⟨y,t,m,l⟩:=d 0 v rfl;cases m;subst l;refine .cons x t (ih xs (Nat.succ.inj j) λi u q=>?_);obtain⟨y,n,m,l⟩:=d (i+1) u q;exact⟨y,n,m,l⟩
 refine e _ _ ?_ λi v d=>?_
 ·rw[Array.length_toList];exact h.1
 ·rw[Array.getElem?_toList] at d;exact h.2 i v d
theorem W5{R:List Value->Shared->Prop}(hh:A.handled=none)(Z:eH prog w s.heap a ss)
  (h:∀(c:Shared) (acc:List Value) (xs:List Int),(∀b o,s.heap.get? b=some o->c.heap.get? b=some o)->c.gens=s.gens->c.os=s.os->s.heap.objs.size<c.heap.objs.size->IntsAre acc xs->xs.Perm ss->R acc c):
  wpAny (model prog w) A (collect (.ref a)) R E s:=by
 have U:a<s.heap.objs.size:=by obtain⟨_,_,_,_,x⟩:=Z;exact zg x.1
 unfold collect;refine za (wpAny_runValue (jj entry_proto_collect' ?_));rw[Around.under_plainId PySem.F.plain_proto_collect _];show wpAny _ A.in1 (newList [] >>= λl=>again (.builtin "list.__iadd__" ⟨[l,.ref a],[]⟩)) _ _ s;refine za (wpAny_newObj_type ?_);refine zb ⟨plainId_quiet PySem.F.plain_list_iadd _,jj entry_list_iadd' ?_⟩;rw[Around.under_plainId PySem.F.plain_list_iadd _];have J:(s.heap.push {cls:=.type "list",data:=.seq ([]:List Value).toArray}).get? s.heap.objs.size=some {cls:=.type "list",data:=.seq #[]}:=zF _ rfl
 have y:eH prog w (s.heap.push {cls:=.type "list",data:=.seq ([]:List Value).toArray}) a ss:=Z.at λo e=>zo _ e
 show wpAny _ A.in1 (Builtin.List.listExtendWith (.ref s.heap.objs.size) (.ref a) (.ref s.heap.objs.size)) _ _ _;unfold Builtin.List.listExtendWith
 have hT:Shared.TypeIs {s with heap:=s.heap.push {cls:=.type "list",data:=.seq ([]:List Value).toArray}} (.ref a) "set":=by
  obtain⟨o,_,_,_,x⟩:=y;exact⟨o,x.1,x.2.1.1⟩
 refine za (wpAny_typeOf (T:="set") hT ?_)
 have h1:Builtin.List.listSameRef (.ref s.heap.objs.size) (.ref a)=false:=by simp[Builtin.List.listSameRef,Nat.ne_of_gt U]
 simp only[h1,show(Value.type "set" == Value.type "list")=false by decide,show(Value.type "set" == Value.type "tuple")=false by decide,Bool.or_false,Bool.false_eq_true,if_false];refine za (W2 (s:={s with heap:=s.heap.push {cls:=.type "list",data:=.seq ([]:List Value).toArray}}) (by simp[hh]) y λr I fp St xs k eg eo et hp X hfp W st=>?_);have G:=k _ _ J;have hsz:(s.heap.push {cls:=.type "list",data:=.seq ([]:List Value).toArray}).objs.size=s.heap.objs.size+1:=Heap.size_push _ _
 have B:s.heap.objs.size∉fp:=λn=>by
  rcases hfp _ n with z | z
  ·exact Nat.ne_of_gt U z
  ·change (s.heap.push {cls:=.type "list",data:=.seq ([]:List Value).toArray}).objs.size<=_ at z
   omega
 have hSI:s.heap.objs.size≠I:=λe=>by
  change (s.heap.push {cls:=.type "list",data:=.seq ([]:List Value).toArray}).objs.size<=I at X
  omega
 have hn:xs.length<=sizeLine:=by
  have:=Z.len
  rw[hp.length_eq,sizeLine_eq];unfold scanBound at this;omega
 refine za (jd (W3 ?_ ?_))
 ·obtain⟨o,ho,hc⟩:=hT;exact⟨o,k _ _ ho,hc⟩
 have fin:∀(c:Shared) (d:Array Value) (L:Nat),(∀b o,s.heap.get? b=some o->c.heap.get? b=some o)->c.gens=s.gens->c.os=s.os->s.toks<=c.toks->c.heap.get? s.heap.objs.size=some {cls:=.type "list",dict:=none,data:=.seq d L,slots:=#[]}->ItemsOf (PIt xs) d xs.length ->
   wpAny (model prog w) A (load s.heap.objs.size >>= λo=>match o.data with | .seq xs _=>pure xs.toList | _=>unsupported "internal:collect") R E c:=λc d L Q P O Y e5 e6 =>
  za (wpAny_load e5 (zb (h c _ xs Q P O (zg e5) (W4 e6) hp)))
 have kk:∀(c:Shared) (h2:Heap),(∀b o,b≠s.heap.objs.size->r.heap.get? b=some o->h2.get? b=some o)->Moved (s.heap.objs.size :: [I]) Eq {r with heap:=h2} c->(∀b o,s.heap.get? b=some o->c.heap.get? b=some o)/\c.gens=s.gens/\c.os=s.os/\s.toks<=c.toks:=λc h2 q n=>by
  refine⟨λb o e=>?_,?_,n.os.trans eo,?_⟩
  ·have u:=zg e;refine n.heap b o (λz=>?_) (q b o (zt u) (k b o (zo _ e)))
   rcases zh.mp z with z | z
   ·exact zt u z
   ·change (s.heap.push {cls:=.type "list",data:=.seq ([]:List Value).toArray}).objs.size<=I at X
    have z':=zl.mp z;rw[<-z',hsz] at X;exact absurd u (Nat.not_lt.mpr (Nat.le_of_succ_le X))
  ·exact n.gens.symm.trans eg
  ·have:=n.toks
   have et':r.toks=s.toks:=et;rw[<-et'];exact this
 refine wpAny_ite_split (λ_=>?_) (λ_=>zb ⟨plainId_quiet PySem.F.plain_extend_loop _,?_⟩)
 ·refine za (zU ?_);refine za ?_;show wpAny _ _ (updateSeq s.heap.objs.size (·.push .none) >>= λ_=>updateSeq s.heap.objs.size (·.pop)) _ _ _;refine za (wpAny_updateSeq G rfl ?_);have m:=Heap.get?_update_self (Obj.mapSeq (·.push Value.none)) G rfl;refine wpAny_updateSeq (hz:=by seq_fits) m rfl ?_;have H:=Heap.get?_update_self (Obj.mapSeq (·.pop)) m rfl
  have hk:∀b o,b≠s.heap.objs.size->r.heap.get? b=some o->((r.heap.update s.heap.objs.size (Obj.mapSeq (·.push Value.none))).update s.heap.objs.size (Obj.mapSeq (·.pop))).get? b=some o:=λb o u e =>
   (Heap.get?_update_other _ _ (Ne.symm u)).trans ((Heap.get?_update_other _ _ (Ne.symm u)).trans e)
  refine zb ⟨plainId_quiet PySem.F.plain_extend_loop _,?_⟩
  refine codeAny_extend_loopS W hn s.heap.objs.size B (.ref s.heap.objs.size) xs.length 0 _ #[] _ rfl (Nat.zero_le _) ?_ H (ItemsOf.nil _) λc d L n C j=>?_
  ·exact W.frame 0 r _ r.toks st (zc _) λb u o e=>hk b o (λz=>B (z ▸ u)) e
  ·obtain⟨Q,P,O,Y⟩:=kk c _ hk n;exact fin c d L Q P O Y C j
 ·refine codeAny_extend_loopS W hn s.heap.objs.size B (.ref s.heap.objs.size) xs.length 0 _ #[] _ rfl (Nat.zero_le _) st G (ItemsOf.nil _) λc d L n C j=>?_
  obtain⟨Q,P,O,Y⟩:=kk c r.heap (λb o _ e=>e) n;exact fin c d L Q P O Y C j
end
section
variable {prog:Program}{w:World}{A:Around}{E:Value->Shared->Prop}{s:Shared}{a:Addr}{vs:List Value}{rk:Keyed->Int}
def W6(prog:Program)(w:World)(A:Around)(E:Value->Shared->Prop)(s:Shared)(vs:List Value)(rk:Keyed->Int)(h':Heap):Prop :=
 ∃κ,(∀Q:SortKind->Shared->Prop,Q κ {s with heap:=h'}->wpAny (model prog w) A (keyKind' vs.toArray) Q E {s with heap:=h'})/\jx prog w A E {s with heap:=h'} κ rk (pairsOf vs).toList
theorem W7{n:Nat}{P:PySem.Fin->Shared->Prop}(C:s.heap.get? a=some (seqObj "list" vs.toArray n))(hb:vs.length<=4000)
  (L:2<=vs.length->∀h',Keeps s a h'->W6 prog w A E s vs rk h') (hd:(pairsOf vs).toList.Pairwise λx y=>rk x≠rk y)
  (h:∀h' c (d:List Keyed),Keeps s a h'->d.Perm (pairsOf vs).toList->Srt rk d->h'.get? a=some (seqObj "list" (d.map (·.2)).toArray c)->P (.done (.ret .none)) {s with heap:=h'}):
  wpAny (model prog w) A (Builtin.«list.sort» ⟨[.ref a],[]⟩) P E s:=by
 obtain⟨I,r⟩:∃I,(s.heap.update a (Obj.mapSeq λ_=>(#[]:Array Value))).get? a=some (seqObj "list" #[] I):=⟨_,get?_update_seq C λ_=>#[]⟩;have B:Keeps s a (((s.heap.update a (Obj.mapSeq λ_=>(#[]:Array Value))).push (seqObj "tuple" vs.toArray 0)).push (seqObj "list" #[] 0)):=
  λb o hb e=>zo _ (zo _ (by rw[Heap.get?_update_ne _ _ _ _ hb];exact e))
 have m:=zo (seqObj "list" #[] 0) (zo (seqObj "tuple" vs.toArray 0) r);rw[list_sort_plain];refine za (listItems_at C rfl ?_);refine za (listUpdate_at C rfl ?_ (by rw[zA,sizeLine_eq];omega) (Nat.zero_le _));refine za (seqEpoch_at r rfl ?_);refine za (wpAny_newTuple ?_ (by show vs.length<=_;rw[sizeLine_eq];omega));refine za (wpAny_newList ?_ (Nat.zero_le _));refine jd ?_;show wpAny (model prog w) A _ P E {s with heap:=((s.heap.update a (Obj.mapSeq λ_=>(#[]:Array Value))).push (seqObj "tuple" vs.toArray 0)).push (seqObj "list" #[] 0)};dsimp only
 generalize ((s.heap.update a (Obj.mapSeq λ_=>(#[]:Array Value))).push (seqObj "tuple" vs.toArray 0)).push (seqObj "list" #[] 0)=h3 at B m
 have fin:∀d:List Keyed,d.Perm (pairsOf vs).toList->Srt rk d->P (.done (.ret .none)) {s with heap:=h3.update a (Obj.mapSeq λ_=>(d.map (·.2)).toArray)}:=λd u t =>
  h _ _ d (λb o hb e=>by rw[Heap.get?_update_ne _ _ _ _ hb];exact B b o hb e) u t (get?_update_seq m λ_=>_)
 by_cases l:vs.toArray.size<2
 ·rw[if_pos l,if_pos l];refine za (zb ?_);rw[StateT.run_pure];refine za (zb ?_);dsimp only;refine za (seqEpoch_at m rfl ?_)
  have G:vs.length<2:=by rw[zA] at l;exact l
  refine za (listUpdate_at m rfl ?_ (Nat.zero_le _) (by rw[Array.size_map];show(pairsOf vs).size<=_;rw[pairsOf_size,sizeLine_eq];omega));simp only[bne_self_eq_false,Bool.false_eq_true,if_false]
  have q:=fin (pairsOf vs).toList (.refl _) (by
   rw[pairsOf_toList]
   match vs,G with
   | [],_=>exact .nil
   | [v],_=>exact List.pairwise_singleton _ _)
  have F:(vs.toArray.zip vs.toArray).map (·.2)=((pairsOf vs).toList.map (·.2)).toArray:=by
   apply Array.toList_inj.mp
   rw[Array.toList_map];rfl
  rw[<-F] at q;exact zb q
 ·rw[if_neg l,if_neg l]
  have h2':2<=vs.length:=by rw[zA] at l;omega
  obtain⟨κ,u,t⟩:=L h2' h3 B;refine za (u _ ?_);refine za (zY (Ws (st:=SortSt.mk' κ (vs.toArray.zip vs.toArray) #[] 7 none) (Q:=λ_ j=>(arrOf j).toList.Perm (pairsOf vs).toList/\Srt rk (arrOf j).toList/\failedOf j=none) t rfl rfl rfl rfl hd λj a1 a2 R=>⟨a1,a2,R⟩) ?_ λ_ _ e=>e);rintro⟨⟨⟩,j⟩ T ⟨rfl,H,J,O⟩;dsimp only;refine za (seqEpoch_at m rfl ?_)
  refine za (listUpdate_at m rfl ?_ (Nat.zero_le _) (by
   refine zK (Nat.le_of_eq ((Array.size_map ..).trans (?_:_=vs.length))) (by rw[sizeLine_eq];omega)
   rw[<-Array.length_toList,H.length_eq,Array.length_toList,pairsOf_size]))
  rw[O];simp only[bne_self_eq_false,Bool.false_eq_true,if_false];have q:=fin _ H J
  have F:((arrOf j).toList.map (·.2)).toArray=(arrOf j).map (·.2):=by
   apply Array.toList_inj.mp
   rw[Array.toList_map]
  rw[F] at q;exact zb q
theorem W8{ns:List Int}(d:IntsAre vs ns):jx prog w A E s oneType' (λp=>numOf p.1) (pairsOf vs).toList:=by
 intro x y l j st Q q c;obtain⟨n,t,ex⟩:=d.intKeys x l;obtain⟨m,u,h⟩:=d.intKeys y j;rw[lt'_eq];refine wpS_bind (wpS_get ?_);rw[q,keyLt'_oneType,ex,h]
 change Q (some (decide (numOf x.1<numOf y.1))) st at c
 rw[ex,h] at c;exact wpS_bind (wpS_lift (wpAny_attempt (oneLt_int ⟨rfl,wpS_pure c⟩)))
theorem Ks:∀{vs:List Value}{ns:List Int},IntsAre vs ns->ns.Nodup->(vs.zip vs).Pairwise λx y:Keyed=>numOf x.1≠numOf y.1
 | _,_,.nil,_=>.nil
 | _,_,.cons n t h,hn=>by
  obtain⟨h1,h2⟩:=List.nodup_cons.mp hn;rw[List.zip_cons_cons];refine List.pairwise_cons.mpr ⟨λy c e=>h1 ?_,Ks h h2⟩
  have:=(List.of_mem_zip (a:=y.1) (b:=y.2) c).1
  rw[<-h.nums]
  change n=numOf y.1 at e
  rw[e];exact List.mem_map_of_mem this
theorem Ku:∀{l:List Value},(∀v∈l,∃n t,v=.int n t)->IntsAre l (l.map numOf)
 | [],_=>.nil
 |v::l,h=>by
  obtain⟨n,t,rfl⟩:=h v zp;exact .cons n t (Ku λu c=>h u (zr _ c))
theorem W9{j:List Keyed}{vs:List Value}(h:∀x∈j,x∈vs.zip vs):∀x∈j,x.1=x.2:=λx c=>by
 have:∀(d:List Value),∀x∈d.zip d,x.1=x.2:=λd=>by
  induction d with
  |nil=>intro x c;cases c
  |cons u d ih =>
   intro x c;rw[List.zip_cons_cons] at c
   rcases zh.mp c with rfl | c
   ·rfl
   ·exact ih x c
 exact this vs x (h x c)
theorem Xa{ss:List Int}{Q:Value->Shared->Prop}(O:A.handled=none)(R:eH prog w s.heap a ss)(L:ss.Nodup)(hb:ss.length<=4000)
  (h:∀(u:Shared) (D:Addr) (c:Nat) (out:List Value) (l:List Int),(∀b o,s.heap.get? b=some o->u.heap.get? b=some o)->u.gens=s.gens->u.os=s.os->s.heap.objs.size<=D->u.heap.get? D=some (seqObj "list" out.toArray c) ->
   IntsAre out l->l.Perm ss->l.Pairwise (·<=·)->Q (.ref D) u):
  wpAny (model prog w) A (call (.builtin "sorted") [.ref a]) Q E s:=by
 refine Calls.call_function_entry kind_sorted plain_sorted entry_sorted (args_sorted1 _) ?_;unfold Builtin.«sorted»;refine za (m:=checkCount "sorted" 1 1 _) (zb ?_);refine za (W5 (by simp[O]) R λt vs Z k Y X W d F=>?_)
 have hlen:vs.length=ss.length:=by rw[<-F.length_eq,<-d.nums,ze]
 refine za (wpAny_newList ?_ (by rw[sizeLine_eq];omega));have B:(t.heap.push (seqObj "list" vs.toArray 0)).get? t.heap.objs.size=some (seqObj "list" vs.toArray 0):=zF _ rfl;show wpAny _ _ _ _ _ {t with heap:=t.heap.push (seqObj "list" vs.toArray 0)};refine za (jd (wpAny_call_entry slot_list_sort ⟨_,B,rfl⟩ entry_list_sort (W7 (rk:=λp=>numOf p.1) B (by omega) (λh2 U kp=>⟨oneType',λQ q=>?_,W8 d⟩) (by rw[pairsOf_toList];exact Ks d (F.nodup_iff.mpr L)) λU c G kp n J P=>⟨_,rfl,?_⟩) (args_list_sort _)))
 ·match vs,d,h2 with
  |v1::v2::r,d,_ =>
   rw[keyKind_ints d];exact zb q
 ·rw[pairsOf_toList] at n
  have j:=W9 λx C=>n.mem_iff.mp C
  have I:(G.map (·.2)).Perm vs:=by
   refine(n.map _).trans ?_;rw[List.map_snd_zip (zc _)]
  have T:=Ku λv H=>d.all v (I.mem_iff.mp H)
  refine zb ⟨_,rfl,h _ t.heap.objs.size c _ _ (λb o e=>?_) Y X (Nat.le_of_lt W) P T ?_ ?_⟩
  ·exact kp b o (zt (zg (k b o e))) (zo _ (k b o e))
  ·refine(I.map numOf).trans ?_;rw[d.nums];exact F
  ·rw[List.map_map];refine List.pairwise_map.mpr (List.Pairwise.imp_of_mem (λ{x y} C hy q=>?_) J);show numOf x.2<=numOf y.2;rw[<-j x C,<-j y hy];exact q
end
theorem Kv:∀(xs acc:List Int),(acc++xs).Pairwise (· < ·)->xs.foldl stepI acc=acc++xs
 | [],acc,_=>(zB _).symm
 |x::xs,acc,h=>by
  have c:x∉acc:=λc=>Int.lt_irrefl x ((List.pairwise_append.mp h).2.2 x c x zp)
  rw[List.foldl_cons,stepI,if_neg c,Kv xs (acc++[x]) (by rw[zk];exact h),zk];rfl
theorem Kw:∀{d c:List Int},d.Perm c->d.Pairwise (·<=·)->c.Pairwise (· < ·)->d=c
 | [],c,hp,_,_=>hp.nil_eq
 |x::d,[],hp,_,_=>nomatch hp.length_eq
 |x::d,y::c,hp,h1,h2=>by
  obtain⟨a1,a2⟩:=List.pairwise_cons.mp h1;obtain⟨j,h⟩:=List.pairwise_cons.mp h2
  have e:x=y:=by
   rcases zh.mp (hp.mem_iff.mp zp) with q | q
   ·exact q
   ·rcases zh.mp (hp.mem_iff.mpr zp) with r | r
    ·exact r.symm
    ·have:=j x q
     have:=a1 y r
     omega
  subst e;rw[Kw ((List.perm_cons x).mp hp) a2 h]
section
variable {X:Cx}
theorem Inv.drawn{X:Cx}{pins:List (Addr×Obj)}{σ:St}{H:Hp}{s:Shared}{d:Drawn}(I:Inv X pins σ H s):Inv X pins σ H {s with drawn:=d}:=⟨I.ok,I.os,I.bare,I.base,I.loc,I.cell,I.free,I.freeC,I.pin,I.hok,I.len⟩
theorem Ky:∀{ss:List Int}{its:List Value},aV (ss.map V.int) its->IntsAre its ss
 | [],_,h=>by cases h;exact .nil
 |x::ss,_,h=>by
  cases h with
  |cons a b =>
   obtain⟨t,rfl⟩:=a;exact .cons x t (Ky b)
theorem Kz:∀{ss:List Int}{its:List Value},IntsAre its ss->aV (ss.map V.int) its
 | _,_,.nil=>.nil
 | _,_,.cons x t h=>.cons ⟨t,rfl⟩ (Kz h)
def Xb(P:Program)(w:World)(K:Frag):List V->Hp->VK->Prop:=λc H Q=>∃(a:Addr) (ss:List Int),c=[.ref a]/\SqL K H a (ss.map V.int)/\ss.length<=4000/\∀l,H l=none->Q (.ref l) (upd H l (.ext λh=>eH P w h l (ss.foldl stepI [])))
theorem Xd(y:X.calm=true):lG X (.type "set") (Xb X.prog X.w X.K):=by
 intro pins s σ H C E Q I r h;obtain⟨a,ss,rfl,t,G,q⟩:=h;obtain⟨u,rfl,l⟩:=vals1 r;cases l;obtain⟨c,d,pl,F⟩:=I.list t
 have hlen:c.length=ss.length:=by have:=d.length;rw[ze] at this;exact this.symm
 refine WK (I.ok.hd y) pl.isList (ns:=ss) (Ky d) (by rw[zA,hlen];unfold scanBound;omega) λB tk j k=>?_
 refine⟨.ref s.heap.objs.size,_,I.laid (t':=tk) k (zc _) (show fC X.prog X.w _ B _ (.ext _) from⟨j,?_,λh1 h2 n m=>eH.at n m⟩),rfl,q _ (I.hok.fresh (zc _))⟩;obtain⟨o,_,_,_,x⟩:=j;exact⟨o,x.1⟩
def Xe(P:Program)(w:World):List V->Hp->VK->Prop:=λd H Q=>∃(a:Addr) (ss:List Int),d=[.ref a]/\H a=some (.ext λh=>eH P w h a ss)/\ss.Nodup/\ss.length<=4000/\∀l (c:List Int),c.Perm ss->c.Pairwise (·<=·)->H l=none->Q (.ref l) (upd H l (.lst (c.map V.int)))
theorem Xf(L:X.calm=true):lG X (.builtin "sorted") (Xe X.prog X.w):=by
 intro pins s σ H W Y Q I r h;obtain⟨a,ss,rfl,P,t,O,q⟩:=h;obtain⟨u,rfl,G⟩:=vals1 r;cases G;have R:eH X.prog X.w s.heap a ss:=(I.hok a _ P).1
 refine Xa (I.ok.hd L) R t O λF D c out d k E C B x m y J=>?_
 obtain⟨T,U,Z,j,l⟩:=F
 change U=s.gens at E
 change l=s.os at C
 subst E;subst C
 have n:(d.map V.int).length<=sizeLine:=by rw[ze,y.length_eq,sizeLine_eq];omega
 exact⟨.ref D,_,(I.laid (t':=j) k B (show fC X.prog X.w _ T _ (.lst (d.map V.int)) from⟨n,out,c,Kz m,x⟩)).drawn,rfl,q _ _ y J (I.hok.fresh B)⟩
def intsT:List D->Option (List Int)
 | []=>some []
 | .int n::ds=>(intsT ds).map (n :: ·)
 | _=>none
def oF:List D->Option D
 | [.lst ds]=>match intsT ds with
  |some l=>if l.length<=4000/\l.Pairwise (· < ·) then some (.lst (l.map .int)) else none
  |none=>none
 | _=>none
theorem Rps.intsT{K:Frag}{F:Hp}{as:List Addr}:∀{ds:List D}{xs:List V}{l:List Int},Rps K F as xs ds->L2.intsT ds=some l->xs=l.map V.int
 | [],xs,l,h,e=>by cases e;exact h
 |d::ds,xs,l,h,e=>by
  obtain⟨x,c,rfl,h3,h4⟩:=h.un
  cases d with
  |int t =>
   unfold L2.intsT at e
   cases q:L2.intsT ds with
   |none=>rw[q] at e;cases e
   |some l' =>
    rw[q] at e;cases e;rw[Rps.intsT h4 q];show x::_=_;rw[show x=V.int t from h3];rfl
  | _=>cases e
variable {md:List Md}{P:Pt}
theorem Xg{e:Expr}{p1 q1 B m:Pos}{ms:List Md}{ma:M (List D)}(C:X.calm=true)(T:X.mg "sorted" = none)(R:X.mg "set" = none)(ha:AE X md P ms [e] ma)(Y:Gl X "sorted":=by rfl)(W:Gl X "set":=by rfl)
  (he:starEach [e] X.env=(false,eval e X.env)::starEach [] X.env:=by exact dH rfl) (L:(backTo m (starEach [] X.env)).any (·.1)=false:=by exact fY rfl)
  (t:starEach [Expr.Call (.Name "set" B) [e] [] m] X.env=(false,eval (Expr.Call (.Name "set" B) [e] [] m) X.env)::starEach [] X.env:=by exact dH rfl) (u:(backTo q1 (starEach [] X.env)).any (·.1)=false:=by exact fY rfl):
  OE X md P (.Call (.Name "sorted" p1) [.Call (.Name "set" B) [e] [] m] [] q1) (bM oF ma):=by
 have U:PE X (.Call (.Name "set" B) [e] [] m) _:=HB (Xd C) W R (by decide +kernel) ha (by decide) (by decide) he L
 refine(xG (Xf C) Y T (by decide +kernel) (iW U jN t) (by decide) (by decide) t u).imp λσ H Q q=>?_
 obtain⟨ρ,O,F,as,d,O',r,s,e,k⟩:=q;obtain⟨ds,O1,e1,e⟩:=Res.bind_ok e;split at e
 ·rename_i y j;cases e;refine⟨ρ,_,F,as,_,_,r,s,e1,λvs H1 F1 Z g1 E hv=>?_⟩;have n:=hv.lks E
  generalize hds:ds.map (bO O')=es at j n
  unfold oF at j;split at j
  ·rename_i ds0;obtain⟨v,rfl,J⟩:=n.one;split at j
   ·rename_i l hl;split at j
    ·rename_i h;cases j;obtain⟨p,xs,rfl,h1,h2⟩:=J.list E.fh;have I:=Rps.intsT h2 hl;subst I;have hf:=Kv l [] h.2;rw[zM] at hf;refine⟨p,l,rfl,h1.sq,h.1,λa G=>?_⟩;rw[hf];refine⟨a,_,rfl,dG,h.2.imp λ{x y} q=>Int.ne_of_lt q,h.1,λb ss' hp hs hB=>?_⟩;rw[Kw hp hs h.2];refine pN (E.lay G) (λv' H' F' g' r' hw=>k v' H' F' Z (g1.trans ((Gr.lay G).trans g')) r' (fc _ _ _ _ _ _ _ (λc C=>?_) hw)) hB (Rps.ofInts _);refine g1.dm c ?_
     rcases Decidable.em (c=a) with z | z
     ·rw[z];exact G
     ·rwa [bj z] at C
    ·cases j
   ·cases j
  ·cases j
 ·cases e
end
structure cg(mg:Str->Option Value):Prop extends JT mg where
 set_:mg "set" = none
end L2
namespace L2
open PySem PySem.Spec PyProof.Rows PySem.W
section
variable {prog:Program}{w:World}{A:Around}{E:Value->Shared->Prop}
end
section
variable {X:Cx}{md:List Md}{P:Pt}{R:RR}
end
section
variable {X:Cx}{tg:Expr}{md:List Md}{P:Pt}
end
section
variable {X:Cx}{pins:List (Addr×Obj)}{σ:List (Option V)}{H:Hp}{s:Shared}{a:Addr}{xs:List (List Key×V)}{o:Obj}
end
section
variable {prog:Program}{w:World}{A:Around}{E:Value->Shared->Prop}{s:Shared}
end
section
variable {K:Frag}{mg:Str->Option Value}{O:aq}{H F:Hp}{as:List Addr}
end
section
variable {X:Cx}{md:List Md}{P:Pt}{R:RR}
end
section
variable {K:Frag}{mg:Str->Option Value}{md:List Md}{P:Pt}{ρ:aB}{σ:St}{O:aq}{H F H' F':Hp}{as as':List Addr}
end
section
variable {X:Cx}{md:List Md}{P:Pt}{R:RR}
end
section
variable {X:Cx}{md:List Md}{P:Pt}{R:RR}
end
section
variable {prog:Program}{w:World}
end
section
variable {X:Cx}{md:List Md}{P:Pt}{R:RR}
end
section
variable {K:Frag}{mg:Str->Option Value}{O:aq}{H F H' F':Hp}{as as':List Addr}
end
section
variable {X:Cx}{md:List Md}{P:Pt}{R:RR}
end
section
variable {X:Cx}{md:List Md}{P:Pt}{R:RR}
end
section
variable {X:Cx}{md:List Md}{P:Pt}{R:RR}
end
section
variable {X:Cx}{md:List Md}{P:Pt}{R:RR}
end
def bmV:List Value:=[.type "ValueError",.type "Exception",.type "BaseException",.type "object"]
section
variable {X:Cx}{md:List Md}{P:Pt}{R:RR}
end
section
variable {Pr:Program}{w:World}{K:Frag}{mg:Str->Option Value}{base:Heap}
end
section
variable {X:Cx}{pins:List (Addr×Obj)}{σ:St}{H:Hp}{s:Shared}{ea:Addr}{oe:Obj}
end
end L2
namespace L2
open PySem PySem.Spec PyProof.Rows PySem.W PySem.Calls PySem.Builtin PySem.Builtin.ObjectAttr PySem.Builtin.Getset_descriptor
section
variable {prog:Program}{w:World}{A:Around}{E:Value->Shared->Prop}{K:Frag}{a C:Addr}{o:Obj}{h:Heap}{g:Array GenState}{d:Drawn}{t:Nat}{os:OsState}
structure QAq(K:Frag)(C:Addr):Prop where
 ga:findIn K (.ref C) "__getattribute__" = some (some (.builtin "BaseException.__getattribute__"))
 na:findIn K (.ref C) "__getattr__" = some none
 ca:findIn K (.ref C) "__class__" = some (some (.builtin "object.__class__"))
 sp:specialIn K (.builtin "object.__class__") "__get__" = some (some (.builtin "getset_descriptor.__get__"))
 tk:takesIn K (.builtin "object.__class__")=some true
 ob:mroIn K C (.type "object")=some true
 be:mroIn K C (.type "BaseException")=some true
 cl:(clsIn K C).isSome=true
end
end L2
namespace L2
open PySem PySem.Spec PyProof.Rows PySem.W
section
variable {X:Cx}{ea C:Addr}{oe:Obj}
end
section
variable {X:Cx}{md:List Md}{P:Pt}{R:RR}
end
section
variable {X:Cx}{ea C:Addr}{oe:Obj}{i:Nat}{b:Bool}{n:Str}{p p1 pos:Pos}
end
end L2
namespace L2
open PySem PySem.Spec PyProof.Rows
section
variable {X:Cx}
variable {md:List Md}{P:Pt}
end
end L2
namespace L2
open PySem PySem.Spec PyProof.Rows PySem.W
section
variable {prog:Program}{w:World}{A:Around}{E:Value->Shared->Prop}
end
section
variable {X:Cx}{md:List Md}{P:Pt}{R:RR}
end
section
variable {X:Cx}{md:List Md}{P:Pt}{R:RR}
end
section
variable {X:Cx}{pins:List (Addr×Obj)}{σ:St}{H:Hp}{s:Shared}{ea:Addr}{oe:Obj}
end
section
variable {X:Cx}{md:List Md}{P:Pt}{R:RR}
end
section
variable {X:Cx}{ea C:Addr}{oe:Obj}{i ja jb:Nat}{b:Bool}{n na nb w1 w2:Str}{p p1 pos:Pos}
end
section
variable {X:Cx}{md:List Md}{P:Pt}{R:RR}
end
section
variable {X:Cx}{md:List Md}{P:Pt}{R:RR}
end
section
variable {X:Cx}{md:List Md}{P:Pt}{R:RR}
end
section
variable {Pr:Program}{w:World}{K:Frag}{mg:Str->Option Value}{base:Heap}
end
section
variable {X:Cx}{md:List Md}{P:Pt}{R:RR}
end
section
variable {X:Cx}{md:List Md}{P:Pt}{R:RR}{k:Nat}{c m:Str}{ps:List Str}{p pos apos:Pos}{o e:Expr}{es:List Expr}{pm:List Md}{cf:List D->aq->Res D}{mo:M D}{ma:M (List D)}
end
section
variable {X:Cx}{md:List Md}{P:Pt}{R:RR}
end
section
variable {Pr:Program}{w:World}{K:Frag}{mg:Str->Option Value}{base:Heap}{N:List Str}{qual:Str}{scope:Scope}{f:Addr}{cd:Value}{A:Around}{outer:List Env}{s0:Shared}{H0:Hp}{E E':XK}{pins:List (Addr×Obj)}{σ:St}{H:Hp}{s s':Shared}
end
section
variable {Pr:Program}{w:World}{K:Frag}{mg:Str->Option Value}{base:Heap}
end
section
variable {X:Cx}{md:List Md}{P:Pt}{R:RR}
end
section
variable {X:Cx}{md:List Md}{P:Pt}{R:RR}{k:Nat}{c m:Str}{ps:List Str}{p pos apos:Pos}{o e:Expr}{es:List Expr}{pm:List Md}{cf:List D->aq->Res D}{mo:M D}{ma:M (List D)}
end
section
variable {X:Cx}{md:List Md}{P:Pt}{R:RR}
end
end L2
namespace L2
open PySem PySem.Spec PyProof.Rows PySem.W PySem.Builtin PySem.Builtin.ObjectAttr
def Xh(K:Frag)(C:Addr)(c:List Value)(newId:String)(d:Addr):Bool:=match K.lookup C with
 |some ⟨.type "type",_,.cls cd,sl⟩=>(match cd.mro,sl.toList with
  | .ref C'::bm,[_,_,_,_,some (.builtin n),_]=>C' == C&&n == newId && !cd.hasDel&&tailIn K c bm&&nsOkIn K cd.ns&&nsIn K cd.ns "__init__" == some (some (.ref d))&&cd.hasDict
  | _,_=>false)
 | _=>false
section
variable {prog:Program}{w:World}{A:Around}{E:Value->Shared->Prop}{h:Heap}{g:Array GenState}{d:Drawn}{t:Nat}{os:OsState}
variable {nm q:Str}{C N:Addr}{bs bm bmB:List Value}{hdct:Bool}{sn:List Str}{sub:List Value}{ab:Bool}{col:Option Bool}{dd:Option Addr}{k0 k1 k2 k3 k5:Option Value}{B newId initId:String}
end
structure QAm(K:Frag)(C fI:Addr)(name:Str):Prop where
 cl:Xh K C bmV "ValueError.__new__" fI=true
 sa:findIn K (.ref C) "__setattr__" = some (some (.builtin "object.__setattr__"))
 na:findIn K (.ref C) name=some none
 ob:mroIn K C (.type "object")=some true
section
variable {X:Cx}{pins:List (Addr×Obj)}{σ:St}{H:Hp}{s:Shared}{ea C fI t:Addr}{name:Str}{v:V}{u:Value}
end
section
variable {Pr:Program}{w:World}{K:Frag}{mg:Str->Option Value}{base:Heap}
end
section
variable {prog:Program}{w:World}{A:Around}{E:Value->Shared->Prop}{s:Shared}{env:Env}
variable {nm q:Str}{C N:Addr}{bs bm:List Value}{hdct:Bool}{sn:List Str}{sub:List Value}{ab:Bool}{col:Option Bool}{dd:Option Addr}{k0 k1 k2 k3 k5:Option Value}{newId:String}
end
section
variable {X:Cx}{md:List Md}{P:Pt}{R:RR}
end
end L2
namespace L2
open PySem PySem.Spec PyProof.Rows PySem.W
section
variable {X:Cx}{md:List Md}{P:Pt}{R:RR}{pins:List (Addr×Obj)}{σ:St}{H:Hp}{s:Shared}{ea:Addr}{oe:Obj}
end
end L2
namespace L2
open PySem PySem.Spec PyProof.Rows PySem.W PySem.Calls PySem.Builtin PySem.Builtin.ObjectAttr
section
variable {X:Cx}{md:List Md}{P:Pt}{R:RR}
end
section
variable {prog:Program}{w:World}{A:Around}{E:Value->Shared->Prop}{K:Frag}{a C:Addr}{o od:Obj}{h:Heap}{g:Array GenState}{d:Drawn}{t:Nat}{os:OsState}{name:Str}{v:Value}
end
section
variable {X:Cx}{md:List Md}{P:Pt}{R:RR}
end
end L2
namespace L2
open PySem PySem.Spec PyProof.Rows PySem.W
def Xi(A:Around):Around:={A with handled:=none}
structure QzU(P:Program)(w:World)(K:Frag)(mg:Str->Option Value)(base:Heap)(k:Nat)(f:Addr)(fd:FuncData)(ps:List Str)(sp:Sp):Prop where
 len:∀vs H Q E,sp vs H Q E->vs.length=ps.length
 run:∀(A:Around) (outer:List Env) (s:Shared) (H:Hp) (args:Args) (us:List Value) (vs:List V) (Q:VK) (E:XK),bJ k (Xi A)->kJ P w K mg base A outer s H->BindsTo s fd args (ps.zip us)->aV vs us->sp vs H Q E ->
  codeAny (model P w) A (.call (.ref f) args) (CR CX0 outer P w H s Q E) s
section
variable {Pr:Program}{w:World}{K:Frag}{mg:Str->Option Value}{base:Heap}
end
section
variable {X:Cx}{md:List Md}{P:Pt}{R:RR}
end
section
variable {X:Cx}{md:List Md}{P:Pt}{R:RR}
end
section
variable {X:Cx}{md:List Md}{P:Pt}{R:RR}
end
section
variable {Pr:Program}{w:World}{K:Frag}{mg:Str->Option Value}{base:Heap}
end
section
variable {X:Cx}{md:List Md}{P:Pt}{k:Nat}{c:Str}{ps:List Str}{p pos:Pos}{e:Expr}{es:List Expr}{pm:List Md}{cf:List D->aq->Res D}{ma:M (List D)}
end
end L2
namespace L2
open PySem PySem.Spec PyProof.Rows PySem.W PySem.Calls
section
variable {prog:Program}{w:World}{A:Around}{E:Value->Shared->Prop}{s:Shared}{R:Result->Shared->Prop}
end
section
variable {X:Cx}{md:List Md}{P:Pt}{R:RR}
structure QAk(mg:Str->Option Value):Prop extends Blt mg where
 any_:mg "any" = none
end
end L2
namespace L2
open PySem PySem.Spec PyProof.Rows PySem.W
section
variable {X:Cx}{pins:List (Addr×Obj)}{σ:St}{H:Hp}{s:Shared}{a:Addr}{xs:List (Key×V)}
end
section
variable {K:Frag}{mg:Str->Option Value}{O:aq}{H F:Hp}{as:List Addr}
end
section
variable {X:Cx}{md:List Md}{P:Pt}{R:RR}
end
section
variable {prog:Program}{w:World}{A:Around}{E:Value->Shared->Prop}{s:Shared}
end
section
variable {X:Cx}{md:List Md}{P:Pt}{R:RR}
end
structure Qz7(P:Program)(w:World)(K:PySem.W.Frag)(mg:Str->Option Value)(base:Heap)(k:Nat)(f:Addr)(fd:FuncData)(ps:List Str)(sp:Sp):Prop where
 len:∀vs H Q E,sp vs H Q E->vs.length=ps.length
 run:∀(A:Around) (outer:List Env) (s:Shared) (H:Hp) (args:Args) (us:List Value) (vs:List V) (Q:VK) (E:XK),bJ k A->kJ P w K mg base A outer s H->BindsTo s fd args (ps.zip us)->aV vs us->sp vs H Q E ->
  codeAny (model P w) A (.call (.ref f) args) (λr s'=>1<=s'.toks/\CR CX0 outer P w H s Q E r s') s
section
variable {Pr:Program}{w:World}{K:Frag}{mg:Str->Option Value}{base:Heap}
end
section
variable {X:Cx}{md:List Md}{P:Pt}{R:RR}
end
section
variable {X:Cx}{md:List Md}{P:Pt}{R:RR}
end
section
variable {prog:Program}{w:World}{A:Around}{E:Value->Shared->Prop}{s:Shared}
end
section
variable {X:Cx}{md:List Md}{P:Pt}{R:RR}
end
section
variable {prog:Program}{w:World}{A:Around}{E:Value->Shared->Prop}{s:Shared}
end
section
variable {X:Cx}{pins:List (Addr×Obj)}{σ:St}{H:Hp}{s:Shared}{a:Addr}
end
section
variable {X:Cx}{md:List Md}{P:Pt}{R:RR}
end
section
variable {prog:Program}{w:World}{A:Around}{E:Value->Shared->Prop}{s:Shared}
structure ZT(h:Heap)(z TI TO i1 i2 l1 l2 k1 k2:Nat)(xs ys:Array Value):Prop where
 z:IsZip h z TI TO .none
 ti:IsPair h TI (.ref i1) (.ref i2)
 to:∃a b,IsPair h TO a b
 h1:h.IsTupleIter i1 l1 k1
 h2:h.IsTupleIter i2 l2 k2
 t1:h.IsTuple l1 xs
 t2:h.IsTuple l2 ys
end
section
variable {prog:Program}{w:World}{A:Around}{E:Value->Shared->Prop}{s:Shared}
end
section
variable {X:Cx}{md:List Md}{P:Pt}{R:RR}{elts:List Expr}{x1:Nat}{tpos:Pos}
end
section
variable {P:Program}{w:World}{H:Hp}{h:Heap}{a:Addr}{K:Frag}
end
section
variable {X:Cx}{pins:List (Addr×Obj)}{σ:St}{H:Hp}{s:Shared}{a:Addr}{y v:V}{u r:Value}{o:Option V}{A:Around}{E:Value->Shared->Prop}
end
section
variable {X:Cx}{o i e value:Expr}{pos pos' tpos:Pos}{td ty tv:TE}
end
section
variable {X:Cx}{pins:List (Addr×Obj)}{σ:List (Option V)}{H:Hp}{s:Shared}{a:Addr}{xs:List (NK×V)}{o:Obj}
end
section
variable {K:Frag}{mg:Str->Option Value}{O:aq}{H F H' F':Hp}{as as':List Addr}
end
section
variable {X:Cx}{md:List Md}{P:Pt}{R:RR}
end
section
variable {K:Frag}{mg:Str->Option Value}{O:aq}{H F:Hp}{as:List Addr}
end
section
variable {X:Cx}{md:List Md}{P:Pt}{R:RR}
end
section
variable {K:Frag}{mg:Str->Option Value}{md:List Md}{P:Pt}{ρ:aB}{σ:St}{O:aq}{H F H' F':Hp}{as as':List Addr}
end
section
variable {X:Cx}{md:List Md}{P:Pt}{R:RR}
end
section
variable {X:Cx}{md:List Md}{P:Pt}{R:RR}
end
section
variable {K:Frag}{h:Heap}{mg:Str->Option Value}
theorem mkD{x:Str}{st:Stmt}{f:Addr}{m:Value}{j n:Option Addr}{sl:Array (Option Value)}{kV dc pm d ct:Value}(X:K.In h)(G:h.Ns mainGlobals mg)(a:nsIn K mainGlobals x=some (some (.ref f)))(l:K.lookup f=some ⟨m,j,.func (fnOf x x (jB st) (gq st) (aZ st) .none kV dc pm n d ct),sl⟩)(c:codeIn K d x=true)(k:keepIn K (.ref f)=true):Def K mg x st:=⟨_,_,mg_of X G a,xO l c k⟩
structure ClsAt(K:Frag)(c:Str)(A:Addr):Prop where
 ns:nsIn K mainGlobals c=some (some (.ref A))
 pg:plainGet K A Str.empty=true
 hd:hasDictIn K A=true
 po:plainOver K A=true
 sa:findIn K (.ref A) "__setattr__" = some (some (.builtin "object.__setattr__"))
 mks:makesIn K A=true
 kc:keepIn K (.ref A)=true
def MethAt(K:Frag)(A:Addr)(m qual:Str)(st:Stmt):Prop:=∃f fd,findIn K (.ref A) m=some (some (.ref f))/\isFn K (.ref f)=true/\keepIn K (.ref f)=true/\Fun K m qual st f fd
theorem mkM{A:Addr}{m qual:Str}{st:Stmt}{f:Addr}{n:Value}{j q:Option Addr}{sl:Array (Option Value)}{kV dc pm d ct:Value}(a:findIn K (.ref A) m=some (some (.ref f)))(i:isFn K (.ref f)=true)(l:K.lookup f=some ⟨n,j,.func (fnOf m qual (jB st) (gq st) (aZ st) .none kV dc pm q d ct),sl⟩)(c:codeIn K d qual=true)(k:keepIn K (.ref f)=true):MethAt K A m qual st:=⟨_,_,a,i,k,xO l c k⟩
variable {A:Addr}{c:Str}
theorem ClsAt.cl(z:ClsAt K c A):Cls K A:=⟨z.pg,z.hd,z.po,z.sa⟩
theorem ClsAt.dm(z:ClsAt K c A)(X:K.In h)(G:h.Ns mainGlobals mg){m qual:Str}{st:Stmt}(q:MethAt K A m qual st):jw K mg c m qual st:=by
 obtain⟨f,fd,a,i,k,d⟩:=q;exact⟨_,_,_,mg_of X G z.ns,z.cl,⟨a,i,k⟩,d⟩
theorem ClsAt.dc(z:ClsAt K c A)(X:K.In h)(G:h.Ns mainGlobals mg){qual:Str}{st:Stmt}(q:MethAt K A "__init__" qual st):uY K mg c qual st:=by
 obtain⟨f,fd,a,i,k,d⟩:=q;exact⟨_,_,_,mg_of X G z.ns,⟨z.mks,a,i,z.kc⟩,d⟩
theorem ClsAt.kf(z:ClsAt K c A)(X:K.In h)(G:h.Ns mainGlobals mg){f:Str}(n:findIn K (.ref A) f=some none):KC K mg c f:=⟨_,mg_of X G z.ns,z.cl,n⟩
end
end L2
namespace L2
open PySem PySem.Spec PyProof.Rows
section
variable {X:Cx}
end
def ofO(o:Option D)(O:aq):Res D:=match o with
 |some d=>.ok d O
 |none=>.no
@[simp] theorem gQ{d:D}{O:aq}:ofO (some d) O=.ok d O:=rfl
@[simp] theorem aY{α β:Type}{a:α}{O:aq}{f:α->aq->Res β}:(Res.ok a O).bind f=f a O:=rfl
@[simp] theorem Qx5{O:aq}:bO O .non=.non:=rfl
@[simp] theorem oG{O:aq}{b:Bool}:bO O (.bl b)=.bl b:=rfl
@[simp] theorem fQ{O:aq}{b:Int}:bO O (.int b)=.int b:=rfl
@[simp] theorem lW{O:aq}{b:List Nat}:bO O (.str b)=.str b:=rfl
@[simp] theorem gh{O:aq}{b:List D}:bO O (.lst b)=.lst b:=rfl
@[simp] theorem Qx1{O:aq}{b:List D}:bO O (.tup b)=.tup b:=rfl
@[simp] theorem Qx7{O:aq}{a b:List D}:bO O (.dic a b)=.dic a b:=rfl
@[simp] theorem cG{i:Nat}{ρ:aB}{O:aq}:aa i ρ O=(match ρ[i]? with | some (some d)=>.ok d O | _=>.no):=rfl
@[simp] theorem m_c{d:D}{ρ:aB}{O:aq}:mC d ρ O=.ok d O:=rfl
@[simp] theorem iw{g:D->D->Option D}{a b:M D}{ρ:aB}{O:aq}:ak g a b ρ O=(a ρ O).bind λx d=>(b ρ d).bind λy c=>ofO (g (bO c x) (bO c y)) c:=rfl
def gF(r:Res D):Res D:=match r with
 | .ok d O'=>if kY d=true then .ok d O' else .no
 |r=>r
@[simp] theorem m_g{m:M D}{ρ:aB}{O:aq}:mG m ρ O=gF (m ρ O):=rfl
@[simp] theorem Xj{i:Int}{O:aq}:gF (.ok (.int i) O)=.ok (.int i) O:=rfl
@[simp] theorem Qzo{i:List Nat}{O:aq}:gF (.ok (.str i) O)=.ok (.str i) O:=rfl
@[simp] theorem QAe{i:Bool}{O:aq}:gF (.ok (.bl i) O)=.ok (.bl i) O:=rfl
@[simp] theorem Qzw{O:aq}:gF (.ok .non O)=.ok .non O:=rfl
@[simp] theorem Qzu{l:List D}{O:aq}:gF (.ok (.tup l) O)=.ok (.tup l) O:=rfl
@[simp] theorem Qz1{n:Nat}{O:aq}:gF (.ok (.ob n) O)=.ok (.ob n) O:=rfl
def chF(o:Option D)(O:aq)(f:Unit->Res D):Res D:=match o with
 |some (.bl true)=>f ()
 |some (.bl false)=>.ok (.bl false) O
 | _=>.no
@[simp] theorem Qz6{b:Bool}{O:aq}{f:Unit->Res D}:chF (some (.bl b)) O f=if b=true then f () else .ok (.bl false) O:=by cases b<;>rfl
@[simp] theorem Qzi{g g':D->D->Option D}{a b c:M D}{ρ:aB}{O:aq}:pI g g' a b c ρ O=(a ρ O).bind λx j=>(b ρ j).bind λy d=>chF (g (bO d x) (bO d y)) d λ_=>(c ρ d).bind λz h=>ofO (g' (bO h y) (bO h z)) h:=by
 unfold pI;congr 1
@[simp] theorem Qz8{m:M D}{ρ:aB}{O:aq}:Uv m ρ O=(m ρ O).bind λd c=>.ok (.bl (isNon d)) c:=rfl
@[simp] theorem Qzm{m:M D}{ρ:aB}{O:aq}:uK m ρ O=(m ρ O).bind λd c=>.ok (.bl (!isNon d)) c:=rfl
@[simp] theorem Qx2:isNon .non=true:=rfl
@[simp] theorem Qx4{l:List D}:isNon (.lst l)=false:=rfl
@[simp] theorem Qx0{l:List D}:isNon (.tup l)=false:=rfl
@[simp] theorem Qx6{l:List Nat}:isNon (.str l)=false:=rfl
@[simp] theorem QxZ{l:Int}:isNon (.int l)=false:=rfl
@[simp] theorem QyG{l:Nat}:isNon (.ob l)=false:=rfl
def teF(d:D)(O:aq):Res Bool:=match d with
 | .bl b=>.ok b O
 | _=>.no
@[simp] theorem jU{b:Bool}{O:aq}:teF (.bl b) O=.ok b O:=rfl
@[simp] theorem jV{m:M D}{ρ:aB}{O:aq}:aH m ρ O=(m ρ O).bind teF:=rfl
def ofB(o:Option Bool)(O:aq):Res Bool:=match o with
 |some d=>.ok d O
 |none=>.no
@[simp] theorem oH{d:Bool}{O:aq}:ofB (some d) O=.ok d O:=rfl
@[simp] theorem oJ{m:M D}{ρ:aB}{O:aq}:cW m ρ O=(m ρ O).bind λd c=>ofB (pJ (bO c d)) c:=rfl
@[simp] theorem oK{b:Bool}:pJ (.bl b)=some b:=rfl
@[simp] theorem Qyd{b:List D}:pJ (.lst b)=some (!b.isEmpty):=rfl
@[simp] theorem Xk{a b:M Bool}{ρ:aB}{O:aq}:gH a b ρ O=(a ρ O).bind λc d=>if c=true then b ρ d else .ok false d:=rfl
@[simp] theorem pY{a b:M Bool}{ρ:aB}{O:aq}:cU a b ρ O=(a ρ O).bind λc d=>if c=true then .ok true d else b ρ d:=rfl
@[simp] theorem oM{a:M Bool}{ρ:aB}{O:aq}:eF a ρ O=(a ρ O).bind λc d=>.ok (!c) d:=rfl
def anF(d:D)(O:aq)(f:Unit->Res D):Res D:=match d with
 | .bl true=>f ()
 | .bl false=>.ok (.bl false) O
 | _=>.no
def orF(d:D)(O:aq)(f:Unit->Res D):Res D:=match d with
 | .bl true=>.ok (.bl true) O
 | .bl false=>f ()
 | _=>.no
@[simp] theorem QAd{b:Bool}{O:aq}{f:Unit->Res D}:anF (.bl b) O f=if b=true then f () else .ok (.bl false) O:=by cases b<;>rfl
@[simp] theorem QAf{b:Bool}{O:aq}{f:Unit->Res D}:orF (.bl b) O f=if b=true then .ok (.bl true) O else f ():=by cases b<;>rfl
@[simp] theorem QzJ{a b:M D}{ρ:aB}{O:aq}:jq a b ρ O=(a ρ O).bind λd c=>anF d c λ_=>b ρ c:=by
 unfold jq;congr 1
@[simp] theorem QzR{a b:M D}{ρ:aB}{O:aq}:Ir a b ρ O=(a ρ O).bind λd c=>orF d c λ_=>b ρ c:=by
 unfold Ir;congr 1
def noF(d:D)(O:aq):Res D:=match d with
 | .bl b=>.ok (.bl (!b)) O
 | _=>.no
@[simp] theorem QzP{b:Bool}{O:aq}:noF (.bl b) O=.ok (.bl (!b)) O:=rfl
@[simp] theorem Qzt{a:M D}{ρ:aB}{O:aq}:uL a ρ O=(a ρ O).bind noF:=rfl
@[simp] theorem QAu{t:M Bool}{a b:M D}{ρ:aB}{O:aq}:mIf t a b ρ O=(t ρ O).bind λc d=>if c=true then a ρ d else b ρ d:=rfl
@[simp] theorem cM{ρ:aB}{O:aq}:au ρ O=.ok [] O:=rfl
@[simp] theorem gj{m:M D}{r:M (List D)}{ρ:aB}{O:aq}:ao m r ρ O=(m ρ O).bind λd h=>(r ρ h).bind λds c=>.ok (d::ds) c:=rfl
@[simp] theorem iy{r:M (List D)}{ρ:aB}{O:aq}:bx r ρ O=(r ρ O).bind λds c=>if ds.length<=1000000 then .ok (.lst ds) c else .no:=rfl
@[simp] theorem KD{r:M (List D)}{ρ:aB}{O:aq}:bQ r ρ O=(r ρ O).bind λds c=>if ds.length<=1000000 then .ok (.tup ds) c else .no:=rfl
@[simp] theorem oN{c:List D->aq->Res D}{ma:M (List D)}{ρ:aB}{O:aq}:bz c ma ρ O=(ma ρ O).bind λds d=>c ds d:=rfl
@[simp] theorem sZ{g:List D->Option D}{ma:M (List D)}{ρ:aB}{O:aq}:bM g ma ρ O=(ma ρ O).bind λds c=>ofO (g (ds.map (bO c))) c:=rfl
@[simp] theorem QAl{g:D->Option D}{ma:M D}{ρ:aB}{O:aq}:mUn g ma ρ O=(ma ρ O).bind λd c=>ofO (g (bO c d)) c:=rfl
def isF(n:String)(o:Option String)(O:aq):Res D:=match o with
 |some t=>.ok (.bl (gM t n)) O
 |none=>.no
@[simp] theorem vG{n t:String}{O:aq}:isF n (some t) O=.ok (.bl (gM t n)) O:=rfl
@[simp] theorem vH{n:String}{m:M D}{ρ:aB}{O:aq}:gO n m ρ O=(m ρ O).bind λd c=>isF n (tyD (bO c d)) c:=rfl
@[simp] theorem Qzc:tyD .non=some "NoneType":=rfl
@[simp] theorem QzK{b:Bool}:tyD (.bl b)=some "bool":=rfl
@[simp] theorem Qzf{b:Int}:tyD (.int b)=some "int":=rfl
@[simp] theorem Xl{b:List Nat}:tyD (.str b)=some "str":=rfl
@[simp] theorem yS{b:List D}:tyD (.lst b)=some "list":=rfl
@[simp] theorem Qy1{b:List D}:tyD (.tup b)=some "tuple":=rfl
@[simp] theorem Qy6{a b:List D}:tyD (.dic a b)=some "dict":=rfl
@[simp] theorem QAt{ρ:aB}{O:aq}:moN ρ O=.ok none O:=rfl
def osF(d:D)(O:aq):Res (Option Int):=match d with
 | .int i=>.ok (some i) O
 | _=>.no
@[simp] theorem Xm{i:Int}{O:aq}:osF (.int i) O=.ok (some i) O:=rfl
@[simp] theorem Xn{m:M D}{ρ:aB}{O:aq}:moS m ρ O=(m ρ O).bind osF:=rfl
@[simp] theorem Xo{m:M D}{lo hi:M (Option Int)}{ρ:aB}{O:aq}:mSl m lo hi ρ O=(m ρ O).bind λd n=>(lo ρ n).bind λl j=>(hi ρ j).bind λh c=>ofO (gSl (bO c d) l h) c:=rfl
@[simp] theorem Qzb{l:List Nat}{lo hi:Option Int}:gSl (.str l) lo hi=if l.length<=16777216 then some (.str (cR l lo hi)) else none:=rfl
@[simp] theorem Xp{l:List D}{lo hi:Option Int}:gSl (.lst l) lo hi=some (.lst (cR l lo hi)):=rfl
@[simp] theorem Qzh{l:List D}{lo hi:Option Int}:gSl (.tup l) lo hi=some (.tup (cR l lo hi)):=rfl
def iT(f:Fl)(b:MS):Fl:=match f with
 | .nx ρ' O'=>b ρ' O'
 |r=>r
@[simp] theorem bG{a b:MS}{ρ:aB}{O:aq}:aA a b ρ O=iT (a ρ O) b:=rfl
@[simp] theorem bI{ρ:aB}{O:aq}{b:MS}:iT (.nx ρ O) b=b ρ O:=rfl
@[simp] theorem Qzj{d:D}{O:aq}{b:MS}:iT (.rt d O) b=.rt d O:=rfl
@[simp] theorem Qy2{ρ:aB}{O:aq}{b:MS}:iT (.bk ρ O) b=.bk ρ O:=rfl
@[simp] theorem Qy5{ρ:aB}{O:aq}{b:MS}:iT (.ct ρ O) b=.ct ρ O:=rfl
@[simp] theorem Qy7{b:MS}:iT .no b=.no:=rfl
@[simp] theorem iz{ρ:aB}{O:aq}:aW ρ O=.nx ρ O:=rfl
def tu(r:Res D):Fl:=match r with
 | .ok d O'=>.rt d O'
 | .ex x O'=>.ex x O'
 | .no=>.no
@[simp] theorem iB{m:M D}{ρ:aB}{O:aq}:aM m ρ O=tu (m ρ O):=rfl
@[simp] theorem iC{d:D}{O:aq}:tu (.ok d O)=.rt d O:=rfl
def KH(r:Res D)(ρ:aB):Fl:=match r with
 | .ok _ O'=>.nx ρ O'
 | .ex x O'=>.ex x O'
 | .no=>.no
@[simp] theorem m8{m:M D}{ρ:aB}{O:aq}:nY m ρ O=KH (m ρ O) ρ:=rfl
@[simp] theorem ni{d:D}{O:aq}{ρ:aB}:KH (.ok d O) ρ=.nx ρ O:=rfl
def ifF(r:Res Bool)(a b:MS)(ρ:aB):Fl:=match r with
 | .ok c O'=>if c=true then a ρ O' else b ρ O'
 | .ex x O'=>.ex x O'
 | .no=>.no
@[simp] theorem gk{t:M Bool}{a b:MS}{ρ:aB}{O:aq}:aQ t a b ρ O=ifF (t ρ O) a b ρ:=rfl
@[simp] theorem gm{c:Bool}{O:aq}{a b:MS}{ρ:aB}:ifF (.ok c O) a b ρ=if c=true then a ρ O else b ρ O:=rfl
def tE(i:Nat)(r:Res D)(ρ:aB):Fl:=match r with
 | .ok d O'=>.nx (ρ.set i (some d)) O'
 | .ex x O'=>.ex x O'
 | .no=>.no
@[simp] theorem dF{i:Nat}{m:M D}{ρ:aB}{O:aq}:aO i m ρ O=tE i (m ρ O) ρ:=rfl
@[simp] theorem dM{i:Nat}{d:D}{O:aq}{ρ:aB}:tE i (.ok d O) ρ=.nx (ρ.set i (some d)) O:=rfl
def vI(r:Res (List D))(g:MG)(b:MS)(ρ:aB):Fl:=match r with
 | .ok ds O'=>cz g b ds ρ O'
 | .ex x O'=>.ex x O'
 | .no=>.no
@[simp] theorem jW{m:M (List D)}{g:MG}{b:MS}{ρ:aB}{O:aq}:eG m g b ρ O=vI (m ρ O) g b ρ:=rfl
@[simp] theorem jX{ds:List D}{O:aq}{g:MG}{b:MS}{ρ:aB}:vI (.ok ds O) g b ρ=cz g b ds ρ O:=rfl
@[simp] theorem mg_n{i:Nat}{d:D}{ρ:aB}:mgN i d ρ=some (ρ.set i (some d)):=rfl
def cN(f:Fl):Res D:=match f with
 | .rt d O'=>.ok d O'
 | .nx _ O'=>.ok .non O'
 | .ex x O'=>.ex x O'
 | _=>.no
@[simp] theorem nj{n:Nat}{b:MS}{ds:List D}{O:aq}:bV n b ds O=cN (b (ds.map some++List.replicate (n - ds.length) none) O):=rfl
@[simp] theorem iU{d:D}{O:aq}:cN (.rt d O)=.ok d O:=rfl
@[simp] theorem KJ{ρ:aB}{O:aq}:cN (.nx ρ O)=.ok .non O:=rfl
@[simp] theorem Xq{m:M (List D)}{ρ:aB}{O:aq}:jt m ρ O=(m ρ O).bind λds c=>match ds with
 | [.int j]=>if j<=1000000000/\-1000000000<=j then .ok (fD 0 j.toNat) c else .no
 | _=>.no:=rfl
def itF(o:Option (List D))(O:aq):Res (List D):=match o with
 |some c=>.ok c O
 |none=>.no
@[simp] theorem yU{ds:List D}{O:aq}:itF (some ds) O=.ok ds O:=rfl
@[simp] theorem yV{m:M D}{ρ:aB}{O:aq}:d8 m ρ O=(m ρ O).bind λd c=>itF (ou d) c:=rfl
@[simp] theorem KN{ds:List D}:ou (.lst ds)=some ds:=rfl
@[simp] theorem Qx3{ds:List D}:ou (.tup ds)=some ds:=rfl
theorem Xr{l:List Nat}(h:ascii l=true):ou (.str l)=some (dD l):=by
 show(if ascii l=true then some (dD l) else none)=_;rw[if_pos h]
@[simp] theorem Xu{m:M (List D)}{own:Nat}{cap:List Nat}{g:MG}{t:M Bool}{e:M D}{ρ:aB}{O:aq}:ig m own cap g t e ρ O=(m ρ O).bind λds d=>if ds.length<=1000000 then(fB g t e ds (mW own cap ρ) d []).bind λys c=>.ok (.lst ys) c else .no:=rfl
@[simp] theorem QzL{i j:Int}:aX (.int i) (.int j)=some (.int (i+j)):=rfl
@[simp] theorem QzC{a b:List Nat}:aX (.str a) (.str b)=if a.length+b.length<=1000000 then some (.str (a++b)) else none:=rfl
@[simp] theorem tG{a b:List D}:aX (.lst a) (.lst b)=if a.length+b.length<=1000000 then some (.lst (a++b)) else none:=rfl
@[simp] theorem Qya{i j:Int}:mX (.int i) (.int j)=some (.int (i - j)):=rfl
@[simp] theorem Xv{i j:Int}:dq (.int i) (.int j)=if 0<j then some (.int (i % j)) else none:=by
 unfold dq gI
 by_cases h:0<j<;>simp[h]
@[simp] theorem Xw{i j:Int}:jP (.int i) (.int j)=if 0<j/\j<1073741824 then some (.int (i / j)) else none:=by
 unfold jP gI
 by_cases h:0<j/\j<1073741824<;>simp[h]
theorem yW{i j:Int}(h:(-(2 ^ 64)<i/\i<2 ^ 64)\/(-(2 ^ 64)<j/\j<2 ^ 64)):fH (.int i) (.int j)=some (.int (i * j)):=by
 unfold fH;dsimp only;rw[if_pos];rw[Bool.or_eq_true];unfold pO;rw[zy,zy,decide_eq_true_eq,decide_eq_true_eq,decide_eq_true_eq,decide_eq_true_eq];exact h
@[simp] theorem QAa{i j:Int}:gLt (.int i) (.int j)=some (.bl (decide (i<j))):=rfl
@[simp] theorem Xx{i j:Int}:gGt (.int i) (.int j)=some (.bl (decide (j<i))):=rfl
@[simp] theorem QzX{i j:Int}:gGe (.int i) (.int j)=some (.bl (decide (j<=i))):=rfl
@[simp] theorem QzO{i j:Int}:gLe (.int i) (.int j)=some (.bl (decide (i<=j))):=rfl
theorem KQ(a b:Nat):(([a]:List Nat) < [b])↔a<b:=by
 constructor
 ·intro h
  rcases List.cons_lt_cons_iff.mp h with h | ⟨_,h⟩
  ·exact h
  ·exact absurd h (List.not_lt_nil _)
 ·intro h;exact List.cons_lt_cons_iff.mpr (.inl h)
@[simp] theorem QzM{a b:Nat}:gLe (.str [a]) (.str [b])=some (.bl (decide (a<=b))):=by
 show some (D.bl (!decide (([b]:List Nat) < [a])))=_
 have:decide (([b]:List Nat) < [a])=decide (b<a):=by
  by_cases h:b<a
  ·rw[zH h,zH ((KQ _ _).mpr h)]
  ·rw[zz h,zz (λz=>h ((KQ _ _).mp z))]
 rw[this]
 by_cases h:b<a
 ·rw[zH h,zz (by omega)];rfl
 ·rw[zz h,zH (by omega)];rfl
@[simp] theorem QzQ{i j:Int}:gEq (.int i) (.int j)=some (.bl (decide (i=j))):=rfl
@[simp] theorem pZ{i j:List Nat}:gEq (.str i) (.str j)=some (.bl (decide (i=j))):=rfl
@[simp] theorem QzN{i j:Bool}:gEq (.bl i) (.bl j)=some (.bl (decide (i=j))):=rfl
@[simp] theorem KR{i j:List D}:gEq (.lst i) (.lst j)=if(okE (.lst i)&&okE (.lst j))=true then some (.bl (lq (.lst i) (.lst j))) else none:=rfl
@[simp] theorem yX{i j:Int}:gNe (.int i) (.int j)=some (.bl (!decide (i=j))):=rfl
@[simp] theorem Xy{i j:List Nat}:gNe (.str i) (.str j)=some (.bl (!decide (i=j))):=rfl
@[simp] theorem Qz5{i j:Bool}:gNe (.bl i) (.bl j)=some (.bl (!decide (i=j))):=rfl
@[simp] theorem yZ{i j:List D}:gNe (.lst i) (.lst j)=if(okE (.lst i)&&okE (.lst j))=true then some (.bl (!lq (.lst i) (.lst j))) else none:=rfl
@[simp] theorem nq{n:Bool}{c:Nat}{l:List Nat}:gIn n (.str [c]) (.str l)=some (.bl (n ^^ decide (c∈l))):=rfl
theorem vJ{ds:List D}{i:Int}:gIx (.lst ds) (.int i)=atI ds i:=rfl
theorem KY{l:List Nat}{i:Int}:gIx (.str l) (.int i)=if l.length<=1000000 then(atI l i).map (λc=>.str [c]) else none:=rfl
@[simp] theorem Qzn{l:List Nat}:bW [.str l]=if l.length<=1000000 then some (.int l.length) else none:=rfl
@[simp] theorem vK{l:List D}:bW [.lst l]=some (.int l.length):=rfl
@[simp] theorem Qzq{l:List D}:bW [.tup l]=some (.int l.length):=rfl
@[simp] theorem Xz{i j:Int}:n6 [.int i,.int j]=some (.int (if j>i then j else i)):=rfl
@[simp] theorem QzD{i j:Int}:Vj [.int i,.int j]=some (.int (if j<i then j else i)):=rfl
@[simp] theorem Qzz{i:Int}:Jk [.int i]=some (.int i):=rfl
@[simp] theorem QzI{b:Bool}:Jk [.bl b]=some (.int (if b then 1 else 0)):=rfl
@[simp] theorem Qzp:lg (.int 10) (.int 18)=some (.int 1000000000000000000):=by rfl
@[simp] theorem Qzy:lg (.int 10) (.int 9)=some (.int 1000000000):=by rfl
@[simp] theorem vL{α:Type}{xs:List α}{j:Nat}:atI xs (j:Int)=xs[j]?:=by
 unfold atI ixN;rw[if_pos (by omega)]
 by_cases h:j<xs.length
 ·rw[if_pos (by omega)];simp
 ·rw[if_neg (by omega),jo (by omega)];rfl
theorem KZ{α:Type}{xs:List α}{i:Int}(h0:0<=i)(h1:i<xs.length):∃x,atI xs i=some x/\x∈xs:=by
 obtain⟨j,rfl⟩:=Int.eq_ofNat_of_zero_le h0
 have c:j<xs.length:=by omega
 exact⟨xs[j],by show atI xs (j:Int)=_;rw[vL,zD c],zN c⟩
section
variable {c:Prop}[Decidable c]
@[simp] theorem Qyx{a b:Fl}:cN (if c then a else b)=if c then cN a else cN b:=by split<;>rfl
@[simp] theorem QyD{a b:Res D}:tu (if c then a else b)=if c then tu a else tu b:=by split<;>rfl
@[simp] theorem QyB{a b:Fl}{r:MS}:iT (if c then a else b) r=if c then iT a r else iT b r:=by split<;>rfl
@[simp] theorem Qye{α β:Type}{a b:Res α}{f:α->aq->Res β}:(if c then a else b).bind f=if c then a.bind f else b.bind f:=by split<;>rfl
@[simp] theorem Qy4{a b:Res Bool}{x y:MS}{ρ:aB}:ifF (if c then a else b) x y ρ=if c then ifF a x y ρ else ifF b x y ρ:=by split<;>rfl
@[simp] theorem Qyf{a b:Res D}{i:Nat}{ρ:aB}:tE i (if c then a else b) ρ=if c then tE i a ρ else tE i b ρ:=by split<;>rfl
@[simp] theorem Qzg{a b:Option D}{O:aq}:ofO (if c then a else b) O=if c then ofO a O else ofO b O:=by split<;>rfl
end
@[simp] theorem XC:gM "str" "str" = true:=by decide
@[simp] theorem QzH:gM "int" "str" = false:=by decide
@[simp] theorem QzE:gM "bool" "str" = false:=by decide
@[simp] theorem Qzs:gM "list" "str" = false:=by decide
@[simp] theorem QzG:gM "tuple" "str" = false:=by decide
@[simp] theorem QzB:gM "dict" "str" = false:=by decide
@[simp] theorem QzF:gM "NoneType" "str" = false:=by decide
@[simp] theorem QzA:gM "int" "int" = true:=by decide
@[simp] theorem Qzv:gM "int" "bool" = false:=by decide
@[simp] theorem Qzd:gM "bool" "bool" = true:=by decide
@[simp] theorem z7:gM "list" "list" = true:=by decide
@[simp] theorem Qy9:gM "tuple" "tuple" = true:=by decide
@[simp] theorem Qy3:gM "NoneType" "list" = false:=by decide
theorem tH{g:MG}{b:MS}(n:Nat->aB->aq->Prop):∀(ds:List D) (k:Nat) (ρ:aB) (O:aq),n k ρ O ->
  (∀i d ρ O,ds[i]?=some d->n (k+i) ρ O->∃l,g d ρ=some l/\∃j q,(b l O=.nx j q\/b l O=.ct j q)/\n (k+i+1) j q)->∃c m,cz g b ds ρ O=.nx c m/\n (k+ds.length) c m
 | [],k,ρ,O,h,_=>⟨ρ,O,rfl,h⟩
 |d::ds,k,ρ,O,h,hs=>by
  obtain⟨l,y,j,q,r,h2⟩:=hs 0 d ρ O rfl h
  obtain⟨c,m,x,h3⟩:=tH n ds (k+1) j q h2 λi B c m u t=>by
   have:=hs (i+1) B c m (by simpa using u) (by rw[show k+(i+1)=k+1+i by omega];exact t)
   rw[show k+(i+1)+1=k+1+i+1 by omega] at this;exact this
  refine⟨c,m,?_,by rw[zn,show k+(ds.length+1)=k+1+ds.length by omega];exact h3⟩;unfold cz;rw[y];dsimp only
  rcases r with r | r<;>rw[r]<;>exact x
theorem K1{g:MG}{t:M Bool}{m:M D}(j:aB->Prop)(f:D->D):∀(ds:List D) (ρ:aB) (O:aq) (acc:List D),j ρ->(∀d∈ds,∀ρ,j ρ->∃c,g d ρ=some c/\j c/\t c O=.ok true O/\m c O=.ok (f d) O)->fB g t m ds ρ O acc=.ok (acc++ds.map f) O
 | [],ρ,O,acc,_,_=>by simp[fB]
 |d::ds,ρ,O,acc,h,hs=>by
  obtain⟨c,r,h1,q,n⟩:=hs d zp ρ h;unfold fB;rw[r];dsimp only;rw[q];dsimp only;rw[n];dsimp only;rw[K1 j f ds c O _ h1 λu l=>hs u (zr _ l)];simp
@[simp] theorem Qzx{ρ:aB}{O:aq}:VP ρ O=.ok [] O:=rfl
@[simp] theorem Qzk{a b:M D}{r:M (List (D×D))}{ρ:aB}{O:aq}:VR a b r ρ O=(a ρ O).bind λx h=>(b ρ h).bind λy d=>(r ρ d).bind λps c=>.ok ((x,y)::ps) c:=rfl
def diF(o:Option (List Key))(c:List (D×D))(O:aq):Res D:=match o with
 |some d=>if d.Nodup/\c.length<=15 then .ok (.dic (c.map (·.1)) (c.map (·.2))) O else .no
 |none=>.no
@[simp] theorem Qyc{d:List Key}{c:List (D×D)}{O:aq}:diF (some d) c O=if d.Nodup/\c.length<=15 then .ok (.dic (c.map (·.1)) (c.map (·.2))) O else .no:=rfl
@[simp] theorem Qzl{m:M (List (D×D))}{ρ:aB}{O:aq}:V0 m ρ O=(m ρ O).bind λc d=>diF (keysOf c) c d:=rfl
@[simp] theorem Qy8{i:Int}:keyOf (.int i)=some (.inl i):=rfl
@[simp] theorem Qza{i:List Nat}:keyOf (.str i)=some (.inr (S i)):=rfl
@[simp] theorem QxQ:keysOf []=some []:=rfl
@[simp] theorem Qw4{a b:D}{r:List (D×D)}:keysOf ((a,b)::r)=(keyOf a).bind λk=>(keysOf r).map (k :: ·):=rfl
def joF(o:Option (List (List Nat)))(O:aq):Res D:=match o with
 |some ls=>if(ls.map List.length).sum<=1000000 then .ok (.str ls.flatten) O else .no
 |none=>.no
@[simp] theorem XD{ls:List (List Nat)}{O:aq}:joF (some ls) O=if(ls.map List.length).sum<=1000000 then .ok (.str ls.flatten) O else .no:=rfl
def jdF(d:D)(O:aq):Res D:=match d with
 | .lst ds=>joF (lA ds) O
 | _=>.no
@[simp] theorem XH{ds:List D}{O:aq}:jdF (.lst ds) O=joF (lA ds) O:=rfl
@[simp] theorem XJ{m:M D}{ρ:aB}{O:aq}:uW m ρ O=(m ρ O).bind λd c=>jdF (bO c d) c:=rfl
theorem K3{α:Type}{f:α->List Nat}:∀l:List α,lA (l.map λx=>.str (f x))=some (l.map f)
 | []=>rfl
 |x::l=>by
  show(lA (l.map λx=>D.str (f x))).map _=_;rw[K3 l];rfl
@[simp] theorem QAc{own:Nat}{cap:List Nat}{ρ:aB}:mW own cap ρ=List.replicate own none++cap.map λj=>(ρ[j]?).join:=rfl
@[simp] theorem QxY{g:MG}{t:M Bool}{m:M D}{ρ:aB}{O:aq}{acc:List D}:fB g t m [] ρ O acc=.ok acc O:=rfl
theorem p6:∀ds:List D,iK ds=ds.map toP
 | []=>rfl
 |d::ds=>by rw[iK,p6 ds];rfl
theorem vM:∀{ds:List D},(∀d∈ds,dX d=true)->lO ds=true
 | [],_=>rfl
 |d::ds,h=>by rw[lO,h d zp,vM λx c=>h x (zr _ c)];rfl
theorem vN{n:Nat}(j:n<60){ds:List D}(h:∀d∈ds,dX d=true/\(toP d).canLay0=true/\(toP d).depth<=n):okE (.lst ds)=true:=by
 unfold okE;rw[zy];refine⟨?_,?_⟩
 ·rw[dX];exact vM λd hd=>(h d hd).1
 ·rw[toP,p6]
  refine Uj j λd hd=>?_
  obtain⟨x,c,rfl⟩:=zT.mp hd;exact(h x c).2
theorem p7{l:List Nat}(h:∀c∈l,c<1114112):(PyData.str (S l)).canLay0=true:=by
 show PyData.strOk (S l)=true;unfold PyData.strOk S;simp;exact h
theorem vO{d:D}(h:okE d=true):lq d d=true:=by
 unfold okE at h;rw[zy] at h
 have:=h.2
 unfold okD at this;rw[zy] at this;exact SeqAt.eqv_refl _ this.1
def it(f:Int->Int):Nat->Int->Int
 | 0,x=>x
 |n+1,x=>f (it f n x)
def mix(n k:Int):Int:=if n>1000000000000000000 then it (λr=>r / 1000000000) k.toNat n % 1000000000
 else
  let m:=it (λm=>(m * 48271+104729) % 2147483629) (k+2).toNat (n % 2147483647+7919)
  m * m % 998244353 / 11
theorem K4(j:Nat)(x:Int)(h0:0<=x)(h1:x<2147491566):0<=it (λm=>(m * 48271+104729) % 2147483629) j x/\it (λm=>(m * 48271+104729) % 2147483629) j x<2147491566:=by
 induction j with
 |zero=>exact⟨h0,h1⟩
 |succ j ih =>
  refine⟨Int.emod_nonneg _ (by decide),?_⟩
  have:=jp (it (λm=>(m * 48271+104729) % 2147483629) j x * 48271+104729) (show(0:Int)<2147483629 by decide)
  show(it (λm=>(m * 48271+104729) % 2147483629) j x * 48271+104729) % 2147483629<_;omega
def z8:MS:=(aA (aQ (aH (ak gGt (aa 0) (ak lg (mC (.int 10)) (mC (.int 18))))) (aA (aO 2 (mG (aa 0)))
  (aA (eG (jt (ao (aa 1) au)) (mgN 3) (aO 2 (ak jP (aa 2) (ak lg (mC (.int 10)) (mC (.int 9))))))
  (aM (ak dq (aa 2) (ak lg (mC (.int 10)) (mC (.int 9))))))) aW)
  (aA (aO 4 (ak aX (ak dq (aa 0) (mC (.int 2147483647))) (mC (.int 7919))))
  (aA (eG (jt (ao (ak aX (aa 1) (mC (.int 2))) au)) (mgN 3) (aO 4 (ak dq (ak aX (ak fH (aa 4) (mC (.int 48271))) (mC (.int 104729))) (mC (.int 2147483629)))))
  (aM (ak jP (ak dq (ak fH (aa 4) (aa 4)) (mC (.int 998244353))) (mC (.int 11)))))))
theorem K5(lo:Int)(n:Nat):(fD lo n).length=n:=by simp[fD]
theorem XM(n k:Int)(h0:0<=k)(h1:k<=1000000)(O:aq):bV 5 z8 [.int n,.int k] O=.ok (.int (mix n k)) O:=by
 unfold mix
 by_cases x:n>1000000000000000000
 ·obtain⟨u,h,e,rfl,c,rfl⟩:=tH (g:=mgN 3) (b:=aO 2 (ak jP (aa 2) (ak lg (mC (.int 10)) (mC (.int 9)))))
   (λi ρ h=>h=O/\∃c,ρ=[some (.int n),some (.int k),some (.int (it (λr=>r / 1000000000) i n)),c,none]) (fD 0 k.toNat) 0 [some (.int n),some (.int k),some (.int n),none,none] O ⟨rfl,none,rfl⟩ (by
    rintro i d ρ h hi ⟨rfl,c,rfl⟩;refine⟨_,rfl,?_⟩;simp;rw[show it (λr=>r / 1000000000) (i+1) n=it (λr=>r / 1000000000) i n / 1000000000 from rfl]
    exact⟨_,_,⟨rfl,rfl⟩,rfl,_,rfl⟩)
  rw[K5,zZ] at e
  have t:k<=1000000000/\-1000000000<=k:=by omega
  simp[z8,x,t,e]
 ·have q:0<=n % 2147483647+7919:=by have:=Int.emod_nonneg n (show(2147483647:Int)≠0 by decide);omega
  have l:n % 2147483647+7919<2147491566:=by have:=jp n (show(0:Int)<2147483647 by decide);omega
  obtain⟨u,h,e,rfl,c,rfl⟩:=tH (g:=mgN 3) (b:=aO 4 (ak dq (ak aX (ak fH (aa 4) (mC (.int 48271))) (mC (.int 104729))) (mC (.int 2147483629))))
   (λi ρ h=>h=O/\∃c,ρ=[some (.int n),some (.int k),none,c,some (.int (it (λm=>(m * 48271+104729) % 2147483629) i (n % 2147483647+7919)))]) (fD 0 (k+2).toNat) 0 [some (.int n),some (.int k),none,none,some (.int (n % 2147483647+7919))] O ⟨rfl,none,rfl⟩ (by
    rintro i d ρ h hi ⟨rfl,c,rfl⟩;refine⟨_,rfl,?_⟩;obtain⟨C,B⟩:=K4 i _ q l
    have:=yW (i:=it (λm=>(m * 48271+104729) % 2147483629) i (n % 2147483647+7919)) (j:=48271) (.inr ⟨by decide,by decide⟩)
    simp[this]
    rw[show it (λm=>(m * 48271+104729) % 2147483629) (i+1) (n % 2147483647+7919)=(it (λm=>(m * 48271+104729) % 2147483629) i (n % 2147483647+7919) * 48271+104729) % 2147483629 from rfl]
    exact⟨_,_,⟨rfl,rfl⟩,rfl,_,rfl⟩)
  rw[K5,zZ] at e
  have t:k+2<=1000000000/\-1000000000<=k+2:=by omega
  obtain⟨C,B⟩:=K4 (k+2).toNat _ q l;have y:=yW (i:=it (λm=>(m * 48271+104729) % 2147483629) (k+2).toNat (n % 2147483647+7919)) (j:=it (λm=>(m * 48271+104729) % 2147483629) (k+2).toNat (n % 2147483647+7919)) (.inl ⟨by omega,by omega⟩);simp[z8,x,t,e,y]
def iD(h:List Str)(f:Str)(d:D)(O:aq):Res D:=match d with
 | .ob n=>match O[n]? with
  |some (.ins c fs)=>if c∈h then match fs.lookup f with
   |some y=>.ok y O
   |none=>.no else .no
  | _=>.no
 | _=>.no
@[simp] theorem z9{c:List Str}{f:Str}{m:M D}{ρ:aB}{O:aq}:cJ c f m ρ O=(m ρ O).bind (iD c f):=rfl
def puF(h:List Str)(f:Str)(d:D)(ρ:aB)(r:Res D):Fl:=match r with
 | .ok (.ob n) O2=>match O2[n]? with
  |some (.ins c fs)=>if c∈h/\fs.length<900 then .nx ρ (O2.set n (.ins c (putD f d fs))) else .no
  | _=>.no
 | _=>.no
def sfF(c:List Str)(f:Str)(mo:M D)(r:Res D)(ρ:aB):Fl:=match r with
 | .ok d O1=>puF c f d ρ (mo ρ O1)
 | .ex x O'=>.ex x O'
 | .no=>.no
@[simp] theorem tK{d:List Str}{f:Str}{mo c:M D}{ρ:aB}{O:aq}:d7 d f mo c ρ O=sfF d f mo (c ρ O) ρ:=by
 unfold d7 sfF puF
 cases c ρ O<;>rfl
@[simp] theorem tL{c:List Str}{f:Str}{mo:M D}{d:D}{O:aq}{ρ:aB}:sfF c f mo (.ok d O) ρ=puF c f d ρ (mo ρ O):=rfl
def meF(c m:Str)(l:List D->aq->Res D)(ma:aq->Res (List D))(d:D)(h:aq):Res D:=match d with
 | .ob n=>match h[n]? with
  |some (.ins c' fs)=>if c'=c/\(fs.lookup m).isNone=true then(ma h).bind λj q=>l (.ob n::j) q else .no
  | _=>.no
 | _=>.no
@[simp] theorem gD{c m:Str}{d:List D->aq->Res D}{mo:M D}{ma:M (List D)}{ρ:aB}{O:aq}:bN c m d mo ma ρ O=(mo ρ O).bind (meF c m d (ma ρ)):=rfl
def mkF(n:Nat)(r:Res D):Res D:=match r with
 | .ok .non O2=>.ok (.ob n) O2
 | .ok _ _=>.no
 | .ex x O2=>.ex x O2
 | .no=>.no
@[simp] theorem XN{c:Str}{h:List D->aq->Res D}{ma:M (List D)}{ρ:aB}{O:aq}:jR c h ma ρ O=(ma ρ O).bind λds d=>mkF d.length (h (.ob d.length::ds) (d++[.ins c []])):=by
 unfold jR;congr 1
@[simp] theorem XQ{n:Nat}{O:aq}:mkF n (.ok .non O)=.ok (.ob n) O:=rfl
def apF(i:Nat)(r:Res D)(ρ:aB):Fl:=match r with
 | .ok d O'=>match ρ[i]? with
  |some (some (.lst ds))=>if ds.length<1000000 then .nx (ρ.set i (some (.lst (ds++[d])))) O' else .no
  | _=>.no
 | .ex x O'=>.ex x O'
 | .no=>.no
@[simp] theorem Aa{i:Nat}{m:M D}{ρ:aB}{O:aq}:iQ i m ρ O=apF i (m ρ O) ρ:=rfl
theorem Ab{i:Nat}{d:D}{ds:List D}{ρ:aB}{O:aq}(h:ρ[i]?=some (some (.lst ds)))(c:ds.length<1000000):apF i (.ok d O) ρ=.nx (ρ.set i (some (.lst (ds++[d])))) O:=by
 unfold apF;dsimp only;rw[h];dsimp only;rw[if_pos c]
def exF(i:Nat)(r:Res D)(ρ:aB):Fl:=match r with
 | .ok d O'=>match ρ[i]?,bO O' d with
  |some (some (.lst ds)),.lst es=>if ds.length+es.length<=1000000 then .nx (ρ.set i (some (.lst (ds++es)))) O' else .no
  | _,_=>.no
 | .ex x O'=>.ex x O'
 | .no=>.no
@[simp] theorem K6{i:Nat}{m:M D}{ρ:aB}{O:aq}:ju i m ρ O=exF i (m ρ O) ρ:=rfl
theorem K7{i:Nat}{es ds:List D}{ρ:aB}{O:aq}(h:ρ[i]?=some (some (.lst ds)))(c:ds.length+es.length<=1000000):exF i (.ok (.lst es) O) ρ=.nx (ρ.set i (some (.lst (ds++es)))) O:=by
 unfold exF;dsimp only[bO];rw[h];dsimp only;rw[if_pos c]
def enF(d:D)(c:aq):Res (List D):=match d with
 | .lst ds=>.ok (fG 0 ds) c
 | .str l=>if ascii l=true then .ok (fG 0 (dD l)) c else .no
 | _=>.no
@[simp] theorem XR{m:M D}{ρ:aB}{O:aq}:uZ m ρ O=(m ρ O).bind enF:=rfl
theorem K8{l:List Nat}{O:aq}(h:ascii l=true):enF (.str l) O=.ok (fG 0 (dD l)) O:=by
 show(if ascii l=true then _ else _)=_;rw[if_pos h]
def asF(r:Res D)(g:MG)(ρ:aB):Fl:=match r with
 | .ok d O'=>match g d ρ with
  |some c=>.nx c O'
  |none=>.no
 | .ex x O'=>.ex x O'
 | .no=>.no
@[simp] theorem XS{m:M D}{g:MG}{ρ:aB}{O:aq}:rM m g ρ O=asF (m ρ O) g ρ:=rfl
theorem XX{d:D}{g:MG}{ρ c:aB}{O:aq}(h:g d ρ=some c):asF (.ok d O) g ρ=.nx c O:=by
 unfold asF;dsimp only;rw[h]
@[simp] theorem tO{i j:Nat}{a b:D}{ρ:aB}:dO 2 (bC (mgN i) (bC (mgN j) dW)) (.tup [a,b]) ρ=some ((ρ.set i (some a)).set j (some b)):=rfl
def stF(a b:D)(O:aq):Res D:=match a,b with
 | .str l,.str n=>.ok (.bl (decide (l.take n.length=n))) O
 | _,_=>.no
@[simp] theorem Qyi{a b:M D}{ρ:aB}{O:aq}:uX a b ρ O=(a ρ O).bind λx d=>(b ρ d).bind λy c=>stF x y c:=rfl
@[simp] theorem Qz9{l n:List Nat}{O:aq}:stF (.str l) (.str n) O=.ok (.bl (decide (l.take n.length=n))) O:=rfl
theorem K9{t:M Bool}{b:MS}(l:Nat->aB->aq->Prop):∀(n:Nat) (k:Nat) (ρ:aB) (O:aq),k<n->l k ρ O ->
  (∀k ρ O,l (k+1) ρ O->t ρ O=.ok true O/\∃j c m,j<=k/\b ρ O=.nx c m/\l j c m)->(∀ρ O,l 0 ρ O->t ρ O=.ok false O)->∃d q,lN t b n ρ O=.nx d q/\l 0 d q
 | 0,k,ρ,O,hk,_,_,_=>absurd hk (Nat.not_lt_zero _)
 |n+1,0,ρ,O,_,h,_,h0=>by
  refine⟨ρ,O,?_,h⟩;unfold lN;rw[h0 ρ O h]
 |n+1,k+1,ρ,O,hk,h,hs,h0=>by
  obtain⟨x,j,c,m,y,u,h2⟩:=hs k ρ O h;obtain⟨d,q,r,h3⟩:=K9 l n j c m (by omega) h2 hs h0;refine⟨d,q,?_,h3⟩;unfold lN;rw[x];dsimp only;rw[u];exact r
theorem Ac{α:Type}{g:MG}{t:M Bool}{m:M D}(d:aB->Prop)(f h:α->D):∀(xs:List α) (ρ:aB) (O:aq) (acc:List D),d ρ->(∀x∈xs,∀ρ,d ρ->∃c,g (f x) ρ=some c/\d c/\t c O=.ok true O/\m c O=.ok (h x) O)->fB g t m (xs.map f) ρ O acc=.ok (acc++xs.map h) O
 | [],ρ,O,acc,_,_=>by simp[fB]
 |x::xs,ρ,O,acc,hp,hs=>by
  obtain⟨c,q,h1,n,l⟩:=hs x zp ρ hp;rw[zx];unfold fB;rw[q];dsimp only;rw[n];dsimp only;rw[l];dsimp only;rw[Ac d f h xs c O _ h1 λr j=>hs r (zr _ j)];simp
def bT:List Nat:=[101,110,100]
def bY:List Nat:=[97,110,101,119]
def fU:List Nat:=[112,108,97,105,110]
def aU:List Nat:=[115,105,103,110]
def eO:List Nat:=[105,110,107]
def eX:List Nat:=[103,114,111,117,110,100]
def item(p:Int)(k v:List Nat):D:=.tup [.int p,.str k,.str v]
def col(c:Nat):Bool:=decide (c∈[97,98,99,100,101,102,103,104,46])
theorem tQ{c:Nat}(h:col c=true):c≠91/\c≠93/\c≠47/\c≠10/\c≠9:=by
 have:c∈[97,98,99,100,101,102,103,104,46]:=je h
 have q:∀c∈[97,98,99,100,101,102,103,104,46],c≠91/\c≠93/\c≠47/\c≠10/\c≠9:=by decide
 exact q c this
def jY(x:Nat):List Nat->List Nat×List Nat×Nat
 | []=>(aU,[91],0)
 |e::_=>if e=93 then(eX,[x],3) else(aU,[91],0)
def gW:List Nat->List Nat×List Nat×Nat
 | []=>(aU,[91],0)
 |x::t=>if col x=true then jY x t else(aU,[91],0)
def jy(x:Nat):List Nat->List Nat×List Nat×Nat
 | []=>(aU,[91],0)
 |e::_=>if e=93 then(eO,[x],2) else(aU,[91],0)
def cY:List Nat->List Nat×List Nat×Nat
 | []=>(aU,[91],0)
 |d::t=>if d=93 then(fU,[],1) else if d=91 then(aU,[91],1) else if col d=true then jy d t else if d=47 then gW t else(aU,[91],0)
def one(c:Nat)(t:List Nat):List Nat×List Nat×Nat :=
 if c=10 then(bT,[],0) else if c=9 then(bY,[],0) else if c=91 then cY t else(aU,[c],0)
def items(p:Int):List Nat->List D
 | []=>[]
 |c::t=>item p (one c t).1 (one c t).2.1::items (p+((one c t).2.2+1:Nat)) (t.drop (one c t).2.2)
termination_by l=>l.length
decreasing_by
 simp only[List.length_drop,zn];omega
theorem oO(p:Int):items p []=[]:=by rw[items]
theorem tR(p:Int)(c:Nat)(t:List Nat):items p (c::t)=item p (one c t).1 (one c t).2.1::items (p+((one c t).2.2+1:Nat)) (t.drop (one c t).2.2):=by rw[items]
def own(p:Int)(c:Nat):D:=if c=10 then item p bT [] else if c=9 then item p bY [] else item p aU [c]
def d9:Int->List Nat->List D
 | _,[]=>[]
 |p,c::l=>own p c::d9 (p+1) l
theorem gR{p:Int}{c:Nat}{t:List Nat}(h:c≠91):items p (c::t)=own p c::items (p+1) t:=by
 rw[tR];unfold one own
 by_cases h1:c=10
 ·simp[h1]
 ·by_cases h2:c=9
  ·simp[h1,h2]
  ·simp[h1,h2,h]
theorem jZ{p:Int}{t:List Nat}(h:cY t=(aU,[91],0)):items p (91::t)=own p 91::items (p+1) t:=by
 rw[tR]
 have:one 91 t=(aU,[91],0):=h
 rw[this];rfl
theorem vP{p:Int}{t:List Nat}{k v:List Nat}{n:Nat}(h:cY t=(k,v,n)):items p (91::t)=item p k v::items (p+(n+1:Nat)) (t.drop n):=by
 rw[tR]
 have:one 91 t=(k,v,n):=h
 rw[this]
def eY:List Nat->Bool
 | [a]=>decide (a=91)
 | [a,b]=>decide (a=91)&&(decide (b=47) || col b)
 | [a,b,c]=>decide (a=91)&&(decide (b=47)&&col c)
 | _=>false
def markB:List Nat->Option (List Nat×List Nat)
 | [a,b]=>if a=91/\b=93 then some (fU,[]) else if a=91/\b=91 then some (aU,[91]) else none
 | [a,b,c]=>if a=91/\col b=true/\c=93 then some (eO,[b]) else none
 | [a,b,c,d]=>if a=91/\b=47/\col c=true/\d=93 then some (eX,[c]) else none
 | _=>none
def tk(h:List Nat)(c:Nat)(p:Int):List D×List Nat :=
 if eY (h++[c])=true then([],h++[c]) else match markB (h++[c]) with
 |some (k,v)=>([item p k v],[])
 |none=>if c=91 then(d9 p h,[91]) else(d9 p (h++[c]),[])
inductive cj:List Nat->Prop where
 | h0:cj []
 | h1:cj [91]
 | h2:cj [91,47]
 | h3 (x:Nat) (h:col x=true):cj [91,x]
 | h4 (x:Nat) (h:col x=true):cj [91,47,x]
theorem cj.len{h:List Nat}(H:cj h):h.length<=3:=by cases H<;>simp
theorem Ad:col 91=false:=by decide
theorem La:col 93=false:=by decide
theorem j4:col 47=false:=by decide
theorem Ae{h:List Nat}(H:cj h)(c:Nat)(p:Int)(rest:List Nat):
  cj (tk h c p).2/\items p (h++c::rest)=(tk h c p).1++items (p+h.length+1 - (tk h c p).2.length) ((tk h c p).2++rest):=by
 cases H with
 |h0 =>
  by_cases h1:c=91
  ·subst h1;refine⟨cj.h1,?_⟩;simp[tk,eY]
  ·have:tk [] c p=([own p c],[]):=by simp[tk,eY,markB,h1,d9]
   rw[this];refine⟨cj.h0,?_⟩;simp[gR h1]
 |h1 =>
  by_cases h2:c=93
  ·subst h2
   have:tk [91] 93 p=([item p fU []],[]):=by simp[tk,eY,markB,La]
   rw[this];refine⟨cj.h0,?_⟩;show items p (91::93::rest)=_;rw[vP (k:=fU) (v:=[]) (n:=1) rfl];simp[Int.add_assoc]
  ·by_cases h1:c=91
   ·subst h1
    have:tk [91] 91 p=([item p aU [91]],[]):=by simp[tk,eY,markB,Ad]
    rw[this];refine⟨cj.h0,?_⟩;show items p (91::91::rest)=_;rw[vP (k:=aU) (v:=[91]) (n:=1) rfl];simp[Int.add_assoc]
   ·by_cases h3:c=47
    ·subst h3
     have:tk [91] 47 p=([],[91,47]):=by simp[tk,eY]
     rw[this];exact⟨cj.h2,by simp;congr 1;omega⟩
    ·by_cases h4:col c=true
     ·have:tk [91] c p=([],[91,c]):=by simp[tk,eY,h4]
      rw[this];exact⟨cj.h3 c h4,by simp;congr 1;omega⟩
     ·have:tk [91] c p=([own p 91,own (p+1) c],[]):=by simp[tk,eY,markB,h1,h2,h3,h4,d9]
      rw[this];refine⟨cj.h0,?_⟩;show items p (91::c::rest)=_;rw[jZ (by simp[cY,h1,h2,h3,h4]),gR h1];simp
 |h2 =>
  by_cases h4:col c=true
  ·have:tk [91,47] c p=([],[91,47,c]):=by simp[tk,eY,h4]
   rw[this];exact⟨cj.h4 c h4,by simp;congr 1;omega⟩
  ·by_cases h1:c=91
   ·subst h1
    have:tk [91,47] 91 p=([own p 91,own (p+1) 47],[91]):=by simp[tk,eY,markB,j4,Ad,d9]
    rw[this];refine⟨cj.h1,?_⟩;show items p (91::47::91::rest)=_;rw[jZ (by simp[cY,gW,j4,Ad]),gR (by decide)];simp;congr 1;omega
   ·have:tk [91,47] c p=([own p 91,own (p+1) 47,own (p+1+1) c],[]):=by simp[tk,eY,markB,h1,h4,j4,d9]
    rw[this];refine⟨cj.h0,?_⟩;show items p (91::47::c::rest)=_;rw[jZ (by simp[cY,gW,j4,h4]),gR (by decide),gR h1];simp;congr 1;omega
 |h3 x hx =>
  obtain⟨d,j,l,q,m⟩:=tQ hx
  by_cases h2:c=93
  ·subst h2
   have:tk [91,x] 93 p=([item p eO [x]],[]):=by simp[tk,eY,markB,La,hx]
   rw[this];refine⟨cj.h0,?_⟩;show items p (91::x::93::rest)=_;rw[vP (k:=eO) (v:=[x]) (n:=2) (by simp[cY,jy,d,j,hx])];simp;congr 1;omega
  ·by_cases h1:c=91
   ·subst h1
    have:tk [91,x] 91 p=([own p 91,own (p+1) x],[91]):=by simp[tk,eY,markB,l,d9]
    rw[this];refine⟨cj.h1,?_⟩;show items p (91::x::91::rest)=_;rw[jZ (by simp[cY,jy,d,j,hx]),gR d];simp;congr 1;omega
   ·have:tk [91,x] c p=([own p 91,own (p+1) x,own (p+1+1) c],[]):=by simp[tk,eY,markB,h1,h2,l,d9]
    rw[this];refine⟨cj.h0,?_⟩;show items p (91::x::c::rest)=_;rw[jZ (by simp[cY,jy,d,j,hx,h2]),gR d,gR h1];simp;congr 1;omega
 |h4 x hx =>
  obtain⟨d,j,l,q,m⟩:=tQ hx
  by_cases h2:c=93
  ·subst h2
   have:tk [91,47,x] 93 p=([item p eX [x]],[]):=by simp[tk,eY,markB,hx]
   rw[this];refine⟨cj.h0,?_⟩;show items p (91::47::x::93::rest)=_;rw[vP (k:=eX) (v:=[x]) (n:=3) (by simp[cY,gW,jY,j4,hx])];simp;congr 1;omega
  ·by_cases h1:c=91
   ·subst h1
    have:tk [91,47,x] 91 p=([own p 91,own (p+1) 47,own (p+1+1) x],[91]):=by simp[tk,eY,markB,d9]
    rw[this];refine⟨cj.h1,?_⟩;show items p (91::47::x::91::rest)=_;rw[jZ (by simp[cY,gW,jY,j4,hx]),gR (by decide),gR d];simp;congr 1;omega
   ·have:tk [91,47,x] c p=([own p 91,own (p+1) 47,own (p+1+1) x,own (p+1+1+1) c],[]):=by simp[tk,eY,markB,h1,h2,d9]
    rw[this];refine⟨cj.h0,?_⟩;show items p (91::47::x::c::rest)=_;rw[jZ (by simp[cY,gW,jY,j4,hx,h2]),gR (by decide),gR d,gR h1];simp;congr 1;omega
theorem X3{h:List Nat}(H:cj h)(p:Int):items p h=d9 p h:=by
 cases H with
 |h0=>rw[oO];rfl
 |h1=>rw[jZ rfl,oO];rfl
 |h2=>rw[jZ rfl,gR (by decide),oO];rfl
 |h3 x hx =>
  obtain⟨c,d,m,l,j⟩:=tQ hx;rw[jZ (by simp[cY,jy,c,d,hx]),gR c,oO];rfl
 |h4 x hx =>
  obtain⟨c,d,m,l,j⟩:=tQ hx;rw[jZ (by simp[cY,gW,jY,j4,hx]),gR (by decide),gR c,oO];rfl
def bh:List Nat->Int->List Nat->List D×List Nat
 |h,_,[]=>([],h)
 |h,p,c::t=>((tk h c (p - h.length)).1++(bh (tk h c (p - h.length)).2 (p+1) t).1,(bh (tk h c (p - h.length)).2 (p+1) t).2)
theorem vQ:∀(t:List Nat) {h:List Nat} (_:cj h) (p:Int) (rest:List Nat),cj (bh h p t).2/\items (p - h.length) (h++(t++rest))=(bh h p t).1++items (p+t.length - (bh h p t).2.length) ((bh h p t).2++rest)
 | [],h,H,p,rest=>⟨H,by simp[bh]⟩
 |c::t,h,H,p,rest=>by
  obtain⟨a,b⟩:=Ae H c (p - h.length) (t++rest);obtain⟨a2,j⟩:=vQ t a (p+1) rest;refine⟨a2,?_⟩;show items (p - h.length) (h++c::(t++rest))=_;rw[b]
  have e:p - (h.length:Int)+h.length+1 - ((tk h c (p - h.length)).2.length:Int)=p+1 - ((tk h c (p - h.length)).2.length:Int):=by omega
  rw[e,j];show _=((tk h c (p - h.length)).1++(bh (tk h c (p - h.length)).2 (p+1) t).1)++items (p+((c::t).length:Nat) - ((bh (tk h c (p - h.length)).2 (p+1) t).2.length:Int)) ((bh (tk h c (p - h.length)).2 (p+1) t).2++rest);rw[zk]
  have d:p+1+(t.length:Int)=p+((c::t).length:Nat):=by simp;omega
  rw[d]
theorem Af(t:List Nat):cj (bh [] 0 t).2/\items 0 t=(bh [] 0 t).1++d9 (t.length - (bh [] 0 t).2.length) (bh [] 0 t).2:=by
 obtain⟨a,b⟩:=vQ t cj.h0 0 [];refine⟨a,?_⟩;simp at b;rw[b,X3 a]
@[simp] theorem Qze{l:List D}:uP [.lst l]=some (.lst l):=rfl
def fzF(f:Fl):Fl:=match f with
 | .rt d O'=>.rt d O'
 | _=>.no
@[simp] theorem X4{m:MS}{ρ:aB}{O:aq}:sG m ρ O=fzF (m ρ O):=rfl
@[simp] theorem X5{d:D}{O:aq}:fzF (.rt d O)=.rt d O:=rfl
def ziF(d e:D)(O:aq):Res (List D):=match d,e with
 | .lst ds,.lst es=>.ok (fO ds es) O
 | _,_=>.no
@[simp] theorem Lb{ma c:M D}{ρ:aB}{O:aq}:u5 ma c ρ O=(ma ρ O).bind λd j=>(c ρ j).bind λe h=>ziF d e h:=by
 unfold u5;congr 1
@[simp] theorem Ld{ds es:List D}{O:aq}:ziF (.lst ds) (.lst es) O=.ok (fO ds es) O:=rfl
end L2
namespace L2
open PySem
section
variable {ρ ρ':aB}{O O' O1 O2:aq}{d:D}{x:Xc}{a b m:MS}{r:M D}{t:M Bool}{ma:M (List D)}{c:List D->aq->Res D}{ds:List D}
end
end L2
namespace K28
open PySem L2
seal VE SE OE WE TsE TwE AE VS VSs VG VGs VI VIc VO VIf DPE
def top(i:Nat):Stmt:=PySem.Challenge.pw_outweave_k28_whole_rows_of_a_text.main.body.getD i (.Pass ⟨0,0,0,0⟩)
local macro_rules | `(tactic| trivial) => `(tactic| exact ⟨rfl, rfl, rfl, by decide +kernel, rfl, by decide +kernel, by decide +kernel⟩)
section
variable {Pr:Program}{w:World}{K:Frag}{mg:Str->Option Value}{base:Heap}
abbrev Ag:Stmt:=top 11
theorem X6:bU ["thing"] ["thing"] (aZ Ag):=by trivial
def Ah:MS :=
  (aM (jq (gO "str" (aa 0)) (jq (ak gEq (bM bW (ao (aa 0) au)) (mC (.int 1))) (pI gLe gLe (mC (.str [32])) (aa 0) (mC (.str [125]))))))
def qb:List D->aq->Res D:=bV 1 Ah
abbrev Le(Pr:Program)(w:World)(K:Frag)(mg:Str->Option Value)(base:Heap):Prop:=Can Pr w K mg base "is_sign" ["thing"] 1 (vSp K mg [.s] (rV K) qb)
theorem X7(j:Def K mg "is_sign" Ag)
  (B:cg mg)
  (h:∃u,mg "FIRST_SIGN" = some u/\RelV (.str (S [32])) u)
  (d:∃u,mg "LAST_SIGN" = some u/\RelV (.str (S [125])) u):
  Le Pr w K mg base:=by
 refine dI (k:=0) (b:=Ah) j X6 (λ_ _ _ _ _ _=>bF λ_=>cC rfl) [.s] [] dh (λ_ _ _ _=>Rp.non) (body:=λf l A outer s H E c P=>?_);refine aL ?_;refine bD ?_;refine kZ ?_ ?_;refine bc (jJ "str" (hb:=uQ) B.isinstance_ B.str_ (aK 0));refine kZ ?_ ?_;refine bc ?_;refine mR (bL c) ?_ (aj aD) (bw _);refine aP ?_;refine dR (ms:=[.s]) (hv:=dZ) dY B.len_ ?_;refine aN (aK 0) aC;refine nW ?_;refine bc ?_;refine Io uO uO ?_ (aK 0) ?_;refine aj ?_;refine mQ h (λ_ _ _=>Rp.str);refine aj ?_;refine mQ d (λ_ _ _=>Rp.str)
abbrev Al:Stmt:=top 12
theorem X8:bU ["thing"] ["thing"] (aZ Al):=by trivial
def Am:MS :=
  (aM (jq (gO "str" (aa 0)) (jq (ak gEq (bM bW (ao (aa 0) au)) (mC (.int 1))) (ak (gIn false) (aa 0) (mC (.str [97,98,99,100,101,102,103,104,46]))))))
def oR:List D->aq->Res D:=bV 1 Am
abbrev An(Pr:Program)(w:World)(K:Frag)(mg:Str->Option Value)(base:Heap):Prop:=Can Pr w K mg base "is_colour" ["thing"] 1 (vSp K mg [.s] (rV K) oR)
theorem Yb(h:Def K mg "is_colour" Al)
  (B:cg mg)
  (d:∃u,mg "COLOURS" = some u/\RelV (.str (S [97,98,99,100,101,102,103,104,46])) u):
  An Pr w K mg base:=by
 refine dI (k:=0) (b:=Am) h X8 (λ_ _ _ _ _ _=>bF λ_=>cC rfl) [.s] [] dh (λ_ _ _ _=>Rp.non) (body:=λf j A outer s H E c P=>?_);refine aL ?_;refine bD ?_;refine kZ ?_ ?_;refine bc (jJ "str" (hb:=uQ) B.isinstance_ B.str_ (aK 0));refine kZ ?_ ?_;refine bc ?_;refine mR (bL c) ?_ (aj aD) (bw _);refine aP ?_;refine dR (ms:=[.s]) (hv:=dZ) dY B.len_ ?_;refine aN (aK 0) aC;refine nW ?_;refine bc ?_;refine mR yp (aK 0) ?_ (by with_unfolding_all rfl);refine aj ?_;refine mQ d (λ_ _ _=>Rp.str)
abbrev Ar:Stmt:=top 13
theorem Av:bU ["text","place","sign"] ["text"] (aZ Ar):=by trivial
def Aw:MS :=
  (aA (aQ (eF (cW (gO "str" (aa 0)))) pK aW)
  (eG (uZ (aa 0)) (dO 2 (bC (mgN 1) (bC (mgN 2) dW))) (aQ (eF (cU (cW (bz qb (ao (aa 2) au))) (cU (aH (ak gEq (aa 2) (mC (.str [10])))) (aH (ak gEq (aa 2) (mC (.str [9]))))))) pK aW)))
def vR:List D->aq->Res D:=bV 3 Aw
abbrev Lf(Pr:Program)(w:World)(K:Frag)(mg:Str->Option Value)(base:Heap):Prop:=Can Pr w K mg base "checked" ["text"] 2 (vSp K mg [.s] (rV K) vR)
theorem Yc(l:Def K mg "checked" Ar)
  (B:cg mg)
  (h:∃u,mg "ANEW_SIGN" = some u/\RelV (.str (S [9])) u)
  (d:∃u,mg "ROW_END" = some u/\RelV (.str (S [10])) u)
  (j:Le Pr w K mg base):
  Lf Pr w K mg base:=by
 refine dI (k:=1) (b:=Aw) l Av (λ_ _ _ _ _ _=>bF λ_=>cC rfl) [.s] [.v,.v] dh (λ_ _ _ _=>Rp.non) (body:=λf m A outer s H E c P=>?_);refine aF ?_ ?_;refine bH ?_ (aL xY) bK;refine jF ?_;refine gw ?_;refine aP (jJ "str" (hb:=uQ) B.isinstance_ B.str_ (aK 0));refine aL ?_;refine jG rfl (JK B.enumerate_ (mY 0)) ?_ ?_;refine mV 2 rfl ?_;refine f9 (cX (i:=1) Av.nd rfl (.inl rfl)) ?_;refine f9 (cX (i:=2) Av.nd rfl (.inl rfl)) mU;refine aL ?_;refine bH ?_ (aL xY) bK;refine jF ?_;refine gJ ?_;refine ie ?_ ?_;refine gw ?_;refine aj ?_;refine dw j (c.mono (by decide)) ?_
 refine aN (aj (az 2)) aC;refine ie ?_ ?_;refine bB (bL c) (aj (az 2)) ?_ (bw _);refine aj ?_;refine mQ d (λ_ _ _=>Rp.str);refine jE ?_;refine bB (bL c) (aj (az 2)) ?_ (bw _);refine aj ?_;refine mQ h (λ_ _ _=>Rp.str)
abbrev Ba:Stmt:=top 15
theorem Yd:bU ["text"] ["text"] (aZ Ba):=by trivial
def qg:MS :=
  (aA (aQ (aH (ak gEq (aa 0) (mC (.str [91,93])))) (aM (bQ (ao (mC (.str [112,108,97,105,110])) (ao (mC (.str [])) au)))) aW)
  (aA (aQ (aH (ak gEq (aa 0) (mC (.str [91,91])))) (aM (bQ (ao (mC (.str [115,105,103,110])) (ao (mC (.str [91])) au)))) aW)
  (aA (aQ (gH (aH (ak gEq (bM bW (ao (aa 0) au)) (mC (.int 3)))) (gH (aH (ak gEq (ak gIx (aa 0) (mC (.int 0))) (mC (.str [91])))) (gH (cW (bz oR (ao (ak gIx (aa 0) (mC (.int 1))) au))) (aH (ak gEq (ak gIx (aa 0) (mC (.int 2))) (mC (.str [93]))))))) (aM (bQ (ao (mC (.str [105,110,107])) (ao (ak gIx (aa 0) (mC (.int 1))) au)))) aW)
  (aA (aQ (gH (aH (ak gEq (bM bW (ao (aa 0) au)) (mC (.int 4)))) (gH (cW (uX (mG (aa 0)) (mC (.str [91,47])))) (gH (cW (bz oR (ao (ak gIx (aa 0) (mC (.int 2))) au))) (aH (ak gEq (ak gIx (aa 0) (mC (.int 3))) (mC (.str [93]))))))) (aM (bQ (ao (mC (.str [103,114,111,117,110,100])) (ao (ak gIx (aa 0) (mC (.int 2))) au)))) aW)
  (aM (mC .non))))))
def oU:List D->aq->Res D:=bV 1 qg
abbrev Lg(Pr:Program)(w:World)(K:Frag)(mg:Str->Option Value)(base:Heap):Prop:=Can Pr w K mg base "mark_of" ["text"] 2 (vSp K mg [.s] (rV K) oU)
theorem Ye(h:Def K mg "mark_of" Ba)
  (B:cg mg)
  (d:An Pr w K mg base):
  Lg Pr w K mg base:=by
 refine dI (k:=1) (b:=qg) h Yd (λ_ _ _ _ _ _=>bF λ_=>cC rfl) [.s] [] dh (λ_ _ _ _=>Rp.non) (body:=λf j A outer s H E c P=>?_);refine aF ?_ ?_;refine bH ?_ ?_ bK;refine bB (bL c) (aK 0) (aj (aJ [91,93])) (bw _);refine aL ?_;refine bD ?_;refine cQ 2 ?_;refine aG (aJ [112,108,97,105,110]) ?_;refine aG (aJ []) aC;refine aF ?_ ?_;refine bH ?_ ?_ bK;refine bB (bL c) (aK 0) (aj (aJ [91,91])) (bw _);refine aL ?_;refine bD ?_;refine cQ 2 ?_;refine aG (aJ [115,105,103,110]) ?_;refine aG (aJ [91]) aC;refine aF ?_ ?_;refine bH ?_ ?_ bK;refine gJ ?_
 refine iZ ?_ ?_;refine bB (bL c) ?_ (aj aD) (bw _);refine aP ?_;refine dR (ms:=[.s]) (hv:=dZ) dY B.len_ ?_;refine aN (aK 0) aC;refine iZ ?_ ?_;refine bB (bL c) ?_ (aj (aJ [91])) (bw _);refine aj ?_;refine bA (aK 0) (aj aD);refine iZ ?_ ?_;refine gw ?_;refine aj ?_;refine dw d (c.mono (by decide)) ?_;refine aN ?_ aC;refine aj ?_;refine bA (aK 0) (aj aD);refine rK ?_;refine bB (bL c) ?_ (aj (aJ [93])) (bw _);refine aj ?_;refine bA (aK 0) (aj aD);refine aL ?_;refine bD ?_;refine cQ 2 ?_;refine aG (aJ [105,110,107]) ?_;refine aG ?_ aC;refine bA (aK 0) (aj aD)
 refine aF ?_ ?_;refine bH ?_ ?_ bK;refine gJ ?_;refine iZ ?_ ?_;refine bB (bL c) ?_ (aj aD) (bw _);refine aP ?_;refine dR (ms:=[.s]) (hv:=dZ) dY B.len_ ?_;refine aN (aK 0) aC;refine iZ ?_ ?_;refine gw ?_;refine aP ?_;refine Jw (eE (aK 0)) (aJ [91,47]);refine iZ ?_ ?_;refine gw ?_;refine aj ?_;refine dw d (c.mono (by decide)) ?_;refine aN ?_ aC;refine aj ?_;refine bA (aK 0) (aj aD);refine rK ?_;refine bB (bL c) ?_ (aj (aJ [93])) (bw _);refine aj ?_;refine bA (aK 0) (aj aD);refine aL ?_;refine bD ?_;refine cQ 2 ?_;refine aG (aJ [103,114,111,117,110,100]) ?_
 refine aG ?_ aC;refine bA (aK 0) (aj aD);refine aL (bD Ut)
abbrev Bc:Stmt:=top 16
theorem Yg:bU ["text"] ["text"] (aZ Bc):=by trivial
def qi:MS :=
  (aA (aQ (cU (aH (ak gEq (aa 0) (mC (.str [91])))) (aH (ak gEq (aa 0) (mC (.str [91,47]))))) (aM (mC (.bl true))) aW)
  (aA (aQ (aH (ak gEq (bM bW (ao (aa 0) au)) (mC (.int 2)))) (aM (jq (ak gEq (ak gIx (aa 0) (mC (.int 0))) (mC (.str [91]))) (bz oR (ao (ak gIx (aa 0) (mC (.int 1))) au)))) aW)
  (aM (jq (ak gEq (bM bW (ao (aa 0) au)) (mC (.int 3))) (jq (uX (mG (aa 0)) (mC (.str [91,47]))) (bz oR (ao (ak gIx (aa 0) (mC (.int 2))) au)))))))
def oV:List D->aq->Res D:=bV 1 qi
abbrev Lh(Pr:Program)(w:World)(K:Frag)(mg:Str->Option Value)(base:Heap):Prop:=Can Pr w K mg base "may_become_mark" ["text"] 2 (vSp K mg [.s] (rV K) oV)
theorem Yh(h:Def K mg "may_become_mark" Bc)
  (B:cg mg)
  (d:An Pr w K mg base):
  Lh Pr w K mg base:=by
 refine dI (k:=1) (b:=qi) h Yg (λ_ _ _ _ _ _=>bF λ_=>cC rfl) [.s] [] dh (λ_ _ _ _=>Rp.non) (body:=λf j A outer s H E c P=>?_);refine aF ?_ ?_;refine bH ?_ ?_ bK;refine gJ ?_;refine ie ?_ ?_;refine bB (bL c) (aK 0) (aj (aJ [91])) (bw _);refine jE ?_;refine bB (bL c) (aK 0) (aj (aJ [91,47])) (bw _);refine aL (bD fZ);refine aF ?_ ?_;refine bH ?_ ?_ bK;refine bB (bL c) ?_ (aj aD) (bw _);refine aP ?_;refine dR (ms:=[.s]) (hv:=dZ) dY B.len_ ?_;refine aN (aK 0) aC;refine aL ?_;refine bD ?_;refine kZ ?_ ?_;refine bc ?_;refine mR (bL c) ?_ (aj (aJ [91])) (bw _)
 refine aj ?_;refine bA (aK 0) (aj aD);refine nW ?_;refine dw d (c.mono (by decide)) ?_;refine aN ?_ aC;refine aj ?_;refine bA (aK 0) (aj aD);refine aL ?_;refine bD ?_;refine kZ ?_ ?_;refine bc ?_;refine mR (bL c) ?_ (aj aD) (bw _);refine aP ?_;refine dR (ms:=[.s]) (hv:=dZ) dY B.len_ ?_;refine aN (aK 0) aC;refine kZ ?_ ?_;refine bc ?_;refine Jw (eE (aK 0)) (aJ [91,47]);refine nW ?_;refine dw d (c.mono (by decide)) ?_;refine aN ?_ aC;refine aj ?_;refine bA (aK 0) (aj aD)
abbrev Be:Stmt:=top 17
theorem Yi:bU ["place","sign"] ["place","sign"] (aZ Be):=by trivial
def Bf:MS :=
  (aA (aQ (aH (ak gEq (aa 1) (mC (.str [10])))) (aM (bQ (ao (mG (aa 0)) (ao (mC (.str [101,110,100])) (ao (mC (.str [])) au))))) aW)
  (aA (aQ (aH (ak gEq (aa 1) (mC (.str [9])))) (aM (bQ (ao (mG (aa 0)) (ao (mC (.str [97,110,101,119])) (ao (mC (.str [])) au))))) aW)
  (aM (bQ (ao (mG (aa 0)) (ao (mC (.str [115,105,103,110])) (ao (mG (aa 1)) au)))))))
def tU:List D->aq->Res D:=bV 2 Bf
abbrev Li(Pr:Program)(w:World)(K:Frag)(mg:Str->Option Value)(base:Heap):Prop:=Can Pr w K mg base "own_item" ["place","sign"] 1 (vSp K mg [.s,.s] (rV K) tU)
theorem Yj(j:Def K mg "own_item" Be)
  (B:cg mg)
  (h:∃u,mg "ANEW_SIGN" = some u/\RelV (.str (S [9])) u)
  (d:∃u,mg "ROW_END" = some u/\RelV (.str (S [10])) u):
  Li Pr w K mg base:=by
 refine dI (k:=0) (b:=Bf) j Yi (λ_ _ _ _ _ _=>bF λ_=>bF λ_=>cC rfl) [.s,.s] [] dh (λ_ _ _ _=>Rp.non) (body:=λf l A outer s H E c P=>?_);refine aF ?_ ?_;refine bH ?_ ?_ bK;refine bB (bL c) (aK 1) ?_ (bw _);refine aj ?_;refine mQ d (λ_ _ _=>Rp.str);refine aL ?_;refine bD ?_;refine cQ 3 ?_;refine aG (eE (aK 0)) ?_;refine aG (aJ [101,110,100]) ?_;refine aG (aJ []) aC;refine aF ?_ ?_;refine bH ?_ ?_ bK;refine bB (bL c) (aK 1) ?_ (bw _);refine aj ?_;refine mQ h (λ_ _ _=>Rp.str);refine aL ?_;refine bD ?_;refine cQ 3 ?_;refine aG (eE (aK 0)) ?_
 refine aG (aJ [97,110,101,119]) ?_;refine aG (aJ []) aC;refine aL ?_;refine bD ?_;refine cQ 3 ?_;refine aG (eE (aK 0)) ?_;refine aG (aJ [115,105,103,110]) ?_;refine aG (eE (aK 1)) aC
abbrev vU:Stmt:=top 18
theorem Yk:bU ["place","signs"] ["place","signs"] (aZ vU):=by trivial
def Bh:MS :=
  (aM (ig (uZ (aa 1)) 2 [0] (dO 2 (bC (mgN 0) (bC (mgN 1) dW))) il (bz tU (ao (ak aX (aa 2) (aa 0)) (ao (aa 1) au)))))
def qj:List D->aq->Res D:=bV 2 Bh
abbrev Bj(Pr:Program)(w:World)(K:Frag)(mg:Str->Option Value)(base:Heap):Prop:=Can Pr w K mg base "own_items" ["place","signs"] 2 (vSp K mg [.s,.s] (rO K) qj)
theorem Yl(h:Def K mg "own_items" vU)
  (B:cg mg)
  (d:Li Pr w K mg base):
  Bj Pr w K mg base:=by
 refine dI (k:=1) (b:=Bh) h Yk (λ_ _ _ _ _ _=>bF λ_=>bF λ_=>cC rfl) [.s,.s] [] fc (λ_ _ _ _=>.inl ⟨rfl,Rp.non⟩) (body:=λf j A outer s H E c P=>?_);refine aL ?_;refine nZ ?_;refine xZ (aZ vU) ["place","signs"] ["k","sign"] [0] rfl ?_ (λ_ _ _ _ P=>?_) (λ_ _ _ _ P=>?_) (λ_ _ _ _ P=>?_);refine uN (JK B.enumerate_ (mY 1));refine mV 2 rfl ?_;refine f9 (cX (i:=0) (show(cH ["place","signs"] ["k","sign"] [0]).Nodup by decide +kernel) rfl (.inl rfl)) ?_;refine f9 (cX (i:=1) (show(cH ["place","signs"] ["k","sign"] [0]).Nodup by decide +kernel) rfl (.inl rfl)) mU
 exact rP
 refine dw d (c.mono (by decide)) ?_;refine aN ?_ ?_;refine aP ?_;refine bu b7 (aK 2) (aj (az 0));refine aN (aj (az 1)) aC
abbrev Bm:Stmt:=inClass (top 19) 0
theorem Ym:bU ["self"] ["self"] (aZ Bm):=by trivial
def Bo:MS :=
  (aA (d7 ["Reader"] "held" (aa 0) (mC (.str [])))
  (d7 ["Reader"] "place" (aa 0) (mC (.int 0))))
def qm:List D->aq->Res D:=bV 1 Bo
abbrev Bp(Pr:Program)(w:World)(K:Frag)(mg:Str->Option Value)(base:Heap):Prop:=sr Pr w K mg base "Reader" ["self"] 1 (vSp K mg [.v] (rV K) qm)
theorem Yn(h:uY K mg "Reader" "Reader.__init__" Bm)
  (B:cg mg)
  (d:KC K mg "Reader" "held")
  (c:KC K mg "Reader" "place"):
  Bp Pr w K mg base:=by
 refine JB (k:=0) (b:=Bo) h Ym (λ_ _ _ _ _ _=>bF λ_=>cC rfl) [.v] [] dh (λ_ _ _ _=>Rp.non) (body:=λf j A outer s H E l P=>?_);refine aF ?_ ?_;refine fK (cF d cD) (az 0) (aJ []);refine aL ?_;refine fK (cF c cD) (az 0) aD
abbrev Br:Stmt:=inClass (top 19) 4
theorem tV:bU ["self","sign","seen","first","mark","told"] ["self","sign"] (aZ Br):=by trivial
def Bs:MS :=
  (aA (aO 2 (ak aX (cJ ["Reader"] "held" (aa 0)) (aa 1)))
  (aA (aO 3 (ak mX (cJ ["Reader"] "place" (aa 0)) (bM bW (ao (cJ ["Reader"] "held" (aa 0)) au))))
  (aA (d7 ["Reader"] "place" (aa 0) (ak aX (cJ ["Reader"] "place" (aa 0)) (mC (.int 1))))
  (aA (aQ (cW (bz oV (ao (aa 2) au))) (aA (d7 ["Reader"] "held" (aa 0) (aa 2))
  (aM (bx au))) aW)
  (aA (aO 4 (bz oU (ao (aa 2) au)))
  (aA (aQ (aH (uK (aa 4))) (aA (d7 ["Reader"] "held" (aa 0) (mC (.str [])))
  (aM (bx (ao (bQ (ao (aa 3) (ao (ak gIx (aa 4) (mC (.int 0))) (ao (ak gIx (aa 4) (mC (.int 1))) au)))) au)))) aW)
  (aA (aQ (aH (ak gEq (aa 1) (mC (.str [91])))) (aA (aO 5 (bz qj (ao (aa 3) (ao (cJ ["Reader"] "held" (aa 0)) au))))
  (aA (d7 ["Reader"] "held" (aa 0) (mG (aa 1)))
  (aM (aa 5)))) aW)
  (aA (d7 ["Reader"] "held" (aa 0) (mC (.str [])))
  (aM (bz qj (ao (aa 3) (ao (aa 2) au))))))))))))
def j6:List D->aq->Res D:=bV 6 Bs
abbrev Lj(Pr:Program)(w:World)(K:Frag)(mg:Str->Option Value)(base:Heap):Prop:=gP Pr w K mg base "Reader" "take" ["self","sign"] 3 (vSp K mg [.v,.s] (rO K) j6)
theorem Yo(n:jw K mg "Reader" "take" "Reader.take" Br)
  (B:cg mg)
  (h:KC K mg "Reader" "place")
  (c:KC K mg "Reader" "held")
  (m:Lh Pr w K mg base)
  (l:Lg Pr w K mg base)
  (j:Bj Pr w K mg base):
  Lj Pr w K mg base:=by
 refine jQ (k:=2) (b:=Bs) n tV (λ_ _ _ _ _ _=>bF λ_=>bF λ_=>cC rfl) [.v,.s] [.v,.v,.v,.o] fc (λ_ _ _ _=>.inl ⟨rfl,Rp.non⟩) (body:=λf q A outer s H E d P=>?_);refine aF ?_ ?_;refine bZ (i:=2) tV.nd rfl (.inl rfl) ?_;refine bc ?_;refine bu b7 ?_ (aK 1);refine aj (gb (cF c cD) (az 0));refine aF ?_ ?_;refine bZ (i:=3) tV.nd rfl (.inl rfl) ?_;refine bc ?_;refine bu ye ?_ ?_;refine aj (gb (cF h cD) (az 0));refine aP ?_;refine dR (ms:=[.s]) (hv:=dZ) dY B.len_ ?_;refine aN ?_ aC;refine aj (gb (cF c cD) (az 0));refine aF ?_ ?_;refine fK (cF h cD) (az 0) ?_
 refine bc ?_;refine bu b7 ?_ (aj aD);refine aj (gb (cF h cD) (az 0));refine aF ?_ ?_;refine bH ?_ ?_ bK;refine gw ?_;refine aj ?_;refine dw m (d.mono (by decide)) ?_;refine aN (aj (az 2)) aC;refine aF ?_ ?_;refine fK (cF c cD) (az 0) (az 2);refine aL ?_;refine nZ (cI 0 aC);refine aF ?_ ?_;refine bZ (i:=4) tV.nd rfl (.inl rfl) ?_;refine dw l (d.mono (by decide)) ?_;refine aN (aj (az 2)) aC;refine aF ?_ ?_;refine bH ?_ ?_ bK;refine Uy (aj (az 4));refine aF ?_ ?_;refine fK (cF c cD) (az 0) (aJ []);refine aL ?_;refine nZ ?_;refine cI 1 ?_
 refine aG ?_ aC;refine cQ 3 ?_;refine aG (az 3) ?_;refine aG ?_ ?_;refine bA (aj (az 4)) (aj aD);refine aG ?_ aC;refine bA (aj (az 4)) (aj aD);refine aF ?_ ?_;refine bH ?_ ?_ bK;refine bB (bL d) (aK 1) (aj (aJ [91])) (bw _);refine aF ?_ ?_;refine gK (i:=5) tV.nd rfl (.inl rfl) ?_;refine mZ j (d.mono (by decide)) ?_;refine aN (aj (az 3)) ?_;refine aN ?_ aC;refine aj (gb (cF c cD) (az 0));refine aF ?_ (aL (lM 5));refine fK (cF c cD) (az 0) (eE (aK 1));refine aF ?_ ?_;refine fK (cF c cD) (az 0) (aJ []);refine aL ?_;refine nZ ?_;refine mZ j (d.mono (by decide)) ?_
 refine aN (aj (az 3)) ?_;refine aN (aj (az 2)) aC
abbrev Bw:Stmt:=inClass (top 19) 1
theorem Bx:bU ["self","piece","told","sign"] ["self","piece"] (aZ Bw):=by trivial
def By:MS :=
  (aA (nY (bz vR (ao (aa 1) au)))
  (aA (aO 2 (bx au))
  (aA (eG (d8 (aa 1)) (mgN 3) (ju 2 (bN "Reader" "take" j6 (aa 0) (ao (aa 3) au))))
  (aM (aa 2)))))
def oX:List D->aq->Res D:=bV 4 By
abbrev BJ(Pr:Program)(w:World)(K:Frag)(mg:Str->Option Value)(base:Heap):Prop:=gP Pr w K mg base "Reader" "feed" ["self","piece"] 4 (vSp K mg [.v,.s] (rO K) oX)
theorem Yp(j:jw K mg "Reader" "feed" "Reader.feed" Bw)
  (B:cg mg)
  (h:Lf Pr w K mg base)
  (d:Lj Pr w K mg base):
  BJ Pr w K mg base:=by
 refine jQ (k:=3) (b:=By) j Bx (λ_ _ _ _ _ _=>bF λ_=>bF λ_=>cC rfl) [.v,.s] [.o,.v] fc (λ_ _ _ _=>.inl ⟨rfl,Rp.non⟩) (body:=λf l A outer s H E c P=>?_);refine aF ?_ ?_;refine uM ?_;refine aj ?_;refine dw h (c.mono (by decide)) ?_;refine aN (aK 1) aC;refine aF ?_ ?_;refine gK (i:=2) Bx.nd rfl (.inl rfl) (cI 0 aC);refine aF ?_ (aL (lM 2));refine jG rfl (pU (mY 1)) (cX (i:=3) Bx.nd rfl (.inl rfl)) ?_;refine aL ?_;refine Jy 2 ?_;refine aP ?_;refine lR d (c.mono (by decide)) (az 0) ?_;refine aN (aj (az 3)) aC
abbrev BR:Stmt:=inClass (top 19) 3
theorem Ln:bU ["self","told"] ["self"] (aZ BR):=by trivial
def BV:MS :=
  (aA (aO 1 (bz qj (ao (ak mX (cJ ["Reader"] "place" (aa 0)) (bM bW (ao (cJ ["Reader"] "held" (aa 0)) au))) (ao (cJ ["Reader"] "held" (aa 0)) au))))
  (aA (d7 ["Reader"] "held" (aa 0) (mC (.str [])))
  (aM (aa 1))))
def oY:List D->aq->Res D:=bV 2 BV
abbrev BW(Pr:Program)(w:World)(K:Frag)(mg:Str->Option Value)(base:Heap):Prop:=gP Pr w K mg base "Reader" "finish" ["self"] 3 (vSp K mg [.v] (rO K) oY)
theorem Yq(l:jw K mg "Reader" "finish" "Reader.finish" BR)
  (B:cg mg)
  (c:KC K mg "Reader" "held")
  (h:KC K mg "Reader" "place")
  (d:Bj Pr w K mg base):
  BW Pr w K mg base:=by
 refine jQ (k:=2) (b:=BV) l Ln (λ_ _ _ _ _ _=>bF λ_=>cC rfl) [.v] [.o] fc (λ_ _ _ _=>.inl ⟨rfl,Rp.non⟩) (body:=λf m A outer s H E j P=>?_);refine aF ?_ ?_;refine gK (i:=1) Ln.nd rfl (.inl rfl) ?_;refine mZ d (j.mono (by decide)) ?_;refine aN ?_ ?_;refine aP ?_;refine bu ye ?_ ?_;refine aj (gb (cF h cD) (az 0));refine aP ?_;refine dR (ms:=[.s]) (hv:=dZ) dY B.len_ ?_;refine aN ?_ aC;refine aj (gb (cF c cD) (az 0));refine aN ?_ aC;refine aj (gb (cF c cD) (az 0));refine aF ?_ (aL (lM 1));refine fK (cF c cD) (az 0) (aJ [])
abbrev BZ:Stmt:=top 20
theorem Ca:bU ["text","reader","told"] ["text"] (aZ BZ):=by trivial
def Cd:MS :=
  (aA (aO 1 (jR "Reader" qm au))
  (aA (aO 2 (bN "Reader" "feed" oX (aa 1) (ao (aa 0) au)))
  (aM (ak aX (aa 2) (bN "Reader" "finish" oY (aa 1) au)))))
def vV:List D->aq->Res D:=bV 3 Cd
abbrev Lp(Pr:Program)(w:World)(K:Frag)(mg:Str->Option Value)(base:Heap):Prop:=Can Pr w K mg base "items_of" ["text"] 5 (vSp K mg [.s] (rO K) vV)
theorem Yr(l:Def K mg "items_of" BZ)
  (B:cg mg)
  (j:Bp Pr w K mg base)
  (h:BJ Pr w K mg base)
  (d:BW Pr w K mg base):
  Lp Pr w K mg base:=by
 refine dI (k:=4) (b:=Cd) l Ca (λ_ _ _ _ _ _=>bF λ_=>cC rfl) [.s] [.v,.v] fc (λ_ _ _ _=>.inl ⟨rfl,Rp.non⟩) (body:=λf m A outer s H E c P=>?_);refine aF (bZ (i:=1) Ca.nd rfl (.inl rfl) (JH j (c.mono (by decide)))) ?_;refine aF ?_ ?_;refine bZ (i:=2) Ca.nd rfl (.inl rfl) ?_;refine bc ?_;refine lR h (c.mono (by decide)) (az 1) ?_;refine aN (aK 0) aC;refine aL ?_;refine nZ ?_;refine bu b7 (aj (az 2)) ?_;refine aP (sE d (c.mono (by decide)) (az 1))
abbrev Cg:Stmt:=top 23
theorem Ys:bU ["pair","kind","value"] ["pair","kind","value"] (aZ Cg):=by trivial
def Ci:MS :=
  (aA (aQ (aH (ak gEq (aa 1) (mC (.str [105,110,107])))) (aM (bQ (ao (mG (aa 2)) (ao (ak gIx (aa 0) (mC (.int 1))) au)))) aW)
  (aA (aQ (aH (ak gEq (aa 1) (mC (.str [103,114,111,117,110,100])))) (aM (bQ (ao (ak gIx (aa 0) (mC (.int 0))) (ao (mG (aa 2)) au)))) aW)
  (aA (aQ (aH (ak gEq (aa 1) (mC (.str [115,105,103,110])))) (aM (mG (aa 0))) aW)
  (aM (mC (.tup [.str [46],.str [46]]))))))
def tW:List D->aq->Res D:=bV 3 Ci
abbrev Lq(Pr:Program)(w:World)(K:Frag)(mg:Str->Option Value)(base:Heap):Prop:=Can Pr w K mg base "pair_behind" ["pair","kind","value"] 1 (vSp K mg [.s,.s,.s] (rV K) tW)
theorem Yt(h:Def K mg "pair_behind" Cg)
  (B:cg mg)
  (d:u9 K mg "PLAIN" [[46],[46]]):
  Lq Pr w K mg base:=by
 refine dI (k:=0) (b:=Ci) h Ys (λ_ _ _ _ _ _=>bF λ_=>bF λ_=>bF λ_=>cC rfl) [.s,.s,.s] [] dh (λ_ _ _ _=>Rp.non) (body:=λf j A outer s H E c P=>?_);refine aF ?_ ?_;refine bH ?_ ?_ bK;refine bB (bL c) (aK 1) (aj (aJ [105,110,107])) (bw _);refine aL ?_;refine bD ?_;refine cQ 2 ?_;refine aG (eE (aK 2)) ?_;refine aG ?_ aC;refine bA (aK 0) (aj aD);refine aF ?_ ?_;refine bH ?_ ?_ bK;refine bB (bL c) (aK 1) (aj (aJ [103,114,111,117,110,100])) (bw _);refine aL ?_;refine bD ?_;refine cQ 2 ?_;refine aG ?_ ?_;refine bA (aK 0) (aj aD);refine aG (eE (aK 2)) aC
 refine aF ?_ ?_;refine bH ?_ ?_ bK;refine bB (bL c) (aK 1) (aj (aJ [115,105,103,110])) (bw _);refine aL ?_;refine bD (eE (aK 0));refine aL (bD (JQ (ls:=[[46],[46]]) d))
abbrev Ck:Stmt:=top 25
theorem Yu:bU ["thing"] ["thing"] (aZ Ck):=by trivial
def Cm:MS :=
  (aM (jq (gO "int" (aa 0)) (uL (gO "bool" (aa 0)))))
def Cq:List D->aq->Res D:=bV 1 Cm
abbrev Lr(Pr:Program)(w:World)(K:Frag)(mg:Str->Option Value)(base:Heap):Prop:=Can Pr w K mg base "is_whole" ["thing"] 1 (vSp K mg [.s] (rV K) Cq)
theorem Yv(c:Def K mg "is_whole" Ck)
  (B:cg mg):
  Lr Pr w K mg base:=by
 refine dI (k:=0) (b:=Cm) c Yu (λ_ _ _ _ _ _=>bF λ_=>cC rfl) [.s] [] dh (λ_ _ _ _=>Rp.non) (body:=λf d A outer s H E h P=>?_);refine aL ?_;refine bD ?_;refine kZ ?_ ?_;refine bc (jJ "int" (hb:=Jl) B.isinstance_ B.int_ (aK 0));refine nW ?_;refine Iu ?_;refine bc (jJ "bool" (hb:=Jm) B.isinstance_ B.bool_ (aK 0))
abbrev Cu:Stmt:=top 26
theorem Yw:bU ["thing","least","greatest"] ["thing","least","greatest"] (aZ Cu):=by trivial
def Cv:MS :=
  (aM (jq (bz Cq (ao (aa 0) au)) (pI gLe gLe (aa 1) (aa 0) (aa 2))))
def vW:List D->aq->Res D:=bV 3 Cv
abbrev Ls(Pr:Program)(w:World)(K:Frag)(mg:Str->Option Value)(base:Heap):Prop:=Can Pr w K mg base "is_within" ["thing","least","greatest"] 2 (vSp K mg [.s,.s,.s] (rV K) vW)
theorem Yx(h:Def K mg "is_within" Cu)
  (B:cg mg)
  (d:Lr Pr w K mg base):
  Ls Pr w K mg base:=by
 refine dI (k:=1) (b:=Cv) h Yw (λ_ _ _ _ _ _=>bF λ_=>bF λ_=>bF λ_=>cC rfl) [.s,.s,.s] [] dh (λ_ _ _ _=>Rp.non) (body:=λf j A outer s H E c P=>?_);refine aL ?_;refine bD ?_;refine kZ ?_ ?_;refine dw d (c.mono (by decide)) ?_;refine aN (aK 0) aC;refine nW ?_;refine bc ?_;refine Io uO uO (aK 1) (aK 0) (aK 2)
abbrev Cz:Stmt:=inClass (top 29) 5
theorem Yy:bU ["self"] ["self"] (aZ Cz):=by trivial
def tX:MS :=
  (aA (d7 ["Maker"] "letters" (aa 0) (mMl (bx au)))
  (aA (d7 ["Maker"] "pair" (aa 0) (mC (.tup [.str [46],.str [46]])))
  (d7 ["Maker"] "stale" (aa 0) (mC (.bl false)))))
def lC:List D->aq->Res D:=bV 1 tX
abbrev CG(Pr:Program)(w:World)(K:Frag)(mg:Str->Option Value)(base:Heap):Prop:=gP Pr w K mg base "Maker" "begin_row" ["self"] 1 (vSp K mg [.v] (rV K) lC)
theorem Yz(l:jw K mg "Maker" "begin_row" "Maker.begin_row" Cz)
  (B:cg mg)
  (c:u9 K mg "PLAIN" [[46],[46]])
  (j:KC K mg "Maker" "letters")
  (h:KC K mg "Maker" "pair")
  (d:KC K mg "Maker" "stale"):
  CG Pr w K mg base:=by
 refine jQ (k:=0) (b:=tX) l Yy (λ_ _ _ _ _ _=>bF λ_=>cC rfl) [.v] [] dh (λ_ _ _ _=>Rp.non) (body:=λf m A outer s H E n P=>?_);refine aF ?_ ?_;refine fK (cF j cD) (az 0) ?_;refine pX (cI 0 aC);refine aF ?_ ?_;refine fK (cF h cD) (az 0) (JQ (ls:=[[46],[46]]) c);refine aL ?_;refine fK (cF d cD) (az 0) fZ
abbrev CK:Stmt:=inClass (top 29) 0
theorem YB:bU ["self","most"] ["self","most"] (aZ CK):=by trivial
def vX:MS :=
  (aA (aQ (eF (cW (bz vW (ao (aa 1) (ao (mC (.int 1)) (ao (mC (.int 200)) au)))))) pK aW)
  (aA (d7 ["Maker"] "most" (aa 0) (mG (aa 1)))
  (aA (d7 ["Maker"] "last_word" (aa 0) (mC (.str [119,104,111,108,101])))
  (nY (bN "Maker" "begin_row" lC (aa 0) au)))))
def tY:List D->aq->Res D:=bV 2 vX
abbrev CN(Pr:Program)(w:World)(K:Frag)(mg:Str->Option Value)(base:Heap):Prop:=sr Pr w K mg base "Maker" ["self","most"] 3 (vSp K mg [.v,.s] (rV K) tY)
theorem YC(n:uY K mg "Maker" "Maker.__init__" CK)
  (B:cg mg)
  (m:∃u,mg "GREATEST_MOST" = some u/\RelV (.int 200) u)
  (h:KC K mg "Maker" "most")
  (j:KC K mg "Maker" "last_word")
  (l:Ls Pr w K mg base)
  (d:CG Pr w K mg base):
  CN Pr w K mg base:=by
 refine JB (k:=2) (b:=vX) n YB (λ_ _ _ _ _ _=>bF λ_=>bF λ_=>cC rfl) [.v,.s] [] dh (λ_ _ _ _=>Rp.non) (body:=λf q A outer s H E c P=>?_);refine aF ?_ ?_;refine bH ?_ (aL xY) bK;refine jF ?_;refine gw ?_;refine aj ?_;refine dw l (c.mono (by decide)) ?_;refine aN (aK 1) ?_;refine aN (aj aD) ?_;refine aN ?_ aC;refine aj ?_;refine mQ m (λ_ _ _=>Rp.int);refine aF ?_ ?_;refine fK (cF h cD) (az 0) (eE (aK 1));refine aF ?_ ?_;refine fK (cF j cD) (az 0) (aJ [119,104,111,108,101]);refine aL ?_;refine uM ?_;refine aj (u0 d (c.mono (by decide)) (az 0))
abbrev CV:Stmt:=inClass (top 29) 8
theorem Lw:bU ["self","word","part"] ["self","word"] (aZ CV):=by trivial
def CW:MS :=
  (aA (aO 2 (bQ (ao (cJ ["Maker"] "letters" (aa 0)) (ao (mG (aa 1)) au))))
  (aA (d7 ["Maker"] "letters" (aa 0) (mMl (bx au)))
  (aA (d7 ["Maker"] "last_word" (aa 0) (mG (aa 1)))
  (aM (bx (ao (aa 2) au))))))
def lY:List D->aq->Res D:=bV 3 CW
abbrev vY(Pr:Program)(w:World)(K:Frag)(mg:Str->Option Value)(base:Heap):Prop:=gP Pr w K mg base "Maker" "tell" ["self","word"] 1 (vSp K mg [.v,.s] (rO K) lY)
theorem YD(h:jw K mg "Maker" "tell" "Maker.tell" CV)
  (B:cg mg)
  (c:KC K mg "Maker" "letters")
  (d:KC K mg "Maker" "last_word"):
  vY Pr w K mg base:=by
 refine jQ (k:=0) (b:=CW) h Lw (λ_ _ _ _ _ _=>bF λ_=>bF λ_=>cC rfl) [.v,.s] [.v] fc (λ_ _ _ _=>.inl ⟨rfl,Rp.non⟩) (body:=λf j A outer s H E l P=>?_);refine aF ?_ ?_;refine bZ (i:=2) Lw.nd rfl (.inl rfl) ?_;refine cQ 2 ?_;refine aG (gb (cF c cD) (az 0)) ?_;refine aG (eE (aK 1)) aC;refine aF ?_ ?_;refine fK (cF c cD) (az 0) ?_;refine pX (cI 0 aC);refine aF ?_ ?_;refine fK (cF d cD) (az 0) (eE (aK 1));refine aL ?_;refine nZ ?_;refine cI 1 ?_;refine aG (az 2) aC
abbrev Dc:Stmt:=inClass (top 29) 6
theorem YF:bU ["self"] ["self"] (aZ Dc):=by trivial
def vZ:MS :=
  (aQ (cW (cJ ["Maker"] "stale" (aa 0))) (aA (d7 ["Maker"] "letters" (aa 0) (mMl (bx au)))
  (d7 ["Maker"] "stale" (aa 0) (mC (.bl false)))) aW)
def oZ:List D->aq->Res D:=bV 1 vZ
abbrev Lx(Pr:Program)(w:World)(K:Frag)(mg:Str->Option Value)(base:Heap):Prop:=gP Pr w K mg base "Maker" "empty_stale" ["self"] 1 (vSp K mg [.v] (rV K) oZ)
theorem YG(h:jw K mg "Maker" "empty_stale" "Maker.empty_stale" Dc)
  (B:cg mg)
  (c:KC K mg "Maker" "stale")
  (d:KC K mg "Maker" "letters"):
  Lx Pr w K mg base:=by
 refine jQ (k:=0) (b:=vZ) h YF (λ_ _ _ _ _ _=>bF λ_=>cC rfl) [.v] [] dh (λ_ _ _ _=>Rp.non) (body:=λf j A outer s H E l P=>?_);refine aL ?_;refine bH ?_ ?_ bK;refine gw ?_;refine aj (gb (cF c cD) (az 0));refine aF ?_ ?_;refine fK (cF d cD) (az 0) ?_;refine pX (cI 0 aC);refine aL ?_;refine fK (cF c cD) (az 0) fZ
abbrev De:Stmt:=inClass (top 29) 7
theorem Dg:bU ["self","item","told"] ["self","item"] (aZ De):=by trivial
def qC:MS :=
  (aA (aO 2 (bx au))
  (aA (aQ (aH (ak gEq (bM bW (ao (cJ ["Maker"] "letters" (aa 0)) au)) (cJ ["Maker"] "most" (aa 0)))) (aO 2 (bN "Maker" "tell" lY (aa 0) (ao (mC (.str [109,111,114,101])) au))) aW)
  (aA (oA (cJ ["Maker"] "letters" (aa 0)) (bQ (ao (ak gIx (aa 1) (mC (.int 2))) (ao (ak gIx (cJ ["Maker"] "pair" (aa 0)) (mC (.int 0))) (ao (ak gIx (cJ ["Maker"] "pair" (aa 0)) (mC (.int 1))) (ao (ak gIx (aa 1) (mC (.int 0))) au))))))
  (aM (aa 2)))))
def tZ:List D->aq->Res D:=bV 3 qC
abbrev Ly(Pr:Program)(w:World)(K:Frag)(mg:Str->Option Value)(base:Heap):Prop:=gP Pr w K mg base "Maker" "add_letter" ["self","item"] 2 (vSp K mg [.v,.s] (rO K) tZ)
theorem YH(m:jw K mg "Maker" "add_letter" "Maker.add_letter" De)
  (B:cg mg)
  (j:KC K mg "Maker" "most")
  (h:KC K mg "Maker" "letters")
  (c:KC K mg "Maker" "pair")
  (l:vY Pr w K mg base):
  Ly Pr w K mg base:=by
 refine jQ (k:=1) (b:=qC) m Dg (λ_ _ _ _ _ _=>bF λ_=>bF λ_=>cC rfl) [.v,.s] [.o] fc (λ_ _ _ _=>.inl ⟨rfl,Rp.non⟩) (body:=λf n A outer s H E d P=>?_);refine aF ?_ ?_;refine gK (i:=2) Dg.nd rfl (.inl rfl) (cI 0 aC);refine aF ?_ ?_;refine bH ?_ ?_ bK;refine bB (bL d) ?_ ?_ (bw _);refine aP ?_;refine dR (ms:=[.s]) (hv:=dZ) dY B.len_ ?_;refine aN ?_ aC;refine aj (gb (cF h cD) (az 0));refine aj (gb (cF j cD) (az 0));refine aL ?_;refine gK (i:=2) Dg.nd rfl (.inl rfl) ?_;refine lR l (d.mono (by decide)) (az 0) ?_;refine aN (aj (aJ [109,111,114,101])) aC
 refine aF ?_ (aL (lM 2));refine JP (gb (cF h cD) (az 0)) ?_;refine cQ 4 ?_;refine aG ?_ ?_;refine bA (aK 1) (aj aD);refine aG ?_ ?_;refine bA ?_ (aj aD);refine aj (gb (cF c cD) (az 0));refine aG ?_ ?_;refine bA ?_ (aj aD);refine aj (gb (cF c cD) (az 0));refine aG ?_ aC;refine bA (aK 1) (aj aD)
abbrev Di:Stmt:=inClass (top 29) 1
theorem t7:bU ["self","item","kind","told"] ["self","item"] (aZ Di):=by trivial
def lD:MS :=
  (aA (aO 2 (ak gIx (aa 1) (mC (.int 1))))
  (aA (aO 3 (bx au))
  (aA (aQ (aH (ak gEq (aa 2) (mC (.str [101,110,100])))) (aA (aO 3 (bN "Maker" "tell" lY (aa 0) (ao (mC (.str [119,104,111,108,101])) au)))
  (d7 ["Maker"] "stale" (aa 0) (mC (.bl false)))) (aQ (aH (ak gEq (aa 2) (mC (.str [97,110,101,119])))) (d7 ["Maker"] "stale" (aa 0) (mC (.bl true))) (nY (bN "Maker" "empty_stale" oZ (aa 0) au))))
  (aA (aQ (aH (ak gEq (aa 2) (mC (.str [115,105,103,110])))) (aO 3 (bN "Maker" "add_letter" tZ (aa 0) (ao (aa 1) au))) aW)
  (aA (d7 ["Maker"] "pair" (aa 0) (bz tW (ao (cJ ["Maker"] "pair" (aa 0)) (ao (aa 2) (ao (ak gIx (aa 1) (mC (.int 2))) au)))))
  (aM (aa 3)))))))
def j9:List D->aq->Res D:=bV 4 lD
abbrev Dj(Pr:Program)(w:World)(K:Frag)(mg:Str->Option Value)(base:Heap):Prop:=gP Pr w K mg base "Maker" "put" ["self","item"] 3 (vSp K mg [.v,.s] (rO K) j9)
theorem YJ(q:jw K mg "Maker" "put" "Maker.put" Di)
  (B:cg mg)
  (h:KC K mg "Maker" "pair")
  (d:KC K mg "Maker" "stale")
  (j:vY Pr w K mg base)
  (n:Lx Pr w K mg base)
  (m:Ly Pr w K mg base)
  (l:Lq Pr w K mg base):
  Dj Pr w K mg base:=by
 refine jQ (k:=2) (b:=lD) q t7 (λ_ _ _ _ _ _=>bF λ_=>bF λ_=>cC rfl) [.v,.s] [.v,.o] fc (λ_ _ _ _=>.inl ⟨rfl,Rp.non⟩) (body:=λf r A outer s H E c P=>?_);refine aF ?_ ?_;refine bZ (i:=2) t7.nd rfl (.inl rfl) ?_;refine bA (aK 1) (aj aD);refine aF ?_ ?_;refine gK (i:=3) t7.nd rfl (.inl rfl) (cI 0 aC);refine aF ?_ ?_;refine bH ?_ ?_ ?_;refine bB (bL c) (aj (az 2)) (aj (aJ [101,110,100])) (bw _);refine aF ?_ ?_;refine gK (i:=3) t7.nd rfl (.inl rfl) ?_;refine lR j (c.mono (by decide)) (az 0) ?_;refine aN (aj (aJ [119,104,111,108,101])) aC
 refine aL ?_;refine fK (cF d cD) (az 0) fZ;refine aL ?_;refine bH ?_ ?_ ?_;refine bB (bL c) (aj (az 2)) (aj (aJ [97,110,101,119])) (bw _);refine aL ?_;refine fK (cF d cD) (az 0) fZ;refine aL ?_;refine uM ?_;refine aj (u0 n (c.mono (by decide)) (az 0));refine aF ?_ ?_;refine bH ?_ ?_ bK;refine bB (bL c) (aj (az 2)) (aj (aJ [115,105,103,110])) (bw _);refine aL ?_;refine gK (i:=3) t7.nd rfl (.inl rfl) ?_;refine lR m (c.mono (by decide)) (az 0) ?_;refine aN (aK 1) aC;refine aF ?_ (aL (lM 3));refine fK (cF h cD) (az 0) ?_;refine dw l (c.mono (by decide)) ?_
 refine aN ?_ ?_;refine aj (gb (cF h cD) (az 0));refine aN (aj (az 2)) ?_;refine aN ?_ aC;refine aj ?_;refine bA (aK 1) (aj aD)
abbrev Do:Stmt:=inClass (top 29) 2
theorem YK:bU ["self"] ["self"] (aZ Do):=by trivial
def Dp:MS :=
  (aM (bM uP (ao (cJ ["Maker"] "letters" (aa 0)) au)))
def mj:List D->aq->Res D:=bV 1 Dp
abbrev Dq(Pr:Program)(w:World)(K:Frag)(mg:Str->Option Value)(base:Heap):Prop:=gP Pr w K mg base "Maker" "open_letters" ["self"] 1 (vSp K mg [.v] (rO K) mj)
theorem YL(d:jw K mg "Maker" "open_letters" "Maker.open_letters" Do)
  (B:cg mg)
  (c:KC K mg "Maker" "letters"):
  Dq Pr w K mg base:=by
 refine jQ (k:=0) (b:=Dp) d YK (λ_ _ _ _ _ _=>bF λ_=>cC rfl) [.v] [] fc (λ_ _ _ _=>.inl ⟨rfl,Rp.non⟩) (body:=λf h A outer s H E j P=>?_);refine aL ?_;refine nZ ?_;refine Vi (ms:=[.s]) (hv:=yq) Vl B.list_ ?_;refine aN ?_ aC;refine aj (gb (cF c cD) (az 0))
abbrev Dt:Stmt:=inClass (top 29) 3
theorem YM:bU ["self"] ["self"] (aZ Dt):=by trivial
def Dv:MS :=
  (aM (ak gEq (cJ ["Maker"] "last_word" (aa 0)) (mC (.str [109,111,114,101]))))
def qD:List D->aq->Res D:=bV 1 Dv
abbrev Lz(Pr:Program)(w:World)(K:Frag)(mg:Str->Option Value)(base:Heap):Prop:=gP Pr w K mg base "Maker" "going_on" ["self"] 1 (vSp K mg [.v] (rV K) qD)
theorem YQ(h:jw K mg "Maker" "going_on" "Maker.going_on" Dt)
  (B:cg mg)
  (c:KC K mg "Maker" "last_word"):
  Lz Pr w K mg base:=by
 refine jQ (k:=0) (b:=Dv) h YM (λ_ _ _ _ _ _=>bF λ_=>cC rfl) [.v] [] dh (λ_ _ _ _=>Rp.non) (body:=λf j A outer s H E d P=>?_);refine aL ?_;refine bD ?_;refine bc ?_;refine mR (bL d) ?_ (aj (aJ [109,111,114,101])) (bw _);refine aj (gb (cF c cD) (az 0))
abbrev Dy:Stmt:=inClass (top 29) 4
theorem Dz:bU ["self","told"] ["self"] (aZ Dy):=by trivial
def qF:MS :=
  (aA (aO 1 (bx au))
  (aA (aQ (cU (aH (ak gGt (bM bW (ao (cJ ["Maker"] "letters" (aa 0)) au)) (mC (.int 0)))) (cW (bN "Maker" "going_on" qD (aa 0) au))) (aO 1 (bN "Maker" "tell" lY (aa 0) (ao (mC (.str [119,104,111,108,101])) au))) aW)
  (aA (nY (bN "Maker" "begin_row" lC (aa 0) au))
  (aM (aa 1)))))
def t8:List D->aq->Res D:=bV 2 qF
abbrev LC(Pr:Program)(w:World)(K:Frag)(mg:Str->Option Value)(base:Heap):Prop:=gP Pr w K mg base "Maker" "finish" ["self"] 2 (vSp K mg [.v] (rO K) t8)
theorem YS(m:jw K mg "Maker" "finish" "Maker.finish" Dy)
  (B:cg mg)
  (j:KC K mg "Maker" "letters")
  (l:Lz Pr w K mg base)
  (h:vY Pr w K mg base)
  (d:CG Pr w K mg base):
  LC Pr w K mg base:=by
 refine jQ (k:=1) (b:=qF) m Dz (λ_ _ _ _ _ _=>bF λ_=>cC rfl) [.v] [.o] fc (λ_ _ _ _=>.inl ⟨rfl,Rp.non⟩) (body:=λf n A outer s H E c P=>?_);refine aF ?_ ?_;refine gK (i:=1) Dz.nd rfl (.inl rfl) (cI 0 aC);refine aF ?_ ?_;refine bH ?_ ?_ bK;refine gJ ?_;refine ie ?_ ?_;refine bB yo ?_ (aj aD) (bw _);refine aP ?_;refine dR (ms:=[.s]) (hv:=dZ) dY B.len_ ?_;refine aN ?_ aC;refine aj (gb (cF j cD) (az 0));refine jE ?_;refine gw ?_;refine aj (u0 l (c.mono (by decide)) (az 0));refine aL ?_;refine gK (i:=1) Dz.nd rfl (.inl rfl) ?_;refine lR h (c.mono (by decide)) (az 0) ?_
 refine aN (aj (aJ [119,104,111,108,101])) aC;refine aF ?_ (aL (lM 1));refine uM ?_;refine aj (u0 d (c.mono (by decide)) (az 0))
abbrev DN:Stmt:=top 30
theorem v7:bU ["text","most","maker","parts","item"] ["text","most"] (aZ DN):=by trivial
def v8:MS :=
  (aA (aO 2 (jR "Maker" tY (ao (aa 1) au)))
  (aA (aO 3 (bx au))
  (aA (eG (d8 (bz vV (ao (aa 0) au))) (mgN 4) (ju 3 (bN "Maker" "put" j9 (aa 2) (ao (aa 4) au))))
  (sG (aM (bQ (ao (aa 3) (ao (mMl (bN "Maker" "open_letters" mj (aa 2) au)) au))))))))
def v9:List D->aq->Res D:=bV 5 v8
abbrev LK(Pr:Program)(w:World)(K:Frag)(mg:Str->Option Value)(base:Heap):Prop:=Can Pr w K mg base "rows_of" ["text","most"] 6 (vSp K mg [.s,.s] (rV K) v9)
theorem YT(m:Def K mg "rows_of" DN)
  (B:cg mg)
  (j:CN Pr w K mg base)
  (l:Lp Pr w K mg base)
  (h:Dj Pr w K mg base)
  (d:Dq Pr w K mg base):
  LK Pr w K mg base:=by
 refine dI (k:=5) (b:=v8) m v7 (λ_ _ _ _ _ _=>bF λ_=>bF λ_=>cC rfl) [.s,.s] [.v,.o,.v] dh (λ_ _ _ _=>Rp.non) (body:=λf n A outer s H E c P=>?_);refine aF ?_ ?_;refine bZ (i:=2) v7.nd rfl (.inl rfl) ?_;refine JG j (c.mono (by decide)) ?_;refine aN (aK 1) aC;refine aF ?_ ?_;refine gK (i:=3) v7.nd rfl (.inl rfl) (cI 0 aC);refine aF ?_ ?_;refine jG rfl ?_ (cX (i:=4) v7.nd rfl (.inl rfl)) ?_;refine pU ?_;refine pR ?_;refine bc ?_;refine mZ l (c.mono (by decide)) ?_;refine aN (aK 0) aC;refine aL ?_;refine Jy 3 ?_;refine aP ?_;refine lR h (c.mono (by decide)) (az 2) ?_
 refine aN (aj (az 4)) aC;refine aL ?_;refine V7 3 rfl ?_;refine bD ?_;refine cQ 2 ?_;refine aG (az 3) ?_;refine aG ?_ aC;refine pX (sE d (c.mono (by decide)) (az 2))
abbrev DR:Stmt:=top 32
theorem YW:bU ["_law_script","_law_k"] ["_law_script","_law_k"] (aZ DR):=by trivial
def wg:MS :=
  (aA (aQ (aH (ak gLt (aa 1) (bM bW (ao (aa 0) au)))) (aM (ak gIx (aa 0) (aa 1))) aW)
  (aM (mC (.int 0))))
def qJ:List D->aq->Res D:=bV 2 wg
abbrev LQ(Pr:Program)(w:World)(K:Frag)(mg:Str->Option Value)(base:Heap):Prop:=Can Pr w K mg base "_law_cell" ["_law_script","_law_k"] 1 (vSp K mg [.s,.s] (rV K) qJ)
theorem YX(c:Def K mg "_law_cell" DR)
  (B:cg mg):
  LQ Pr w K mg base:=by
 refine dI (k:=0) (b:=wg) c YW (λ_ _ _ _ _ _=>bF λ_=>bF λ_=>cC rfl) [.s,.s] [] dh (λ_ _ _ _=>Rp.non) (body:=λf d A outer s H E h P=>?_);refine aF ?_ ?_;refine bH ?_ ?_ bK;refine bB ym (aK 1) ?_ (bw _);refine aP ?_;refine dR (ms:=[.s]) (hv:=dZ) dY B.len_ ?_;refine aN (aK 0) aC;refine aL ?_;refine bD ?_;refine bA (aK 0) (aK 1);refine aL (bD aD)
abbrev DX:Stmt:=top 33
theorem o7:bU ["_law_cell_here","_law_k","_law_rest","_law_turn","_law_number"] ["_law_cell_here","_law_k"] (aZ DX):=by trivial
def LR:MS :=
  (aA (aQ (aH (ak gGt (aa 0) (ak lg (mC (.int 10)) (mC (.int 18))))) (aA (aO 2 (mG (aa 0)))
  (aA (eG (jt (ao (aa 1) au)) (mgN 3) (aO 2 (ak jP (aa 2) (ak lg (mC (.int 10)) (mC (.int 9))))))
  (aM (ak dq (aa 2) (ak lg (mC (.int 10)) (mC (.int 9))))))) aW)
  (aA (aO 4 (ak aX (ak dq (aa 0) (mC (.int 2147483647))) (mC (.int 7919))))
  (aA (eG (jt (ao (ak aX (aa 1) (mC (.int 2))) au)) (mgN 3) (aO 4 (ak dq (ak aX (ak fH (aa 4) (mC (.int 48271))) (mC (.int 104729))) (mC (.int 2147483629)))))
  (aM (ak jP (ak dq (ak fH (aa 4) (aa 4)) (mC (.int 998244353))) (mC (.int 11)))))))
def mq:List D->aq->Res D:=bV 5 LR
abbrev wj(Pr:Program)(w:World)(K:Frag)(mg:Str->Option Value)(base:Heap):Prop:=Can Pr w K mg base "_law_mix" ["_law_cell_here","_law_k"] 1 (vSp K mg [.s,.s] (rV K) mq)
theorem YZ(c:Def K mg "_law_mix" DX)
  (B:cg mg):
  wj Pr w K mg base:=by
 refine dI (k:=0) (b:=LR) c o7 (λ_ _ _ _ _ _=>bF λ_=>bF λ_=>cC rfl) [.s,.s] [.v,.v,.v] dh (λ_ _ _ _=>Rp.non) (body:=λf d A outer s H E h P=>?_);refine aF ?_ ?_;refine bH ?_ ?_ bK;refine bB yo (aK 0) ?_ (bw _);refine aP ?_;refine bu yj (aj aD) (aj aD);refine aF ?_ ?_;refine bZ (i:=2) o7.nd rfl (.inl rfl) (eE (aK 0));refine aF ?_ ?_;refine jG rfl ?_ (cX (i:=3) o7.nd rfl (.inl rfl)) ?_;refine uT B.range_ ?_;refine aN (aK 1) aC;refine aL ?_;refine bZ (i:=2) o7.nd rfl (.inl rfl) ?_;refine bc ?_;refine bu yh (aj (az 2)) ?_;refine aP ?_;refine bu yj (aj aD) (aj aD)
 refine aL ?_;refine bD ?_;refine bc ?_;refine bu ir (aj (az 2)) ?_;refine aP ?_;refine bu yj (aj aD) (aj aD);refine aF ?_ ?_;refine bZ (i:=4) o7.nd rfl (.inl rfl) ?_;refine bc ?_;refine bu b7 ?_ (aj aD);refine aP ?_;refine bu ir (aK 0) (aj aD);refine aF ?_ ?_;refine jG rfl ?_ (cX (i:=3) o7.nd rfl (.inl rfl)) ?_;refine uT B.range_ ?_;refine aN ?_ aC;refine aP ?_;refine bu b7 (aK 1) (aj aD);refine aL ?_;refine bZ (i:=4) o7.nd rfl (.inl rfl) ?_;refine bc ?_;refine bu ir ?_ (aj aD);refine aP ?_;refine bu b7 ?_ (aj aD);refine aP ?_;refine bu rQ (aj (az 4)) (aj aD)
 refine aL ?_;refine bD ?_;refine bc ?_;refine bu yh ?_ (aj aD);refine aP ?_;refine bu ir ?_ (aj aD);refine aP ?_;refine bu rQ (aj (az 4)) (aj (az 4))
abbrev Ea:Stmt:=top 34
theorem Ma:bU ["_law_some"] [] (aZ Ea):=by trivial
def Mf:MS :=
  (aA (aO 0 (mC (.str [32,33,34,35,36,38,39,40,41,42,43,44,45,46,47,48,49,50,51,52,53,54,55,56,57,58,59,60,61,62,63,64,65,66,67,68,69,70,71,72,73,74,75,76,77,78,79,80,81,82,83,84,85,86,87,88,89,90])))
  (aM (ak aX (aa 0) (mC (.str [91,92,93,94,95,96,97,98,99,100,101,102,103,104,105,106,107,108,109,110,111,112,113,114,115,116,117,118,119,120,121,122,123,124,125])))))
def wk:List D->aq->Res D:=bV 1 Mf
abbrev Mi(Pr:Program)(w:World)(K:Frag)(mg:Str->Option Value)(base:Heap):Prop:=Can Pr w K mg base "_law_signs" [] 1 (vSp K mg [] (rV K) wk)
theorem Y0(c:Def K mg "_law_signs" Ea)
  (B:cg mg):
  Mi Pr w K mg base:=by
 refine dI (k:=0) (b:=Mf) c Ma (λ_ _ _ _ _ _=>cC rfl) [] [.v] dh (λ_ _ _ _=>Rp.non) (body:=λf d A outer s H E h P=>?_);refine aF (bZ (i:=0) Ma.nd rfl (.inl rfl) (aJ [32,33,34,35,36,38,39,40,41,42,43,44,45,46,47,48,49,50,51,52,53,54,55,56,57,58,59,60,61,62,63,64,65,66,67,68,69,70,71,72,73,74,75,76,77,78,79,80,81,82,83,84,85,86,87,88,89,90])) ?_;refine aL ?_;refine bD ?_;refine bc ?_;refine bu b7 (aj (az 0)) (aj (aJ [91,92,93,94,95,96,97,98,99,100,101,102,103,104,105,106,107,108,109,110,111,112,113,114,115,116,117,118,119,120,121,122,123,124,125]))
abbrev Ec:Stmt:=top 35
theorem qK:bU ["_law_cell_here","_law_colour","_law_way","_law_pick","_law_odd"] ["_law_cell_here"] (aZ Ec):=by trivial
def Mj:MS :=
  (aA (aO 1 (ak gIx (mC (.str [97,98,99,100,101,102,103,104,46])) (ak dq (bz mq (ao (aa 0) (ao (mC (.int 2)) au))) (mC (.int 9)))))
  (aA (aO 2 (ak dq (bz mq (ao (aa 0) (ao (mC (.int 0)) au))) (mC (.int 12))))
  (aA (aO 3 (bz mq (ao (aa 0) (ao (mC (.int 1)) au))))
  (aA (aO 4 (bx (ao (mC (.str [91])) (ao (mC (.str [91,47])) (ao (ak aX (mC (.str [91])) (aa 1)) (ao (ak aX (mC (.str [91,47])) (aa 1)) (ao (mC (.str [91,105,93])) (ao (mC (.str [91,47,93])) (ao (ak aX (ak aX (ak aX (mC (.str [91])) (aa 1)) (aa 1)) (mC (.str [93]))) (ao (mC (.str [91,65,93])) (ao (mC (.str [91,47,105,93])) (ao (mC (.str [91,91,91])) au))))))))))))
  (aA (aO 4 (ak aX (aa 4) (bx (ao (mC (.str [91,47,91])) (ao (ak aX (ak aX (mC (.str [91])) (aa 1)) (mC (.str [91]))) (ao (ak aX (ak aX (mC (.str [91,47])) (aa 1)) (mC (.str [47,93]))) (ao (ak aX (ak aX (mC (.str [91,47,47])) (aa 1)) (mC (.str [93]))) (ao (ak aX (ak aX (mC (.str [91])) (aa 1)) (mC (.str [10]))) (ao (mC (.str [93])) (ao (mC (.str [47])) au))))))))))
  (aA (iQ 4 (ak aX (ak aX (mC (.str [91,47])) (aa 1)) (mC (.str [9,93]))))
  (aA (aQ (aH (ak gLt (aa 2) (mC (.int 3)))) (aM (ak gIx (bz wk au) (ak dq (aa 3) (mC (.int 93))))) aW)
  (aA (aQ (aH (ak gEq (aa 2) (mC (.int 3)))) (aM (ak gIx (mC (.str [32,65,66,90])) (ak dq (aa 3) (mC (.int 4))))) aW)
  (aA (aQ (aH (ak gEq (aa 2) (mC (.int 4)))) (aM (ak aX (ak aX (mC (.str [91])) (aa 1)) (mC (.str [93])))) aW)
  (aA (aQ (aH (ak gEq (aa 2) (mC (.int 5)))) (aM (ak aX (ak aX (mC (.str [91,47])) (aa 1)) (mC (.str [93])))) aW)
  (aA (aQ (aH (ak gEq (aa 2) (mC (.int 6)))) (aM (ak gIx (bx (ao (mC (.str [91,93])) (ao (mC (.str [91,91])) (ao (mC (.str [91,93,93])) (ao (mC (.str [91,91,93])) au))))) (ak dq (aa 3) (mC (.int 4))))) aW)
  (aA (aQ (aH (ak gEq (aa 2) (mC (.int 9)))) (aM (ak gIx (bx (ao (mC (.str [10])) (ao (mC (.str [9])) (ao (mC (.str [10])) au)))) (ak dq (aa 3) (mC (.int 3))))) aW)
  (aA (aQ (aH (ak gEq (aa 2) (mC (.int 10)))) (aM (aa 1)) aW)
  (aA (aQ (aH (ak gEq (aa 2) (mC (.int 11)))) (aM (mSl (mC (.str [111,117,116,119,101,97,118,101,115])) moN (moS (ak aX (mC (.int 2)) (ak dq (aa 3) (mC (.int 8))))))) aW)
  (aM (ak gIx (aa 4) (ak dq (aa 3) (mC (.int 18)))))))))))))))))))
def nA:List D->aq->Res D:=bV 5 Mj
abbrev Ml(Pr:Program)(w:World)(K:Frag)(mg:Str->Option Value)(base:Heap):Prop:=Can Pr w K mg base "_law_token" ["_law_cell_here"] 2 (vSp K mg [.s] (rV K) nA)
theorem Y4(j:Def K mg "_law_token" Ec)
  (B:cg mg)
  (d:wj Pr w K mg base)
  (h:Mi Pr w K mg base):
  Ml Pr w K mg base:=by
 refine dI (k:=1) (b:=Mj) j qK (λ_ _ _ _ _ _=>bF λ_=>cC rfl) [.s] [.v,.v,.v,.o] dh (λ_ _ _ _=>Rp.non) (body:=λf l A outer s H E c P=>?_);refine aF ?_ ?_;refine bZ (i:=1) qK.nd rfl (.inl rfl) ?_;refine bA (aj (aJ [97,98,99,100,101,102,103,104,46])) ?_;refine aP ?_;refine bu ir ?_ (aj aD);refine aj ?_;refine dw d (c.mono (by decide)) ?_;refine aN (aK 0) ?_;refine aN (aj aD) aC;refine aF ?_ ?_;refine bZ (i:=2) qK.nd rfl (.inl rfl) ?_;refine bc ?_;refine bu ir ?_ (aj aD);refine aj ?_;refine dw d (c.mono (by decide)) ?_;refine aN (aK 0) ?_
 refine aN (aj aD) aC;refine aF ?_ ?_;refine bZ (i:=3) qK.nd rfl (.inl rfl) ?_;refine dw d (c.mono (by decide)) ?_;refine aN (aK 0) ?_;refine aN (aj aD) aC;refine aF ?_ ?_;refine gK (i:=4) qK.nd rfl (.inl rfl) ?_;refine cI 10 ?_;refine aG (aJ [91]) ?_;refine aG (aJ [91,47]) ?_;refine aG ?_ ?_;refine bc ?_;refine bu b7 (aj (aJ [91])) (aj (az 1));refine aG ?_ ?_;refine bc ?_;refine bu b7 (aj (aJ [91,47])) (aj (az 1));refine aG (aJ [91,105,93]) ?_;refine aG (aJ [91,47,93]) ?_;refine aG ?_ ?_;refine bc ?_;refine bu b7 ?_ (aj (aJ [93]));refine aP ?_
 refine bu b7 ?_ (aj (az 1));refine aP ?_;refine bu b7 (aj (aJ [91])) (aj (az 1));refine aG (aJ [91,65,93]) ?_;refine aG (aJ [91,47,105,93]) ?_;refine aG (aJ [91,91,91]) aC;refine aF ?_ ?_;refine gK (i:=4) qK.nd rfl (.inl rfl) ?_;refine bu b7 (aK 4) ?_;refine aP ?_;refine cI 7 ?_;refine aG (aJ [91,47,91]) ?_;refine aG ?_ ?_;refine bc ?_;refine bu b7 ?_ (aj (aJ [91]));refine aP ?_;refine bu b7 (aj (aJ [91])) (aj (az 1));refine aG ?_ ?_;refine bc ?_;refine bu b7 ?_ (aj (aJ [47,93]));refine aP ?_;refine bu b7 (aj (aJ [91,47])) (aj (az 1));refine aG ?_ ?_
 refine bc ?_;refine bu b7 ?_ (aj (aJ [93]));refine aP ?_;refine bu b7 (aj (aJ [91,47,47])) (aj (az 1));refine aG ?_ ?_;refine bc ?_;refine bu b7 ?_ (aj (aJ [10]));refine aP ?_;refine bu b7 (aj (aJ [91])) (aj (az 1));refine aG (aJ [93]) ?_;refine aG (aJ [47]) aC;refine aF ?_ ?_;refine rZ 4 ?_;refine bc ?_;refine bu b7 ?_ (aj (aJ [9,93]));refine aP ?_;refine bu b7 (aj (aJ [91,47])) (aj (az 1));refine aF ?_ ?_;refine bH ?_ ?_ bK;refine bB ym (aj (az 2)) (aj aD) (bw _);refine aL ?_;refine bD ?_;refine bA (aj (V1 h (c.mono (by decide)))) ?_
 refine aP ?_;refine bu ir (aj (az 3)) (aj aD);refine aF ?_ ?_;refine bH ?_ ?_ bK;refine bB (bL c) (aj (az 2)) (aj aD) (bw _);refine aL ?_;refine bD ?_;refine bA (aj (aJ [32,65,66,90])) ?_;refine aP ?_;refine bu ir (aj (az 3)) (aj aD);refine aF ?_ ?_;refine bH ?_ ?_ bK;refine bB (bL c) (aj (az 2)) (aj aD) (bw _);refine aL ?_;refine bD ?_;refine bc ?_;refine bu b7 ?_ (aj (aJ [93]));refine aP ?_;refine bu b7 (aj (aJ [91])) (aj (az 1));refine aF ?_ ?_;refine bH ?_ ?_ bK;refine bB (bL c) (aj (az 2)) (aj aD) (bw _);refine aL ?_;refine bD ?_
 refine bc ?_;refine bu b7 ?_ (aj (aJ [93]));refine aP ?_;refine bu b7 (aj (aJ [91,47])) (aj (az 1));refine aF ?_ ?_;refine bH ?_ ?_ bK;refine bB (bL c) (aj (az 2)) (aj aD) (bw _);refine aL ?_;refine bD ?_;refine bA ?_ ?_;refine aP ?_;refine cI 4 ?_;refine aG (aJ [91,93]) ?_;refine aG (aJ [91,91]) ?_;refine aG (aJ [91,93,93]) ?_;refine aG (aJ [91,91,93]) aC;refine aP ?_;refine bu ir (aj (az 3)) (aj aD);refine aF ?_ ?_;refine bH ?_ ?_ bK;refine bB (bL c) (aj (az 2)) (aj aD) (bw _);refine aL ?_;refine bD ?_;refine bA ?_ ?_;refine aP ?_;refine cI 3 ?_
 refine aG (aJ [10]) ?_;refine aG (aJ [9]) ?_;refine aG (aJ [10]) aC;refine aP ?_;refine bu ir (aj (az 3)) (aj aD);refine aF ?_ ?_;refine bH ?_ ?_ bK;refine bB (bL c) (aj (az 2)) (aj aD) (bw _);refine aL (bD (az 1));refine aF ?_ ?_;refine bH ?_ ?_ bK;refine bB (bL c) (aj (az 2)) (aj aD) (bw _);refine aL ?_;refine bD ?_;refine bc ?_;refine jH (aj (aJ [111,117,116,119,101,97,118,101,115])) lz ?_;refine iM ?_;refine bc ?_;refine bu b7 (aj aD) ?_;refine aP ?_;refine bu ir (aj (az 3)) (aj aD);refine aL ?_;refine bD ?_;refine bA (aK 4) ?_
 refine aP ?_;refine bu ir (aj (az 3)) (aj aD)
abbrev Eg:Stmt:=top 36
theorem Eh:bU ["_law_text","_law_at","_law_colours","_law_here"] ["_law_text","_law_at"] (aZ Eg):=by trivial
def Ei:MS :=
  (aA (aO 2 (mC (.str [97,98,99,100,101,102,103,104,46])))
  (aA (aO 3 (mSl (aa 0) (moS (mG (aa 1))) (moS (ak aX (aa 1) (mC (.int 4))))))
  (aA (aQ (aH (ak gEq (ak gIx (aa 3) (mC (.int 0))) (mC (.str [10])))) (aM (bQ (ao (bQ (ao (mG (aa 1)) (ao (mC (.str [101,110,100])) (ao (mC (.str [])) au)))) (ao (mC (.int 1)) au)))) aW)
  (aA (aQ (aH (ak gEq (ak gIx (aa 3) (mC (.int 0))) (mC (.str [9])))) (aM (bQ (ao (bQ (ao (mG (aa 1)) (ao (mC (.str [97,110,101,119])) (ao (mC (.str [])) au)))) (ao (mC (.int 1)) au)))) aW)
  (aA (aQ (aH (ak gEq (mSl (aa 3) moN (moS (mC (.int 2)))) (mC (.str [91,93])))) (aM (bQ (ao (bQ (ao (mG (aa 1)) (ao (mC (.str [112,108,97,105,110])) (ao (mC (.str [])) au)))) (ao (mC (.int 2)) au)))) aW)
  (aA (aQ (aH (ak gEq (mSl (aa 3) moN (moS (mC (.int 2)))) (mC (.str [91,91])))) (aM (bQ (ao (bQ (ao (mG (aa 1)) (ao (mC (.str [115,105,103,110])) (ao (mC (.str [91])) au)))) (ao (mC (.int 2)) au)))) aW)
  (aA (aQ (gH (aH (ak gGt (bM bW (ao (aa 3) au)) (mC (.int 2)))) (gH (aH (ak gEq (ak gIx (aa 3) (mC (.int 0))) (mC (.str [91])))) (gH (aH (ak (gIn false) (ak gIx (aa 3) (mC (.int 1))) (aa 2))) (aH (ak gEq (ak gIx (aa 3) (mC (.int 2))) (mC (.str [93]))))))) (aM (bQ (ao (bQ (ao (mG (aa 1)) (ao (mC (.str [105,110,107])) (ao (ak gIx (aa 3) (mC (.int 1))) au)))) (ao (mC (.int 3)) au)))) aW)
  (aA (aQ (gH (aH (ak gEq (bM bW (ao (aa 3) au)) (mC (.int 4)))) (gH (aH (ak gEq (mSl (aa 3) moN (moS (mC (.int 2)))) (mC (.str [91,47])))) (gH (aH (ak (gIn false) (ak gIx (aa 3) (mC (.int 2))) (aa 2))) (aH (ak gEq (ak gIx (aa 3) (mC (.int 3))) (mC (.str [93]))))))) (aM (bQ (ao (bQ (ao (mG (aa 1)) (ao (mC (.str [103,114,111,117,110,100])) (ao (ak gIx (aa 3) (mC (.int 2))) au)))) (ao (mC (.int 4)) au)))) aW)
  (aM (bQ (ao (bQ (ao (mG (aa 1)) (ao (mC (.str [115,105,103,110])) (ao (ak gIx (aa 3) (mC (.int 0))) au)))) (ao (mC (.int 1)) au))))))))))))
def uc:List D->aq->Res D:=bV 4 Ei
abbrev Mm(Pr:Program)(w:World)(K:Frag)(mg:Str->Option Value)(base:Heap):Prop:=Can Pr w K mg base "_law_item" ["_law_text","_law_at"] 1 (vSp K mg [.s,.s] (rV K) uc)
theorem Y5(d:Def K mg "_law_item" Eg)
  (B:cg mg):
  Mm Pr w K mg base:=by
 refine dI (k:=0) (b:=Ei) d Eh (λ_ _ _ _ _ _=>bF λ_=>bF λ_=>cC rfl) [.s,.s] [.v,.v] dh (λ_ _ _ _=>Rp.non) (body:=λf h A outer s H E c P=>?_);refine aF (bZ (i:=2) Eh.nd rfl (.inl rfl) (aJ [97,98,99,100,101,102,103,104,46])) ?_;refine aF ?_ ?_;refine bZ (i:=3) Eh.nd rfl (.inl rfl) ?_;refine bc ?_;refine jH (aK 0) ?_ ?_;refine iM (eE (aK 1));refine iM ?_;refine bc ?_;refine bu b7 (aK 1) (aj aD);refine aF ?_ ?_;refine bH ?_ ?_ bK;refine bB (bL c) ?_ (aj (aJ [10])) (bw _);refine aj ?_;refine bA (aj (az 3)) (aj aD);refine aL ?_;refine bD ?_
 refine cQ 2 ?_;refine aG ?_ ?_;refine cQ 3 ?_;refine aG (eE (aK 1)) ?_;refine aG (aJ [101,110,100]) ?_;refine aG (aJ []) aC;refine aG aD aC;refine aF ?_ ?_;refine bH ?_ ?_ bK;refine bB (bL c) ?_ (aj (aJ [9])) (bw _);refine aj ?_;refine bA (aj (az 3)) (aj aD);refine aL ?_;refine bD ?_;refine cQ 2 ?_;refine aG ?_ ?_;refine cQ 3 ?_;refine aG (eE (aK 1)) ?_;refine aG (aJ [97,110,101,119]) ?_;refine aG (aJ []) aC;refine aG aD aC;refine aF ?_ ?_;refine bH ?_ ?_ bK;refine bB (bL c) ?_ (aj (aJ [91,93])) (bw _);refine aP ?_;refine jH (aj (az 3)) lz (iM aD)
 refine aL ?_;refine bD ?_;refine cQ 2 ?_;refine aG ?_ ?_;refine cQ 3 ?_;refine aG (eE (aK 1)) ?_;refine aG (aJ [112,108,97,105,110]) ?_;refine aG (aJ []) aC;refine aG aD aC;refine aF ?_ ?_;refine bH ?_ ?_ bK;refine bB (bL c) ?_ (aj (aJ [91,91])) (bw _);refine aP ?_;refine jH (aj (az 3)) lz (iM aD);refine aL ?_;refine bD ?_;refine cQ 2 ?_;refine aG ?_ ?_;refine cQ 3 ?_;refine aG (eE (aK 1)) ?_;refine aG (aJ [115,105,103,110]) ?_;refine aG (aJ [91]) aC;refine aG aD aC;refine aF ?_ ?_;refine bH ?_ ?_ bK;refine gJ ?_;refine iZ ?_ ?_;refine bB yo ?_ (aj aD) (bw _)
 refine aP ?_;refine dR (ms:=[.s]) (hv:=dZ) dY B.len_ ?_;refine aN (aj (az 3)) aC;refine iZ ?_ ?_;refine bB (bL c) ?_ (aj (aJ [91])) (bw _);refine aj ?_;refine bA (aj (az 3)) (aj aD);refine iZ ?_ ?_;refine bB yp ?_ (aj (az 2)) (by with_unfolding_all rfl);refine aj ?_;refine bA (aj (az 3)) (aj aD);refine rK ?_;refine bB (bL c) ?_ (aj (aJ [93])) (bw _);refine aj ?_;refine bA (aj (az 3)) (aj aD);refine aL ?_;refine bD ?_;refine cQ 2 ?_;refine aG ?_ ?_;refine cQ 3 ?_;refine aG (eE (aK 1)) ?_;refine aG (aJ [105,110,107]) ?_;refine aG ?_ aC;refine bA (aj (az 3)) (aj aD)
 refine aG aD aC;refine aF ?_ ?_;refine bH ?_ ?_ bK;refine gJ ?_;refine iZ ?_ ?_;refine bB (bL c) ?_ (aj aD) (bw _);refine aP ?_;refine dR (ms:=[.s]) (hv:=dZ) dY B.len_ ?_;refine aN (aj (az 3)) aC;refine iZ ?_ ?_;refine bB (bL c) ?_ (aj (aJ [91,47])) (bw _);refine aP ?_;refine jH (aj (az 3)) lz (iM aD);refine iZ ?_ ?_;refine bB yp ?_ (aj (az 2)) (by with_unfolding_all rfl);refine aj ?_;refine bA (aj (az 3)) (aj aD);refine rK ?_;refine bB (bL c) ?_ (aj (aJ [93])) (bw _);refine aj ?_;refine bA (aj (az 3)) (aj aD);refine aL ?_;refine bD ?_
 refine cQ 2 ?_;refine aG ?_ ?_;refine cQ 3 ?_;refine aG (eE (aK 1)) ?_;refine aG (aJ [103,114,111,117,110,100]) ?_;refine aG ?_ aC;refine bA (aj (az 3)) (aj aD);refine aG aD aC;refine aL ?_;refine bD ?_;refine cQ 2 ?_;refine aG ?_ ?_;refine cQ 3 ?_;refine aG (eE (aK 1)) ?_;refine aG (aJ [115,105,103,110]) ?_;refine aG ?_ aC;refine bA (aj (az 3)) (aj aD);refine aG aD aC
abbrev Ek:Stmt:=top 37
theorem qL:bU ["_law_text","_law_items_here","_law_at","_law_item_here","_law_size"] ["_law_text"] (aZ Ek):=by trivial
def El:MS :=
  (aA (aO 1 (bx au))
  (aA (aO 2 (mC (.int 0)))
  (aA (rN wF (aH (ak gLt (aa 2) (bM bW (ao (aa 0) au)))) (aA (rM (bz uc (ao (aa 0) (ao (aa 2) au))) (dO 2 (bC (mgN 3) (bC (mgN 4) dW))))
  (aA (iQ 1 (aa 3))
  (aO 2 (ak aX (aa 2) (aa 4))))))
  (aM (aa 1)))))
def qM:List D->aq->Res D:=bV 5 El
abbrev Mp(Pr:Program)(w:World)(K:Frag)(mg:Str->Option Value)(base:Heap):Prop:=Can Pr w K mg base "_law_items" ["_law_text"] 2 (vSp K mg [.s] (rO K) qM)
theorem Y6(h:Def K mg "_law_items" Ek)
  (B:cg mg)
  (d:Mm Pr w K mg base):
  Mp Pr w K mg base:=by
 refine dI (k:=1) (b:=El) h qL (λ_ _ _ _ _ _=>bF λ_=>cC rfl) [.s] [.o,.v,.v,.v] fc (λ_ _ _ _=>.inl ⟨rfl,Rp.non⟩) (body:=λf j A outer s H E c P=>?_);refine aF ?_ ?_;refine gK (i:=1) qL.nd rfl (.inl rfl) (cI 0 aC);refine aF (bZ (i:=2) qL.nd rfl (.inl rfl) aD) ?_;refine aF ?_ (aL (lM 1));refine U0 wF ?_ ?_;refine bB ym (aj (az 2)) ?_ (bw _);refine aP ?_;refine dR (ms:=[.s]) (hv:=dZ) dY B.len_ ?_;refine aN (aK 0) aC;refine aF ?_ ?_;refine UT ?_ ?_;refine dw d (c.mono (by decide)) ?_;refine aN (aK 0) ?_;refine aN (aj (az 2)) aC;refine mV 2 rfl ?_
 refine f9 (cX (i:=3) qL.nd rfl (.inl rfl)) ?_;refine f9 (cX (i:=4) qL.nd rfl (.inl rfl)) mU;refine aF (rZ 1 (az 3)) ?_;refine aL ?_;refine bZ (i:=2) qL.nd rfl (.inl rfl) ?_;refine bc ?_;refine bu b7 (aj (az 2)) (aj (az 4))
abbrev Eo:Stmt:=top 38
theorem Y7:bU ["_law_found"] ["_law_found"] (aZ Eo):=by trivial
def Ep:MS :=
  (aM (jq (gO "int" (aa 0)) (uL (gO "bool" (aa 0)))))
def ud:List D->aq->Res D:=bV 1 Ep
abbrev Mq(Pr:Program)(w:World)(K:Frag)(mg:Str->Option Value)(base:Heap):Prop:=Can Pr w K mg base "_law_whole" ["_law_found"] 1 (vSp K mg [.s] (rV K) ud)
theorem Y8(c:Def K mg "_law_whole" Eo)
  (B:cg mg):
  Mq Pr w K mg base:=by
 refine dI (k:=0) (b:=Ep) c Y7 (λ_ _ _ _ _ _=>bF λ_=>cC rfl) [.s] [] dh (λ_ _ _ _=>Rp.non) (body:=λf d A outer s H E h P=>?_);refine aL ?_;refine bD ?_;refine kZ ?_ ?_;refine bc (jJ "int" (hb:=Jl) B.isinstance_ B.int_ (aK 0));refine nW ?_;refine Iu ?_;refine bc (jJ "bool" (hb:=Jm) B.isinstance_ B.bool_ (aK 0))
abbrev wu:Stmt:=top 39
theorem Mr:bU ["_law_found","_law_due_here","_law_letter"] ["_law_found","_law_due_here"] (aZ wu):=by trivial
def Es:MS :=
  (aA (aQ (cU (eF (cW (gO "list" (aa 0)))) (aH (ak gNe (bM bW (ao (aa 0) au)) (bM bW (ao (aa 1) au))))) (aM (mC (.bl false))) aW)
  (aA (iu (aa 0) (mgN 2) (aA (aQ (cU (eF (cW (gO "tuple" (aa 2)))) (cU (aH (ak gNe (bM bW (ao (aa 2) au)) (mC (.int 4)))) (eF (cW (bz ud (ao (ak gIx (aa 2) (mC (.int 3))) au)))))) (aM (mC (.bl false))) aW)
  (aQ (aH (ak gNe (ig (d8 (mSl (aa 2) moN (moS (mC (.int 3))))) 1 [] (mgN 0) il (gO "str" (aa 0))) (bx (ao (mC (.bl true)) (ao (mC (.bl true)) (ao (mC (.bl true)) au)))))) (aM (mC (.bl false))) aW)))
  (aM (ak gEq (aa 0) (aa 1)))))
def nC:List D->aq->Res D:=bV 3 Es
abbrev Et(Pr:Program)(w:World)(K:Frag)(mg:Str->Option Value)(base:Heap):Prop:=Can Pr w K mg base "_law_letters_right" ["_law_found","_law_due_here"] 2 (vSp K mg [.s,.s] (rV K) nC)
theorem Y9(h:Def K mg "_law_letters_right" wu)
  (B:cg mg)
  (d:Mq Pr w K mg base):
  Et Pr w K mg base:=by
 refine dI (k:=1) (b:=Es) h Mr (λ_ _ _ _ _ _=>bF λ_=>bF λ_=>cC rfl) [.s,.s] [.v] dh (λ_ _ _ _=>Rp.non) (body:=λf j A outer s H E c P=>?_);refine aF ?_ ?_;refine bH ?_ ?_ bK;refine gJ ?_;refine ie ?_ ?_;refine jF ?_;refine gw ?_;refine aP (jJ "list" (hb:=yq) B.isinstance_ B.list_ (aK 0));refine jE ?_;refine bB (lu c) ?_ ?_ (bw _);refine aP ?_;refine dR (ms:=[.s]) (hv:=dZ) dY B.len_ ?_;refine aN (aK 0) aC;refine aP ?_;refine dR (ms:=[.s]) (hv:=dZ) dY B.len_ ?_;refine aN (aK 1) aC;refine aL (bD fZ);refine aF ?_ ?_;refine u6 rfl (mY 0) (cX (i:=2) Mr.nd rfl (.inl rfl)) ?_
 refine aF ?_ ?_;refine bH ?_ ?_ bK;refine gJ ?_;refine ie ?_ ?_;refine jF ?_;refine gw ?_;refine aP ?_;refine jJ "tuple" (hb:=Jo) B.isinstance_ B.tuple_ (aj (az 2));refine ie ?_ ?_;refine bB (lu c) ?_ (aj aD) (bw _);refine aP ?_;refine dR (ms:=[.s]) (hv:=dZ) dY B.len_ ?_;refine aN (aj (az 2)) aC;refine jE ?_;refine jF ?_;refine gw ?_;refine aj ?_;refine dw d (c.mono (by decide)) ?_;refine aN ?_ aC;refine aj ?_;refine bA (aj (az 2)) (aj aD);refine aL (bD fZ);refine aL ?_;refine bH ?_ ?_ bK;refine bB (lu c) ?_ ?_ (bw _);refine aP ?_;refine xZ (aZ wu) ["_law_found","_law_due_here","_law_letter"] ["_law_thing"] [] rfl ?_ (λ_ _ _ _ P=>?_) (λ_ _ _ _ P=>?_) (λ_ _ _ _ P=>?_)
 refine yz ?_;refine aP ?_;refine jH (aj (az 2)) lz (iM aD);exact cX (i:=0) (show(cH ["_law_found","_law_due_here","_law_letter"] ["_law_thing"] []).Nodup by decide +kernel) rfl (.inl rfl);exact rP;refine bc ?_;refine jJ "str" (hb:=uQ) B.isinstance_ B.str_ (aj (az 0));refine aP ?_;refine cI 3 ?_;refine aG fZ ?_;refine aG fZ ?_;refine aG fZ aC;refine aL (bD fZ);refine aL ?_;refine bD ?_;refine bc ?_;refine mR (bL c) (aK 0) (aK 1) (bw _)
abbrev Ex:Stmt:=top 40
theorem Ey:bU ["_law_found","_law_due_here","_law_part","_law_other"] ["_law_found","_law_due_here"] (aZ Ex):=by trivial
def ue:MS :=
  (aA (aQ (cU (eF (cW (gO "list" (aa 0)))) (aH (ak gNe (bM bW (ao (aa 0) au)) (bM bW (ao (aa 1) au))))) (aM (mC (.bl false))) aW)
  (aA (eG (u5 (aa 0) (aa 1)) (dO 2 (bC (mgN 2) (bC (mgN 3) dW))) (aA (aQ (cU (eF (cW (gO "tuple" (aa 2)))) (cU (aH (ak gNe (bM bW (ao (aa 2) au)) (mC (.int 2)))) (aH (ak gNe (ak gIx (aa 2) (mC (.int 1))) (ak gIx (aa 3) (mC (.int 1))))))) (aM (mC (.bl false))) aW)
  (aQ (eF (cW (bz nC (ao (ak gIx (aa 2) (mC (.int 0))) (ao (ak gIx (aa 3) (mC (.int 0))) au))))) (aM (mC (.bl false))) aW)))
  (aM (mC (.bl true)))))
def jL:List D->aq->Res D:=bV 4 ue
abbrev Ms(Pr:Program)(w:World)(K:Frag)(mg:Str->Option Value)(base:Heap):Prop:=Can Pr w K mg base "_law_parts_right" ["_law_found","_law_due_here"] 3 (vSp K mg [.s,.s] (rV K) jL)
theorem Za(h:Def K mg "_law_parts_right" Ex)
  (B:cg mg)
  (d:Et Pr w K mg base):
  Ms Pr w K mg base:=by
 refine dI (k:=2) (b:=ue) h Ey (λ_ _ _ _ _ _=>bF λ_=>bF λ_=>cC rfl) [.s,.s] [.v,.v] dh (λ_ _ _ _=>Rp.non) (body:=λf j A outer s H E c P=>?_);refine aF ?_ ?_;refine bH ?_ ?_ bK;refine gJ ?_;refine ie ?_ ?_;refine jF ?_;refine gw ?_;refine aP (jJ "list" (hb:=yq) B.isinstance_ B.list_ (aK 0));refine jE ?_;refine bB (lu c) ?_ ?_ (bw _);refine aP ?_;refine dR (ms:=[.s]) (hv:=dZ) dY B.len_ ?_;refine aN (aK 0) aC;refine aP ?_;refine dR (ms:=[.s]) (hv:=dZ) dY B.len_ ?_;refine aN (aK 1) aC;refine aL (bD fZ);refine aF ?_ ?_;refine jG rfl ?_ ?_ ?_
 refine V5 B.zip_ (mY 0) (mY 1);refine mV 2 rfl ?_;refine f9 (cX (i:=2) Ey.nd rfl (.inl rfl)) ?_;refine f9 (cX (i:=3) Ey.nd rfl (.inl rfl)) mU;refine aF ?_ ?_;refine bH ?_ ?_ bK;refine gJ ?_;refine ie ?_ ?_;refine jF ?_;refine gw ?_;refine aP ?_;refine jJ "tuple" (hb:=Jo) B.isinstance_ B.tuple_ (aj (az 2));refine ie ?_ ?_;refine bB (lu c) ?_ (aj aD) (bw _);refine aP ?_;refine dR (ms:=[.s]) (hv:=dZ) dY B.len_ ?_;refine aN (aj (az 2)) aC;refine jE ?_;refine bB (lu c) ?_ ?_ (bw _);refine aj ?_;refine bA (aj (az 2)) (aj aD);refine aj ?_;refine bA (aj (az 3)) (aj aD)
 refine aL (bD fZ);refine aL ?_;refine bH ?_ ?_ bK;refine jF ?_;refine gw ?_;refine aj ?_;refine dw d (c.mono (by decide)) ?_;refine aN ?_ ?_;refine aj ?_;refine bA (aj (az 2)) (aj aD);refine aN ?_ aC;refine aj ?_;refine bA (aj (az 3)) (aj aD);refine aL (bD fZ);refine aL (bD fZ)
abbrev EY:Stmt:=top 41
theorem my:bU ["_law_items_here","_law_letters","_law_ink","_law_ground","_law_place","_law_kind","_law_value"] ["_law_items_here"] (aZ EY):=by trivial
def Mt:MS :=
  (aA (aO 1 (bx au))
  (aA (aO 2 (mC (.str [46])))
  (aA (aO 3 (mC (.str [46])))
  (aA (iu (aa 0) (dO 3 (bC (mgN 4) (bC (mgN 5) (bC (mgN 6) dW)))) (aA (aQ (aH (ak gEq (aa 5) (mC (.str [115,105,103,110])))) (iQ 1 (bQ (ao (aa 6) (ao (aa 2) (ao (aa 3) (ao (aa 4) au)))))) aW)
  (aA (aQ (cU (aH (ak gEq (aa 5) (mC (.str [105,110,107])))) (aH (ak gEq (aa 5) (mC (.str [112,108,97,105,110]))))) (aO 2 (ak aX (aa 6) (mSl (mC (.str [46])) (moS (bM bW (ao (aa 6) au))) moN))) aW)
  (aQ (cU (aH (ak gEq (aa 5) (mC (.str [103,114,111,117,110,100])))) (aH (ak gEq (aa 5) (mC (.str [112,108,97,105,110]))))) (aO 3 (ak aX (aa 6) (mSl (mC (.str [46])) (moS (bM bW (ao (aa 6) au))) moN))) aW))))
  (aM (aa 1))))))
def wy:List D->aq->Res D:=bV 7 Mt
abbrev Mu(Pr:Program)(w:World)(K:Frag)(mg:Str->Option Value)(base:Heap):Prop:=Can Pr w K mg base "_law_stretch" ["_law_items_here"] 1 (vSp K mg [.s] (rO K) wy)
theorem Zb(d:Def K mg "_law_stretch" EY)
  (B:cg mg):
  Mu Pr w K mg base:=by
 refine dI (k:=0) (b:=Mt) d my (λ_ _ _ _ _ _=>bF λ_=>cC rfl) [.s] [.o,.v,.v,.v,.v,.v] fc (λ_ _ _ _=>.inl ⟨rfl,Rp.non⟩) (body:=λf h A outer s H E c P=>?_);refine aF ?_ ?_;refine gK (i:=1) my.nd rfl (.inl rfl) (cI 0 aC);refine aF (bZ (i:=2) my.nd rfl (.inl rfl) (aJ [46])) ?_;refine aF (bZ (i:=3) my.nd rfl (.inl rfl) (aJ [46])) ?_;refine aF ?_ (aL (lM 1));refine u6 rfl (mY 0) ?_ ?_;refine mV 3 rfl ?_;refine f9 (cX (i:=4) my.nd rfl (.inl rfl)) ?_;refine f9 (cX (i:=5) my.nd rfl (.inl rfl)) ?_;refine f9 (cX (i:=6) my.nd rfl (.inl rfl)) mU;refine aF ?_ ?_
 refine bH ?_ ?_ bK;refine bB (bL c) (aj (az 5)) (aj (aJ [115,105,103,110])) (bw _);refine aL ?_;refine rZ 1 ?_;refine cQ 4 ?_;refine aG (az 6) ?_;refine aG (az 2) ?_;refine aG (az 3) ?_;refine aG (az 4) aC;refine aF ?_ ?_;refine bH ?_ ?_ bK;refine gJ ?_;refine ie ?_ ?_;refine bB (bL c) (aj (az 5)) (aj (aJ [105,110,107])) (bw _);refine jE ?_;refine bB (bL c) (aj (az 5)) (aj (aJ [112,108,97,105,110])) (bw _);refine aL ?_;refine bZ (i:=2) my.nd rfl (.inl rfl) ?_;refine bc ?_;refine bu b7 (aj (az 6)) ?_;refine aP ?_;refine jH (aj (aJ [46])) ?_ lz
 refine iM ?_;refine bc ?_;refine dR (ms:=[.s]) (hv:=dZ) dY B.len_ ?_;refine aN (aj (az 6)) aC;refine aL ?_;refine bH ?_ ?_ bK;refine gJ ?_;refine ie ?_ ?_;refine bB (bL c) (aj (az 5)) (aj (aJ [103,114,111,117,110,100])) (bw _);refine jE ?_;refine bB (bL c) (aj (az 5)) (aj (aJ [112,108,97,105,110])) (bw _);refine aL ?_;refine bZ (i:=3) my.nd rfl (.inl rfl) ?_;refine bc ?_;refine bu b7 (aj (az 6)) ?_;refine aP ?_;refine jH (aj (aJ [46])) ?_ lz;refine iM ?_;refine bc ?_;refine dR (ms:=[.s]) (hv:=dZ) dY B.len_ ?_;refine aN (aj (az 6)) aC
abbrev Fd:Stmt:=top 42
theorem Fe:bU ["_law_items_here","_law_kind","_law_some","_law_item_here"] ["_law_items_here","_law_kind"] (aZ Fd):=by trivial
def Mv:MS :=
  (aA (aO 2 (bx (ao (mMl (bx au)) au)))
  (aA (iu (aa 0) (mgN 3) (aQ (aH (ak gEq (ak gIx (aa 3) (mC (.int 1))) (aa 1))) (iQ 2 (mMl (bx au))) (oA (ak gIx (aa 2) (mUn fJ (mC (.int 1)))) (aa 3))))
  (aM (aa 2))))
def mz:List D->aq->Res D:=bV 4 Mv
abbrev Ff(Pr:Program)(w:World)(K:Frag)(mg:Str->Option Value)(base:Heap):Prop:=Can Pr w K mg base "_law_cut" ["_law_items_here","_law_kind"] 1 (vSp K mg [.s,.s] (rO K) mz)
theorem Zc(d:Def K mg "_law_cut" Fd)
  (B:cg mg):
  Ff Pr w K mg base:=by
 refine dI (k:=0) (b:=Mv) d Fe (λ_ _ _ _ _ _=>bF λ_=>bF λ_=>cC rfl) [.s,.s] [.o,.v] fc (λ_ _ _ _=>.inl ⟨rfl,Rp.non⟩) (body:=λf h A outer s H E c P=>?_);refine aF ?_ ?_;refine gK (i:=2) Fe.nd rfl (.inl rfl) ?_;refine cI 1 ?_;refine aG ?_ aC;refine pX (cI 0 aC);refine aF ?_ (aL (lM 2));refine u6 rfl (mY 0) (cX (i:=3) Fe.nd rfl (.inl rfl)) ?_;refine aL ?_;refine bH ?_ ?_ ?_;refine bB (bL c) ?_ (aK 1) (bw _);refine aj ?_;refine bA (aj (az 3)) (aj aD);refine aL ?_;refine rZ 2 ?_;refine pX (cI 0 aC);refine aL ?_;refine JP ?_ (az 3);refine bA (aK 2) ?_
 refine aP ?_;refine rR (aj aD)
abbrev wz:Stmt:=top 43
theorem nD:bU ["_law_items_here","_law_most","_law_told","_law_last","_law_stretch_here","_law_letters","_law_full"] ["_law_items_here","_law_most"] (aZ wz):=by trivial
def Mw:MS :=
  (aA (aO 2 (bx au))
  (aA (aO 3 (bx au))
  (aA (eG (d8 (bz mz (ao (aa 0) (ao (mC (.str [97,110,101,119])) au)))) (mgN 4) (aQ (aH (ak gNe (aa 4) (bx au))) (aA (aO 5 (bz wy (ao (aa 4) au)))
  (aA (aO 6 (ak jP (bM n6 (ao (mC (.int 0)) (ao (ak mX (bM bW (ao (aa 5) au)) (mC (.int 1))) au))) (aa 1)))
  (aA (aO 2 (ak aX (aa 2) (ig (jt (ao (aa 6) au)) 1 [1,5] (mgN 0) il (bQ (ao (mSl (aa 2) (moS (ak fH (aa 0) (aa 1))) (moS (ak aX (ak fH (aa 0) (aa 1)) (aa 1)))) (ao (mC (.str [109,111,114,101])) au))))))
  (aO 3 (mSl (aa 5) (moS (ak fH (aa 6) (aa 1))) moN))))) aW))
  (aM (bQ (ao (aa 2) (ao (aa 3) au)))))))
def uf:List D->aq->Res D:=bV 7 Mw
abbrev Mx(Pr:Program)(w:World)(K:Frag)(mg:Str->Option Value)(base:Heap):Prop:=Can Pr w K mg base "_law_row" ["_law_items_here","_law_most"] 2 (vSp K mg [.s,.s] (rV K) uf)
theorem Zd(j:Def K mg "_law_row" wz)
  (B:cg mg)
  (d:Ff Pr w K mg base)
  (h:Mu Pr w K mg base):
  Mx Pr w K mg base:=by
 refine dI (k:=1) (b:=Mw) j nD (λ_ _ _ _ _ _=>bF λ_=>bF λ_=>cC rfl) [.s,.s] [.v,.v,.v,.v,.v] dh (λ_ _ _ _=>Rp.non) (body:=λf l A outer s H E c P=>?_);refine aF ?_ ?_;refine bZ (i:=2) nD.nd rfl (.inl rfl) ?_;refine bc (cI 0 aC);refine aF ?_ ?_;refine bZ (i:=3) nD.nd rfl (.inl rfl) ?_;refine bc (cI 0 aC);refine aF ?_ ?_;refine jG rfl ?_ (cX (i:=4) nD.nd rfl (.inl rfl)) ?_;refine pU ?_;refine pR ?_;refine bc ?_;refine mZ d (c.mono (by decide)) ?_;refine aN (aK 0) ?_;refine aN (aj (aJ [97,110,101,119])) aC;refine aL ?_;refine bH ?_ ?_ bK;refine bB (lu c) (aj (az 4)) ?_ (bw _)
 refine aP (cI 0 aC);refine aF ?_ ?_;refine bZ (i:=5) nD.nd rfl (.inr rfl) ?_;refine bc ?_;refine mZ h (c.mono (by decide)) ?_;refine aN (aj (az 4)) aC;refine aF ?_ ?_;refine bZ (i:=6) nD.nd rfl (.inl rfl) ?_;refine bc ?_;refine bu yh ?_ (aK 1);refine aP ?_;refine dR (ms:=[.s,.s]) (hv:=Vm) (Vk rfl) B.max_ ?_;refine aN (aj aD) ?_;refine aN ?_ aC;refine aP ?_;refine bu ye ?_ (aj aD);refine aP ?_;refine dR (ms:=[.s]) (hv:=dZ) dY B.len_ ?_;refine aN (aj (az 5)) aC;refine aF ?_ ?_;refine bZ (i:=2) nD.nd rfl (.inl rfl) ?_;refine bc ?_;refine bu b7 (aj (az 2)) ?_
 refine aP ?_;refine xZ (aZ wz) ["_law_items_here","_law_most","_law_told","_law_last","_law_stretch_here","_law_letters","_law_full"] ["_law_k"] [1,5] rfl ?_ (λ_ _ _ _ P=>?_) (λ_ _ _ _ P=>?_) (λ_ _ _ _ P=>?_);refine uN ?_;refine uT B.range_ ?_;refine aN (aj (az 6)) aC;exact cX (i:=0) (show(cH ["_law_items_here","_law_most","_law_told","_law_last","_law_stretch_here","_law_letters","_law_full"] ["_law_k"] [1,5]).Nodup by decide +kernel) rfl (.inl rfl);exact rP;refine cQ 2 ?_;refine aG ?_ ?_;refine bc ?_;refine jH (aj (az 2)) ?_ ?_;refine iM ?_;refine bc ?_;refine bu rQ (aj (az 0)) (aK 1)
 refine iM ?_;refine bc ?_;refine bu b7 ?_ (aK 1);refine aP ?_;refine bu rQ (aj (az 0)) (aK 1);refine aG (aJ [109,111,114,101]) aC;refine aL ?_;refine bZ (i:=3) nD.nd rfl (.inl rfl) ?_;refine bc ?_;refine jH (aj (az 5)) ?_ lz;refine iM ?_;refine bc ?_;refine bu rQ (aj (az 6)) (aK 1);refine aL ?_;refine bD ?_;refine cQ 2 ?_;refine aG (az 2) ?_;refine aG (az 3) aC
abbrev wA:Stmt:=top 44
theorem qP:bU ["_law_text","_law_most","_law_rows","_law_parts","_law_told","_law_last"] ["_law_text","_law_most"] (aZ wA):=by trivial
def Mz:MS :=
  (aA (aO 2 (ig (d8 (bz mz (ao (bz qM (ao (aa 0) au)) (ao (mC (.str [101,110,100])) au)))) 1 [1] (mgN 0) il (bz uf (ao (aa 0) (ao (aa 1) au)))))
  (aA (aO 3 (bx au))
  (aA (eG (d8 (mSl (aa 2) moN (moS (mUn fJ (mC (.int 1)))))) (dO 2 (bC (mgN 4) (bC (mgN 5) dW))) (aO 3 (ak aX (ak aX (aa 3) (aa 4)) (bx (ao (bQ (ao (aa 5) (ao (mC (.str [119,104,111,108,101])) au))) au)))))
  (aM (bQ (ao (ak aX (aa 3) (ak gIx (ak gIx (aa 2) (mUn fJ (mC (.int 1)))) (mC (.int 0)))) (ao (ak gIx (ak gIx (aa 2) (mUn fJ (mC (.int 1)))) (mC (.int 1))) au)))))))
def wB:List D->aq->Res D:=bV 6 Mz
abbrev MF(Pr:Program)(w:World)(K:Frag)(mg:Str->Option Value)(base:Heap):Prop:=Can Pr w K mg base "_law_due" ["_law_text","_law_most"] 3 (vSp K mg [.s,.s] (rV K) wB)
theorem Ze(l:Def K mg "_law_due" wA)
  (B:cg mg)
  (j:Mx Pr w K mg base)
  (d:Ff Pr w K mg base)
  (h:Mp Pr w K mg base):
  MF Pr w K mg base:=by
 refine dI (k:=2) (b:=Mz) l qP (λ_ _ _ _ _ _=>bF λ_=>bF λ_=>cC rfl) [.s,.s] [.v,.v,.v,.v] dh (λ_ _ _ _=>Rp.non) (body:=λf m A outer s H E c P=>?_);refine aF ?_ ?_;refine Ja (i:=2) (aZ wA) ["_law_text","_law_most","_law_rows","_law_parts","_law_told","_law_last"] ["_law_items_here"] [1] qP.nd rfl (.inl rfl) rfl ?_ (λ_ _ _ _ P=>?_) (λ_ _ _ _ P=>?_) (λ_ _ _ _ P=>?_);refine yz ?_;refine aP ?_;refine mZ d (c.mono (by decide)) ?_;refine aN ?_ ?_;refine aP ?_;refine mZ h (c.mono (by decide)) ?_;refine aN (aK 0) aC;refine aN (aj (aJ [101,110,100])) aC
 exact cX (i:=0) (show(cH ["_law_text","_law_most","_law_rows","_law_parts","_law_told","_law_last"] ["_law_items_here"] [1]).Nodup by decide +kernel) rfl (.inl rfl)
 exact rP
 refine dw j (c.mono (by decide)) ?_;refine aN (aj (az 0)) ?_;refine aN (aK 1) aC;refine aF ?_ ?_;refine bZ (i:=3) qP.nd rfl (.inl rfl) ?_;refine bc (cI 0 aC);refine aF ?_ ?_;refine jG rfl ?_ ?_ ?_;refine pU ?_;refine pR ?_;refine bc ?_;refine jH (aj (az 2)) lz ?_;refine iM ?_;refine bc ?_;refine rR (aj aD);refine mV 2 rfl ?_;refine f9 (cX (i:=4) qP.nd rfl (.inl rfl)) ?_;refine f9 (cX (i:=5) qP.nd rfl (.inl rfl)) mU;refine aL ?_;refine bZ (i:=3) qP.nd rfl (.inl rfl) ?_;refine bc ?_;refine bu b7 ?_ ?_;refine aP ?_;refine bu b7 (aj (az 3)) (aj (az 4))
 refine aP ?_;refine cI 1 ?_;refine aG ?_ aC;refine cQ 2 ?_;refine aG (az 5) ?_;refine aG (aJ [119,104,111,108,101]) aC;refine aL ?_;refine bD ?_;refine cQ 2 ?_;refine aG ?_ ?_;refine bc ?_;refine bu b7 (aj (az 3)) ?_;refine aj ?_;refine bA ?_ (aj aD);refine aj ?_;refine bA (aj (az 2)) ?_;refine aP ?_;refine rR (aj aD);refine aG ?_ aC;refine bA ?_ (aj aD);refine aj ?_;refine bA (aj (az 2)) ?_;refine aP ?_;refine rR (aj aD)
abbrev Fv:Stmt:=top 45
theorem Zf:bU ["_law_cell_here"] ["_law_cell_here"] (aZ Fv):=by trivial
def wC:MS :=
  (aA (aQ (aH (ak gEq (ak dq (bz mq (ao (aa 0) (ao (mC (.int 11)) au))) (mC (.int 5))) (mC (.int 0)))) (aM (ak gIx (bx (ao (mC (.str [9])) (ao (mC (.str [10])) (ao (mC (.str [9,9])) (ao (mC (.str [9,10])) au))))) (ak dq (bz mq (ao (aa 0) (ao (mC (.int 12)) au))) (mC (.int 4))))) aW)
  (aM (bz nA (ao (aa 0) au))))
def mD:List D->aq->Res D:=bV 1 wC
abbrev MJ(Pr:Program)(w:World)(K:Frag)(mg:Str->Option Value)(base:Heap):Prop:=Can Pr w K mg base "_law_piece" ["_law_cell_here"] 3 (vSp K mg [.s] (rV K) mD)
theorem Zg(j:Def K mg "_law_piece" Fv)
  (B:cg mg)
  (d:wj Pr w K mg base)
  (h:Ml Pr w K mg base):
  MJ Pr w K mg base:=by
 refine dI (k:=2) (b:=wC) j Zf (λ_ _ _ _ _ _=>bF λ_=>cC rfl) [.s] [] dh (λ_ _ _ _=>Rp.non) (body:=λf l A outer s H E c P=>?_);refine aF ?_ ?_;refine bH ?_ ?_ bK;refine bB (bL c) ?_ (aj aD) (bw _);refine aP ?_;refine bu ir ?_ (aj aD);refine aj ?_;refine dw d (c.mono (by decide)) ?_;refine aN (aK 0) ?_;refine aN (aj aD) aC;refine aL ?_;refine bD ?_;refine bA ?_ ?_;refine aP ?_;refine cI 4 ?_;refine aG (aJ [9]) ?_;refine aG (aJ [10]) ?_;refine aG (aJ [9,9]) ?_;refine aG (aJ [9,10]) aC;refine aP ?_;refine bu ir ?_ (aj aD);refine aj ?_
 refine dw d (c.mono (by decide)) ?_;refine aN (aK 0) ?_;refine aN (aj aD) aC;refine aL ?_;refine bD ?_;refine dw h (c.mono (by decide)) ?_;refine aN (aK 0) aC
abbrev kh:Stmt:=top 46
theorem eZ:bU ["_law_script","_law_most","_law_pieces","_law_text","_law_due_here","_law_found","_law_reader","_law_maker","_law_parts","_law_k","_law_items_here","_law_item_here","_law_last","_law_places","_law_letters","_law_word","_law_sign","_law_ink","_law_ground","_law_place"] ["_law_script"] (aZ kh):=by trivial
def wD:MS :=
  (aA (aO 1 (ak gIx (bx (ao (mC (.int 1)) (ao (mC (.int 2)) (ao (mC (.int 3)) (ao (mC (.int 4)) (ao (mC (.int 5)) (ao (mC (.int 200)) au))))))) (ak dq (bz mq (ao (bz qJ (ao (aa 0) (ao (mC (.int 0)) au))) (ao (mC (.int 13)) au))) (mC (.int 6)))))
  (aA (aO 2 (ig (d8 (mSl (aa 0) moN (moS (mC (.int 60))))) 1 [] (mgN 0) il (bz mD (ao (aa 0) au))))
  (aA (aO 3 (uW (aa 2)))
  (aA (aO 4 (bz wB (ao (aa 3) (ao (aa 1) au))))
  (aA (aO 5 (bz v9 (ao (aa 3) (ao (aa 1) au))))
  (aA (aQ (cU (eF (cW (bz jL (ao (ak gIx (aa 5) (mC (.int 0))) (ao (ak gIx (aa 4) (mC (.int 0))) au))))) (eF (cW (bz nC (ao (ak gIx (aa 5) (mC (.int 1))) (ao (ak gIx (aa 4) (mC (.int 1))) au)))))) (aM (mC (.bl false))) aW)
  (aA (aO 6 (jR "Reader" qm au))
  (aA (aO 7 (jR "Maker" tY (ao (aa 1) au)))
  (aA (aO 8 (bx au))
  (aA (eG (jt (ao (ak aX (bM bW (ao (aa 2) au)) (mC (.int 1))) au)) (mgN 9) (aA (aO 10 (bN "Reader" "feed" oX (aa 6) (ao (ak gIx (ak aX (aa 2) (bx (ao (mC (.str [])) au))) (aa 9)) au)))
  (aA (aQ (aH (ak gEq (aa 9) (bM bW (ao (aa 2) au)))) (aO 10 (ak aX (aa 10) (bN "Reader" "finish" oY (aa 6) au))) aW)
  (eG (d8 (aa 10)) (mgN 11) (aO 8 (ak aX (aa 8) (bN "Maker" "put" j9 (aa 7) (ao (aa 11) au))))))))
  (aA (aQ (cU (aH (lB true 4 (aa 8) (ak gIx (aa 5) (mC (.int 0))))) (aH (lB true 4 (bN "Maker" "open_letters" mj (aa 7) au) (ak gIx (aa 5) (mC (.int 1)))))) (aM (mC (.bl false))) aW)
  (aA (aO 12 (bx au))
  (aA (aQ (cU (aH (ak gNe (ak gIx (aa 4) (mC (.int 1))) (bx au))) (gH (aH (ak gNe (ak gIx (aa 4) (mC (.int 0))) (bx au))) (aH (ak gEq (ak gIx (ak gIx (ak gIx (aa 4) (mC (.int 0))) (mUn fJ (mC (.int 1)))) (mC (.int 1))) (mC (.str [109,111,114,101])))))) (aO 12 (bx (ao (bQ (ao (ak gIx (aa 4) (mC (.int 1))) (ao (mC (.str [119,104,111,108,101])) au))) au))) aW)
  (aA (aQ (eF (cW (bz jL (ao (bN "Maker" "finish" t8 (aa 7) au) (ao (aa 12) au))))) (aM (mC (.bl false))) aW)
  (aA (aO 13 (bx au))
  (aA (eG (d8 (ak aX (ak gIx (aa 5) (mC (.int 0))) (bx (ao (bQ (ao (ak gIx (aa 5) (mC (.int 1))) (ao (mC (.str [])) au))) au)))) (dO 2 (bC (mgN 14) (bC (mgN 15) dW))) (iu (aa 14) (dO 4 (bC (mgN 16) (bC (mgN 17) (bC (mgN 18) (bC (mgN 19) dW))))) (aA (iQ 13 (aa 19))
  (aQ (aH (ak gNe (ak gIx (aa 3) (aa 19)) (aa 16))) (aM (mC (.bl false))) aW))))
  (aM (ak gEq (bM oF (ao (aa 13) au)) (aa 13)))))))))))))))))))
def MK:List D->aq->Res D:=bV 20 wD
abbrev Zh(Pr:Program)(w:World)(K:Frag)(mg:Str->Option Value)(base:Heap):Prop:=Can Pr w K mg base "law" ["_law_script"] 7 (vSp K mg [.s] (rV K) MK)
theorem Zi(x:Def K mg "law" kh)
  (B:cg mg)
  (t:wj Pr w K mg base)
  (u:LQ Pr w K mg base)
  (G:MJ Pr w K mg base)
  (F:MF Pr w K mg base)
  (C:LK Pr w K mg base)
  (d:Ms Pr w K mg base)
  (m:Et Pr w K mg base)
  (l:Bp Pr w K mg base)
  (r:CN Pr w K mg base)
  (j:BJ Pr w K mg base)
  (h:BW Pr w K mg base)
  (q:Dj Pr w K mg base)
  (n:Dq Pr w K mg base)
  (y:LC Pr w K mg base):
  Zh Pr w K mg base:=by
 refine dI (k:=6) (b:=wD) x eZ (λ_ _ _ _ _ _=>bF λ_=>cC rfl) [.s] [.v,.v,.v,.v,.v,.v,.v,.v,.v,.v,.v,.v,.o,.v,.v,.v,.v,.v,.v] dh (λ_ _ _ _=>Rp.non) (body:=λf I A outer s H E c P=>?_);refine aF ?_ ?_;refine bZ (i:=1) eZ.nd rfl (.inl rfl) ?_;refine bA ?_ ?_;refine aP ?_;refine cI 6 ?_;refine aG aD ?_;refine aG aD ?_;refine aG aD ?_;refine aG aD ?_;refine aG aD ?_;refine aG aD aC;refine aP ?_;refine bu ir ?_ (aj aD);refine aj ?_;refine dw t (c.mono (by decide)) ?_;refine aN ?_ ?_;refine aj ?_;refine dw u (c.mono (by decide)) ?_;refine aN (aK 0) ?_
 refine aN (aj aD) aC;refine aN (aj aD) aC;refine aF ?_ ?_;refine Ja (i:=2) (aZ kh) ["_law_script","_law_most","_law_pieces","_law_text","_law_due_here","_law_found","_law_reader","_law_maker","_law_parts","_law_k","_law_items_here","_law_item_here","_law_last","_law_places","_law_letters","_law_word","_law_sign","_law_ink","_law_ground","_law_place"] ["_law_cell_here"] [] eZ.nd rfl (.inl rfl) rfl ?_ (λ_ _ _ _ P=>?_) (λ_ _ _ _ P=>?_) (λ_ _ _ _ P=>?_);refine yz ?_;refine aP ?_;refine jH (aK 0) lz (iM aD);exact cX (i:=0) (show(cH ["_law_script","_law_most","_law_pieces","_law_text","_law_due_here","_law_found","_law_reader","_law_maker","_law_parts","_law_k","_law_items_here","_law_item_here","_law_last","_law_places","_law_letters","_law_word","_law_sign","_law_ink","_law_ground","_law_place"] ["_law_cell_here"] []).Nodup by decide +kernel) rfl (.inl rfl)
 exact rP
 refine dw G (c.mono (by decide)) ?_;refine aN (aj (az 0)) aC;refine aF ?_ ?_;refine bZ (i:=3) eZ.nd rfl (.inl rfl) ?_;refine bc ?_;refine Vz (aj (az 2));refine aF ?_ ?_;refine bZ (i:=4) eZ.nd rfl (.inl rfl) ?_;refine dw F (c.mono (by decide)) ?_;refine aN (aj (az 3)) ?_;refine aN (aj (az 1)) aC;refine aF ?_ ?_;refine bZ (i:=5) eZ.nd rfl (.inl rfl) ?_;refine dw C (c.mono (by decide)) ?_;refine aN (aj (az 3)) ?_;refine aN (aj (az 1)) aC;refine aF ?_ ?_;refine bH ?_ ?_ bK;refine gJ ?_;refine ie ?_ ?_;refine jF ?_;refine gw ?_;refine aj ?_;refine dw d (c.mono (by decide)) ?_
 refine aN ?_ ?_;refine aj ?_;refine bA (aj (az 5)) (aj aD);refine aN ?_ aC;refine aj ?_;refine bA (aj (az 4)) (aj aD);refine jE ?_;refine jF ?_;refine gw ?_;refine aj ?_;refine dw m (c.mono (by decide)) ?_;refine aN ?_ ?_;refine aj ?_;refine bA (aj (az 5)) (aj aD);refine aN ?_ aC;refine aj ?_;refine bA (aj (az 4)) (aj aD);refine aL (bD fZ);refine aF (bZ (i:=6) eZ.nd rfl (.inl rfl) (JH l (c.mono (by decide)))) ?_;refine aF ?_ ?_;refine bZ (i:=7) eZ.nd rfl (.inl rfl) ?_;refine JG r (c.mono (by decide)) ?_;refine aN (aj (az 1)) aC;refine aF ?_ ?_
 refine bZ (i:=8) eZ.nd rfl (.inl rfl) ?_;refine bc (cI 0 aC);refine aF ?_ ?_;refine jG rfl ?_ (cX (i:=9) eZ.nd rfl (.inl rfl)) ?_;refine uT B.range_ ?_;refine aN ?_ aC;refine aP ?_;refine bu b7 ?_ (aj aD);refine aP ?_;refine dR (ms:=[.s]) (hv:=dZ) dY B.len_ ?_;refine aN (aj (az 2)) aC;refine aF ?_ ?_;refine bZ (i:=10) eZ.nd rfl (.inl rfl) ?_;refine bc ?_;refine lR j (c.mono (by decide)) (az 6) ?_;refine aN ?_ aC;refine aj ?_;refine bA ?_ (aj (az 9));refine aP ?_;refine bu b7 (aj (az 2)) ?_;refine aP ?_;refine cI 1 ?_;refine aG (aJ []) aC;refine aF ?_ ?_
 refine bH ?_ ?_ bK;refine bB (bL c) (aj (az 9)) ?_ (bw _);refine aP ?_;refine dR (ms:=[.s]) (hv:=dZ) dY B.len_ ?_;refine aN (aj (az 2)) aC;refine aL ?_;refine bZ (i:=10) eZ.nd rfl (.inl rfl) ?_;refine bc ?_;refine bu b7 (aj (az 10)) ?_;refine aP (sE h (c.mono (by decide)) (az 6));refine aL ?_;refine jG rfl ?_ (cX (i:=11) eZ.nd rfl (.inl rfl)) ?_;refine pU (pR (az 10));refine aL ?_;refine bZ (i:=8) eZ.nd rfl (.inl rfl) ?_;refine bc ?_;refine bu b7 (aj (az 8)) ?_;refine aP ?_;refine lR q (c.mono (by decide)) (az 7) ?_;refine aN (aj (az 11)) aC
 refine aF ?_ ?_;refine bH ?_ ?_ bK;refine gJ ?_;refine ie ?_ ?_;refine JS 4 c (aj (az 8)) ?_;refine aj ?_;refine bA (aj (az 5)) (aj aD);refine jE ?_;refine JS 4 c ?_ ?_;refine aP (sE n (c.mono (by decide)) (az 7));refine aj ?_;refine bA (aj (az 5)) (aj aD);refine aL (bD fZ);refine aF ?_ ?_;refine bZ (i:=12) eZ.nd rfl (.inl rfl) ?_;refine bc (cI 0 aC);refine aF ?_ ?_;refine bH ?_ ?_ bK;refine gJ ?_;refine ie ?_ ?_;refine bB (lu c) ?_ ?_ (bw _);refine aj ?_;refine bA (aj (az 4)) (aj aD);refine aP (cI 0 aC);refine jE ?_;refine gJ ?_;refine iZ ?_ ?_
 refine bB (lu c) ?_ ?_ (bw _);refine aj ?_;refine bA (aj (az 4)) (aj aD);refine aP (cI 0 aC);refine rK ?_;refine bB (bL c) ?_ (aj (aJ [109,111,114,101])) (bw _);refine aj ?_;refine bA ?_ (aj aD);refine aj ?_;refine bA ?_ ?_;refine aj ?_;refine bA (aj (az 4)) (aj aD);refine aP ?_;refine rR (aj aD);refine aL ?_;refine bZ (i:=12) eZ.nd rfl (.inl rfl) ?_;refine bc ?_;refine cI 1 ?_;refine aG ?_ aC;refine cQ 2 ?_;refine aG ?_ ?_;refine bA (aj (az 4)) (aj aD);refine aG (aJ [119,104,111,108,101]) aC;refine aF ?_ ?_;refine bH ?_ ?_ bK;refine jF ?_
 refine gw ?_;refine aj ?_;refine dw d (c.mono (by decide)) ?_;refine aN ?_ ?_;refine aP (sE y (c.mono (by decide)) (az 7));refine aN (aj (az 12)) aC;refine aL (bD fZ);refine aF ?_ ?_;refine gK (i:=13) eZ.nd rfl (.inl rfl) (cI 0 aC);refine aF ?_ ?_;refine jG rfl ?_ ?_ ?_;refine pU ?_;refine pR ?_;refine bc ?_;refine bu b7 ?_ ?_;refine aj ?_;refine bA (aj (az 5)) (aj aD);refine aP ?_;refine cI 1 ?_;refine aG ?_ aC;refine cQ 2 ?_;refine aG ?_ ?_;refine bA (aj (az 5)) (aj aD);refine aG (aJ []) aC;refine mV 2 rfl ?_;refine f9 (cX (i:=14) eZ.nd rfl (.inl rfl)) ?_
 refine f9 (cX (i:=15) eZ.nd rfl (.inl rfl)) mU;refine aL ?_;refine u6 rfl (pR (az 14)) ?_ ?_;refine mV 4 rfl ?_;refine f9 (cX (i:=16) eZ.nd rfl (.inl rfl)) ?_;refine f9 (cX (i:=17) eZ.nd rfl (.inl rfl)) ?_;refine f9 (cX (i:=18) eZ.nd rfl (.inl rfl)) ?_;refine f9 (cX (i:=19) eZ.nd rfl (.inl rfl)) mU;refine aF (rZ 13 (az 19)) ?_;refine aL ?_;refine bH ?_ ?_ bK;refine bB (lu c) ?_ (aj (az 16)) (bw _);refine aj ?_;refine bA (aj (az 3)) (aj (az 19));refine aL (bD fZ);refine aL ?_;refine bD ?_;refine bc ?_;refine mR (bL c) ?_ (aK 13) (bw _);refine aP ?_
 refine Xg (ms:=[.s]) rfl B.sorted_ B.set_ ?_;refine aN (aK 13) aC
end
structure Okt(t:List Nat):Prop where
 len:t.length<=5000
 ok:∀c∈t,(32<=c/\c<=125)\/c=10\/c=9
theorem Okt.lt{t:List Nat}(h:Okt t):∀c∈t,c<128:=λc d=>by
 have:=h.ok c d
 omega
theorem Okt.asc{t:List Nat}(h:Okt t):ascii t=true:=by
 unfold ascii;rw[List.all_eq_true];intro c d;exact zH (h.lt c d)
@[simp] theorem Qz0{a:Nat}:gIx (.str [a]) (.int 0)=some (.str [a]):=rfl
@[simp] theorem QzW{a b:Nat}:gIx (.str [a,b]) (.int 0)=some (.str [a]):=rfl
@[simp] theorem QzS{a b:Nat}:gIx (.str [a,b]) (.int 1)=some (.str [b]):=rfl
@[simp] theorem QAg{a b c:Nat}:gIx (.str [a,b,c]) (.int 0)=some (.str [a]):=rfl
@[simp] theorem QAh{a b c:Nat}:gIx (.str [a,b,c]) (.int 1)=some (.str [b]):=rfl
@[simp] theorem QzY{a b c:Nat}:gIx (.str [a,b,c]) (.int 2)=some (.str [c]):=rfl
@[simp] theorem QzT{a b c d:Nat}:gIx (.str [a,b,c,d]) (.int 0)=some (.str [a]):=rfl
@[simp] theorem QAj{a b c d:Nat}:gIx (.str [a,b,c,d]) (.int 1)=some (.str [b]):=rfl
@[simp] theorem QzV{a b c d:Nat}:gIx (.str [a,b,c,d]) (.int 2)=some (.str [c]):=rfl
@[simp] theorem Qz3{a b c d:Nat}:gIx (.str [a,b,c,d]) (.int 3)=some (.str [d]):=rfl
@[simp] theorem Qz2{a b:D}:gIx (.tup [a,b]) (.int 0)=some a:=rfl
@[simp] theorem QAb{a b:D}:gIx (.tup [a,b]) (.int 1)=some b:=rfl
@[simp] theorem QzZ{a b c:D}:gIx (.tup [a,b,c]) (.int 0)=some a:=rfl
@[simp] theorem QAi{a b c:D}:gIx (.tup [a,b,c]) (.int 1)=some b:=rfl
@[simp] theorem Qz4{a b c:D}:gIx (.tup [a,b,c]) (.int 2)=some c:=rfl
theorem wH(c:Nat)(O:aq):oR [.str [c]] O=.ok (.bl (col c)) O:=by
 simp[oR,Am,col]
theorem Zj(c:Nat)(O:aq):qb [.str [c]] O=.ok (.bl (decide (32<=c/\c<=125))) O:=by
 simp[qb,Ah]
 by_cases h:32<=c<;>simp[h]
theorem MN{t:List Nat}{d:D}{i:Nat}(h:(fG 0 (dD t))[i]?=some d):∃c,c∈t/\d=.tup [.int i,.str [c]]:=by
 rw[uV] at h;unfold dD at h;rw[zG] at h
 cases q:t[i]? with
 |none=>rw[q] at h;cases h
 |some c =>
  rw[q] at h;simp at h;exact⟨c,zS q,h.symm⟩
theorem Zk(t:List Nat)(h:Okt t)(O:aq):vR [.str t] O=.ok .non O:=by
 obtain⟨r,u,q,rfl,m,l,rfl⟩:=tH (g:=dO 2 (bC (mgN 1) (bC (mgN 2) dW)))
  (b:=aQ (eF (cU (cW (bz qb (ao (aa 2) au))) (cU (aH (ak gEq (aa 2) (mC (.str [10])))) (aH (ak gEq (aa 2) (mC (.str [9]))))))) pK aW)
  (λi ρ j=>j=O/\∃m l,ρ=[some (.str t),m,l]) (fG 0 (dD t)) 0 [some (.str t),none,none] O ⟨rfl,none,none,rfl⟩ (by
   rintro i d ρ j hi ⟨rfl,m,l,rfl⟩;obtain⟨c,n,rfl⟩:=MN hi;refine⟨_,rfl,_,_,.inl ?_,rfl,some (.int i),some (.str [c]),rfl⟩
   have:=h.ok c n
   have e:(cU (cW (bz qb (ao (aa 2) au))) (cU (aH (ak gEq (aa 2) (mC (.str [10])))) (aH (ak gEq (aa 2) (mC (.str [9])))))) [some (.str t),some (.int i),some (.str [c])] j=.ok true j:=by
    simp[Zj]
    omega
   show aQ (eF _) pK aW [some (.str t),some (.int i),some (.str [c])] j=_;simp only[gk,oM,e,aY,gm,Bool.not_true,iz]
   rfl)
 simp only[vR,Aw,nj,zx,zW,zn,zw,List.replicate,List.cons_append,zM,bG,gk,oM,oJ,vH,cG,zq,aY,lW,Xl,vG,XC,oG,oK,oH,Bool.not_true,gm,iz,Bool.false_eq_true,if_false,bI,jW,XR,K8 h.asc,jX];show cN (cz _ _ (fG 0 (dD t)) [some (.str t),none,none] _)=_;rw[q];rfl
def mkD:Option (List Nat×List Nat)->D
 |some (k,v)=>.tup [.str k,.str v]
 |none=>.non
theorem Zm(s:List Nat)(h0:1<=s.length)(h4:s.length<=4)(O:aq):oU [.str s] O=.ok (mkD (markB s)) O:=by
 match s,h0,h4 with
 | [a],_,_=>simp[oU,qg,markB,mkD]
 | [a,b],_,_ =>
  simp[oU,qg,markB]
  by_cases h1:a=91/\b=93
  ·simp[h1,mkD,fU]
  ·by_cases h2:a=91/\b=91
   ·simp[h2,mkD,aU]
   ·simp[h1,h2,mkD]
 | [a,b,c],_,_ =>
  simp[oU,qg,markB,wH]
  by_cases h1:a=91
  ·by_cases h2:col b=true
   ·by_cases h3:c=93
    ·simp[h1,h2,h3,mkD,eO]
    ·simp[h1,h2,h3,mkD]
   ·simp[h1,h2,mkD]
  ·simp[h1,mkD]
 | [a,b,c,d],_,_ =>
  simp[oU,qg,markB,wH]
  by_cases h1:a=91
  ·by_cases h:b=47
   ·by_cases h2:col c=true
    ·by_cases h3:d=93
     ·simp[h1,h2,h3,h,mkD,eX]
     ·simp[h1,h2,h3,h,mkD]
    ·simp[h1,h2,h,mkD]
   ·simp[h1,h,mkD]
  ·simp[h1,mkD]
theorem Zn(s:List Nat)(h0:1<=s.length)(h4:s.length<=4)(O:aq):oV [.str s] O=.ok (.bl (eY s)) O:=by
 match s,h0,h4 with
 | [a],_,_ =>
  simp[oV,qi,eY]
  by_cases h1:a=91<;>simp[h1]
 | [a,b],_,_ =>
  simp[oV,qi,eY,wH]
  by_cases h1:a=91
  ·by_cases h2:b=47<;>simp[h1,h2]
  ·simp[h1]
 | [a,b,c],_,_ =>
  simp[oV,qi,eY,wH]
  by_cases h1:a=91
  ·by_cases h2:b=47<;>simp[h1,h2]
  ·simp[h1]
 | [a,b,c,d],_,_ =>
  simp[oV,qi,eY]
theorem Zo(p:Int)(c:Nat)(O:aq):tU [.int p,.str [c]] O=.ok (own p c) O:=by
 simp[tU,Bf,own,item]
 by_cases h1:c=10
 ·simp[h1,bT]
 ·by_cases h2:c=9
  ·simp[h1,h2,bY]
  ·simp[h1,h2,aU]
theorem MP(p:Int):∀(l:List Nat) (k:Nat),(fG k (dD l)).map (λd=>match d with | .tup [.int i,.str [c]]=>own (p+i) c | _=>.non)=d9 (p+k) l
 | [],k=>rfl
 |c::l,k=>by
  show own (p+(k:Int)) c::(fG (k+1) (dD l)).map _=own (p+k) c::d9 (p+k+1) l;rw[MP p l (k+1)];congr 2;omega
theorem FT(p:Int)(l:List Nat)(j:ascii l=true)(n:l.length<=100000)(O:aq):qj [.int p,.str l] O=.ok (.lst (d9 p l)) O:=by
 have hl':(fG 0 (dD l)).length<=1000000:=by rw[uU];unfold dD;rw[ze];omega
 have m:fB (dO 2 (bC (mgN 0) (bC (mgN 1) dW))) il (bz tU (ao (ak aX (aa 2) (aa 0)) (ao (aa 1) au))) (fG 0 (dD l)) [none,none,some (.int p)] O []=.ok (d9 p l) O:=by
  rw[K1 (λρ=>∃a b,ρ=[a,b,some (.int p)]) (λd=>match d with | .tup [.int i,.str [c]]=>own (p+i) c | _=>.non) _ _ _ _ ⟨none,none,rfl⟩ (by
   rintro d hd ρ ⟨a,b,rfl⟩;obtain⟨i,h⟩:=List.mem_iff_getElem?.mp hd;obtain⟨c,q,rfl⟩:=MN h;refine⟨_,rfl,⟨_,_,rfl⟩,rfl,?_⟩
   simp[Zo])]
  rw[MP p l 0];simp
 simp[qj,Bh,K8 j,hl',m]
def RO(h:List Nat)(p:Int):Ob:=.ins "Reader" [("held",.str h),("place",.int p)]
theorem fh{O:aq}{n:Nat}{h:List Nat}{p:Int}(e:O[n]?=some (RO h p)):iD ["Reader"] "held" (.ob n) O=.ok (.str h) O:=by
 unfold iD;dsimp only;rw[e];rfl
theorem fp{O:aq}{n:Nat}{h:List Nat}{p:Int}(e:O[n]?=some (RO h p)):iD ["Reader"] "place" (.ob n) O=.ok (.int p) O:=by
 unfold iD;dsimp only;rw[e];rfl
theorem ph{O:aq}{n:Nat}{h h':List Nat}{p:Int}{ρ:aB}(e:O[n]?=some (RO h p)):puF ["Reader"] "held" (.str h') ρ (.ok (.ob n) O)=.nx ρ (O.set n (RO h' p)):=by
 unfold puF;dsimp only;rw[e];rfl
theorem pp{O:aq}{n:Nat}{h:List Nat}{p c:Int}{ρ:aB}(e:O[n]?=some (RO h p)):puF ["Reader"] "place" (.int c) ρ (.ok (.ob n) O)=.nx ρ (O.set n (RO h c)):=by
 unfold puF;dsimp only;rw[e];rfl
theorem gs{O:aq}{n:Nat}{x y:Ob}(e:O[n]?=some x):(O.set n y)[n]?=some y:=by
 obtain⟨h,_⟩:=zj.mp e;simp[h]
theorem FW{h:List Nat}(H:cj h):ascii h=true:=by
 cases H with
 |h0=>rfl
 |h1=>rfl
 |h2=>rfl
 |h3 x hx =>
  have:x∈[97,98,99,100,101,102,103,104,46]:=je hx
  have q:∀c∈[97,98,99,100,101,102,103,104,46],c<128:=by decide
  simp[ascii,q x this]
 |h4 x hx =>
  have:x∈[97,98,99,100,101,102,103,104,46]:=je hx
  have q:∀c∈[97,98,99,100,101,102,103,104,46],c<128:=by decide
  simp[ascii,q x this]
theorem Zq{a:List Nat}{c:Nat}(h:ascii a=true)(d:c<128):ascii (a++[c])=true:=by
 unfold ascii at *;rw[List.all_append,h];simp[d]
theorem Zr{O:aq}{n:Nat}{h:List Nat}{p:Int}(e:O[n]?=some (RO h p))(H:cj h)(c:Nat)(t:c<128):j6 [.ob n,.str [c]] O=.ok (.lst (tk h c (p - h.length)).1) (O.set n (RO (tk h c (p - h.length)).2 (p+1))):=by
 have C:=H.len;have d:(O.set n (RO h (p+1)))[n]?=some (RO h (p+1)):=gs e
 have r:h.length+1<=1000000:=by omega
 have q:h.length<=1000000:=by omega
 have s0:1<=(h++[c]).length:=by simp
 have j:(h++[c]).length<=4:=by simp;omega
 have B:=Zn (h++[c]) s0 j;have y:=Zm (h++[c]) s0 j
 have x:=λO=>FT (p - h.length) h (FW H) (by omega) O
 have u:=λO=>FT (p - h.length) (h++[c]) (Zq (FW H) t) (by omega) O
 unfold tk;simp[j6,Bs,fh e,fp e,pp e,r,q,B]
 by_cases m:eY (h++[c])=true
 ·simp[m,ph d]
 ·simp[m,y]
  cases q2:markB (h++[c]) with
  |some kv =>
   obtain⟨k,v⟩:=kv;simp[mkD,ph d,item]
  |none =>
   simp[mkD]
   by_cases l:c=91
   ·subst l;simp[fh d,x,ph d]
   ·simp[l,ph d,u]
theorem FZ:∀(l:List Nat) (p:Int),(d9 p l).length=l.length
 | [],_=>rfl
 |c::l,p=>by show(d9 (p+1) l).length+1=l.length+1;rw[FZ l]
theorem MT{h:List Nat}(H:cj h)(c:Nat)(p:Int):(tk h c p).1.length<=4:=by
 have:=H.len
 unfold tk
 split
 ·simp
 ·split
  ·simp
  ·split<;>simp[FZ]<;>omega
theorem M3:∀(t:List Nat) {h:List Nat} (_:cj h) (p:Int),(bh h p t).1.length<=4 * t.length
 | [],h,H,p=>by simp[bh]
 |c::t,h,H,p=>by
  have a:=MT H c (p - h.length);have b:=M3 t (Ae H c (p - h.length) []).1 (p+1);simp only[bh,zd,zn];omega
theorem Zt{O:aq}{n:Nat}{x y:Ob}:(O.set n x).set n y=O.set n y:=by simp
theorem M4{n:Nat}{t0:List Nat}:∀(t:List Nat) (h:List Nat) (_:cj h) (p:Int) (acc:List D) (O:aq) (l:Option D),O[n]?=some (RO h p)->(∀c∈t,c<128)->acc.length+4 * t.length<=1000000 ->
  ∃j,cz (mgN 3) (ju 2 (bN "Reader" "take" j6 (aa 0) (ao (aa 3) au))) (dD t) [some (.ob n),some (.str t0),some (.lst acc),l] O=.nx [some (.ob n),some (.str t0),some (.lst (acc++(bh h p t).1)),j] (O.set n (RO (bh h p t).2 (p+t.length)))
 | [],h,H,p,acc,O,l,e,_,_=>by
  refine⟨l,?_⟩;obtain⟨B,y⟩:=zj.mp e;show Fl.nx _ O=_;simp only[bh,zB,zw]
  have:O.set n (RO h p)=O:=by rw[<-y];exact List.set_getElem_self _
  simp[this]
 |c::t,h,H,p,acc,O,l,e,hc,hl=>by
  have u:=Zr e H c (hc c zp)
  have m:meF "Reader" "take" j6 (ao (aa 3) au [some (.ob n),some (.str t0),some (.lst acc),some (.str [c])]) (.ob n) O=j6 [.ob n,.str [c]] O:=by
   unfold meF;dsimp only;rw[e];rfl
  have tl:=MT H c (p - h.length);simp only[zn] at hl;obtain⟨j,q⟩:=M4 t (tk h c (p - h.length)).2 (Ae H c (p - h.length) []).1 (p+1) (acc++(tk h c (p - h.length)).1) (O.set n (RO (tk h c (p - h.length)).2 (p+1))) (some (.str [c])) (gs e) (λd hd=>hc d (zr _ hd)) (by rw[zd];omega);refine⟨j,?_⟩
  have x:(ju 2 (bN "Reader" "take" j6 (aa 0) (ao (aa 3) au))) [some (.ob n),some (.str t0),some (.lst acc),some (.str [c])] O=.nx [some (.ob n),some (.str t0),some (.lst (acc++(tk h c (p - h.length)).1)),some (.str [c])] (O.set n (RO (tk h c (p - h.length)).2 (p+1))):=by
   rw[K6,gD,cG];show exF 2 (meF "Reader" "take" j6 _ (.ob n) O) _=_;rw[m,u,K7 (ds:=acc) rfl (by omega)];rfl
  show cz _ _ (D.str [c]::dD t) _ O=_;unfold cz;rw[mg_n];dsimp only
  show(match(ju 2 (bN "Reader" "take" j6 (aa 0) (ao (aa 3) au))) [some (.ob n),some (.str t0),some (.lst acc),some (.str [c])] O with
   | .nx ρ' O'=>cz _ _ (dD t) ρ' O' | .ct ρ' O'=>cz _ _ (dD t) ρ' O' | .bk ρ' O'=>Fl.nx ρ' O' | r=>r)=_
  rw[x];dsimp only;rw[q,Zt];simp only[bh,zk,zn];congr 3
  push_cast
  omega
theorem M5{O:aq}{n:Nat}{h:List Nat}{p:Int}(e:O[n]?=some (RO h p))(H:cj h)(t:List Nat)(c:Okt t):oX [.ob n,.str t] O=.ok (.lst (bh h p t).1) (O.set n (RO (bh h p t).2 (p+t.length))):=by
 have j:=c.len;obtain⟨d,q⟩:=M4 (t0:=t) t h H p [] O none e c.lt (by simp;omega);have q':cz (mgN 3) (ju 2 (bN "Reader" "take" j6 (aa 0) (ao (aa 3) au))) (dD t) [some (.ob n),some (.str t),some (.lst []),none] O=_:=q;simp only[oX,By,nj,zx,zW,zn,zw,List.replicate,List.cons_append,zM,bG,m8,oN,gj,cM,cG,zq,zE,aY,Zk t c,ni,bI,dF,iy,Nat.zero_le,if_true,dM,zO,zP,jW,yV,Xr c.asc,yU,jX,q',iB,iC,iU]
theorem M6{O:aq}{n:Nat}{h:List Nat}{p:Int}(e:O[n]?=some (RO h p))(H:cj h):oY [.ob n] O=.ok (.lst (d9 (p - h.length) h)) (O.set n (RO [] p)):=by
 have j:=H.len
 have c:h.length<=1000000:=by omega
 have d:=λO=>FT (p - h.length) h (FW H) (by omega) O
 simp[oY,BV,fh e,fp e,c,d,ph e]
theorem Zu(O:aq):qm [.ob O.length] (O++[.ins "Reader" []])=.ok .non (O++[RO [] 0]):=by
 have a:(O++[Ob.ins "Reader" []])[O.length]?=some (.ins "Reader" []):=by simp
 have d:∀ρ,puF ["Reader"] "held" (.str []) ρ (.ok (.ob O.length) (O++[.ins "Reader" []]))=.nx ρ (O++[.ins "Reader" [("held",.str [])]]):=λρ=>by
  unfold puF;dsimp only;rw[a];dsimp only;rw[if_pos (by decide)];simp[putD]
 have b:(O++[Ob.ins "Reader" [("held",.str [])]])[O.length]?=some (.ins "Reader" [("held",.str [])]):=by simp
 have c:∀ρ,puF ["Reader"] "place" (.int 0) ρ (.ok (.ob O.length) (O++[.ins "Reader" [("held",.str [])]]))=.nx ρ (O++[RO [] 0]):=λρ=>by
  unfold puF;dsimp only;rw[b];dsimp only;rw[if_pos (by constructor<;>decide)]
  have:putD "place" (.int 0) [("held",.str [])]=[(("held":Str),D.str []),("place",.int 0)]:=by rfl
  rw[this];simp[RO]
 simp[qm,Bo,d,c]
theorem M7(ρ:aB)(O:aq):jR "Reader" qm au ρ O=.ok (.ob O.length) (O++[RO [] 0]):=by
 simp[Zu]
theorem wI(O:aq):(O++[RO [] 0])[O.length]?=some (RO [] 0):=by simp
theorem wJ{d:List D->aq->Res D}{m:Str}{ma:aq->Res (List D)}{n:Nat}{O:aq}{h:List Nat}{p:Int}(j:m≠"held")(c:m≠"place")(e:O[n]?=some (RO h p)):meF "Reader" m d ma (.ob n) O=(ma O).bind λds l=>d (.ob n::ds) l:=by
 unfold meF;dsimp only;rw[e];dsimp only[RO];rw[if_pos];refine⟨rfl,?_⟩
 have a:(m == ("held":Str))=false:=by simpa using j
 have b:(m == ("place":Str))=false:=by simpa using c
 simp[List.lookup,a,b]
theorem M8{α:Type}(l:List α)(a b:Nat):cR l (some (a:Int)) (some (b:Int))=(l.drop a).take (b - a):=by
 unfold cR;rw[HT.sIx_nat,HT.sIx_nat]
 by_cases h:a<=l.length
 ·rw[Nat.min_eq_left h]
  by_cases c:b<=l.length
  ·rw[Nat.min_eq_left c]
  ·rw[Nat.min_eq_right (by omega),List.take_of_length_le (by rw[List.length_drop];omega),List.take_of_length_le (by rw[List.length_drop];omega)]
 ·rw[Nat.min_eq_right (show l.length<=a by omega),List.drop_eq_nil_of_le (show l.length<=l.length by omega),List.drop_eq_nil_of_le (show l.length<=a by omega)];simp
theorem Zv{α:Type}(l:List α)(b:Nat):cR l none (some (b:Int))=l.take b:=by
 unfold cR;rw[HT.sIx_nat,HT.sIx_none,List.drop_zero,Nat.sub_zero]
 by_cases c:b<=l.length
 ·rw[Nat.min_eq_left c]
 ·rw[Nat.min_eq_right (by omega),List.take_of_length_le (by omega),List.take_of_length_le (by omega)]
theorem Zw{α:Type}(l:List α)(a:Nat):cR l (some (a:Int)) none=l.drop a:=by
 unfold cR;rw[HT.sIx_nat,HT.sIx_none]
 by_cases h:a<=l.length
 ·rw[Nat.min_eq_left h,List.take_of_length_le (by rw[List.length_drop];omega)]
 ·rw[Nat.min_eq_right (by omega),List.drop_eq_nil_of_le (by omega),List.drop_eq_nil_of_le (by omega)];simp
@[simp] theorem QAp{a:Nat}:cR [a] none (some 2)=[a]:=rfl
@[simp] theorem QAn{a b:Nat}:cR [a,b] none (some 2)=[a,b]:=rfl
@[simp] theorem QAo{a b c:Nat}:cR [a,b,c] none (some 2)=[a,b]:=rfl
@[simp] theorem QAr{a b c d:Nat}:cR [a,b,c,d] none (some 2)=[a,b]:=rfl
theorem o8{c:Nat}:gIn false (.str [c]) (.str [97,98,99,100,101,102,103,104,46])=some (.bl (col c)):=by
 rw[nq];simp[col]
theorem Zx(t:List Nat)(I:t.length<=1000000)(h:Nat)(c:Nat)(r:List Nat)(F:t.drop h=c::r)(O:aq):uc [.str t,.int h] O=.ok (.tup [item h (one c r).1 (one c r).2.1,.int ((one c r).2.2+1:Nat)]) O:=by
 have y:cR t (some (h:Int)) (some ((h:Int)+4))=(c::r).take 4:=by
  rw[show(h:Int)+4=((h+4:Nat):Int) by push_cast;rfl,M8,F,show h+4 - h=4 by omega]
 have E:t.length<=16777216:=by omega
 simp[uc,Ei,y,E]
 by_cases q:c=10
 ·subst q
  match r with
  | []=>simp[one,item,bT]
  | [d]=>simp[one,item,bT]
  | [d,e]=>simp[one,item,bT]
  |d::e::f::g=>simp[one,item,bT]
 by_cases x:c=9
 ·subst x
  match r with
  | []=>simp[one,item,bY]
  | [d]=>simp[one,item,bY]
  | [d,e]=>simp[one,item,bY]
  |d::e::f::g=>simp[one,item,bY]
 by_cases n:c=91
 ·subst n
  match r with
  | []=>simp[one,cY,item,aU]
  | [d] =>
   by_cases j:d=93
   ·simp[one,cY,item,j,fU]
   by_cases l:d=91
   ·simp[one,cY,item,j,l,aU]
   by_cases m:col d=true<;>by_cases u:d=47<;>simp[one,cY,jy,gW,item,j,l,m,u,aU]
  | [d,e] =>
   by_cases j:d=93
   ·simp[one,cY,item,j,fU]
   by_cases l:d=91
   ·simp[one,cY,item,j,l,aU]
   by_cases m:col d=true
   ·by_cases C:e=93<;>simp[-nq,o8,one,cY,jy,item,j,l,m,C,aU,eO]
   by_cases u:d=47
   ·by_cases B:col e=true<;>simp[-nq,o8,one,cY,gW,jY,item,j,l,m,u,B,aU,j4]
   ·simp[-nq,o8,one,cY,jy,gW,item,j,l,m,u,aU]
  |d::e::f::g =>
   by_cases j:d=93
   ·simp[one,cY,item,j,fU]
   by_cases l:d=91
   ·simp[one,cY,item,j,l,aU]
   by_cases m:col d=true
   ·have H:=(tQ m).2.2.1
    by_cases C:e=93<;>simp[-nq,o8,one,cY,jy,item,j,l,m,H,C,aU,eO]
   by_cases u:d=47
   ·by_cases B:col e=true
    ·by_cases G:f=93<;>simp[-nq,o8,one,cY,gW,jY,item,j,l,m,u,B,G,aU,eX,j4]
    ·simp[-nq,o8,one,cY,gW,jY,item,j,l,m,u,B,aU,j4]
   ·simp[-nq,o8,one,cY,jy,gW,item,j,l,m,u,aU]
 ·match r with
  | []=>simp[one,item,aU,q,x,n]
  | [d]=>simp[one,item,aU,q,x,n]
  | [d,e]=>simp[one,item,aU,q,x,n]
  |d::e::f::g=>simp[one,item,aU,q,x,n]
theorem one_le(c:Nat)(r:List Nat):(one c r).2.2<=r.length:=by
 unfold one
 split
 ·simp
 split
 ·simp
 split
 ·unfold cY
  cases r with
  |nil=>simp
  |cons d r =>
   dsimp only
   split
   ·simp
   split
   ·simp
   split
   ·unfold jy
    cases r with
    |nil=>simp
    |cons e r=>dsimp only;split<;>simp
   split
   ·unfold gW
    cases r with
    |nil=>simp
    |cons e r =>
     dsimp only
     split
     ·unfold jY
      cases r with
      |nil=>simp
      |cons f r=>dsimp only;split<;>simp
     ·simp
   ·simp
 ·simp
theorem Zy(t:List Nat)(y:t.length<=5000)(O:aq):qM [.str t] O=.ok (.lst (items 0 t)) O:=by
 obtain⟨x,h,e,rfl,pre,d,m,l,rfl,h1,h2,h3,h4⟩:=K9 (t:=aH (ak gLt (aa 2) (bM bW (ao (aa 0) au))))
  (b:=aA (rM (bz uc (ao (aa 0) (ao (aa 2) au))) (dO 2 (bC (mgN 3) (bC (mgN 4) dW)))) (aA (iQ 1 (aa 3)) (aO 2 (ak aX (aa 2) (aa 4)))))
  (λk ρ h=>h=O/\∃(pre:List D) (d:Nat) (m l:Option D),ρ=[some (.str t),some (.lst pre),some (.int d),m,l]/\d<=t.length/\k=t.length - d/\pre++items d (t.drop d)=items 0 t/\pre.length<=d)
  wF t.length [some (.str t),some (.lst []),some (.int 0),none,none] O (by unfold wF;omega) ⟨rfl,[],0,none,none,rfl,Nat.zero_le _,by omega,by simp,by simp⟩ (by
   rintro k ρ h ⟨rfl,pre,d,m,l,rfl,h1,h2,h3,h4⟩
   have n:t.length<=1000000:=by omega
   have j:d<t.length:=by omega
   have hlt':(d:Int)<t.length:=by omega
   refine⟨by simp[n,j],?_⟩
   cases hd:t.drop d with
   |nil =>
    have:=congrArg List.length hd
    simp at this
    omega
   |cons c r =>
    have q:=congrArg List.length hd;simp at q;have B:=one_le c r;have u:=Zx t n d c r hd h;refine⟨t.length - (d+((one c r).2.2+1)),[some (.str t),some (.lst (pre++[item d (one c r).1 (one c r).2.1])),some (.int ((d+((one c r).2.2+1):Nat):Int)),some (item d (one c r).1 (one c r).2.1),some (.int ((one c r).2.2+1:Nat))],h,by omega,?_,rfl,_,_,_,_,rfl,by omega,rfl,?_,?_⟩
    ·rw[bG,XS];simp only[oN,gj,cM,cG,zq,zE,aY,u];rw[XX tO];simp only[bI,bG,Aa,cG,zO,zP,zq,zE];rw[Ab (ds:=pre) rfl (by omega)];simp
    ·rw[hd,tR] at h3;rw[<-h3,zk];congr 1
     have:t.drop (d+((one c r).2.2+1))=r.drop (one c r).2.2:=by
      rw[<-List.drop_drop,hd,Nat.add_comm,<-List.drop_drop];rfl
     rw[this];simp
    ·simp
     omega) (by
   rintro ρ h ⟨rfl,pre,d,m,l,rfl,h1,h2,h3,h4⟩
   have n:t.length<=1000000:=by omega
   have j:t.length<=d:=by omega
   simp[n,j])
 have hd:t.drop d=[]:=List.drop_eq_nil_of_le (by omega);rw[hd,oO,zB] at h3;subst h3;simp only[qM,El,nj,zx,zW,zn,zw,List.replicate,List.cons_append,zM,bG,dF,iy,cM,aY,Nat.zero_le,if_true,dM,bI,zO,zP,m_c];show cN (iT (rN wF _ _ [some (.str t),some (.lst []),some (.int 0),none,none] h) _)=_;unfold rN;rw[e];rfl
def M9(d:D):Prop:=∃(p:Int) (k v:List Nat),d=item p k v/\(∀c∈k,c<1114112)/\∀c∈v,c<1114112
theorem Zz{d:D}(h:M9 d):dX d=true/\(toP d).canLay0=true/\(toP d).depth<=5:=by
 obtain⟨p,k,v,rfl,j,c⟩:=h;refine⟨rfl,?_,?_⟩
 ·have a:=p7 j;have b:=p7 c;show PyData.canLay0 (.tuple [.int p,.str (S k),.str (S v)])=true;simp[PyData.canLay0,PyData.canLayAll0] at *
  try exact⟨a,b⟩
 ·show PyData.depth (.tuple [.int p,.str (S k),.str (S v)])<=5;simp[PyData.depth,PyData.depthAll]
abbrev LT:=Nat×Nat×Nat×Int
def dL(x:LT):D:=.tup [.str [x.1],.str [x.2.1],.str [x.2.2.1],.int x.2.2.2]
def OkL(x:LT):Prop:=x.1<=125/\x.2.1<=125/\x.2.2.1<=125
theorem Nb{x:LT}(h:OkL x):dX (dL x)=true/\(toP (dL x)).canLay0=true/\(toP (dL x)).depth<=5:=by
 obtain⟨h1,h2,h3⟩:=h;refine⟨rfl,?_,?_⟩
 ·have a:=p7 (l:=[x.1]) (by simp;omega);have b:=p7 (l:=[x.2.1]) (by simp;omega);have c:=p7 (l:=[x.2.2.1]) (by simp;omega);show PyData.canLay0 (.tuple [.str (S [x.1]),.str (S [x.2.1]),.str (S [x.2.2.1]),.int x.2.2.2])=true;simp[PyData.canLay0,PyData.canLayAll0] at *
  try exact⟨a,b,c⟩
 ·show PyData.depth (.tuple [.str (S [x.1]),.str (S [x.2.1]),.str (S [x.2.2.1]),.int x.2.2.2])<=5;simp[PyData.depth,PyData.depthAll]
theorem Ga(l:List LT)(h:∀x∈l,OkL x):okE (.lst (l.map dL))=true:=vN (n:=5) (by decide) λd hd=>by
 obtain⟨x,c,rfl⟩:=zT.mp hd;exact Nb (h x c)
def bR:List Nat:=[119,104,111,108,101]
def cL:List Nat:=[109,111,114,101]
def mkO(M:Int)(lw:List Nat)(n:Nat)(i g:Nat)(st:Bool):Ob:=.ins "Maker" [("most",.int M),("last_word",.str lw),("letters",.ob n),("pair",.tup [.str [i],.str [g]]),("stale",.bl st)]
section
variable {O:aq}{o n i g:Nat}{M:Int}{lw:List Nat}{st:Bool}
theorem fM(e:O[o]?=some (mkO M lw n i g st)):iD ["Maker"] "most" (.ob o) O=.ok (.int M) O:=by
 unfold iD;dsimp only;rw[e];rfl
theorem fW(e:O[o]?=some (mkO M lw n i g st)):iD ["Maker"] "last_word" (.ob o) O=.ok (.str lw) O:=by
 unfold iD;dsimp only;rw[e];rfl
theorem fL(e:O[o]?=some (mkO M lw n i g st)):iD ["Maker"] "letters" (.ob o) O=.ok (.ob n) O:=by
 unfold iD;dsimp only;rw[e];rfl
theorem fP(e:O[o]?=some (mkO M lw n i g st)):iD ["Maker"] "pair" (.ob o) O=.ok (.tup [.str [i],.str [g]]) O:=by
 unfold iD;dsimp only;rw[e];rfl
theorem fS(e:O[o]?=some (mkO M lw n i g st)):iD ["Maker"] "stale" (.ob o) O=.ok (.bl st) O:=by
 unfold iD;dsimp only;rw[e];rfl
theorem pW{ρ:aB}{w:List Nat}(e:O[o]?=some (mkO M lw n i g st)):puF ["Maker"] "last_word" (.str w) ρ (.ok (.ob o) O)=.nx ρ (O.set o (mkO M w n i g st)):=by
 unfold puF;dsimp only;rw[e];rfl
theorem pL{ρ:aB}{m:Nat}(e:O[o]?=some (mkO M lw n i g st)):puF ["Maker"] "letters" (.ob m) ρ (.ok (.ob o) O)=.nx ρ (O.set o (mkO M lw m i g st)):=by
 unfold puF;dsimp only;rw[e];rfl
theorem pP{ρ:aB}{c g':Nat}(e:O[o]?=some (mkO M lw n i g st)):puF ["Maker"] "pair" (.tup [.str [c],.str [g']]) ρ (.ok (.ob o) O)=.nx ρ (O.set o (mkO M lw n c g' st)):=by
 unfold puF;dsimp only;rw[e];rfl
theorem pS{ρ:aB}{b:Bool}(e:O[o]?=some (mkO M lw n i g st)):puF ["Maker"] "stale" (.bl b) ρ (.ok (.ob o) O)=.nx ρ (O.set o (mkO M lw n i g b)):=by
 unfold puF;dsimp only;rw[e];rfl
theorem gs'{x y:Ob}(e:O[o]?=some x):(O.set o y)[o]?=some y:=by
 obtain⟨h,_⟩:=zj.mp e;simp[h]
theorem ap1{x y:Ob}(e:O[o]?=some x):(O++[y])[o]?=some x:=by
 rw[zC (zj.mp e).1];exact e
theorem apN{y:Ob}:(O++[y])[O.length]?=some y:=by simp
@[simp] theorem Gb{m:L2.M D}{ρ:aB}:mMl m ρ O=(m ρ O).bind λd c=>match d with
 | .lst ds=>.ok (.ob c.length) (c++[.ml ds])
 |d=>.ok d c:=rfl
theorem jz{c:List D->aq->Res D}{m:Str}{ma:aq->Res (List D)}(h1:m≠"most")(h2:m≠"last_word")(h3:m≠"letters")(h4:m≠"pair")(d:m≠"stale")(e:O[o]?=some (mkO M lw n i g st)):meF "Maker" m c ma (.ob o) O=(ma O).bind λds q=>c (.ob o::ds) q:=by
 unfold meF;dsimp only;rw[e];dsimp only[mkO];rw[if_pos];refine⟨rfl,?_⟩
 have a1:(m == ("most":Str))=false:=by simpa using h1
 have a2:(m == ("last_word":Str))=false:=by simpa using h2
 have l:(m == ("letters":Str))=false:=by simpa using h3
 have j:(m == ("pair":Str))=false:=by simpa using h4
 have h:(m == ("stale":Str))=false:=by simpa using d
 simp[List.lookup,a1,a2,l,j,h]
theorem Ge{w:List Nat}(e:O[o]?=some (mkO M lw n i g st)):lY [.ob o,.str w] O=.ok (.lst [.tup [.ob n,.str w]]) ((O++[Ob.ml []]).set o (mkO M w O.length i g st)):=by
 have c:(O++[Ob.ml []])[o]?=some (mkO M lw n i g st):=ap1 e;have d:((O++[Ob.ml []]).set o (mkO M lw O.length i g st))[o]?=some (mkO M lw O.length i g st):=gs' c;simp[lY,CW,fL e,pL c,pW d]
theorem ZC(e:O[o]?=some (mkO M lw n i g st)):oZ [.ob o] O=.ok .non (if st=true then(O++[Ob.ml []]).set o (mkO M lw O.length i g false) else O):=by
 have c:(O++[Ob.ml []])[o]?=some (mkO M lw n i g st):=ap1 e;have d:((O++[Ob.ml []]).set o (mkO M lw O.length i g st))[o]?=some (mkO M lw O.length i g st):=gs' c
 cases st with
 |true=>simp[oZ,vZ,fS e,pL c,pS d]
 |false=>simp[oZ,vZ,fS e]
theorem Gf{mo m:L2.M D}{ρ:aB}{ds:List D}{d:D}(h1:mo ρ O=.ok (.ob n) O)(h2:O[n]?=some (.ml ds))(h3:m ρ O=.ok d O)(h4:ds.length<1000000):oA mo m ρ O=.nx ρ (O.set n (.ml (ds++[d]))):=by
 unfold oA;rw[h1];dsimp only;rw[h2];dsimp only;rw[h3];dsimp only;rw[h2];dsimp only;rw[if_pos h4]
theorem ug{ds:List D}(h:O[n]?=some (.ml ds)):bO O (.ob n)=.lst ds:=by
 unfold bO;dsimp only;rw[h]
end
structure Sta where
 row:List LT
 st:Bool
 i:Nat
 g:Nat
structure OkS(M:Int)(s:Sta):Prop where
 len:(s.row.length:Int)<=M
 ok:∀x∈s.row,OkL x
 i:s.i<=125
 g:s.g<=125
def Mk(O:aq)(o:Nat)(M:Int)(lw:List Nat)(s:Sta):Prop:=∃n,O[o]?=some (mkO M lw n s.i s.g s.st)/\O[n]?=some (.ml (s.row.map dL))
def Prt(O:aq)(told:List D)(due:List (List LT×List Nat)):Prop:=(told=[]/\due=[])\/∃n r w,told=[.tup [.ob n,.str w]]/\due=[(r,w)]/\O[n]?=some (.ml (r.map dL))/\(w=bR\/w=cL)/\(∀x∈r,OkL x)/\r.length<=1000
inductive Itm:List Nat->List Nat->Prop where
 | anew:Itm bY []
 | end_:Itm bT []
 | plain:Itm fU []
 | ink (c:Nat) (h:c<=125):Itm eO [c]
 | ground (c:Nat) (h:c<=125):Itm eX [c]
 | sign (c:Nat) (h:c<=125):Itm aU [c]
def bare(s:Sta):List LT:=if s.st=true then[] else s.row
def stS(M:Int)(s:Sta)(p:Int)(c:Nat):Sta:=if((bare s).length:Int)=M then⟨[(c,s.i,s.g,p)],false,s.i,s.g⟩ else⟨bare s++[(c,s.i,s.g,p)],false,s.i,s.g⟩
def lE(M:Int)(s:Sta):List (List LT×List Nat):=if((bare s).length:Int)=M then[(bare s,cL)] else[]
def stp(M:Int)(s:Sta)(p:Int)(k v:List Nat):Sta :=
 if k=bY then⟨s.row,true,46,46⟩ else if k=bT then⟨[],false,46,46⟩ else if k=aU then stS M s p (v.headD 0) else if k=eO then⟨bare s,false,v.headD 0,s.g⟩ else if k=eX then⟨bare s,false,s.i,v.headD 0⟩ else⟨bare s,false,46,46⟩
def due(M:Int)(s:Sta)(k:List Nat):List (List LT×List Nat):=if k=bT then[(s.row,bR)] else if k=aU then lE M s else[]
def lwS(M:Int)(s:Sta)(lw k:List Nat):List Nat:=match due M s k with
 | [(_,w)]=>w
 | _=>lw
def aR(x:List LT×List Nat):D:=.tup [.lst (x.1.map dL),.str x.2]
@[simp] theorem ZD{i j k:Nat}{a b c:D}{ρ:aB}:dO 3 (bC (mgN i) (bC (mgN j) (bC (mgN k) dW))) (.tup [a,b,c]) ρ=some (((ρ.set i (some a)).set j (some b)).set k (some c)):=rfl
section
variable {O:aq}{o n i g:Nat}{M:Int}{lw:List Nat}{st:Bool}
theorem mF{x:Ob}(e:O[o]?=some x):o<O.length:=(zj.mp e).1
theorem ZF{ds:List D}{p:Int}{c:Nat}(e:O[o]?=some (mkO M lw n i g st))(u:O[n]?=some (.ml ds))(G:ds.length<1000000):
  tZ [.ob o,item p aU [c]] O=if(ds.length:Int)=M then .ok (.lst [.tup [.ob n,.str cL]]) (((O++[Ob.ml []]).set o (mkO M cL O.length i g st)).set O.length (.ml [dL (c,i,g,p)])) else .ok (.lst []) (O.set n (.ml (ds++[dL (c,i,g,p)]))):=by
 have x:=ug u
 have pre:∀(ρ:aB) (l:aq) (t:Nat) (d:List Nat),l[o]?=some (mkO M d t i g st)->∀a2,(bQ (ao (ak gIx (aa 1) (mC (.int 2))) (ao (ak gIx (cJ ["Maker"] "pair" (aa 0)) (mC (.int 0))) (ao (ak gIx (cJ ["Maker"] "pair" (aa 0)) (mC (.int 1))) (ao (ak gIx (aa 1) (mC (.int 0))) au))))) [some (.ob o),some (item p aU [c]),a2] l=.ok (dL (c,i,g,p)) l:=λρ l t d h a2=>by
  have F:gIx (.tup [.int p,.str aU,.str [c]]) (.int 2)=some (.str [c]):=rfl;have E:gIx (.tup [.int p,.str aU,.str [c]]) (.int 0)=some (.int p):=rfl;have C:gIx (.tup [.str [i],.str [g]]) (.int 0)=some (.str [i]):=rfl;have B:gIx (.tup [.str [i],.str [g]]) (.int 1)=some (.str [g]):=rfl;simp[item,fP h,F,E,C,B,dL]
 by_cases j:(ds.length:Int)=M
 ·rw[if_pos j];have H:=Ge (w:=cL) e;have y:((O++[Ob.ml []]).set o (mkO M cL O.length i g st))[o]?=some (mkO M cL O.length i g st):=gs' (ap1 e)
  have I:((O++[Ob.ml []]).set o (mkO M cL O.length i g st))[O.length]?=some (.ml []):=by
   rw[zf (zt (mF e))];exact apN
  have q:=Gf (mo:=cJ ["Maker"] "letters" (aa 0)) (m:=bQ (ao (ak gIx (aa 1) (mC (.int 2))) (ao (ak gIx (cJ ["Maker"] "pair" (aa 0)) (mC (.int 0))) (ao (ak gIx (cJ ["Maker"] "pair" (aa 0)) (mC (.int 1))) (ao (ak gIx (aa 1) (mC (.int 0))) au))))) (ρ:=[some (.ob o),some (item p aU [c]),some (.lst [.tup [.ob n,.str cL]])]) (by simp[fL y]) I (pre [] _ _ _ y _) (by simp)
  have r:(aH (ak gEq (bM bW (ao (cJ ["Maker"] "letters" (aa 0)) au)) (cJ ["Maker"] "most" (aa 0)))) [some (.ob o),some (item p aU [c]),some (.lst [])] O=.ok true O:=by
   simp[fL e,fM e,x,j]
  have J:(bN "Maker" "tell" lY (aa 0) (ao (mC (.str [109,111,114,101])) au)) [some (.ob o),some (item p aU [c]),some (.lst [])] O=.ok (.lst [.tup [.ob n,.str cL]]) ((O++[Ob.ml []]).set o (mkO M cL O.length i g st)):=by
   rw[gD];simp only[cG,zq,aY,jz (m:="tell") (by decide) (by decide) (by decide) (by decide) (by decide) e,gj,cM,m_c];exact H
  show cN (qC [some (.ob o),some (item p aU [c]),none] O)=_;unfold qC;simp only[bG,dF,iy,cM,aY,zw,Nat.zero_le,if_true,dM,bI,zO,zP,gk,r,gm,J,q,iB,cG,zE,zq,iC,iU,zM]
 ·rw[if_neg j];have q:=Gf (mo:=cJ ["Maker"] "letters" (aa 0)) (m:=bQ (ao (ak gIx (aa 1) (mC (.int 2))) (ao (ak gIx (cJ ["Maker"] "pair" (aa 0)) (mC (.int 0))) (ao (ak gIx (cJ ["Maker"] "pair" (aa 0)) (mC (.int 1))) (ao (ak gIx (aa 1) (mC (.int 0))) au))))) (ρ:=[some (.ob o),some (item p aU [c]),some (.lst [])]) (by simp[fL e]) u (pre [] _ _ _ e _) G
  have r:(aH (ak gEq (bM bW (ao (cJ ["Maker"] "letters" (aa 0)) au)) (cJ ["Maker"] "most" (aa 0)))) [some (.ob o),some (item p aU [c]),some (.lst [])] O=.ok false O:=by
   simp[fL e,fM e,x,j]
  show cN (qC [some (.ob o),some (item p aU [c]),none] O)=_;unfold qC;simp only[bG,dF,iy,cM,aY,zw,Nat.zero_le,if_true,dM,bI,zO,zP,gk,r,gm,Bool.false_eq_true,if_false,iz,q,iB,cG,zE,zq,iC,iU]
theorem ZG{i g:Nat}{k v:List Nat}(h:Itm k v)(O:aq):tW [.tup [.str [i],.str [g]],.str k,.str v] O=.ok (if k=eO then .tup [.str [v.headD 0],.str [g]] else if k=eX then .tup [.str [i],.str [v.headD 0]] else if k=aU then .tup [.str [i],.str [g]] else .tup [.str [46],.str [46]]) O:=by
 have d:gIx (.tup [.str [i],.str [g]]) (.int 0)=some (.str [i]):=rfl;have c:gIx (.tup [.str [i],.str [g]]) (.int 1)=some (.str [g]):=rfl
 cases h<;>simp[tW,Ci,bY,bT,aU,eO,eX,fU,d,c]
theorem Nf{O:aq}(e:O[o]?=some (mkO M lw n i g st)):lC [.ob o] O=.ok .non ((O++[Ob.ml []]).set o (mkO M lw O.length 46 46 false)):=by
 have c:(O++[Ob.ml []])[o]?=some (mkO M lw n i g st):=ap1 e;have h:((O++[Ob.ml []]).set o (mkO M lw O.length i g st))[o]?=some (mkO M lw O.length i g st):=gs' c;have d:((O++[Ob.ml []]).set o (mkO M lw O.length 46 46 st))[o]?=some (mkO M lw O.length 46 46 st):=gs' c;simp[lC,tX,pL c,pP h,pS d]
theorem Ng{ds:List D}(e:O[o]?=some (mkO M lw n i g st))(c:O[n]?=some (.ml ds)):mj [.ob o] O=.ok (.lst ds) O:=by
 simp[mj,Dp,fL e,ug c]
end
theorem kj{O:aq}{o n:Nat}{M:Int}{lw:List Nat}{m i g:Nat}{st:Bool}{ds:List D}(e:O[o]?=some (mkO M lw m i g st))(c:O[n]?=some (.ml ds)):o≠n:=λz=>by
 rw[z,c] at e;cases e
theorem Prt.set{O:aq}{o:Nat}{M:Int}{lw:List Nat}{m i g:Nat}{st:Bool}{told:List D}{du:List (List LT×List Nat)}{x:Ob}(h:Prt O told du)(e:O[o]?=some (mkO M lw m i g st)):Prt (O.set o x) told du:=by
 rcases h with h | ⟨n,r,w,h1,h2,h3,h4⟩
 ·exact .inl h
 ·exact .inr ⟨n,r,w,h1,h2,by rw[zf (kj e h3)];exact h3,h4⟩
def Sep(O:aq)(o:Nat)(told:List D):Prop:=∀n w,told=[.tup [.ob n,.str w]]->∀(M:Int) (c:List Nat) (m i g:Nat) (st:Bool),O[o]?=some (mkO M c m i g st)->m≠n
theorem Gg{M l:Int}{lw d:List Nat}{n m i j g g':Nat}{st c:Bool}(h:mkO M lw n i g st=mkO l d m j g' c):n=m:=by
 unfold mkO at h;cases h;rfl
theorem Sep.nil{O:aq}{o:Nat}:Sep O o []:=λn w h=>nomatch h
theorem Sep.one{O:aq}{o n:Nat}{w:List Nat}{M:Int}{lw:List Nat}{m i g:Nat}{st:Bool}(e:O[o]?=some (mkO M lw m i g st))(h:m≠n):Sep O o [.tup [.ob n,.str w]]:=λr q d y l t u x j c=>by
 rw[e] at c
 have:=Gg (zQ c)
 cases d;rw[<-this];exact h
def Old(O:aq)(o n:Nat)(ds:List D):Prop:=O[n]?=some (.ml ds)/\∀(M:Int) (c:List Nat) (m i g:Nat) (st:Bool),O[o]?=some (mkO M c m i g st)->m≠n
def Keeps(O h:aq)(o:Nat):Prop:=(∀n d,Old O o n d->Old h o n d)/\∀(r:Nat) (c:Str) (f:List (Str×D)),r≠o->O[r]?=some (.ins c f)->h[r]?=some (.ins c f)
theorem Keeps.refl{O:aq}{o:Nat}:Keeps O O o:=⟨λ_ _ h=>h,λ_ _ _ _ h=>h⟩
theorem Keeps.trans{O m l:aq}{o:Nat}(a:Keeps O m o)(b:Keeps m l o):Keeps O l o:=⟨λn j h=>b.1 n j (a.1 n j h),λr c f d h=>b.2 r c f d (a.2 r c f d h)⟩
theorem nF{O:aq}{o n:Nat}{ds:List D}{M:Int}{lw:List Nat}{m i g:Nat}{st:Bool}(d:O[n]?=some (.ml ds))(e:O[o]?=some (mkO M lw m i g st))(h:m≠n):Old O o n ds:=⟨d,λu l q r t j c=>by
 rw[e] at c;rw[<-Gg (zQ c)]
 exact h⟩
theorem qQ{O:aq}{o:Nat}{M:Int}{lw:List Nat}{n i g:Nat}{st:Bool}(e:O[o]?=some (mkO M lw n i g st)){t:Int}{j:List Nat}{l g':Nat}{d:Bool}:Keeps O ((O++[Ob.ml []]).set o (mkO t j O.length l g' d)) o:=by
 refine⟨λm x h=>?_,λr c f q h=>by rw[zf (Ne.symm q)];exact ap1 h⟩;have u:=(zj.mp h.1).1;refine nF (by rw[zf (kj e h.1)];exact ap1 h.1) (gs' (ap1 e)) (by omega)
theorem Nh{O:aq}{o:Nat}{M:Int}{lw:List Nat}{n i g:Nat}{st:Bool}(e:O[o]?=some (mkO M lw n i g st)){t:Int}{j:List Nat}{l g':Nat}{d:Bool}:Keeps O (O.set o (mkO t j n l g' d)) o:=⟨λm ds h =>
 nF (by rw[zf (kj e h.1)];exact h.1) (gs' e) (h.2 _ _ _ _ _ _ e),λr c f q h=>by rw[zf (Ne.symm q)];exact h⟩
theorem Ni{O:aq}{o:Nat}{M:Int}{lw:List Nat}{n i g:Nat}{st:Bool}{l d:List D}(e:O[o]?=some (mkO M lw n i g st))(j:O[n]?=some (.ml l)):Keeps O (O.set n (.ml d)) o:=⟨λm ds h =>
 nF (by rw[zf (h.2 _ _ _ _ _ _ e)];exact h.1) (by rw[zf (Ne.symm (kj e j))];exact e) (h.2 _ _ _ _ _ _ e),λr c f q h=>by rw[zf (λz=>by rw[z,h] at j;cases j)];exact h⟩
theorem ZJ{O:aq}{o:Nat}{M:Int}{lw:List Nat}{s:Sta}(h:Mk O o M lw s):∃c,oZ [.ob o] O=.ok .non c/\Mk c o M lw ⟨bare s,false,s.i,s.g⟩/\Keeps O c o:=by
 obtain⟨n,e,d⟩:=h;have q:=ZC e
 cases hs:s.st with
 |true =>
  rw[hs,if_pos rfl] at q;refine⟨_,q,⟨O.length,gs' (ap1 e),?_⟩,qQ e⟩;rw[zf (zt (mF e))];show(O++[Ob.ml []])[O.length]?=some (.ml ((bare s).map dL));unfold bare;rw[hs];exact apN
 |false =>
  rw[hs,if_neg zm] at q;refine⟨_,q,⟨n,by rw[hs] at e;exact e,?_⟩,Keeps.refl⟩;show O[n]?=some (.ml ((bare s).map dL));unfold bare;rw[hs];exact d
theorem ZK{O:aq}{o:Nat}{M:Int}{lw:List Nat}{s:Sta}{p:Int}{c:Nat}(h:Mk O o M lw s)(u:s.row.length<=1000)(hok:∀x∈s.row,OkL x):∃l told,tZ [.ob o,item p aU [c]] O=.ok (.lst told) l /\
  Mk l o M (if(s.row.length:Int)=M then cL else lw) ⟨if(s.row.length:Int)=M then[(c,s.i,s.g,p)] else s.row++[(c,s.i,s.g,p)],s.st,s.i,s.g⟩/\Prt l told (if(s.row.length:Int)=M then[(s.row,cL)] else[])/\Sep l o told/\Keeps O l o:=by
 obtain⟨n,e,j⟩:=h;have q:=ZF (p:=p) (c:=c) e j (by rw[ze];omega);rw[ze] at q;have t:=mF j;have y:=mF e
 by_cases d:(s.row.length:Int)=M
 ·rw[if_pos d] at q;rw[if_pos d,if_pos d,if_pos d]
  have r:((O++[Ob.ml []]).set o (mkO M cL O.length s.i s.g s.st)).length=O.length+1:=by simp
  have m:(((O++[Ob.ml []]).set o (mkO M cL O.length s.i s.g s.st)).set O.length (.ml [dL (c,s.i,s.g,p)]))[o]?=some (mkO M cL O.length s.i s.g s.st):=by
   rw[zf (by omega)];exact gs' (ap1 e)
  refine⟨_,_,q,⟨O.length,m,?_⟩,.inr ⟨n,s.row,cL,rfl,rfl,?_,.inr rfl,hok,u⟩,Sep.one m (by omega),(qQ e).trans (Ni (gs' (ap1 e)) (by rw[zf (zt (mF e))];exact apN))⟩
  ·rw[zR (by rw[r];omega)];rfl
  ·rw[zf (by omega),zf (kj e j)];exact ap1 j
 ·rw[if_neg d] at q;rw[if_neg d,if_neg d,if_neg d];refine⟨_,_,q,⟨n,?_,?_⟩,.inl ⟨rfl,rfl⟩,Sep.nil,Ni e j⟩
  ·rw[zf (Ne.symm (kj e j))];exact e
  ·rw[zR t];simp
def o9(s:Sta)(k v:List Nat):Nat×Nat:=if k=eO then(v.headD 0,s.g) else if k=eX then(s.i,v.headD 0) else if k=aU then(s.i,s.g) else(46,46)
theorem qR{O:aq}{o:Nat}{M:Int}{lw:List Nat}{s:Sta}{p:Int}{k v:List Nat}{told:List D}{du:List (List LT×List Nat)}(h:Mk O o M lw s)(it:Itm k v)(y:Prt O told du)(d:Sep O o told):
  ∃c,(aA (d7 ["Maker"] "pair" (aa 0) (bz tW (ao (cJ ["Maker"] "pair" (aa 0)) (ao (aa 2) (ao (ak gIx (aa 1) (mC (.int 2))) au))))) (aM (aa 3))) [some (.ob o),some (item p k v),some (.str k),some (.lst told)] O=.rt (.lst told) c/\Mk c o M lw ⟨s.row,s.st,(o9 s k v).1,(o9 s k v).2⟩/\Prt c told du/\Sep c o told/\Keeps O c o:=by
 obtain⟨n,e,l⟩:=h;have u:gIx (item p k v) (.int 2)=some (.str v):=rfl;have j:=ZG (i:=s.i) (g:=s.g) it O
 have r:(if k=eO then D.tup [.str [v.headD 0],.str [s.g]] else if k=eX then .tup [.str [s.i],.str [v.headD 0]] else if k=aU then .tup [.str [s.i],.str [s.g]] else .tup [.str [46],.str [46]])=.tup [.str [(o9 s k v).1],.str [(o9 s k v).2]]:=by
  unfold o9
  split
  ·rfl
  ·split
   ·rfl
   ·split<;>rfl
 rw[r] at j;have B:bO O (item p k v)=item p k v:=rfl;refine⟨O.set o (mkO M lw n (o9 s k v).1 (o9 s k v).2 s.st),?_,⟨n,gs' e,by rw[zf (kj e l)];exact l⟩,y.set e,?_,Nh e⟩
 rotate_left
 ·intro t q x I E F G H C m;rw[gs' e] at m;rw[<-Gg (zQ m)];exact d t q x _ _ _ _ _ _ e
 simp only[bG,tK,oN,gj,cM,z9,cG,zq,zE,aY,fP e,iw,m_c,B,fQ,u,gQ,j,tL,pP e,bI,iB,iC]
theorem Nj{O:aq}{o:Nat}{M:Int}{lw:List Nat}{s:Sta}{p:Int}{k v:List Nat}(h:Mk O o M lw s)(hs:OkS M s)(hM:M<=200)(it:Itm k v):∃d told,j9 [.ob o,item p k v] O=.ok (.lst told) d/\Mk d o M (lwS M s lw k) (stp M s p k v)/\Prt d told (due M s k)/\Sep d o told/\Keeps O d o:=by
 have hlen:=hs.len
 have G:s.row.length<=1000:=by omega
 have J:∀x∈bare s,OkL x:=λx C=>by
  unfold bare at C;split at C
  ·cases C
  ·exact hs.ok x C
 have F:(bare s).length<=1000:=by
  unfold bare
  split
  ·simp
  ·exact G
 have t:gIx (item p k v) (.int 1)=some (.str k):=rfl
 have u:∀O:aq,bO O (item p k v)=item p k v:=λ_=>rfl
 obtain⟨n,e,y⟩:=id h
 have fin:∀{told:List D}{d:aq},lD [some (.ob o),some (item p k v),none,none] O=.rt (.lst told) d->j9 [.ob o,item p k v] O=.ok (.lst told) d:=λh=>by
  show cN (lD [some (.ob o),some (item p k v),none,none] O)=_;rw[h];rfl
 obtain⟨H,I,h1,B⟩:=ZJ h
 have E:(bN "Maker" "empty_stale" oZ (aa 0) au) [some (.ob o),some (item p k v),some (.str k),some (.lst [])] O=.ok .non H:=by
  rw[gD];simp only[cG,zq,aY,jz (m:="empty_stale") (by decide) (by decide) (by decide) (by decide) (by decide) e,cM];exact I
 cases it with
 |anew =>
  have h2:Mk (O.set o (mkO M lw n s.i s.g true)) o M lw ⟨s.row,true,s.i,s.g⟩:=⟨n,gs' e,by rw[zf (kj e y)];exact y⟩;obtain⟨d,t1,t2,q,l,j⟩:=qR (p:=p) (told:=[]) (du:=[]) h2 Itm.anew (.inl ⟨rfl,rfl⟩) Sep.nil;refine⟨d,[],fin ?_,t2,q,l,(Nh e).trans j⟩;unfold lD;simp only[bG,dF,iw,cG,m_c,zq,zE,aY,u,fQ,t,gQ,dM,bI,zO,zP,iy,cM,zw,Nat.zero_le,if_true,gk,jV,lW,pZ,jU,gm,show decide (bY=[101,110,100])=false from rfl,show decide (bY=[97,110,101,119])=true from rfl,show decide (bY=[115,105,103,110])=false from rfl,Bool.false_eq_true,if_false,tK,tL,pS e,iz]
  exact t1
 |end_ =>
  have P:=Ge (w:=bR) e;have Q:((O++[Ob.ml []]).set o (mkO M bR O.length s.i s.g s.st))[o]?=some (mkO M bR O.length s.i s.g s.st):=gs' (ap1 e);have h2:Mk ((O++[Ob.ml []]).set o (mkO M bR O.length s.i s.g false)) o M bR ⟨[],false,s.i,s.g⟩:=⟨O.length,gs' (ap1 e),by rw[zf (zt (mF e))];exact apN⟩;obtain⟨d,t1,t2,q,l,j⟩:=qR (p:=p) (told:=[.tup [.ob n,.str bR]]) (du:=[(s.row,bR)]) h2 Itm.end_ (.inr ⟨n,s.row,bR,rfl,rfl,by rw[zf (kj e y)];exact ap1 y,.inl rfl,hs.ok,G⟩) (Sep.one (gs' (ap1 e)) (Nat.ne_of_gt (mF y)));refine⟨d,[.tup [.ob n,.str bR]],fin ?_,t2,q,l,(qQ e).trans j⟩
  have ct:(bN "Maker" "tell" lY (aa 0) (ao (mC (.str [119,104,111,108,101])) au)) [some (.ob o),some (item p bT []),some (.str bT),some (.lst [])] O=.ok (.lst [.tup [.ob n,.str bR]]) ((O++[Ob.ml []]).set o (mkO M bR O.length s.i s.g s.st)):=by
   rw[gD];simp only[cG,zq,aY,jz (m:="tell") (by decide) (by decide) (by decide) (by decide) (by decide) e,gj,cM,m_c];exact P
  unfold lD;simp only[bG,dF,iw,cG,m_c,zq,zE,aY,u,fQ,t,gQ,dM,bI,zO,zP,iy,cM,zw,Nat.zero_le,if_true,gk,jV,lW,pZ,jU,gm,show decide (bT=[101,110,100])=true from rfl,show decide (bT=[115,105,103,110])=false from rfl,ct,tK,tL,pS Q,List.set_set,Bool.false_eq_true,if_false,iz];exact t1
 |plain =>
  obtain⟨d,t1,t2,q,l,j⟩:=qR (p:=p) (told:=[]) (du:=[]) h1 Itm.plain (.inl ⟨rfl,rfl⟩) Sep.nil;refine⟨d,[],fin ?_,t2,q,l,B.trans j⟩;unfold lD;simp only[bG,dF,iw,cG,m_c,zq,zE,aY,u,fQ,t,gQ,dM,bI,zO,zP,iy,cM,zw,Nat.zero_le,if_true,gk,jV,lW,pZ,jU,gm,show decide (fU=[101,110,100])=false from rfl,show decide (fU=[97,110,101,119])=false from rfl,show decide (fU=[115,105,103,110])=false from rfl,Bool.false_eq_true,if_false,m8,E,ni,iz];exact t1
 |ink c hc =>
  obtain⟨d,t1,t2,q,l,j⟩:=qR (p:=p) (told:=[]) (du:=[]) h1 (Itm.ink c hc) (.inl ⟨rfl,rfl⟩) Sep.nil;refine⟨d,[],fin ?_,t2,q,l,B.trans j⟩;unfold lD;simp only[bG,dF,iw,cG,m_c,zq,zE,aY,u,fQ,t,gQ,dM,bI,zO,zP,iy,cM,zw,Nat.zero_le,if_true,gk,jV,lW,pZ,jU,gm,show decide (eO=[101,110,100])=false from rfl,show decide (eO=[97,110,101,119])=false from rfl,show decide (eO=[115,105,103,110])=false from rfl,Bool.false_eq_true,if_false,m8,E,ni,iz];exact t1
 |ground c hc =>
  obtain⟨d,t1,t2,q,l,j⟩:=qR (p:=p) (told:=[]) (du:=[]) h1 (Itm.ground c hc) (.inl ⟨rfl,rfl⟩) Sep.nil;refine⟨d,[],fin ?_,t2,q,l,B.trans j⟩;unfold lD;simp only[bG,dF,iw,cG,m_c,zq,zE,aY,u,fQ,t,gQ,dM,bI,zO,zP,iy,cM,zw,Nat.zero_le,if_true,gk,jV,lW,pZ,jU,gm,show decide (eX=[101,110,100])=false from rfl,show decide (eX=[97,110,101,119])=false from rfl,show decide (eX=[115,105,103,110])=false from rfl,Bool.false_eq_true,if_false,m8,E,ni,iz];exact t1
 |sign c hc =>
  obtain⟨Z,told,a1,a2,Y,X,W⟩:=ZK (p:=p) (c:=c) h1 F J;obtain⟨d,t1,t2,q,l,j⟩:=qR (p:=p) a2 (Itm.sign c hc) Y X;obtain⟨n1,L,_⟩:=id h1
  have ca:(bN "Maker" "add_letter" tZ (aa 0) (ao (aa 1) au)) [some (.ob o),some (item p aU [c]),some (.str aU),some (.lst [])] H=.ok (.lst told) Z:=by
   rw[gD];simp only[cG,zq,aY,jz (m:="add_letter") (by decide) (by decide) (by decide) (by decide) (by decide) L,gj,cM,zE];exact a1
  refine⟨d,told,fin ?_,?_,?_,l,(B.trans W).trans j⟩
  ·unfold lD;simp only[bG,dF,iw,cG,m_c,zq,zE,aY,u,fQ,t,gQ,dM,bI,zO,zP,iy,cM,zw,Nat.zero_le,if_true,gk,jV,lW,pZ,jU,gm,show decide (aU=[101,110,100])=false from rfl,show decide (aU=[97,110,101,119])=false from rfl,show decide (aU=[115,105,103,110])=true from rfl,Bool.false_eq_true,if_false,m8,E,ni,ca,iz];exact t1
  ·have U:stp M s p aU [c]=stS M s p c:=rfl
   have T:lwS M s lw aU=if((bare s).length:Int)=M then cL else lw:=by
    show(match lE M s with | [(_,w)]=>w | _=>lw)=_;unfold lE
    by_cases r:((bare s).length:Int)=M
    ·rw[if_pos r,if_pos r]
    ·rw[if_neg r,if_neg r]
   rw[U,T];have t2':Mk d o M (if((bare s).length:Int)=M then cL else lw) ⟨if((bare s).length:Int)=M then[(c,s.i,s.g,p)] else bare s++[(c,s.i,s.g,p)],false,s.i,s.g⟩:=t2;unfold stS
   by_cases r:((bare s).length:Int)=M
   ·rw[if_pos r,if_pos r] at t2' ⊢;exact t2'
   ·rw[if_neg r,if_neg r] at t2' ⊢;exact t2'
  ·have R:due M s aU=lE M s:=rfl;rw[R];unfold lE;exact q
theorem Nk{n:Nat}{all:List D}{g:MG}{b:MS}{O:aq}(r:aB->Prop)(h:O[n]?=some (.ml all))(hs:∀d∈all,∀ρ,r ρ->∃l,g d ρ=some l/\∃c,b l O=.nx c O/\r c):
  ∀(m i:Nat) (ρ:aB),i+m=all.length->r ρ->∃j,iR n all g b (all.drop i) ρ O=.nx j O/\r j
 | 0,i,ρ,hi,hp=>by
  refine⟨ρ,?_,hp⟩;rw[List.drop_eq_nil_of_le (by omega)];unfold iR;rw[h];dsimp only;rw[if_pos rfl]
 |m+1,i,ρ,hi,hp=>by
  have q:i<all.length:=by omega
  have u:=zD q;obtain⟨l,B,c,y,t⟩:=hs all[i] (zN q) ρ hp;obtain⟨j,x,h3⟩:=Nk r h hs m (i+1) c (by omega) t;refine⟨j,?_,h3⟩;rw[List.drop_eq_getElem_cons q];unfold iR;rw[h];dsimp only;rw[show all.length - ((all.drop (i+1)).length+1)=i by rw[List.length_drop];omega,u];dsimp only;rw[B];dsimp only;rw[y];exact x
def uh:MS:=(aA (aQ (cU (eF (cW (gO "tuple" (aa 2)))) (cU (aH (ak gNe (bM bW (ao (aa 2) au)) (mC (.int 4)))) (eF (cW (bz ud (ao (ak gIx (aa 2) (mC (.int 3))) au)))))) (aM (mC (.bl false))) aW)
  (aQ (aH (ak gNe (ig (d8 (mSl (aa 2) moN (moS (mC (.int 3))))) 1 [] (mgN 0) il (gO "str" (aa 0))) (bx (ao (mC (.bl true)) (ao (mC (.bl true)) (ao (mC (.bl true)) au)))))) (aM (mC (.bl false))) aW))
theorem ZL(p:Int)(O:aq):ud [.int p] O=.ok (.bl true) O:=by
 simp[ud,Ep]
theorem ZM(x:LT)(a0 a1:Option D)(O:aq):uh [a0,a1,some (dL x)] O=.nx [a0,a1,some (dL x)] O:=by
 have c:gIx (.tup [.str [x.1],.str [x.2.1],.str [x.2.2.1],.int x.2.2.2]) (.int 3)=some (.int x.2.2.2):=rfl;have d:cR [D.str [x.1],D.str [x.2.1],D.str [x.2.2.1],D.int x.2.2.2] none (some 3)=[.str [x.1],.str [x.2.1],.str [x.2.2.1]]:=rfl;have ok:okE (.lst [.bl true,.bl true,.bl true])=true:=rfl;have q:=vO ok;unfold uh;simp[dL,c,ZL,d,fB,il,ok,q]
theorem Gh{O:aq}{n:Nat}(l:List LT)(hok:∀x∈l,OkL x)(h:O[n]?=some (.ml (l.map dL))):nC [.ob n,.lst (l.map dL)] O=.ok (.bl true) O:=by
 have ok:=Ga l hok;have q:=vO ok;have m:=ug h
 obtain⟨r,e,c,rfl⟩:=Nk (g:=mgN 2) (b:=uh) (λρ=>∃c,ρ=[some (.ob n),some (.lst (l.map dL)),c]) h (by
  rintro d hd ρ ⟨c,rfl⟩;obtain⟨x,_,rfl⟩:=zT.mp hd
  exact⟨_,rfl,_,ZM x _ _ O,_,rfl⟩) (l.map dL).length 0 [some (.ob n),some (.lst (l.map dL)),none] (by omega) ⟨none,rfl⟩
 rw[List.drop_zero] at e
 have j:iu (aa 0) (mgN 2) uh [some (.ob n),some (.lst (l.map dL)),none] O=.nx [some (.ob n),some (.lst (l.map dL)),c] O:=by
  unfold iu;simp only[cG,zq];rw[h];exact e
 unfold uh at j;simp only[nC,Es,nj,zx,zW,zn,zw,List.replicate,List.cons_append,zM,bG,gk,pY,oM,oJ,vH,cG,zq,zE,aY,m,gh,yS,vG,z7,oG,oK,oH,Bool.not_true,Bool.false_eq_true,if_false,jV,iw,sZ,gj,cM,vK,gQ,fQ,yX,decide_true,jU,gm,iz,bI,j,iB,KR,ok,q,Bool.and_self,if_true,iC,iU]
def mH:MS:=(aA (aQ (cU (eF (cW (gO "tuple" (aa 2)))) (cU (aH (ak gNe (bM bW (ao (aa 2) au)) (mC (.int 2)))) (aH (ak gNe (ak gIx (aa 2) (mC (.int 1))) (ak gIx (aa 3) (mC (.int 1))))))) (aM (mC (.bl false))) aW)
  (aQ (eF (cW (bz nC (ao (ak gIx (aa 2) (mC (.int 0))) (ao (ak gIx (aa 3) (mC (.int 0))) au))))) (aM (mC (.bl false))) aW))
theorem ZP{O:aq}{told:List D}{du:List (List LT×List Nat)}(h:Prt O told du):jL [.lst told,.lst (du.map aR)] O=.ok (.bl true) O:=by
 rcases h with⟨rfl,rfl⟩ | ⟨n,r,w,rfl,rfl,h3,h4,t,y⟩
 ·simp[jL,ue,fO,cz]
 ·have d:=Gh r t h3
  have u:mH [some (.lst [.tup [.ob n,.str w]]),some (.lst [aR (r,w)]),some (.tup [.ob n,.str w]),some (aR (r,w))] O=.nx [some (.lst [.tup [.ob n,.str w]]),some (.lst [aR (r,w)]),some (.tup [.ob n,.str w]),some (aR (r,w))] O:=by
   have q:gIx (.tup [.ob n,.str w]) (.int 0)=some (.ob n):=rfl;have m:gIx (.tup [.ob n,.str w]) (.int 1)=some (.str w):=rfl;have l:gIx (aR (r,w)) (.int 0)=some (.lst (r.map dL)):=rfl;have j:gIx (aR (r,w)) (.int 1)=some (.str w):=rfl;have x:bO O (aR (r,w))=aR (r,w):=rfl;unfold mH;simp[q,m,l,j,x,d]
  have c:cz (dO 2 (bC (mgN 2) (bC (mgN 3) dW))) mH (fO [.tup [.ob n,.str w]] [aR (r,w)]) [some (.lst [.tup [.ob n,.str w]]),some (.lst [aR (r,w)]),none,none] O=.nx [some (.lst [.tup [.ob n,.str w]]),some (.lst [aR (r,w)]),some (.tup [.ob n,.str w]),some (aR (r,w))] O:=by
   simp only[fO,cz,tO,zO,zP,u]
  unfold mH at c;simp only[jL,ue,nj,zx,zW,zn,zw,List.replicate,List.cons_append,zM,bG,gk,pY,oM,oJ,vH,cG,zq,zE,aY,gh,yS,vG,z7,oG,oK,oH,Bool.not_true,Bool.false_eq_true,if_false,jV,iw,sZ,gj,cM,vK,gQ,fQ,yX,decide_true,jU,gm,iz,bI,jW,Lb,Ld,jX,c,iB,m_c,iC,iU]
theorem OkS.stp{M:Int}{s:Sta}(h:OkS M s)(q:1<=M){p:Int}{k v:List Nat}(it:Itm k v):OkS M (stp M s p k v):=by
 have m:∀x∈bare s,OkL x:=λx d=>by
  unfold bare at d;split at d
  ·cases d
  ·exact h.ok x d
 have j:((bare s).length:Int)<=M:=by
  unfold bare
  split
  ·simp;omega
  ·exact h.len
 cases it with
 |anew=>exact⟨h.len,h.ok,(show 46<=125 by decide),(show 46<=125 by decide)⟩
 |end_=>exact⟨(show((0:Nat):Int)<=M by omega),(λx (d:x∈[])=>nomatch d),(show 46<=125 by decide),(show 46<=125 by decide)⟩
 |plain=>exact⟨j,m,(show 46<=125 by decide),(show 46<=125 by decide)⟩
 |ink c l=>exact⟨j,m,l,h.g⟩
 |ground c l=>exact⟨j,m,h.i,l⟩
 |sign c l =>
  show OkS M (stS M s p c);unfold stS
  split
  ·refine⟨by show((1:Nat):Int)<=M;omega,?_,h.i,h.g⟩;intro x d;rw[zl.mp d];exact⟨l,h.i,h.g⟩
  ·rename_i n;refine⟨by show((bare s++[(c,s.i,s.g,p)]).length:Int)<=M;rw[zd];simp only[zL];omega,?_,h.i,h.g⟩;intro x d
   rcases zu.mp d with d | d
   ·exact m x d
   ·rw[zl.mp d];exact⟨l,h.i,h.g⟩
theorem ixS{l:List Nat}{v n:Int}(j:l.length<=1000000)(h:(l.length:Int)=n)(d:0<n):∃c,c∈l/\gIx (.str l) (.int (v % n))=some (.str [c]):=by
 obtain⟨c,h1,h2⟩:=KZ (xs:=l) (i:=v % n) (Int.emod_nonneg _ (by omega)) (by rw[h];exact jp _ d);exact⟨c,h2,by rw[KY,if_pos j,h1];rfl⟩
theorem ixL{l:List D}{v n:Int}(h:(l.length:Int)=n)(d:0<n):∃c,c∈l/\gIx (.lst l) (.int (v % n))=some c:=by
 obtain⟨c,h1,h2⟩:=KZ (xs:=l) (i:=v % n) (Int.emod_nonneg _ (by omega)) (by rw[h];exact jp _ d);exact⟨c,h2,h1⟩
theorem wK(n k:Int)(h0:0<=k)(h1:k<=1000000)(O:aq):mq [.int n,.int k] O=.ok (.int (mix n k)) O:=XM n k h0 h1 O
theorem ZQ(ns:List Int)(O:aq):∃v,qJ [.lst (ns.map D.int),.int 0] O=.ok (.int v) O:=by
 cases ns with
 |nil=>exact⟨0,by simp[qJ,wg]⟩
 |cons n ns =>
  have c:gIx (.lst (D.int n::ns.map D.int)) (.int 0)=some (.int n):=by
   have:=vL (xs:=D.int n::ns.map D.int) (j:=0)
   rw[vJ];exact this
  refine⟨n,?_⟩;simp[qJ,wg,c]
abbrev It3:=Int×List Nat×List Nat
def itD(x:It3):D:=item x.1 x.2.1 x.2.2
theorem pG{O:aq}{o:Nat}{fs:List (Str×D)}{f:Str}{d:D}{ρ:aB}(e:O[o]?=some (.ins "Maker" fs))(h:fs.length<900):puF ["Maker"] f d ρ (.ok (.ob o) O)=.nx ρ (O.set o (.ins "Maker" (putD f d fs))):=by
 unfold puF;dsimp only;rw[e];dsimp only;rw[if_pos ⟨by simp,h⟩]
theorem ZR{O:aq}{o:Nat}{M:Int}{lw:List Nat}(e:O[o]?=some (.ins "Maker" [("most",.int M),("last_word",.str lw)])):lC [.ob o] O=.ok .non ((O++[Ob.ml []]).set o (mkO M lw O.length 46 46 false)):=by
 have c:(O++[Ob.ml []])[o]?=some (.ins "Maker" [("most",.int M),("last_word",.str lw)]):=ap1 e
 have l:=λρ=>pG (f:="letters") (d:=.ob O.length) (ρ:=ρ) c (by simp)
 have q:=gs' (y:=.ins "Maker" (putD "letters" (.ob O.length) [("most",.int M),("last_word",.str lw)])) c
 have j:=λρ=>pG (f:="pair") (d:=.tup [.str [46],.str [46]]) (ρ:=ρ) q (by show 3<900;decide)
 have n:=gs' (y:=.ins "Maker" (putD "pair" (.tup [.str [46],.str [46]]) (putD "letters" (.ob O.length) [("most",.int M),("last_word",.str lw)]))) c
 have h:=λρ=>pG (f:="stale") (d:=.bl false) (ρ:=ρ) n (by show 4<900;decide)
 have m:Ob.ins "Maker" (putD "stale" (.bl false) (putD "pair" (.tup [.str [46],.str [46]]) (putD "letters" (.ob O.length) [("most",.int M),("last_word",.str lw)])))=mkO M lw O.length 46 46 false:=rfl;rw[m] at h;show cN (tX [some (.ob o)] O)=_;unfold tX;simp only[bG,tK,Gb,iy,cM,aY,zw,Nat.zero_le,if_true,tL,cG,zq,l,bI,m_c,j,h,KJ,List.set_set]
theorem ZV(M:Int)(h:1<=M/\M<=200)(O:aq):vW [.int M,.int 1,.int 200] O=.ok (.bl true) O:=by
 simp[vW,Cv,Cq,Cm,h]
theorem Nm(M:Int)(h:1<=M/\M<=200)(O:aq)(ρ:aB)(q:∀O,aa 1 ρ O=.ok (.int M) O):∃c n,jR "Maker" tY (ao (aa 1) au) ρ O=.ok (.ob O.length) c/\c[O.length]?=some (mkO M bR n 46 46 false)/\c[n]?=some (.ml [])/\O.length<n/\∀(m:Nat) (x:Ob),O[m]?=some x->c[m]?=some x:=by
 have B:(O++[Ob.ins "Maker" []])[O.length]?=some (.ins "Maker" []):=apN
 have E:=λρ=>pG (f:="most") (d:=.int M) (ρ:=ρ) B (by decide)
 have u:=gs' (y:=.ins "Maker" (putD "most" (.int M) [])) B
 have C:=λρ=>pG (f:="last_word") (d:=.str bR) (ρ:=ρ) u (by show 1<900;decide)
 have l:(((O++[Ob.ins "Maker" []]).set O.length (.ins "Maker" (putD "most" (.int M) []))).set O.length (.ins "Maker" (putD "last_word" (.str bR) (putD "most" (.int M) []))))[O.length]?=some (.ins "Maker" [("most",.int M),("last_word",.str bR)]):=gs' u;have H:=ZR l
 have G:∀(c:aq) (a1:Option D),c[O.length]?=some (.ins "Maker" [("most",.int M),("last_word",.str bR)])->(bN "Maker" "begin_row" lC (aa 0) au) [some (.ob O.length),a1] c=lC [.ob O.length] c:=λc a1 F=>by
  rw[gD];simp only[cG,zq,aY];unfold meF;dsimp only;rw[F];rfl
 have t:tY [.ob O.length,.int M] (O++[Ob.ins "Maker" []])=.ok .non ((((O++[Ob.ins "Maker" []]).set O.length (.ins "Maker" (putD "most" (.int M) []))).set O.length (.ins "Maker" (putD "last_word" (.str bR) (putD "most" (.int M) [])))++[Ob.ml []]).set O.length (mkO M bR (((O++[Ob.ins "Maker" []]).set O.length (.ins "Maker" (putD "most" (.int M) []))).set O.length (.ins "Maker" (putD "last_word" (.str bR) (putD "most" (.int M) [])))).length 46 46 false)):=by
  show cN (vX [some (.ob O.length),some (.int M)] (O++[Ob.ins "Maker" []]))=_;unfold vX;have p1':∀ρ,puF ["Maker"] "last_word" (.str [119,104,111,108,101]) ρ (.ok (.ob O.length) ((O++[Ob.ins "Maker" []]).set O.length (.ins "Maker" (putD "most" (.int M) []))))=_:=C;simp only[bG,gk,oM,oJ,oN,gj,cM,cG,m_c,zq,zE,aY,ZV M h,oG,oK,oH,Bool.not_true,gm,Bool.false_eq_true,if_false,iz,bI,tK,m_g,Xj,tL,E,p1',m8,G _ _ l,H,ni,KJ]
 obtain⟨c,j⟩:∃c,c=((((O++[Ob.ins "Maker" []]).set O.length (.ins "Maker" (putD "most" (.int M) []))).set O.length (.ins "Maker" (putD "last_word" (.str bR) (putD "most" (.int M) [])))++[Ob.ml []]).set O.length (mkO M bR (((O++[Ob.ins "Maker" []]).set O.length (.ins "Maker" (putD "most" (.int M) []))).set O.length (.ins "Maker" (putD "last_word" (.str bR) (putD "most" (.int M) [])))).length 46 46 false)):=⟨_,rfl⟩;rw[<-j] at t;refine⟨c,_,?_,by rw[j];exact gs' (ap1 l),?_,by simp,λm x r=>?_⟩
 ·rw[XN];simp only[gj,cM,q,aY,t,XQ]
 ·rw[j,zf (by simp)];exact apN
 ·have I:=(zj.mp r).1;rw[j,zf (by omega),zC (by simp;omega),zf (by omega),zf (by omega)];exact ap1 r
theorem ZW(r:List LT)(w:List Nat)(t:∀x∈r,OkL x)(q:w=bR\/w=cL):dX (aR (r,w))=true/\(toP (aR (r,w))).canLay0=true/\(toP (aR (r,w))).depth<=10:=by
 have m:∀c∈w,c<1114112:=by
  rcases q with rfl | rfl
  ·decide
  ·decide
 have lay:∀d∈(r.map dL).map toP,d.canLay0=true/\d.depth<=5:=λd hd=>by
  obtain⟨l,h,rfl⟩:=zT.mp hd;obtain⟨x,j,rfl⟩:=zT.mp h;exact(Nb (t x j)).2
 refine⟨?_,?_,?_⟩
 ·show dX (.tup [.lst (r.map dL),.str w])=true;rw[dX]
  refine vM λd hd=>?_
  rcases zh.mp hd with rfl | hd
  ·rw[dX]
   exact vM λd hd=>by
    obtain⟨x,j,rfl⟩:=zT.mp hd;rfl
  ·rw[zl.mp hd];rfl
 ·show PyData.canLayAll0 (iK [.lst (r.map dL),.str w])=true;rw[p6]
  refine uH λd hd=>?_
  obtain⟨l,h,rfl⟩:=zT.mp hd
  rcases zh.mp h with rfl | h
  ·show PyData.canLayAll0 (iK (r.map dL))=true;rw[p6]
   exact uH λd hd=>(lay d hd).1
  ·rw[zl.mp h];exact p7 m
 ·show PyData.depthAll (iK [.lst (r.map dL),.str w])+1<=10;rw[p6]
  have:=uI (n:=8) (ds:=[D.lst (r.map dL),.str w].map toP) λd hd=>by
   obtain⟨l,h,rfl⟩:=zT.mp hd
   rcases zh.mp h with rfl | h
   ·show PyData.depthAll (iK (r.map dL))+1<=8;rw[p6]
    have:=uI λd hd=>(lay d hd).2
    omega
   ·rw[zl.mp h];show PyData.depth (.str (S w))<=8;simp[PyData.depth]
  omega
def qT(x:List LT×List Nat):Prop:=(∀y∈x.1,OkL y)/\(x.2=bR\/x.2=cL)
theorem Np(l:List (List LT×List Nat))(h:∀x∈l,qT x):okE (.lst (l.map aR))=true:=vN (n:=10) (by decide) λd hd=>by
 obtain⟨x,c,rfl⟩:=zT.mp hd;exact ZW x.1 x.2 (h x c).1 (h x c).2
theorem Gi(d:D)(ds:List D):lq (.lst (d::ds)) (.lst [])=false:=rfl
theorem okn:okE (.lst [])=true:=rfl
theorem ZX(l:List LT)(h:∀x∈l,OkL x):gNe (.lst (l.map dL)) (.lst [])=some (.bl (decide (l≠[]))):=by
 rw[yZ,Ga l h,okn]
 cases l with
 |nil=>rfl
 |cons x l=>rw[zx,Gi];rfl
theorem ZZ(t:List Nat)(h:Okt t)(O:aq):∃m,vV [.str t] O=.ok (.lst (items 0 t)) m/\∀(n:Nat) (x:Ob),O[n]?=some x->m[n]?=some x:=by
 obtain⟨H,q⟩:=Af t;have l:=M5 (wI O) cj.h0 t h;have c:((O++[RO [] 0]).set O.length (RO (bh [] 0 t).2 (0+t.length)))[O.length]?=some (RO (bh [] 0 t).2 (0+t.length)):=gs (wI O);have j:=M6 c H;have B:=h.len;have y:=M3 t cj.h0 0;have u:=H.len
 have z:(bh [] 0 t).1.length+(d9 (0+(t.length:Int) - ((bh [] 0 t).2.length:Int)) (bh [] 0 t).2).length<=1000000:=by
  rw[FZ];omega
 rw[q];have z':=Int.zero_add (t.length:Int);rw[z'] at l j c z;refine⟨((O++[RO [] 0]).set O.length (RO (bh [] 0 t).2 t.length)).set O.length (RO [] t.length),?_,λn x d=>?_⟩
 ·simp only[vV,Cd,nj,zx,zW,zn,zw,List.replicate,List.cons_append,zM,bG,dF,M7,dM,bI,zO,zP,gD,cG,zq,zE,aY,wJ (show("feed":Str)≠"held" by decide) (by decide) (wI O),gj,cM,l,iB,iw,wJ (show("finish":Str)≠"held" by decide) (by decide) c,j,gh,tG,if_pos z,gQ,iC,iU]
 ·have r:=(zj.mp d).1;rw[zf (by omega),zf (by omega),zC r];exact d
theorem Z0{c:Nat}{r:List Nat}(h:∀x∈c::r,x<=125):Itm (one c r).1 (one c r).2.1:=by
 have m:=h c zp;have j:Itm aU [91]:=Itm.sign 91 (by decide);unfold one
 split
 ·exact Itm.end_
 split
 ·exact Itm.anew
 split
 ·unfold cY
  cases r with
  |nil=>exact j
  |cons d r =>
   have hd:=h d (by simp);dsimp only
   split
   ·exact Itm.plain
   split
   ·exact j
   split
   ·unfold jy
    cases r with
    |nil=>exact j
    |cons e r =>
     dsimp only
     split
     ·exact Itm.ink d hd
     ·exact j
   split
   ·unfold gW
    cases r with
    |nil=>exact j
    |cons e r =>
     have l:=h e (by simp);dsimp only
     split
     ·unfold jY
      cases r with
      |nil=>exact j
      |cons f r =>
       dsimp only
       split
       ·exact Itm.ground e l
       ·exact j
     ·exact j
   ·exact j
 ·exact Itm.sign c m
abbrev Du:=List LT×List Nat
def rn(M:Int):Sta->List It3->Sta×List Du
 |s,[]=>(s,[])
 |s,x::xs=>((rn M (stp M s x.1 x.2.1 x.2.2) xs).1,due M s x.2.1++(rn M (stp M s x.1 x.2.1 x.2.2) xs).2)
def s0:Sta:=⟨[],false,46,46⟩
theorem wL{M:Int}(h:1<=M):OkS M s0:=⟨(show((0:Nat):Int)<=M by omega),(λx (c:x∈[])=>nomatch c),(show 46<=125 by decide),(show 46<=125 by decide)⟩
theorem wM(M:Int)(s:Sta)(k:List Nat):(due M s k).length<=1:=by
 unfold due lE
 split
 ·simp
 ·split
  ·split<;>simp
  ·simp
theorem wN{M:Int}(c:1<=M):∀(its:List It3) (s:Sta),OkS M s->(∀x∈its,Itm x.2.1 x.2.2)->OkS M (rn M s its).1/\(rn M s its).2.length<=its.length
 | [],s,h,_=>⟨h,zc _⟩
 |x::xs,s,h,hi=>by
  obtain⟨a,b⟩:=wN c xs _ (h.stp c (p:=x.1) (hi x zp)) (λy d=>hi y (zr _ d))
  have:=wM M s x.2.1
  refine⟨a,?_⟩;simp only[rn,zd,zn];omega
def TD(O:aq)(o:Nat):List D->List Du->Prop
 | [],[]=>True
 |d::T,x::Ds=>(∃n,d=.tup [.ob n,.str x.2]/\Old O o n (x.1.map dL))/\qT x/\TD O o T Ds
 | _,_=>False
theorem TD.keeps{O j:aq}{o:Nat}(k:Keeps O j o):∀{T:List D}{c:List Du},TD O o T c->TD j o T c
 | [],[],_=>trivial
 |d::T,x::c,h=>by
  obtain⟨⟨n,e,m⟩,q,l⟩:=h;exact⟨⟨n,e,k.1 n _ m⟩,q,TD.keeps k l⟩
 | [],_::_,h=>h.elim
 | _::_,[],h=>h.elim
theorem TD.app{O:aq}{o:Nat}{l:List D}{c:List Du}(h':TD O o l c):∀{T:List D}{j:List Du},TD O o T j->TD O o (T++l) (j++c)
 | [],[],_=>h'
 |d::T,x::j,h=>⟨h.1,h.2.1,TD.app h' h.2.2⟩
 | [],_::_,h=>h.elim
 | _::_,[],h=>h.elim
theorem TD.len{O:aq}{o:Nat}:∀{T:List D}{c:List Du},TD O o T c->T.length=c.length
 | [],[],_=>rfl
 |d::T,x::c,h=>by simp[TD.len h.2.2]
 | [],_::_,h=>h.elim
 | _::_,[],h=>h.elim
theorem Nq{O:aq}{o:Nat}{M:Int}{lw:List Nat}{s:Sta}{told:List D}{du:List Du}(m:Mk O o M lw s)(p:Prt O told du)(sp:Sep O o told):TD O o told du:=by
 rcases p with⟨rfl,rfl⟩ | ⟨n,r,w,rfl,rfl,h3,h4,c,_⟩
 ·exact True.intro
 ·obtain⟨k,e,_⟩:=m;exact⟨⟨n,rfl,nF h3 e (sp n w rfl _ _ _ _ _ _ e)⟩,⟨c,h4⟩,True.intro⟩
theorem Nr{o:Nat}{M:Int}(C:1<=M/\M<=200)(a0 a1:Option D):∀(its:List It3) (O:aq) (lw:List Nat) (s:Sta) (T:List D) (d:List Du) (u:Option D),(∀x∈its,Itm x.2.1 x.2.2)->T.length+its.length<=10000->Mk O o M lw s->OkS M s->TD O o T d ->
  ∃c l B j,cz (mgN 4) (ju 3 (bN "Maker" "put" j9 (aa 2) (ao (aa 4) au))) (its.map itD) [a0,a1,some (.ob o),some (.lst T),u] O=.nx [a0,a1,some (.ob o),some (.lst B),j] c/\Mk c o M l (rn M s its).1/\TD c o B (d++(rn M s its).2)/\Keeps O c o
 | [],O,lw,s,T,d,u,_,_,h,_,td=>⟨O,lw,T,u,rfl,h,by simpa [rn] using td,Keeps.refl⟩
 |x::its,O,lw,s,T,d,u,hi,hl,h,hs,td=>by
  have it:=hi x zp;simp only[zn] at hl;obtain⟨E,told,q,F,G,sp,kp⟩:=Nj (p:=x.1) h hs C.2 it;obtain⟨n,e,_⟩:=id h;have t:=Nq F G sp;have tl:=t.len;have L:=wM M s x.2.1;obtain⟨c,l,B,j,J,h2,h3,h4⟩:=Nr C a0 a1 its E _ _ (T++told) (d++due M s x.2.1) (some (itD x)) (λy H=>hi y (zr _ H)) (by rw[zd];omega) F (hs.stp C.1 it) (TD.app t (td.keeps kp));refine⟨c,l,B,j,?_,h2,?_,kp.trans h4⟩
  ·have I:(ju 3 (bN "Maker" "put" j9 (aa 2) (ao (aa 4) au))) [a0,a1,some (.ob o),some (.lst T),some (itD x)] O=.nx [a0,a1,some (.ob o),some (.lst (T++told)),some (itD x)] E:=by
    rw[K6,gD];simp only[cG,zq,zE,aY,jz (m:="put") (by decide) (by decide) (by decide) (by decide) (by decide) e,gj,cM];have q':j9 [.ob o,itD x] O=.ok (.lst told) E:=q;rw[q',K7 (ds:=T) rfl (by omega)];rfl
   show cz _ _ (itD x::its.map itD) _ O=_;unfold cz;rw[mg_n];dsimp only
   show(match(ju 3 (bN "Maker" "put" j9 (aa 2) (ao (aa 4) au))) [a0,a1,some (.ob o),some (.lst T),some (itD x)] O with
    | .nx ρ' c=>cz _ _ (its.map itD) ρ' c | .ct ρ' c=>cz _ _ (its.map itD) ρ' c | .bk ρ' c=>Fl.nx ρ' c | r=>r)=_
   rw[I];exact J
  ·have:d++(rn M s (x::its)).2=d++due M s x.2.1++(rn M (stp M s x.1 x.2.1 x.2.2) its).2:=by simp[rn]
   rw[this];exact h3
theorem Z1{O:aq}{o:Nat}{M:Int}{lw:List Nat}{n i g:Nat}{st:Bool}{x:Ob}(e:O[o]?=some (mkO M lw n i g st)):Keeps O (O++[x]) o:=⟨λm j h=>nF (ap1 h.1) (ap1 e) (h.2 _ _ _ _ _ _ e),λr c f d h=>ap1 h⟩
theorem Z2{M:Int}(h:1<=M/\M<=200)(t:List Nat)(L:Okt t)(its:List It3)(r:items 0 t=its.map itD)(hi:∀x∈its,Itm x.2.1 x.2.2)(Y:its.length<=5000)(O:aq):
  ∃d o no T,v9 [.str t,.int M] O=.ok (.tup [.lst T,.ob no]) d/\TD d o T (rn M s0 its).2/\d[no]?=some (.ml ((rn M s0 its).1.row.map dL))/\∀(m:Nat) (ds:List D),O[m]?=some (.ml ds)->d[m]?=some (.ml ds):=by
 obtain⟨U,G,R,u,l,W,J⟩:=Nm M h O [some (.str t),some (.int M),none,none,none] (λ_=>rfl);obtain⟨C,B,keep⟩:=ZZ t L U;rw[r] at B;have I:Mk C O.length M bR s0:=⟨G,keep _ _ u,keep _ _ l⟩;obtain⟨c,X,T,F,e,H,td,q⟩:=Nr h (some (.str t)) (some (.int M)) its C bR s0 [] [] none hi (by simp;omega) I (wL h.1) trivial;obtain⟨n,j,P⟩:=id H;have Q:=Ng j P;rw[zM] at td;refine⟨c++[.ml ((rn M s0 its).1.row.map dL)],O.length,c.length,T,?_,td.keeps (Z1 j),apN,λm ds y=>ap1 (q.1 m ds (nF (keep _ _ (J m _ y)) (keep _ _ u) (by have:=(zj.mp y).1;omega))).1⟩
 have E:(bN "Maker" "open_letters" mj (aa 2) au) [some (.str t),some (.int M),some (.ob O.length),some (.lst T),F] c=.ok (.lst ((rn M s0 its).1.row.map dL)) c:=by
  rw[gD];simp only[cG,zq,zE,aY,jz (m:="open_letters") (by decide) (by decide) (by decide) (by decide) (by decide) j,cM,Q]
 show cN (v8 [some (.str t),some (.int M),none,none,none] O)=_;unfold v8;rw[bG,dF,R];simp only[dM,bI,zO,zP,bG,dF,iy,cM,aY,zw,Nat.zero_le,if_true,jW,yV,oN,gj,cG,zq,zE,B,KN,yU,jX,e,X4,iB,KD,Gb,E,zn,Nat.reduceAdd,Nat.reduceLeDiff,iC,X5,iU]
theorem Nt{O:aq}{o:Nat}(a0 a1:Option D):∀(T:List D) (l:List Du) (q m:Option D),TD O o T l->∃j c,cz (dO 2 (bC (mgN 2) (bC (mgN 3) dW))) mH (fO T (l.map aR)) [a0,a1,q,m] O=.nx [a0,a1,j,c] O
 | [],[],q,m,_=>⟨q,m,rfl⟩
 |d::T,x::l,q,m,h=>by
  obtain⟨⟨n,rfl,F⟩,G,E⟩:=h;obtain⟨j,c,I⟩:=Nt a0 a1 T l (some (.tup [.ob n,.str x.2])) (some (aR x)) E;refine⟨j,c,?_⟩;have t:=Gh x.1 G.1 F.1
  have H:mH [a0,a1,some (.tup [.ob n,.str x.2]),some (aR x)] O=.nx [a0,a1,some (.tup [.ob n,.str x.2]),some (aR x)] O:=by
   have C:gIx (.tup [.ob n,.str x.2]) (.int 0)=some (.ob n):=rfl;have B:gIx (.tup [.ob n,.str x.2]) (.int 1)=some (.str x.2):=rfl;have y:gIx (aR x) (.int 0)=some (.lst (x.1.map dL)):=rfl;have u:gIx (aR x) (.int 1)=some (.str x.2):=rfl;have J:bO O (aR x)=aR x:=rfl;unfold mH;simp[C,B,y,u,J,t]
  rw[zx,fO];unfold cz;rw[tO];dsimp only
  show(match mH [a0,a1,some (.tup [.ob n,.str x.2]),some (aR x)] O with
   | .nx ρ' O'=>cz _ _ (fO T (l.map aR)) ρ' O' | .ct ρ' O'=>cz _ _ (fO T (l.map aR)) ρ' O' | .bk ρ' O'=>Fl.nx ρ' O' | r=>r)=_
  rw[H];exact I
 | [],_::_,_,_,h=>h.elim
 | _::_,[],_,_,h=>h.elim
theorem Z3{O:aq}{o:Nat}{T:List D}{c:List Du}(h:TD O o T c):jL [.lst T,.lst (c.map aR)] O=.ok (.bl true) O:=by
 obtain⟨m,l,d⟩:=Nt (some (.lst T)) (some (.lst (c.map aR))) T c none none h
 have j:(T.length:Int)=((c.map aR).length:Int):=by rw[ze,h.len]
 unfold mH at d;simp only[jL,ue,nj,zx,zW,zn,zw,List.replicate,List.cons_append,zM,bG,gk,pY,oM,oJ,vH,cG,zq,zE,aY,gh,yS,vG,z7,oG,oK,oH,Bool.not_true,Bool.false_eq_true,if_false,jV,iw,sZ,gj,cM,vK,gQ,fQ,yX,j,decide_true,jU,gm,iz,bI,jW,Lb,Ld,jX,d,iB,m_c,iC,iU]
def TE(O:aq):List D->List Du->Prop
 | [],[]=>True
 |d::T,x::Ds=>(∃n,d=.tup [.ob n,.str x.2]/\O[n]?=some (.ml (x.1.map dL)))/\qT x/\TE O T Ds
 | _,_=>False
theorem TD.te{O:aq}{o:Nat}:∀{T:List D}{c:List Du},TD O o T c->TE O T c
 | [],[],_=>trivial
 |d::T,x::c,h=>by
  obtain⟨⟨n,e,l⟩,m,j⟩:=h;exact⟨⟨n,e,l.1⟩,m,TD.te j⟩
 | [],_::_,h=>h.elim
 | _::_,[],h=>h.elim
theorem TE.keeps{O j:aq}(k:∀(m:Nat) (ds:List D),O[m]?=some (.ml ds)->j[m]?=some (.ml ds)):∀{T:List D}{c:List Du},TE O T c->TE j T c
 | [],[],_=>trivial
 |d::T,x::c,h=>by
  obtain⟨⟨n,e,q⟩,r,l⟩:=h;exact⟨⟨n,e,k n _ q⟩,r,TE.keeps k l⟩
 | [],_::_,h=>h.elim
 | _::_,[],h=>h.elim
theorem cO{g:D->D->Option D}{a b:L2.M D}{ρ:aB}{O:aq}{x y z:D}(c:a ρ O=.ok x O)(hb:b ρ O=.ok y O)(h:g (bO O x) (bO O y)=some z):ak g a b ρ O=.ok z O:=by
 rw[iw,c,aY,hb,aY,h,gQ]
theorem ma1{a:L2.M D}{ρ:aB}{O:aq}{x:D}(h:a ρ O=.ok x O):ao a au ρ O=.ok [x] O:=by
 rw[gj,h,aY,cM,aY]
theorem maS{a:L2.M D}{r:L2.M (List D)}{ρ:aB}{O:aq}{x:D}{xs:List D}(h:a ρ O=.ok x O)(h2:r ρ O=.ok xs O):ao a r ρ O=.ok (x::xs) O:=by
 rw[gj,h,aY,h2,aY]
theorem Gj{m:L2.M (List D)}{ρ:aB}{O:aq}{xs:List D}(h:m ρ O=.ok xs O)(c:xs.length<=1000000):bQ m ρ O=.ok (.tup xs) O:=by
 rw[KD,h,aY,if_pos c]
theorem Z4{m:L2.M (List D)}{ρ:aB}{O:aq}{xs:List D}(h:m ρ O=.ok xs O)(c:xs.length<=1000000):bx m ρ O=.ok (.lst xs) O:=by
 rw[iy,h,aY,if_pos c]
theorem Gk{g:List D->Option D}{m:L2.M (List D)}{ρ:aB}{O:aq}{xs:List D}{z:D}(h:m ρ O=.ok xs O)(c:g (xs.map (bO O))=some z):bM g m ρ O=.ok z O:=by
 rw[sZ,h,aY,c,gQ]
theorem Z5{i:Nat}{m:L2.M D}{ρ:aB}{O:aq}{d:D}{ds:List D}(c:m ρ O=.ok d O)(h:ρ[i]?=some (some (.lst ds)))(j:ds.length<1000000):iQ i m ρ O=.nx (ρ.set i (some (.lst (ds++[d])))) O:=by
 rw[Aa,c,Ab h j]
theorem iV{i:Nat}{m:L2.M D}{ρ:aB}{O:aq}{d:D}(h:m ρ O=.ok d O):aO i m ρ O=.nx (ρ.set i (some d)) O:=by
 rw[dF,h,dM]
theorem jM{c:List D->aq->Res D}{ma:L2.M (List D)}{ρ:aB}{O:aq}{ds:List D}(h:ma ρ O=.ok ds O):bz c ma ρ O=c ds O:=by
 rw[oN,h,aY]
theorem nG{m:L2.M D}{ρ:aB}{O:aq}{b:Bool}(h:m ρ O=.ok (.bl b) O):aH m ρ O=.ok b O:=by
 rw[jV,h,aY,jU]
theorem wO{t:L2.M Bool}{a b:MS}{ρ:aB}{O:aq}(h:t ρ O=.ok true O):aQ t a b ρ O=a ρ O:=by
 rw[gk,h,gm,if_pos rfl]
theorem pq{t:L2.M Bool}{a b:MS}{ρ:aB}{O:aq}(h:t ρ O=.ok false O):aQ t a b ρ O=b ρ O:=by
 rw[gk,h,gm,if_neg zm]
theorem Gm{m:L2.M D}{ρ:aB}{O:aq}{l:List D}(h:m ρ O=.ok (.lst l) O):bM bW (ao m au) ρ O=.ok (.int (l.length:Int)) O:=Gk (ma1 h) rfl
theorem Nu{m:L2.M D}{ρ:aB}{O:aq}{n:Nat}(h:m ρ O=.ok (.int (n:Int)) O)(c:n<=1000000):jt (ao m au) ρ O=.ok (fD 0 n) O:=by
 rw[Xq,ma1 h,aY];show(if(n:Int)<=1000000000/\-1000000000<=(n:Int) then Res.ok (fD 0 (n:Int).toNat) O else .no)=_;rw[if_pos ⟨by omega,by omega⟩,Int.toNat_natCast]
theorem Z6{a b:L2.M D}{ρ:aB}{O:aq}{i j:Int}(d:a ρ O=.ok (.int i) O)(hb:b ρ O=.ok (.int j) O)(c:0<j):ak dq a b ρ O=.ok (.int (i % j)) O:=cO d hb (by rw[fQ,fQ,Xv,if_pos c])
theorem Nv{a b:L2.M D}{ρ:aB}{O:aq}{i j:Int}(c:a ρ O=.ok (.int i) O)(hb:b ρ O=.ok (.int j) O):ak aX a b ρ O=.ok (.int (i+j)) O:=cO c hb rfl
theorem Z7{a b:L2.M D}{ρ:aB}{O:aq}{i j:Int}(c:a ρ O=.ok (.int i) O)(hb:b ρ O=.ok (.int j) O):ak mX a b ρ O=.ok (.int (i - j)) O:=cO c hb rfl
theorem Z8{a b:L2.M D}{ρ:aB}{O:aq}{i j:Int}(c:a ρ O=.ok (.int i) O)(hb:b ρ O=.ok (.int j) O):aH (ak gEq a b) ρ O=.ok (decide (i=j)) O:=nG (cO c hb rfl)
def sgl:List Nat:=[32,33,34,35,36,38,39,40,41,42,43,44,45,46,47,48,49,50,51,52,53,54,55,56,57,58,59,60,61,62,63,64,65,66,67,68,69,70,71,72,73,74,75,76,77,78,79,80,81,82,83,84,85,86,87,88,89,90,91,92,93,94,95,96,97,98,99,100,101,102,103,104,105,106,107,108,109,110,111,112,113,114,115,116,117,118,119,120,121,122,123,124,125]
theorem Z9(O:aq):wk [] O=.ok (.str sgl) O:=rfl
theorem QvD:∀c∈sgl,32<=c/\c<=125:=by decide
structure Tok(l:List Nat):Prop where
 len:l.length<=9
 ok:∀c∈l,(32<=c/\c<=125)\/c=10\/c=9
def Qyp:List Nat:=[97,98,99,100,101,102,103,104,46]
theorem QuE:∀c∈Qyp,32<=c/\c<=125:=by decide
def km:MS:=(aA (aQ (aH (ak gLt (aa 2) (mC (.int 3)))) (aM (ak gIx (bz wk au) (ak dq (aa 3) (mC (.int 93))))) aW)
  (aA (aQ (aH (ak gEq (aa 2) (mC (.int 3)))) (aM (ak gIx (mC (.str [32,65,66,90])) (ak dq (aa 3) (mC (.int 4))))) aW)
  (aA (aQ (aH (ak gEq (aa 2) (mC (.int 4)))) (aM (ak aX (ak aX (mC (.str [91])) (aa 1)) (mC (.str [93])))) aW)
  (aA (aQ (aH (ak gEq (aa 2) (mC (.int 5)))) (aM (ak aX (ak aX (mC (.str [91,47])) (aa 1)) (mC (.str [93])))) aW)
  (aA (aQ (aH (ak gEq (aa 2) (mC (.int 6)))) (aM (ak gIx (bx (ao (mC (.str [91,93])) (ao (mC (.str [91,91])) (ao (mC (.str [91,93,93])) (ao (mC (.str [91,91,93])) au))))) (ak dq (aa 3) (mC (.int 4))))) aW)
  (aA (aQ (aH (ak gEq (aa 2) (mC (.int 9)))) (aM (ak gIx (bx (ao (mC (.str [10])) (ao (mC (.str [9])) (ao (mC (.str [10])) au)))) (ak dq (aa 3) (mC (.int 3))))) aW)
  (aA (aQ (aH (ak gEq (aa 2) (mC (.int 10)))) (aM (aa 1)) aW)
  (aA (aQ (aH (ak gEq (aa 2) (mC (.int 11)))) (aM (mSl (mC (.str [111,117,116,119,101,97,118,101,115])) moN (moS (ak aX (mC (.int 2)) (ak dq (aa 3) (mC (.int 8))))))) aW)
  (aM (ak gIx (aa 4) (ak dq (aa 3) (mC (.int 18)))))))))))))
theorem Gn(n:Int):∃l,Tok l/\∀O,nA [.int n] O=.ok (.str l) O:=by
 obtain⟨c,G,H⟩:=ixS (l:=[97,98,99,100,101,102,103,104,46]) (v:=mix n 2) (n:=9) (by decide) (by decide) (by decide);have m:=QuE c G
 have pre:∀O,nA [.int n] O=cN (km [some (.int n),some (.str [c]),some (.int (mix n 0 % 12)),some (.int (mix n 1)),some (.lst [.str [91],.str [91,47],.str [91,c],.str [91,47,c],.str [91,105,93],.str [91,47,93],.str [91,c,c,93],.str [91,65,93],.str [91,47,105,93],.str [91,91,91],.str [91,47,91],.str [91,c,91],.str [91,47,c,47,93],.str [91,47,47,c,93],.str [91,c,10],.str [93],.str [47],.str [91,47,c,9,93]])] O):=λO=>by
  show cN (aA _ (aA _ (aA _ (aA _ (aA _ (aA _ km))))) [some (.int n),none,none,none,none] O)=_;simp[wK,H,apF]
 by_cases F:mix n 0 % 12<3
 ·obtain⟨x,d,ex⟩:=ixS (l:=sgl) (v:=mix n 1) (n:=93) (by decide) (by decide) (by decide);have t:=QvD x d;exact⟨[x],⟨by simp,by simp[t]⟩,λO=>by simp[pre,km,Z9,F,ex]⟩
 by_cases E:mix n 0 % 12=3
 ·obtain⟨x,d,ex⟩:=ixS (l:=[32,65,66,90]) (v:=mix n 1) (n:=4) (by decide) (by decide) (by decide)
  have t:32<=x/\x<=125:=by
   have:∀x∈[32,65,66,90],32<=x/\x<=125:=by decide
   exact this x d
  exact⟨[x],⟨by simp,by simp[t]⟩,λO=>by simp[pre,km,E,ex]⟩
 by_cases C:mix n 0 % 12=4
 ·exact⟨[91,c,93],⟨by simp,by simp[m]⟩,λO=>by simp[pre,km,C]⟩
 by_cases B:mix n 0 % 12=5
 ·exact⟨[91,47,c,93],⟨by simp,by simp[m]⟩,λO=>by simp[pre,km,B]⟩
 by_cases y:mix n 0 % 12=6
 ·obtain⟨x,d,ex⟩:=ixL (l:=[.str [91,93],.str [91,91],.str [91,93,93],.str [91,91,93]]) (v:=mix n 1) (n:=4) rfl (by decide)
  have r:∀O,nA [.int n] O=.ok x O:=λO=>by simp[pre,km,y,ex]
  simp at d
  rcases d with rfl | rfl | rfl | rfl
  all_goals exact⟨_,⟨by simp,by simp⟩,r⟩
 by_cases u:mix n 0 % 12=9
 ·obtain⟨x,d,ex⟩:=ixL (l:=[.str [10],.str [9],.str [10]]) (v:=mix n 1) (n:=3) rfl (by decide)
  have r:∀O,nA [.int n] O=.ok x O:=λO=>by simp[pre,km,u,ex]
  simp at d
  rcases d with rfl | rfl | rfl
  all_goals exact⟨_,⟨by simp,by simp⟩,r⟩
 by_cases j:mix n 0 % 12=10
 ·exact⟨[c],⟨by simp,by simp[m]⟩,λO=>by simp[pre,km,j]⟩
 by_cases h:mix n 0 % 12=11
 ·refine⟨cR [111,117,116,119,101,97,118,101,115] none (some (2+mix n 1 % 8)),⟨?_,?_⟩,λO=>by simp[pre,km,h]⟩
  ·unfold cR;simp;omega
  ·intro x d
   have:x∈[111,117,116,119,101,97,118,101,115]:=jc (List.mem_of_mem_take d)
   have q:∀x∈[111,117,116,119,101,97,118,101,115],32<=x/\x<=125:=by decide
   exact .inl (q x this)
 obtain⟨x,d,ex⟩:=ixL (l:=[.str [91],.str [91,47],.str [91,c],.str [91,47,c],.str [91,105,93],.str [91,47,93],.str [91,c,c,93],.str [91,65,93],.str [91,47,105,93],.str [91,91,91],.str [91,47,91],.str [91,c,91],.str [91,47,c,47,93],.str [91,47,47,c,93],.str [91,c,10],.str [93],.str [47],.str [91,47,c,9,93]]) (v:=mix n 1) (n:=18) rfl (by decide)
 have r:∀O,nA [.int n] O=.ok x O:=λO=>by simp[pre,km,F,E,C,B,y,u,j,h,ex]
 simp at d
 rcases d with rfl | rfl | rfl | rfl | rfl | rfl | rfl | rfl | rfl | rfl | rfl | rfl | rfl | rfl | rfl | rfl | rfl | rfl
 all_goals exact⟨_,⟨by simp,by simp[m]⟩,r⟩
noncomputable def tok(n:Int):List Nat:=(Gn n).choose
theorem QwA(n:Int):Tok (tok n):=(Gn n).choose_spec.1
theorem Qwq(n:Int)(O:aq):nA [.int n] O=.ok (.str (tok n)) O:=(Gn n).choose_spec.2 O
theorem um:∀(a:List Nat) (h:List Nat) (p:Int) (b:List Nat),bh h p (a++b)=((bh h p a).1++(bh (bh h p a).2 (p+a.length) b).1,(bh (bh h p a).2 (p+a.length) b).2)
 | [],h,p,b=>by simp[bh]
 |c::a,h,p,b=>by
  have e:p+1+(a.length:Int)=p+((c::a).length:Nat):=by simp;omega
  simp only[List.cons_append,bh];rw[um a,e];simp
section
variable {O:aq}{o n i g:Nat}{M:Int}{lw:List Nat}{st:Bool}
theorem Quz(e:O[o]?=some (mkO M lw n i g st)):qD [.ob o] O=.ok (.bl (decide (lw=cL))) O:=by
 have q:gEq (.str lw) (.str [109,111,114,101])=some (.bl (decide (lw=cL))):=rfl;simp only[qD,Dv,nj,zx,zW,zn,zw,Nat.sub_self,List.replicate_zero,zB,iB,iw,z9,cG,zq,aY,fW e,m_c,lW,q,gQ,iC,iU]
end
theorem Qsa{O:aq}{o:Nat}{M:Int}{lw:List Nat}{s:Sta}(h:Mk O o M lw s)(hok:∀x∈s.row,OkL x)(G:s.row.length<=1000):∃t told,t8 [.ob o] O=.ok (.lst told) t/\Mk t o M (if s.row≠[]\/lw=cL then bR else lw) ⟨[],false,46,46⟩/\Prt t told (if s.row≠[]\/lw=cL then[(s.row,bR)] else[])/\K28.Keeps O t o:=by
 obtain⟨n,e,u⟩:=h;have F:=mF e;have I:=ug u;have H:=Quz e
 have E:(cU (aH (ak gGt (bM bW (ao (cJ ["Maker"] "letters" (aa 0)) au)) (mC (.int 0)))) (cW (bN "Maker" "going_on" qD (aa 0) au))) [some (.ob o),some (.lst [])] O=.ok (decide (s.row≠[]\/lw=cL)) O:=by
  have t2:(cW (bN "Maker" "going_on" qD (aa 0) au)) [some (.ob o),some (.lst [])] O=.ok (decide (lw=cL)) O:=by
   rw[oJ,gD];simp only[cG,zq,aY,jz (m:="going_on") (by decide) (by decide) (by decide) (by decide) (by decide) e,cM,H,oG,oK,oH]
  have t1:(aH (ak gGt (bM bW (ao (cJ ["Maker"] "letters" (aa 0)) au)) (mC (.int 0)))) [some (.ob o),some (.lst [])] O=.ok (decide (s.row≠[])) O:=by
   have:decide ((0:Int)<((s.row.map dL).length:Int))=decide (s.row≠[]):=by
    rw[ze]
    cases s.row with
    |nil=>rfl
    |cons x l=>simp
   simp only[jV,iw,sZ,gj,cM,z9,cG,zq,aY,fL e,zx,zW,I,vK,gQ,m_c,fQ,Xx,jU,this]
  rw[pY,t1];simp only[aY,t2]
  by_cases h1:s.row≠[]
  ·simp[h1]
  ·by_cases h2:lw=cL<;>simp[h1,h2]
 by_cases j:s.row≠[]\/lw=cL
 ·rw[if_pos j,if_pos j];have C:=Ge (w:=bR) e;obtain⟨c,d⟩:∃c,c=(O++[Ob.ml []]).set o (mkO M bR O.length s.i s.g s.st):=⟨_,rfl⟩
  have q:c[o]?=some (mkO M bR O.length s.i s.g s.st):=by rw[d];exact gs' (ap1 e)
  have r:c[n]?=some (.ml (s.row.map dL)):=by rw[d,zf (kj e u)];exact ap1 u
  rw[<-d] at C;have y:=Nf q;refine⟨(c++[Ob.ml []]).set o (mkO M bR c.length 46 46 false),[.tup [.ob n,.str bR]],?_,⟨c.length,gs' (ap1 q),?_⟩,.inr ⟨n,s.row,bR,rfl,rfl,?_,.inl rfl,hok,G⟩,(d ▸ qQ e:K28.Keeps O c o).trans (qQ q)⟩
  ·have ct:(bN "Maker" "tell" lY (aa 0) (ao (mC (.str [119,104,111,108,101])) au)) [some (.ob o),some (.lst [])] O=.ok (.lst [.tup [.ob n,.str bR]]) c:=by
    rw[gD];simp only[cG,zq,aY,jz (m:="tell") (by decide) (by decide) (by decide) (by decide) (by decide) e,gj,cM,m_c];exact C
   have B:(bN "Maker" "begin_row" lC (aa 0) au) [some (.ob o),some (.lst [.tup [.ob n,.str bR]])] c=.ok .non ((c++[Ob.ml []]).set o (mkO M bR c.length 46 46 false)):=by
    rw[gD];simp only[cG,zq,aY,jz (m:="begin_row") (by decide) (by decide) (by decide) (by decide) (by decide) q,cM];exact y
   show cN (qF [some (.ob o),none] O)=_;unfold qF;simp only[bG,dF,iy,cM,aY,zw,Nat.zero_le,if_true,dM,bI,zO,zP,gk,E,zH j,gm,ct,m8,B,ni,iB,cG,zE,zq,iC,iU]
  ·rw[zf (zt (mF q))];exact apN
  ·rw[zf (kj q r)];exact ap1 r
 ·rw[if_neg j,if_neg j];have y:=Nf e;refine⟨(O++[Ob.ml []]).set o (mkO M lw O.length 46 46 false),[],?_,⟨O.length,gs' (ap1 e),?_⟩,.inl ⟨rfl,rfl⟩,qQ e⟩
  ·have B:(bN "Maker" "begin_row" lC (aa 0) au) [some (.ob o),some (.lst [])] O=.ok .non ((O++[Ob.ml []]).set o (mkO M lw O.length 46 46 false)):=by
    rw[gD];simp only[cG,zq,aY,jz (m:="begin_row") (by decide) (by decide) (by decide) (by decide) (by decide) e,cM];exact y
   show cN (qF [some (.ob o),none] O)=_;unfold qF;simp only[bG,dF,iy,cM,aY,zw,Nat.zero_le,if_true,dM,bI,zO,zP,gk,E,zz j,gm,Bool.false_eq_true,if_false,iz,m8,B,ni,iB,cG,zE,zq,iC,iU]
  ·rw[zf (zt F)];exact apN
theorem Gp(n:Int):∃l,Tok l/\∀O,mD [.int n] O=.ok (.str l) O:=by
 obtain⟨x,c,ex⟩:=ixL (l:=[.str [9],.str [10],.str [9,9],.str [9,10]]) (v:=mix n 12) (n:=4) rfl (by decide)
 by_cases w:mix n 11 % 5=0
 ·have r:∀O,mD [.int n] O=.ok x O:=λO=>by simp[mD,wC,wK,w,ex]
  simp at c
  rcases c with rfl | rfl | rfl | rfl
  all_goals exact⟨_,⟨by simp,by simp⟩,r⟩
 ·exact⟨tok n,QwA n,λO=>by simp[mD,wC,wK,w,Qwq]⟩
noncomputable def pc(n:Int):List Nat:=(Gp n).choose
theorem Gq(n:Int):Tok (pc n):=(Gp n).choose_spec.1
theorem Qxn(n:Int)(O:aq):mD [.int n] O=.ok (.str (pc n)) O:=(Gp n).choose_spec.2 O
def chk(m:Nat)(l:List LT):List Du:=(List.range ((l.length - 1) / m)).map λk=>(((l.drop (k * m)).take m,cL):Du)
def rst(m:Nat)(l:List LT):List LT:=l.drop ((l.length - 1) / m * m)
theorem Nx(m:Nat):rst m []=[]:=List.drop_nil
theorem Gs(m:Nat):chk m []=[]:=by simp[chk]
theorem Qsc{m n:Nat}(d:1<=m):(n - (n - 1) / m * m=m/\0<n/\n / m=(n - 1) / m+1/\n=((n - 1) / m+1) * m)\/(n - (n - 1) / m * m≠m/\n / m=(n - 1) / m/\(n - 1) / m * m<=n):=by
 rcases Nat.eq_zero_or_pos n with rfl | l
 ·right
  refine⟨?_,by simp,by simp⟩;simp;omega
 ·have c:=Nat.div_add_mod (n - 1) m;have t:=Nat.mod_lt (n - 1) d;rw[Nat.mul_comm] at c
  generalize hq:(n - 1) / m=q at c ⊢
  generalize (n - 1) % m=r at c t
  have j:(q+1) * m=q * m+m:=Nat.succ_mul q m
  generalize hz:q * m=z at c j ⊢
  by_cases h:r+1=m
  ·left
   refine⟨by omega,l,?_,by omega⟩
   have:n=(q+1) * m:=by omega
   rw[this,Nat.mul_div_cancel _ d]
  ·right
   refine⟨by omega,?_,by omega⟩
   have:n=m * q+(r+1):=by rw[Nat.mul_comm,hz];omega
   rw[this,Nat.mul_add_div d,Nat.div_eq_of_lt (by omega),Nat.add_zero]
theorem QuJ{m:Nat}(h:1<=m)(l:List LT)(x:LT):chk m (l++[x])=chk m l++(if(rst m l).length=m then[(rst m l,cL)] else[])/\rst m (l++[x])=if(rst m l).length=m then[x] else rst m l++[x]:=by
 unfold chk rst;rw[zd,zL,Nat.add_sub_cancel,List.length_drop]
 rcases Qsc (m:=m) (n:=l.length) h with⟨h1,h2,h3,h4⟩ | ⟨h1,h2,h3⟩
 ·rw[if_pos h1,if_pos h1,h3]
  generalize hq:(l.length - 1) / m=q at h1 h4 ⊢
  have j:(q+1) * m=q * m+m:=Nat.succ_mul q m;refine⟨?_,?_⟩
  ·rw[List.range_succ,zI,List.map_singleton];congr 1
   ·refine jn λk d=>?_
    have hk':=List.mem_range.mp d;have c:(k+1) * m<=q * m:=Nat.mul_le_mul_right m hk';rw[Nat.succ_mul] at c;rw[List.drop_append_of_le_length (by omega),List.take_append_of_le_length (by rw[List.length_drop];omega)]
   ·rw[List.drop_append_of_le_length (by omega),List.take_append_of_le_length (by rw[List.length_drop];omega),List.take_of_length_le (by rw[List.length_drop];omega)]
  ·rw[List.drop_append,List.drop_eq_nil_of_le (by omega),show(q+1) * m - l.length=0 by omega];rfl
 ·rw[if_neg h1,if_neg h1,h2]
  generalize hq:(l.length - 1) / m=q at h1 h3 ⊢
  refine⟨?_,?_⟩
  ·rw[zB]
   refine jn λk d=>?_
   have hk':=List.mem_range.mp d;have c:(k+1) * m<=q * m:=Nat.mul_le_mul_right m hk';rw[Nat.succ_mul] at c;rw[List.drop_append_of_le_length (by omega),List.take_append_of_le_length (by rw[List.length_drop];omega)]
  ·rw[List.drop_append_of_le_length (by omega)]
abbrev Sq:=List LT×Nat×Nat
def stq(a:Sq)(x:It3):Sq:=if x.2.1=aU then(a.1++[(x.2.2.headD 0,a.2.1,a.2.2,x.1)],a.2) else if x.2.1=eO then(a.1,x.2.2.headD 0,a.2.2) else if x.2.1=eX then(a.1,a.2.1,x.2.2.headD 0) else(a.1,46,46)
def sq0:Sq:=([],46,46)
def cP(its:List It3):Sq:=its.foldl stq sq0
def gY(k:List Nat)(a:List (List It3)×List It3)(x:It3):List (List It3)×List It3:=if x.2.1=k then(a.1++[a.2],[]) else(a.1,a.2++[x])
def cu(k:List Nat)(its:List It3):List (List It3)×List It3:=its.foldl (gY k) ([],[])
def gZ(k:List Nat)(its:List It3):List (List It3):=(cu k its).1++[(cu k its).2]
abbrev TL:=List Du×List LT
def gn(m:Nat)(a:TL)(q:List It3):TL:=if q=[] then a else(a.1++chk m (cP q).1,rst m (cP q).1)
def dB(m:Nat)(its:List It3):TL:=(gZ bY its).foldl (gn m) ([],[])
def wQ(m:Nat)(its:List It3):TL:=(((cu bT its).1.map λr=>(dB m r).1++[((dB m r).2,bR)]).flatten++(dB m (cu bT its).2).1,(dB m (cu bT its).2).2)
theorem nH{M:Int}(x:It3):∀(its:List It3) (s:Sta),rn M s (its++[x])=(stp M (rn M s its).1 x.1 x.2.1 x.2.2,(rn M s its).2++due M (rn M s its).1 x.2.1)
 | [],s=>by simp[rn]
 |y::its,s=>by
  rw[List.cons_append];simp only[rn];rw[nH x its];simp
theorem uo(k:List Nat)(its:List It3)(x:It3):cu k (its++[x])=gY k (cu k its) x:=by
 unfold cu;rw[List.foldl_append];rfl
theorem uq(q:List It3)(x:It3):cP (q++[x])=stq (cP q) x:=by
 unfold cP;rw[List.foldl_append];rfl
structure iG(M:Int)(m:Nat)(its:List It3):Prop where
 told:(rn M s0 its).2=((cu bY its).1.foldl (gn m) ([],[])).1++chk m (cP (cu bY its).2).1
 bare:bare (rn M s0 its).1=rst m (cP (cu bY its).2).1
 pair:((rn M s0 its).1.i,(rn M s0 its).1.g)=(cP (cu bY its).2).2
 row:(cu bY its).2=[]->(rn M s0 its).1.row=((cu bY its).1.foldl (gn m) ([],[])).2
 st:(cu bY its).2≠[]->(rn M s0 its).1.st=false
theorem Qyu:eO≠bY:=by decide
theorem QyH:eX≠bY:=by decide
theorem Qyq:fU≠bY:=by decide
theorem iG.zero{M:Int}{m:Nat}:iG M m []:=⟨(Gs m).symm,(Nx m).symm,rfl,λ_=>rfl,λh=>absurd rfl h⟩
theorem iG.fin{M:Int}{m:Nat}{its:List It3}(h:iG M m its):dB m its=((rn M s0 its).2,(rn M s0 its).1.row):=by
 unfold dB gZ;rw[List.foldl_append,List.foldl_cons,List.foldl_nil];unfold gn
 by_cases c:(cu bY its).2=[]
 ·rw[if_pos c,h.row c,h.told,c];show _=(_++chk m [],_);rw[Gs,zB];rfl
 ·rw[if_neg c,h.told,<-h.bare]
  have:=h.st c
  unfold K28.bare;rw[this];rfl
theorem iG.step{M:Int}{m:Nat}(W:1<=m)(X:M=(m:Int)){its:List It3}(h:iG M m its){x:It3}(it:Itm x.2.1 x.2.2)(O:x.2.1≠bT):iG M m (its++[x]):=by
 obtain⟨p,k,v⟩:=x
 change Itm k v at it
 change k≠bT at O
 obtain⟨h1,h2,h3,h4,y⟩:=h;have d:=iG.fin (M:=M) (m:=m) ⟨h1,h2,h3,h4,y⟩
 generalize hP:cu bY its=P at h1 h2 h3 h4 y
 obtain⟨S,q⟩:=P;dsimp only at h1 h2 h3 h4 y
 generalize hr:rn M s0 its=R at h1 h2 h3 h4 y d
 obtain⟨s,T⟩:=R;dsimp only at h1 h2 h3 h4 y d;have I:s.i=(cP q).2.1:=congrArg Prod.fst h3;have J:s.g=(cP q).2.2:=congrArg Prod.snd h3;have goal:∀(n:Sta) (E:List Du) (j:List (List It3)×List It3),stp M s p k v=n->due M s k=E->gY bY (S,q) (p,k,v)=j ->
   (T++E=(j.1.foldl (gn m) ([],[])).1++chk m (cP j.2).1)->K28.bare n=rst m (cP j.2).1->(n.i,n.g)=(cP j.2).2->(j.2=[]->n.row=(j.1.foldl (gn m) ([],[])).2)->(j.2≠[]->n.st=false)->iG M m (its++[(p,k,v)]):=λn E j t r e3 g1 g2 g3 Z Y=>by
  have B:rn M s0 (its++[(p,k,v)])=(n,T++E):=by
   rw[nH,hr];show(stp M s p k v,T++due M s k)=_;rw[t,r]
  have C:cu bY (its++[(p,k,v)])=j:=by rw[uo,hP,e3]
  exact⟨by rw[B,C];exact g1,by rw[B,C];exact g2,by rw[B,C];exact g3,by rw[B,C];exact Z,by rw[B,C];exact Y⟩
 have H:q++[((p,k,v):It3)]≠[]:=by simp
 have same:∀(i g:Nat),k≠bY->k≠aU->stp M s p k v=⟨K28.bare s,false,i,g⟩->due M s k=[]->stq (cP q) (p,k,v)=((cP q).1,i,g)->iG M m (its++[(p,k,v)]):=λi g a1 a2 a3 a4 L=>by
  refine goal _ _ (S,q++[(p,k,v)]) a3 a4 (by unfold gY;rw[if_neg (show ¬(p,k,v).2.1=bY from a1)]) ?_ ?_ ?_ (λz=>absurd z H) (λ_=>rfl)
  ·dsimp only;rw[zB,uq,L];exact h1
  ·dsimp only;rw[uq,L];exact h2
  ·dsimp only;rw[uq,L]
 cases it with
 |anew =>
  refine goal ⟨s.row,true,46,46⟩ [] (S++[q],[]) rfl rfl rfl ?_ (Nx m).symm rfl ?_ (λz=>absurd rfl z)
  ·show T++[]=((S++[q]).foldl (gn m) ([],[])).1++chk m [];rw[Gs,zB,zB]
   have:=congrArg Prod.fst d
   unfold dB gZ at this;rw[hP] at this;exact this.symm
  ·intro _
   have:=congrArg Prod.snd d
   unfold dB gZ at this;rw[hP] at this;exact this.symm
 |end_=>exact absurd rfl O
 |plain=>exact same 46 46 Qyq (by decide) rfl rfl rfl
 |ink c Q=>exact same c s.g Qyu (by decide) rfl rfl (by rw[J];rfl)
 |ground c Q=>exact same s.i c QyH (by decide) rfl rfl (by rw[I];rfl)
 |sign c Q =>
  obtain⟨G,F⟩:=QuJ W (cP q).1 (c,(cP q).2.1,(cP q).2.2,p);have t:stp M s p aU [c]=stS M s p c:=rfl;have r:due M s aU=lE M s:=rfl
  have u:(cP (q++[((p,aU,[c]):It3)]))=((cP q).1++[(c,(cP q).2.1,(cP q).2.2,p)],(cP q).2):=by rw[uq];rfl
  have U:((K28.bare s).length:Int)=M↔(rst m (cP q).1).length=m:=by rw[h2,X];omega
  unfold stS at t;unfold lE at r
  by_cases l:(rst m (cP q).1).length=m
  ·rw[if_pos (U.mpr l)] at t r;rw[if_pos l] at G F;refine goal _ _ (S,q++[(p,aU,[c])]) t r rfl ?_ ?_ ?_ (λz=>absurd z H) (λ_=>rfl)
   ·dsimp only;rw[u,G,h1,h2,zk]
   ·dsimp only;rw[u,F,<-I,<-J];rfl
   ·dsimp only;rw[u];exact h3
  ·rw[if_neg (λz=>l (U.mp z))] at t r;rw[if_neg l] at G F;refine goal _ _ (S,q++[(p,aU,[c])]) t r rfl ?_ ?_ ?_ (λz=>absurd z H) (λ_=>rfl)
   ·dsimp only;rw[u,G,h1];simp
   ·dsimp only;rw[u,F,<-I,<-J,<-h2];rfl
   ·dsimp only;rw[u];exact h3
theorem Gu{M:Int}(b:List It3):∀(a:List It3) (s:Sta),rn M s (a++b)=((rn M (rn M s a).1 b).1,(rn M s a).2++(rn M (rn M s a).1 b).2)
 | [],s=>by simp[rn]
 |x::a,s=>by
  rw[List.cons_append];simp only[rn];rw[Gu b a];simp
structure pA(M:Int)(m:Nat)(its:List It3):Prop where
 told:(rn M s0 its).2=((cu bT its).1.map λr=>(dB m r).1++[((dB m r).2,bR)]).flatten++(rn M s0 (cu bT its).2).2
 st:(rn M s0 its).1=(rn M s0 (cu bT its).2).1
 row:iG M m (cu bT its).2
 all:∀r∈(cu bT its).1,iG M m r
theorem pA.zero{M:Int}{m:Nat}:pA M m []:=⟨rfl,rfl,iG.zero,λr c=>nomatch c⟩
theorem pA.step{M:Int}{m:Nat}(n:1<=m)(q:M=(m:Int)){its:List It3}(h:pA M m its){x:It3}(it:Itm x.2.1 x.2.2):pA M m (its++[x]):=by
 obtain⟨h1,h2,h3,l⟩:=h
 by_cases j:x.2.1=bT
 ·have c:cu bT (its++[x])=((cu bT its).1++[(cu bT its).2],[]):=by
   rw[uo];unfold gY;rw[if_pos j]
  have u:stp M (rn M s0 its).1 x.1 x.2.1 x.2.2=s0:=by rw[j];rfl
  have t:due M (rn M s0 its).1 x.2.1=[((rn M s0 its).1.row,bR)]:=by rw[j];rfl
  refine⟨?_,?_,by rw[c];exact iG.zero,λr d=>?_⟩
  ·rw[nH,c,t];dsimp only;rw[zI,List.map_singleton,jf,List.flatten_singleton,h1,h2,h3.fin];show _=_++[];simp
  ·rw[nH,c,u];rfl
  ·rw[c] at d
   rcases zu.mp d with d | d
   ·exact l r d
   ·rw[zl.mp d];exact h3
 ·have c:cu bT (its++[x])=((cu bT its).1,(cu bT its).2++[x]):=by
   rw[uo];unfold gY;rw[if_neg j]
  refine⟨?_,?_,by rw[c];exact h3.step n q it j,by rw[c];exact l⟩
  ·rw[nH,c,nH,h1,h2];simp
  ·rw[nH,c,nH,h2]
theorem sH{M:Int}{m:Nat}(d:1<=m)(j:M=(m:Int)):∀(n:Nat) (its:List It3),its.length=n->(∀x∈its,Itm x.2.1 x.2.2)->pA M m its
 | 0,its,h,_=>by rw[List.length_eq_zero_iff.mp h];exact pA.zero
 |n+1,its,h,hi=>by
  have c:its≠[]:=λz=>by rw[z] at h;cases h
  rw[<-List.dropLast_concat_getLast c];refine(sH d j n its.dropLast (by rw[List.length_dropLast];omega) λx l=>hi x (List.dropLast_subset its l)).step d j (hi _ (List.getLast_mem c))
theorem QvA{M:Int}{m:Nat}(c:1<=m)(d:M=(m:Int))(its:List It3)(hi:∀x∈its,Itm x.2.1 x.2.2):wQ m its=((rn M s0 its).2,(rn M s0 its).1.row):=by
 have h:=sH c d _ its rfl hi;unfold wQ;rw[h.row.fin,h.told,h.st]
def sg(its:List It3):List (Nat×Int):=its.filterMap λx=>if x.2.1=aU then some (x.2.2.headD 0,x.1) else none
def prj(x:LT):Nat×Int:=(x.1,x.2.2.2)
def lets(c:List Du):List LT:=(c.map (·.1)).flatten
theorem QsN(s:Sta):(bare s).Sublist s.row:=by
 unfold bare
 split
 ·exact List.nil_sublist _
 ·exact List.Sublist.refl _
theorem Qsx{M p:Int}{k v:List Nat}(s:Sta)(it:Itm k v):((lets (due M s k)++(stp M s p k v).row).map prj).Sublist (s.row.map prj++sg [(p,k,v)]):=by
 have d:=(QsN s).map prj
 have ns:∀k:List Nat,k≠aU->sg [(p,k,v)]=[]:=λk h=>by
  unfold sg;rw[List.filterMap_cons_none (by rw[if_neg (show ¬(p,k,v).2.1=aU from h)])];rfl
 cases it with
 |anew =>
  rw[ns bY (by decide),zB];exact List.Sublist.refl _
 |end_ =>
  rw[ns bT (by decide),zB];show((List.flatten [s.row]++[]).map prj).Sublist _;simp
 |plain =>
  rw[ns fU (by decide),zB];exact d
 |ink c hc =>
  rw[ns eO (by decide),zB];exact d
 |ground c hc =>
  rw[ns eX (by decide),zB];exact d
 |sign c hc =>
  have m:stp M s p aU [c]=stS M s p c:=rfl;have l:due M s aU=lE M s:=rfl;have j:sg [(p,aU,[c])]=[(c,p)]:=rfl;rw[m,l,j];unfold stS lE
  split
  ·show((List.flatten [bare s]++[(c,s.i,s.g,p)]).map prj).Sublist _;rw[List.flatten_singleton,zI];exact d.append_right _
  ·show(([]++(bare s++[(c,s.i,s.g,p)])).map prj).Sublist _;rw[zM,zI];exact d.append_right _
theorem Ny(a b:List Du):lets (a++b)=lets a++lets b:=by
 unfold lets;rw[zI,jf]
theorem Qud(x:It3)(its:List It3):sg (x::its)=sg [x]++sg its:=by
 unfold sg;rw[<-List.filterMap_append];rfl
theorem Gv{M:Int}:∀(its:List It3) (s:Sta),(∀x∈its,Itm x.2.1 x.2.2)->((lets (rn M s its).2++(rn M s its).1.row).map prj).Sublist (s.row.map prj++sg its)
 | [],s,_=>by
  show((List.flatten []++s.row).map prj).Sublist (s.row.map prj++[]);simp
 |x::its,s,hi=>by
  have h1:=Qsx (M:=M) (p:=x.1) s (hi x zp)
  have h2:=Gv (M:=M) its (stp M s x.1 x.2.1 x.2.2) λy c=>hi y (zr _ c)
  show((lets (due M s x.2.1++(rn M (stp M s x.1 x.2.1 x.2.2) its).2)++(rn M (stp M s x.1 x.2.1 x.2.2) its).1.row).map prj).Sublist _;rw[Ny,zk,zI,Qud,<-zk];refine(h2.append_left _).trans ?_;rw[<-zk,<-zI];exact h1.append_right _
theorem Qvw{c:Nat}{r:List Nat}(h:(one c r).1=aU):(one c r).2.1=[c]:=by
 have F:bT≠aU:=by decide
 have E:bY≠aU:=by decide
 have C:fU≠aU:=by decide
 have B:eO≠aU:=by decide
 have y:eX≠aU:=by decide
 unfold one at h ⊢;split at h
 ·exact absurd h F
 rename_i t;rw[if_neg t];split at h
 ·exact absurd h E
 rename_i G;rw[if_neg G];split at h
 ·rename_i j;rw[if_pos j,j];unfold cY at h ⊢
  cases r with
  |nil=>rfl
  |cons d r =>
   dsimp only at h ⊢;split at h
   ·exact absurd h C
   rename_i x;rw[if_neg x];split at h
   ·rename_i q;rw[if_pos q]
   rename_i q;rw[if_neg q];split at h
   ·rename_i n;rw[if_pos n];unfold jy at h ⊢
    cases r with
    |nil=>rfl
    |cons e r =>
     dsimp only at h ⊢;split at h
     ·exact absurd h B
     ·rename_i l;rw[if_neg l]
   rename_i n;rw[if_neg n];split at h
   ·rename_i l;rw[if_pos l];unfold gW at h ⊢
    cases r with
    |nil=>rfl
    |cons e r =>
     dsimp only at h ⊢;split at h
     ·rename_i m;rw[if_pos m];unfold jY at h ⊢
      cases r with
      |nil=>rfl
      |cons f r =>
       dsimp only at h ⊢;split at h
       ·exact absurd h y
       ·rename_i u;rw[if_neg u]
     ·rename_i m;rw[if_neg m]
   ·rename_i l;rw[if_neg l]
 ·rename_i j;rw[if_neg j]
structure Its(t:List Nat)(p:Int)(its:List It3):Prop where
 eq:items p t=its.map itD
 itm:∀x∈its,Itm x.2.1 x.2.2
 len:its.length<=t.length
 lo:∀x∈its,p<=x.1
 rise:its.Pairwise λx y=>x.1<y.1
 at_:∀x∈its,x.2.1=aU->t[(x.1 - p).toNat]?=some (x.2.2.headD 0)
theorem Nz:∀(n:Nat) (t:List Nat) (p:Int),t.length<=n->(∀c∈t,c<=125)->∃its:List It3,Its t p its
 | _,[],p,_,_=>⟨[],by rw[oO];rfl,by simp,zc _,by simp,.nil,by simp⟩
 | 0,c::t,p,h,_=>by simp at h
 |n+1,c::t,p,h,hc=>by
  simp only[zn] at h;have r:=one_le c t;obtain⟨its,h1,h2,h3,h4,q,m⟩:=Nz n (t.drop (one c t).2.2) (p+((one c t).2.2+1:Nat)) (by rw[List.length_drop];omega) (λx d=>hc x (zr _ (jc d)));refine⟨(p,(one c t).1,(one c t).2.1)::its,by rw[tR,h1];rfl,λx d=>?_,by rw[List.length_drop] at h3;simp only[zn];omega,λx d=>?_,List.pairwise_cons.mpr ⟨λy l=>?_,q⟩,λx d j=>?_⟩
  ·rcases zh.mp d with rfl | d
   ·exact Z0 hc
   ·exact h2 x d
  ·rcases zh.mp d with rfl | d
   ·exact Int.le_refl _
   ·have:=h4 x d;omega
  ·have:=h4 y l
   show p<y.1;omega
  ·rcases zh.mp d with rfl | d
   ·show(c::t)[(p - p).toNat]?=some ((one c t).2.1.headD 0);rw[Qvw j,Int.sub_self];rfl
   ·have a:=h4 x d;have b:=m x d j;rw[List.getElem?_drop] at b;rw[<-b];rw[show(x.1 - p).toNat=((one c t).2.2+(x.1 - (p+((one c t).2.2+1:Nat))).toNat)+1 by omega,zE]
theorem QxV{t:List Nat}{its:List It3}(h:Its t 0 its):(sg its).Pairwise (λx y=>x.2<y.2)/\∀x∈sg its,∃n:Nat,x.2=(n:Int)/\t[n]?=some x.1:=by
 refine⟨?_,λx d=>?_⟩
 ·unfold sg;refine List.Pairwise.filterMap _ (λa b j x d y c=>?_) h.rise;split at d
  ·split at c
   ·cases d;cases c;exact j
   ·cases c
  ·cases d
 ·unfold sg at d;obtain⟨y,c,e⟩:=List.mem_filterMap.mp d;split at e
  ·rename_i l;cases e;have a:=h.lo y c;have b:=h.at_ y c l;rw[Int.sub_zero] at b;exact⟨y.1.toNat,(Int.toNat_of_nonneg a).symm,b⟩
  ·cases e
theorem Quj{t:List Nat}{its:List It3}(h:Its t 0 its)(M:Int):((lets (rn M s0 its).2++(rn M s0 its).1.row).map λx:LT=>x.2.2.2).Pairwise (· < ·)/\∀x∈lets (rn M s0 its).2++(rn M s0 its).1.row,∃n:Nat,x.2.2.2=(n:Int)/\t[n]?=some x.1:=by
 have c:=Gv (M:=M) its s0 h.itm;obtain⟨a,b⟩:=QxV h;rw[show s0.row.map prj++sg its=sg its from rfl] at c;refine⟨?_,λx d=>?_⟩
 ·have:=a.sublist c
  rw[List.pairwise_map] at this ⊢;exact this
 ·obtain⟨n,h1,h2⟩:=b _ (c.subset (List.mem_map_of_mem d));exact⟨n,h1,h2⟩
theorem NB{n:Nat}{all:List D}{g:MG}{b:MS}(I:Nat->aB->aq->Prop)(t:∀i ρ O,I i ρ O->O[n]?=some (.ml all))(hs:∀i d ρ O,all[i]?=some d->I i ρ O->∃j,g d ρ=some j/\∃c q,b j O=.nx c q/\I (i+1) c q):
  ∀(m i:Nat) (ρ:aB) (O:aq),i+m=all.length->I i ρ O->∃h r,iR n all g b (all.drop i) ρ O=.nx h r/\I all.length h r
 | 0,i,ρ,O,hi,hp=>by
  refine⟨ρ,O,?_,by rw[<-hi];exact hp⟩;rw[List.drop_eq_nil_of_le (by omega)];unfold iR;rw[t i ρ O hp];dsimp only;rw[if_pos rfl]
 |m+1,i,ρ,O,hi,hp=>by
  have l:i<all.length:=by omega
  have x:=zD l;obtain⟨j,C,c,q,B,u⟩:=hs i all[i] ρ O x hp;obtain⟨h,r,y,h3⟩:=NB I t hs m (i+1) c q (by omega) u;refine⟨h,r,?_,h3⟩;rw[List.drop_eq_getElem_cons l];unfold iR;rw[t i ρ O hp];dsimp only;rw[show all.length - ((all.drop (i+1)).length+1)=i by rw[List.length_drop];omega,x];dsimp only;rw[C];dsimp only;rw[B];exact y
theorem wR{all:List D}{g:MG}{b:MS}(I:Nat->aB->aq->Prop)(hs:∀i d ρ O,all[i]?=some d->I i ρ O->∃h,g d ρ=some h/\∃c l,b h O=.nx c l/\I (i+1) c l){ρ:aB}{O:aq}(h0:I 0 ρ O):∃j n,cz g b all ρ O=.nx j n/\I all.length j n:=by
 have:=tH I all 0 ρ O h0 λi d ρ O q m=>by
  rw[zZ] at m;obtain⟨h,t,c,l,r,h2⟩:=hs i d ρ O q m;exact⟨h,t,c,l,.inl r,by rw[zZ];exact h2⟩
 rw[zZ] at this;exact this
theorem Gw{m:L2.M D}{all:List D}{g:MG}{b:MS}(I:Nat->aB->aq->Prop){ρ:aB}{O:aq}{x:D}(u:m ρ O=.ok x O)(t:x=.lst all\/∃n,x=.ob n/\∀i ρ O,I i ρ O->O[n]?=some (.ml all))(h0:I 0 ρ O)
  (hs:∀i d ρ O,all[i]?=some d->I i ρ O->∃h,g d ρ=some h/\∃c q,b h O=.nx c q/\I (i+1) c q):∃j r,iu m g b ρ O=.nx j r/\I all.length j r:=by
 unfold iu;rw[u]
 rcases t with rfl | ⟨n,rfl,l⟩
 ·exact wR I hs h0
 ·dsimp only;rw[l 0 ρ O h0]
  have:=NB I l hs all.length 0 ρ O (zZ _) h0
  rw[List.drop_zero] at this;exact this
def obs(b m:Nat):List D:=(List.range m).map λi=>.ob (b+i)
def dU(s:List It3):Ob:=.ml (s.map itD)
theorem QsZ(b m:Nat):obs b m++[.ob (b+m)]=obs b (m+1):=by
 unfold obs;rw[List.range_succ,zI];rfl
theorem ur(b m:Nat):(obs b m).length=m:=by unfold obs;rw[ze,List.length_range]
theorem NP(b:Nat){m i:Nat}(h:i<m):(obs b m)[i]?=some (.ob (b+i)):=by
 unfold obs;rw[zG,List.getElem?_range h];rfl
theorem Qr8(b m:Nat):gIx (.lst (obs b (m+1))) (.int (-1))=some (.ob (b+m)):=by
 rw[vJ];unfold atI;rw[ur,show ixN (m+1) (-1)=some m by unfold ixN;rw[if_neg (by decide),if_pos (by omega)];congr 1;omega];exact NP b (jg m)
theorem wU(ρ:aB)(O:aq):mUn fJ (mC (.int 1)) ρ O=.ok (.int (-1)) O:=rfl
def uv:MS:=(aQ (aH (ak gEq (ak gIx (aa 3) (mC (.int 1))) (aa 1))) (iQ 2 (mMl (bx au))) (oA (ak gIx (aa 2) (mUn fJ (mC (.int 1)))) (aa 3)))
theorem take_snoc{α:Type}{l:List α}{i:Nat}{x:α}(h:l[i]?=some x):l.take (i+1)=l.take i++[x]:=by
 rw[List.take_add_one,h];rfl
theorem uw{α:Type}{f:α->D}{l:List α}{i:Nat}{d:D}(h:(l.map f)[i]?=some d):∃x,l[i]?=some x/\d=f x:=by
 rw[zG] at h
 cases q:l[i]? with
 |none=>rw[q] at h;cases h
 |some x=>rw[q] at h;cases h;exact⟨x,rfl,rfl⟩
theorem QsT(k:List Nat)(O:aq)(S:List (List It3))(c:List It3)(x:It3)(a0:Option D)(m:S.length+c.length<=10000):
  uv [a0,some (.str k),some (.lst (obs O.length (S.length+1))),some (itD x)] (O++(S++[c]).map dU)=.nx [a0,some (.str k),some (.lst (obs O.length ((gY k (S,c) x).1.length+1))),some (itD x)] (O++((gY k (S,c) x).1++[(gY k (S,c) x).2]).map dU):=by
 have t:aH (ak gEq (ak gIx (aa 3) (mC (.int 1))) (aa 1)) [a0,some (.str k),some (.lst (obs O.length (S.length+1))),some (itD x)] (O++(S++[c]).map dU)=.ok (decide (x.2.1=k)) (O++(S++[c]).map dU):=
  nG (cO (x:=.str x.2.1) (y:=.str k) (cO (x:=itD x) (y:=.int 1) rfl rfl rfl) rfl rfl)
 have hlen:(O++(S++[c]).map dU).length=O.length+(S.length+1):=by simp
 unfold uv gY
 by_cases h:x.2.1=k
 ·rw[zH h] at t;rw[wO t,if_pos h]
  have l:mMl (bx au) [a0,some (.str k),some (.lst (obs O.length (S.length+1))),some (itD x)] (O++(S++[c]).map dU)=.ok (.ob (O.length+(S.length+1))) (O++(S++[c]).map dU++[Ob.ml []]):=by
   rw[Gb,show bx au [a0,some (.str k),some (.lst (obs O.length (S.length+1))),some (itD x)] (O++(S++[c]).map dU)=.ok (.lst []) (O++(S++[c]).map dU) from rfl,aY];dsimp only;rw[hlen]
  rw[Aa,l,Ab (ds:=obs O.length (S.length+1)) rfl (by rw[ur];omega),QsZ];dsimp only;congr 1
  ·simp
  ·simp[dU]
 ·rw[zz h] at t;rw[pq t,if_neg h]
  have j:(O++(S++[c]).map dU)[O.length+S.length]?=some (.ml (c.map itD)):=by
   rw[zv (by omega),zI,zv (by rw[ze];omega)];simp[dU]
  rw[Gf (n:=O.length+S.length) (ds:=c.map itD) (d:=itD x) (cO rfl (wU _ _) (Qr8 _ _)) j rfl (by rw[ze];omega)];congr 1;rw[List.set_append_right _ _ (by omega),zI,List.set_append_right _ _ (by rw[ze];omega),zI];simp[dU]
theorem wV(k:List Nat):∀(its:List It3) (S:List (List It3)) (c:List It3),(its.foldl (gY k) (S,c)).1.length+(its.foldl (gY k) (S,c)).2.length<=S.length+c.length+its.length
 | [],S,c=>zc _
 |x::its,S,c=>by
  rw[List.foldl_cons,zn];rw[show gY k (S,c) x=if x.2.1=k then(S++[c],[]) else(S,c++[x]) from rfl]
  split
  ·have:=wV k its (S++[c]) []
   rw[zd] at this;simp only[zL,zw] at this;omega
  ·have:=wV k its S (c++[x])
   rw[zd] at this;simp only[zL] at this;omega
theorem NQ{its:List It3}(k:List Nat)(u:its.length<=5000)(O:aq)(d:D)(hd:d=.lst (its.map itD)\/∃n,d=.ob n/\O[n]?=some (.ml (its.map itD))):
  mz [d,.str k] O=.ok (.lst (obs O.length (gZ k its).length)) (O++(gZ k its).map dU):=by
 obtain⟨t,h,e,c,rfl,rfl⟩:=Gw (m:=aa 0) (all:=its.map itD) (g:=mgN 3) (b:=uv) (λi ρ h=>∃c,ρ=[some d,some (.str k),some (.lst (obs O.length ((cu k (its.take i)).1.length+1))),c]/\h=O++((cu k (its.take i)).1++[(cu k (its.take i)).2]).map dU)
  (ρ:=[some d,some (.str k),some (.lst (obs O.length 1)),none]) (O:=O++[Ob.ml []]) (x:=d) rfl (by
   rcases hd with hd | ⟨n,hd,l⟩
   ·exact .inl hd
   ·refine .inr ⟨n,hd,?_⟩;rintro i ρ h ⟨c,_,rfl⟩;rw[zC (zj.mp l).1]
    exact l) ⟨none,rfl,rfl⟩ (by
   rintro i y ρ h q ⟨c,rfl,rfl⟩;obtain⟨x,j,rfl⟩:=uw q;refine⟨_,mg_n,_,_,QsT k O _ _ x (some d) ?_,some (itD x),?_,?_⟩
   ·have:=wV k (its.take i) [] []
    rw[List.length_take] at this;simp only[zw] at this;unfold cu;omega
   ·rw[take_snoc j,uo]
   ·rw[take_snoc j,uo])
 rw[ze,List.take_length] at e;show cN (aA (aO 2 (bx (ao (mMl (bx au)) au))) (aA (iu (aa 0) (mgN 3) uv) (aM (aa 2))) [some d,some (.str k),none,none] O)=_;have r:bx (ao (mMl (bx au)) au) [some d,some (.str k),none,none] O=.ok (.lst (obs O.length 1)) (O++[Ob.ml []]):=rfl;rw[bG,dF,r,dM,bI,bG];show cN (iT (iu (aa 0) (mgN 3) uv [some d,some (.str k),some (.lst (obs O.length 1)),none] (O++[Ob.ml []])) _)=_;rw[e,bI,iB,show aa 2 [some d,some (.str k),some (.lst (obs O.length ((cu k its).1.length+1))),c] (O++((cu k its).1++[(cu k its).2]).map dU)=.ok (.lst (obs O.length ((cu k its).1.length+1))) (O++((cu k its).1++[(cu k its).2]).map dU) from rfl,iC,iU]
 unfold gZ;rw[zd,zL]
def ux:MS:=(aA (aQ (aH (ak gEq (aa 5) (mC (.str [115,105,103,110])))) (iQ 1 (bQ (ao (aa 6) (ao (aa 2) (ao (aa 3) (ao (aa 4) au)))))) aW)
  (aA (aQ (cU (aH (ak gEq (aa 5) (mC (.str [105,110,107])))) (aH (ak gEq (aa 5) (mC (.str [112,108,97,105,110]))))) (aO 2 (ak aX (aa 6) (mSl (mC (.str [46])) (moS (bM bW (ao (aa 6) au))) moN))) aW)
  (aQ (cU (aH (ak gEq (aa 5) (mC (.str [103,114,111,117,110,100])))) (aH (ak gEq (aa 5) (mC (.str [112,108,97,105,110]))))) (aO 3 (ak aX (aa 6) (mSl (mC (.str [46])) (moS (bM bW (ao (aa 6) au))) moN))) aW)))
theorem Qup(a:Sq)(x:It3)(it:Itm x.2.1 x.2.2)(h1:x.2.1≠bY)(h2:x.2.1≠bT)(m:a.1.length<=10000)(a0:Option D)(O:aq):
  ux [a0,some (.lst (a.1.map dL)),some (.str [a.2.1]),some (.str [a.2.2]),some (.int x.1),some (.str x.2.1),some (.str x.2.2)] O=.nx [a0,some (.lst ((stq a x).1.map dL)),some (.str [(stq a x).2.1]),some (.str [(stq a x).2.2]),some (.int x.1),some (.str x.2.1),some (.str x.2.2)] O:=by
 obtain⟨p,k,v⟩:=x
 change Itm k v at it
 change k≠bY at h1
 change k≠bT at h2
 have j:a.1.length<1000000:=by omega
 have h:cR [46] (some 1) none=[]:=rfl;have l:cR [46] (some 0) none=[46]:=rfl;unfold ux
 cases it with
 |anew=>exact absurd rfl h1
 |end_=>exact absurd rfl h2
 |plain=>simp[stq,bY,bT,aU,eO,eX,fU,l]
 |ink c d=>simp[stq,bY,bT,aU,eO,eX,fU,h]
 |ground c d=>simp[stq,bY,bT,aU,eO,eX,fU,h]
 |sign c d=>simp[stq,dL,bY,bT,aU,eO,eX,fU,apF,j]
theorem wW:∀(its:List It3) (a:Sq),(its.foldl stq a).1.length<=a.1.length+its.length
 | [],a=>zc _
 |x::its,a=>by
  rw[List.foldl_cons,zn]
  have:=wW its (stq a x)
  have h2:(stq a x).1.length<=a.1.length+1:=by
   unfold stq
   split
   ·simp
   ·split
    ·exact Nat.le_succ _
    ·split<;>exact Nat.le_succ _
  omega
theorem Qq0{its:List It3}(u:its.length<=5000)(hi:∀x∈its,Itm x.2.1 x.2.2/\x.2.1≠bY/\x.2.1≠bT){O:aq}{n:Nat}(r:O[n]?=some (.ml (its.map itD))):wy [.ob n] O=.ok (.lst ((cP its).1.map dL)) O:=by
 obtain⟨t,c,e,⟨j,h,d,rfl⟩,rfl⟩:=Gw (m:=aa 0) (all:=its.map itD) (g:=dO 3 (bC (mgN 4) (bC (mgN 5) (bC (mgN 6) dW)))) (b:=ux) (λi ρ c=>(∃j h d,ρ=[some (.ob n),some (.lst ((cP (its.take i)).1.map dL)),some (.str [(cP (its.take i)).2.1]),some (.str [(cP (its.take i)).2.2]),j,h,d])/\c=O)
  (ρ:=[some (.ob n),some (.lst []),some (.str [46]),some (.str [46]),none,none,none]) (O:=O) (x:=.ob n) rfl (.inr ⟨n,rfl,by rintro i ρ c ⟨_,rfl⟩;exact r⟩) ⟨⟨none,none,none,rfl⟩,rfl⟩ (by
   rintro i d' ρ c hi' ⟨⟨j,h,d,rfl⟩,rfl⟩;obtain⟨x,l,rfl⟩:=uw hi';obtain⟨h1,h2,h3⟩:=hi x (zS l);have hlen:=wW (its.take i) sq0;rw[List.length_take] at hlen
   have q:(cP (its.take i)).1.length<=10000:=by
    unfold cP
    have:sq0.1.length=0:=rfl
    omega
   refine⟨_,ZD,_,_,Qup _ x h1 h2 h3 q (some (.ob n)) c,⟨some (.int x.1),some (.str x.2.1),some (.str x.2.2),?_⟩,rfl⟩
   rw[take_snoc l,uq])
 rw[ze,List.take_length] at e;show cN (aA (aO 1 (bx au)) (aA (aO 2 (mC (.str [46]))) (aA (aO 3 (mC (.str [46]))) (aA (iu (aa 0) (dO 3 (bC (mgN 4) (bC (mgN 5) (bC (mgN 6) dW)))) ux) (aM (aa 1))))) [some (.ob n),none,none,none,none,none,none] c)=_;rw[bG,dF,show bx au [some (.ob n),none,none,none,none,none,none] c=.ok (.lst []) c from rfl,dM,bI,bG,dF,m_c,dM,bI,bG,dF,m_c,dM,bI,bG];show cN (iT (iu (aa 0) _ ux [some (.ob n),some (.lst []),some (.str [46]),some (.str [46]),none,none,none] c) _)=_;rw[e];rfl
theorem Gx{m:L2.M (List D)}{own:Nat}{cap:List Nat}{g:MG}{t:L2.M Bool}{e:L2.M D}{ρ c:aB}{O j d:aq}{ds ys:List D}(h:m ρ O=.ok ds j)(l:ds.length<=1000000)(h0:mW own cap ρ=c)(n:fB g t e ds c j []=.ok ys d):ig m own cap g t e ρ O=.ok (.lst ys) d:=by
 rw[Xu,h,aY,if_pos l,h0,n,aY]
theorem pB{m:L2.M D}{ρ:aB}{O c:aq}{l:List D}(h:m ρ O=.ok (.lst l) c):d8 m ρ O=.ok l c:=by
 rw[yV,h,aY,KN,yU]
theorem wX{m:L2.M D}{lo hi:L2.M (Option Int)}{ρ:aB}{O:aq}{l:List D}{a b:Option Int}(h:m ρ O=.ok (.lst l) O)(h1:lo ρ O=.ok a O)(h2:hi ρ O=.ok b O):mSl m lo hi ρ O=.ok (.lst (cR l a b)) O:=by
 rw[Xo,h,aY,h1,aY,h2,aY,gh,Xp,gQ]
theorem uy{m:L2.M D}{ρ:aB}{O:aq}{i:Int}(h:m ρ O=.ok (.int i) O):moS m ρ O=.ok (some i) O:=by
 rw[Xn,h,aY,Xm]
theorem NT{a b:L2.M D}{ρ:aB}{O:aq}{i j:Nat}(c:a ρ O=.ok (.int i) O)(hb:b ρ O=.ok (.int j) O)(d:j<=1000000):ak fH a b ρ O=.ok (.int ((i * j:Nat):Int)) O:=cO c hb (by
 rw[fQ,fQ,yW (.inr ⟨by omega,by omega⟩)]
 push_cast
 rfl)
theorem uz{a b:L2.M D}{ρ:aB}{O:aq}{x y:List D}(c:a ρ O=.ok (.lst x) O)(hb:b ρ O=.ok (.lst y) O)(h:x.length+y.length<=1000000):ak aX a b ρ O=.ok (.lst (x++y)) O:=cO c hb (by rw[gh,gh,tG,if_pos h])
theorem Gy(k:List Nat)(Q:It3->Prop)(N:Nat):∀(its:List It3) (S:List (List It3)) (c:List It3),(∀q∈S,q.length<=N/\∀x∈q,Q x/\x.2.1≠k)->c.length+its.length<=N->(∀x∈c,Q x/\x.2.1≠k)->(∀x∈its,Q x) ->
  ∀q∈(its.foldl (gY k) (S,c)).1++[(its.foldl (gY k) (S,c)).2],q.length<=N/\∀x∈q,Q x/\x.2.1≠k
 | [],S,c,h1,h2,h3,h4,q,d=>by
  rcases zu.mp d with d | d
  ·exact h1 q d
  ·rw[zl.mp d];exact⟨h2,h3⟩
 |x::its,S,c,h1,h2,h3,h4,q,d=>by
  rw[List.foldl_cons,show gY k (S,c) x=if x.2.1=k then(S++[c],[]) else(S,c++[x]) from rfl] at d;rw[zn] at h2
  have h4':∀y∈its,Q y:=λy h=>h4 y (zr _ h)
  by_cases l:x.2.1=k
  ·rw[if_pos l] at d;refine Gy k Q N its (S++[c]) [] (λr j=>?_) (by simp only[zw];omega) (λy h=>nomatch h) h4' q d
   rcases zu.mp j with j | j
   ·exact h1 r j
   ·rw[zl.mp j];exact⟨by omega,h3⟩
  ·rw[if_neg l] at d;refine Gy k Q N its S (c++[x]) h1 (by rw[zd,zL];omega) (λy h=>?_) h4' q d
   rcases zu.mp h with h | h
   ·exact h3 y h
   ·rw[zl.mp h];exact⟨h4 x zp,l⟩
theorem NZ(k:List Nat)(Q:It3->Prop)(its:List It3)(h:∀x∈its,Q x):∀q∈gZ k its,q.length<=its.length/\∀x∈q,Q x/\x.2.1≠k :=
 Gy k Q its.length its [] [] (λq d=>nomatch d) (by simp only[zw];omega) (λx c=>nomatch c) h
theorem N5(k:List Nat)(its:List It3):(gZ k its).length<=its.length+1:=by
 have:=wV k its [] []
 unfold gZ cu;rw[zd,zL];simp only[zw] at this;omega
theorem QvO{x:It3}(h:Itm x.2.1 x.2.2):M9 (itD x):=by
 obtain⟨p,k,v⟩:=x
 change Itm k v at h
 refine⟨p,k,v,rfl,?_⟩
 cases h with
 |anew=>exact⟨by decide,by simp⟩
 |end_=>exact⟨by decide,by simp⟩
 |plain=>exact⟨by decide,by simp⟩
 |ink c d=>exact⟨by decide,by simp;omega⟩
 |ground c d=>exact⟨by decide,by simp;omega⟩
 |sign c d=>exact⟨by decide,by simp;omega⟩
theorem QuC(q:List It3)(h:∀x∈q,Itm x.2.1 x.2.2):okE (.lst (q.map itD))=true:=vN (n:=5) (by decide) λd hd=>by
 obtain⟨x,c,rfl⟩:=zT.mp hd;exact Zz (QvO (h x c))
def tD(a:TL):D:=.tup [.lst (a.1.map aR),.lst (a.2.map dL)]
def N6:MS:=(aA (aO 5 (bz wy (ao (aa 4) au)))
  (aA (aO 6 (ak jP (bM n6 (ao (mC (.int 0)) (ao (ak mX (bM bW (ao (aa 5) au)) (mC (.int 1))) au))) (aa 1)))
  (aA (aO 2 (ak aX (aa 2) (ig (jt (ao (aa 6) au)) 1 [1,5] (mgN 0) il (bQ (ao (mSl (aa 2) (moS (ak fH (aa 0) (aa 1))) (moS (ak aX (ak fH (aa 0) (aa 1)) (aa 1)))) (ao (mC (.str [109,111,114,101])) au))))))
  (aO 3 (mSl (aa 5) (moS (ak fH (aa 6) (aa 1))) moN)))))
def R_b:MS:=aQ (aH (ak gNe (aa 4) (bx au))) N6 aW
theorem Qs9{m:Nat}(hm:1<=m/\m<=200)(T:List Du)(L:List LT)(q:List It3)(hT:T.length<=500000)(hq:q.length<=600)(hi:∀x∈q,(Itm x.2.1 x.2.2/\x.2.1≠bT)/\x.2.1≠bY){O:aq}{j:Nat}(G:O[j]?=some (dU q))(a0 C n:Option D):
  ∃d c,R_b [a0,some (.int (m:Int)),some (.lst (T.map aR)),some (.lst (L.map dL)),some (.ob j),C,n] O=.nx [a0,some (.int (m:Int)),some (.lst ((gn m (T,L) q).1.map aR)),some (.lst ((gn m (T,L) q).2.map dL)),some (.ob j),d,c] O:=by
 have Z:bO O (.ob j)=.lst (q.map itD):=ug G
 have t:aH (ak gNe (aa 4) (bx au)) [a0,some (.int (m:Int)),some (.lst (T.map aR)),some (.lst (L.map dL)),some (.ob j),C,n] O=.ok (decide (q≠[])) O:=by
  refine nG (cO (x:=.ob j) (y:=.lst []) rfl rfl ?_);rw[Z,gh,yZ,QuC q (λx u=>(hi x u).1.1),okn]
  cases q with
  |nil=>rfl
  |cons x l=>rw[zx,Gi];rfl
 unfold R_b gn
 by_cases h:q=[]
 ·rw[zz (λz=>z h)] at t;rw[pq t,if_pos h];exact⟨C,n,rfl⟩
 ·rw[zH h] at t;rw[wO t,if_neg h];have I:=Qq0 (its:=q) (by omega) (λx u=>⟨(hi x u).1.1,(hi x u).2,(hi x u).1.2⟩) G;have H:=wW q sq0
  change (cP q).1.length<=0+q.length at H
  obtain⟨l,Q⟩:∃l,l=(cP q).1:=⟨_,rfl⟩;rw[<-Q] at I H ⊢;obtain⟨f,B⟩:∃f,f=(l.length - 1) / m:=⟨_,rfl⟩
  have hfl:f<=600:=by rw[B];exact zK (Nat.div_le_self _ _) (by omega)
  unfold N6;rw[bG,iV ((jM (ma1 (show aa 4 [a0,some (.int (m:Int)),some (.lst (T.map aR)),some (.lst (L.map dL)),some (.ob j),C,n] O=.ok (.ob j) O from rfl))).trans I),bI];show ∃d c,aA _ _ [a0,some (.int (m:Int)),some (.lst (T.map aR)),some (.lst (L.map dL)),some (.ob j),some (.lst (l.map dL)),n] O=_
  have Y:ak jP (bM n6 (ao (mC (.int 0)) (ao (ak mX (bM bW (ao (aa 5) au)) (mC (.int 1))) au))) (aa 1) [a0,some (.int (m:Int)),some (.lst (T.map aR)),some (.lst (L.map dL)),some (.ob j),some (.lst (l.map dL)),n] O=.ok (.int (f:Int)) O:=by
   refine cO (x:=.int ((l.length - 1:Nat):Int)) (y:=.int (m:Int)) (Gk (maS m_c (ma1 (Z7 (Gm rfl) m_c))) ?_) rfl ?_
   ·show n6 [.int 0,.int (((l.map dL).length:Int) - 1)]=_;rw[Xz,ze];congr 2
    split<;>omega
   ·rw[fQ,fQ,Xw,if_pos ⟨by omega,by omega⟩,B];rfl
  rw[bG,iV Y,bI];show ∃d c,aA _ _ [a0,some (.int (m:Int)),some (.lst (T.map aR)),some (.lst (L.map dL)),some (.ob j),some (.lst (l.map dL)),some (.int (f:Int))] O=_
  have R:fB (mgN 0) il (bQ (ao (mSl (aa 2) (moS (ak fH (aa 0) (aa 1))) (moS (ak aX (ak fH (aa 0) (aa 1)) (aa 1)))) (ao (mC (.str [109,111,114,101])) au))) (fD 0 f) [none,some (.int (m:Int)),some (.lst (l.map dL))] O []=.ok ((chk m l).map aR) O:=by
   unfold fD
   rw[Ac (λρ=>∃a,ρ=[a,some (.int (m:Int)),some (.lst (l.map dL))]) (λk:Nat=>D.int (0+(k:Int))) (λk=>aR ((l.drop (k * m)).take m,cL)) (List.range f) _ O [] ⟨none,rfl⟩ (by
    rintro k hk ρ ⟨a,rfl⟩;refine⟨_,mg_n,⟨_,rfl⟩,rfl,?_⟩
    have P:aa 0 [some (.int (0+(k:Int))),some (.int (m:Int)),some (.lst (l.map dL))] O=.ok (.int (k:Int)) O:=by
     rw[cG];show Res.ok (D.int (0+(k:Int))) O=_;rw[Int.zero_add]
    have F:=NT (b:=aa 1) (j:=m) P rfl (by omega);have J:=Nv (b:=aa 1) (j:=(m:Int)) F rfl;have r:=wX (m:=aa 2) (l:=l.map dL) rfl (uy F) (uy J);rw[show((k * m:Nat):Int)+(m:Int)=((k * m+m:Nat):Int) by push_cast;rfl,M8,Nat.add_sub_cancel_left,<-List.map_drop,<-List.map_take] at r
    exact Gj (maS r (ma1 rfl)) (by simp))]
   rw[zM,chk,List.map_map,B];rfl
  have U:jt (ao (aa 6) au) [a0,some (.int (m:Int)),some (.lst (T.map aR)),some (.lst (L.map dL)),some (.ob j),some (.lst (l.map dL)),some (.int (f:Int))] O=.ok (fD 0 f) O:=Nu rfl (by omega);have W:=Gx (own:=1) (cap:=[1,5]) U (by unfold fD;rw[ze,List.length_range];omega) rfl R
  have E:(chk m l).length=f:=by unfold chk;rw[ze,List.length_range,B]
  have X:=uz (a:=aa 2) (x:=T.map aR) rfl W (by rw[ze,ze,E];omega);rw[bG,iV X,bI,<-zI];show ∃d c,aO 3 _ [a0,some (.int (m:Int)),some (.lst ((T++chk m l).map aR)),some (.lst (L.map dL)),some (.ob j),some (.lst (l.map dL)),some (.int (f:Int))] O=_;have r:=wX (ρ:=[a0,some (.int (m:Int)),some (.lst ((T++chk m l).map aR)),some (.lst (L.map dL)),some (.ob j),some (.lst (l.map dL)),some (.int (f:Int))]) (O:=O) (m:=aa 5) (l:=l.map dL) (hi:=moN) (b:=none) rfl (uy (NT (a:=aa 6) (b:=aa 1) (i:=f) (j:=m) rfl rfl (by omega))) rfl;rw[Zw,<-List.map_drop] at r;rw[iV r];refine⟨some (.lst (l.map dL)),some (.int (f:Int)),?_⟩
  unfold rst;rw[<-B];rfl
theorem QsW{m:Nat}(a:TL)(q:List It3)(N:Nat)(d:q.length<=N):(gn m a q).1.length<=a.1.length+N:=by
 unfold gn
 split
 ·omega
 ·have c:=wW q sq0
  change (cP q).1.length<=0+q.length at c
  unfold chk;rw[zd,ze,List.length_range]
  have:=Nat.div_le_self ((cP q).1.length - 1) m
  show a.1.length+_<=_;omega
theorem N7{m:Nat}(N:Nat):∀(c:List (List It3)) (a:TL),(∀q∈c,q.length<=N)->(c.foldl (gn m) a).1.length<=a.1.length+c.length * N
 | [],a,_=>by simp
 |q::c,a,h=>by
  rw[List.foldl_cons,zn,Nat.succ_mul]
  have h1:=N7 (m:=m) N c (gn m a q) λr d=>h r (zr _ d)
  have h2:=QsW (m:=m) a q N (h q zp);omega
theorem N8(O:aq){S:List (List It3)}{i:Nat}{q:List It3}(h:S[i]?=some q):(O++S.map dU)[O.length+i]?=some (dU q):=by
 rw[zv (by omega),Nat.add_sub_cancel_left,zG,h];rfl
theorem Qxp{m:Nat}(G:1<=m/\m<=200){its:List It3}(L:its.length<=600)(hi:∀x∈its,Itm x.2.1 x.2.2/\x.2.1≠bT){O:aq}{n:Nat}(F:O[n]?=some (dU its)):uf [.ob n,.int (m:Int)] O=.ok (tD (dB m its)) (O++(gZ bY its).map dU):=by
 have E:=NQ (its:=its) bY (by omega) O (.ob n) (.inr ⟨n,rfl,F⟩);have ca:=NZ bY _ its hi;have cl:=N5 bY its;obtain⟨S,C⟩:∃S,S=gZ bY its:=⟨_,rfl⟩;rw[<-C] at E ca cl ⊢
 have hok:∀i,((S.take i).foldl (gn m) ([],[])).1.length<=500000:=λi=>by
  have:=N7 (m:=m) 600 (S.take i) ([],[]) λq r=>by have:=(ca q (List.mem_of_mem_take r)).1;omega
  simp only[zw] at this
  have h2:(S.take i).length<=601:=by rw[List.length_take];omega
  have:=Nat.mul_le_mul_right 600 h2
  omega
 obtain⟨J,u,e,⟨t,l,j,rfl⟩,rfl⟩:=wR (all:=obs O.length S.length) (g:=mgN 4) (b:=R_b) (λi ρ u=>(∃t l j,ρ=[some (.ob n),some (.int (m:Int)),some (.lst (((S.take i).foldl (gn m) ([],[])).1.map aR)),some (.lst (((S.take i).foldl (gn m) ([],[])).2.map dL)),t,l,j])/\u=O++S.map dU) (by
   rintro i d ρ u hi' ⟨⟨t,l,j,rfl⟩,rfl⟩
   have h:i<S.length:=by
    have:=(zj.mp hi').1
    rw[ur] at this;exact this
   rw[NP _ h] at hi';cases hi';have r:=zD h;obtain⟨P,I⟩:=ca _ (zN h);obtain⟨B,y,e⟩:=Qs9 G ((S.take i).foldl (gn m) ([],[])).1 ((S.take i).foldl (gn m) ([],[])).2 S[i] (hok i) (by omega) I (N8 O r) (some (.ob n)) l j;refine⟨_,mg_n,_,_,e,⟨some (.ob (O.length+i)),B,y,?_⟩,rfl⟩;rw[take_snoc r,List.foldl_append]
   rfl)
  (ρ:=[some (.ob n),some (.int (m:Int)),some (.lst []),some (.lst []),none,none,none]) (O:=O++S.map dU) ⟨⟨none,none,none,rfl⟩,rfl⟩
 rw[ur,List.take_length] at e;show cN (aA (aO 2 (bx au)) (aA (aO 3 (bx au)) (aA (eG (d8 (bz mz (ao (aa 0) (ao (mC (.str [97,110,101,119])) au)))) (mgN 4) R_b) (aM (bQ (ao (aa 2) (ao (aa 3) au)))))) [some (.ob n),some (.int (m:Int)),none,none,none,none,none] O)=_;rw[bG,iV (d:=.lst []) rfl,bI,bG,iV (d:=.lst []) rfl,bI,bG,jW];have H:=pB ((jM (c:=mz) (ma:=ao (aa 0) (ao (mC (.str [97,110,101,119])) au)) (ρ:=[some (.ob n),some (.int (m:Int)),some (.lst []),some (.lst []),none,none,none]) (ds:=[.ob n,.str bY]) rfl).trans E);show cN (iT (vI (d8 (bz mz (ao (aa 0) (ao (mC (.str [97,110,101,119])) au))) [some (.ob n),some (.int (m:Int)),some (.lst []),some (.lst []),none,none,none] O) (mgN 4) R_b [some (.ob n),some (.int (m:Int)),some (.lst []),some (.lst []),none,none,none]) _)=_
 rw[H,jX,e,bI];unfold dB;rw[<-C];rfl
theorem Oa{α:Type}{g:MG}{t:L2.M Bool}{m:L2.M D}(j:aB->Prop)(J:aq->Prop)(f h:α->D):∀(xs:List α) (ρ:aB) (O:aq) (acc:List D),j ρ->J O ->
  (∀x∈xs,∀ρ O,j ρ->J O->∃c,g (f x) ρ=some c/\j c/\t c O=.ok true O/\∃d,m c O=.ok (h x) d/\J d)->∃d,fB g t m (xs.map f) ρ O acc=.ok (acc++xs.map h) d/\J d
 | [],ρ,O,acc,_,hj,_=>⟨O,by simp[fB],hj⟩
 |x::xs,ρ,O,acc,hi,hj,hs=>by
  obtain⟨c,r,h1,q,u,n,h3⟩:=hs x zp ρ O hi hj
  obtain⟨d,e,h4⟩:=Oa j J f h xs c u (acc++[h x]) h1 h3 λy l=>hs y (zr _ l)
  refine⟨d,?_,h4⟩;rw[zx];unfold fB;rw[r];dsimp only;rw[q];dsimp only;rw[n];dsimp only;rw[e,zk];rfl
theorem Qr5{β:Type}(f:List It3->β):∀S:List (List It3),(List.range S.length).map (λi=>f (S.getD i []))=S.map f:=λS=>by
 apply List.ext_getElem
 ·simp
 ·intro i h1 h2;simp at h1;simp[jl,h1]
theorem QsU{α:Type}(l:List α)(x:α):cR (l++[x]) none (some (-1))=l:=by
 unfold cR
 rw[HT.sIx_none,show HT.sIx (l++[x]).length (l++[x]).length (some (-1))=l.length by
  unfold HT.sIx;dsimp only;rw[if_pos (by decide),zd,zL]
  omega]
 simp
theorem Oc{l:List D}{x:D}:gIx (.lst (l++[x])) (.int (-1))=some x:=by
 rw[vJ];unfold atI;rw[zd,zL,show ixN (l.length+1) (-1)=some l.length by unfold ixN;rw[if_neg (by decide),if_pos (by omega)];congr 1;omega];simp
def nJ(m:Nat)(r:List It3):List Du:=(dB m r).1++[((dB m r).2,bR)]
def D_b:MS:=(aO 3 (ak aX (ak aX (aa 3) (aa 4)) (bx (ao (bQ (ao (aa 5) (ao (mC (.str [119,104,111,108,101])) au))) au))))
theorem Qr9(T:List Du)(a:TL)(h:T.length+a.1.length<=900000)(a0 a1 a2:Option D)(O:aq):D_b [a0,a1,a2,some (.lst (T.map aR)),some (.lst (a.1.map aR)),some (.lst (a.2.map dL))] O=.nx [a0,a1,a2,some (.lst ((T++(a.1++[(a.2,bR)])).map aR)),some (.lst (a.1.map aR)),some (.lst (a.2.map dL))] O:=by
 unfold D_b;have d:=uz (ρ:=[a0,a1,a2,some (.lst (T.map aR)),some (.lst (a.1.map aR)),some (.lst (a.2.map dL))]) (O:=O) (a:=aa 3) (b:=aa 4) (x:=T.map aR) (y:=a.1.map aR) rfl rfl (by rw[ze,ze];omega);have c:=uz (b:=bx (ao (bQ (ao (aa 5) (ao (mC (.str [119,104,111,108,101])) au))) au)) (y:=[aR (a.2,bR)]) d rfl (by rw[zd,ze,ze,zL];omega);rw[iV c,<-zI];show Fl.nx [a0,a1,a2,some (.lst ((T++a.1).map aR++[aR (a.2,bR)])),_,_] O=_;rw[show(T++(a.1++[(a.2,bR)])).map aR=(T++a.1).map aR++[aR (a.2,bR)] by rw[<-zk,zI (l₁:=T++a.1)];rfl]
theorem Od{m:Nat}(N:Nat):∀(S:List (List It3)),(∀r∈S,(dB m r).1.length<=N)->((S.map (nJ m)).flatten).length<=S.length * (N+1)
 | [],_=>by simp
 |r::S,h=>by
  have h1:=Od N S λq c=>h q (zr _ c)
  have h2:=h r zp;rw[zx,List.flatten_cons,zd,zn,Nat.succ_mul];unfold nJ at h1 ⊢;rw[zd,zL];omega
theorem QxT{m:Nat}(W:1<=m/\m<=200){t:List Nat}{its:List It3}(h:Its t 0 its)(hl:t.length<=600)(O:aq):∃n,wB [.str t,.int (m:Int)] O=.ok (tD (wQ m its)) n/\∀(j:Nat) (x:Ob),O[j]?=some x->n[j]?=some x:=by
 have hil:=h.len;have U:=Zy t (by omega) O;rw[h.eq] at U;have ec:=NQ (its:=its) bT (by omega) O _ (.inl rfl);have ca:=NZ bT _ its h.itm;have cl:=N5 bT its
 have hm':(1:Int)<=(m:Int):=by omega
 have rI:=sH (M:=(m:Int)) W.1 rfl _ its rfl h.itm
 have u:∀r∈gZ bT its,(dB m r).1.length<=600:=λr y=>by
  have hR:iG (m:Int) m r:=by
   unfold gZ at y
   rcases zu.mp y with y | y
   ·exact rI.all r y
   ·rw[zl.mp y];exact rI.row
  obtain⟨c1,P⟩:=ca r y;rw[hR.fin]
  have:=(wN hm' r s0 (wL hm') λx B=>(P x B).1).2
  show(rn (m:Int) s0 r).2.length<=600;omega
 obtain⟨S,c,X⟩:∃S c,cu bT its=(S,c):=⟨_,_,rfl⟩
 have R:gZ bT its=S++[c]:=by unfold gZ;rw[X]
 rw[R] at ec ca cl u
 obtain⟨Q,ek,I⟩:=Oa (g:=mgN 0) (t:=il) (m:=bz uf (ao (aa 0) (ao (aa 1) au))) (λρ=>∃a,ρ=[a,some (.int (m:Int))]) (λn=>∀(j:Nat) (x:Ob),(O++(S++[c]).map dU)[j]?=some x->n[j]?=some x) (λi:Nat=>D.ob (O.length+i)) (λi=>tD (dB m ((S++[c]).getD i []))) (List.range (S++[c]).length) [none,some (.int (m:Int))] (O++(S++[c]).map dU) [] ⟨none,rfl⟩ (λj x B=>B) (by
   rintro i hi ρ n ⟨a,rfl⟩ I;have H:=List.mem_range.mp hi;have G:=zD H;obtain⟨c1,P⟩:=ca _ (zN H);have e:=Qxp W (its:=(S++[c])[i]) (by omega) P (I _ _ (N8 O G))
   have hg:(S++[c]).getD i []=(S++[c])[i]:=by rw[jl,G];rfl
   rw[hg];refine⟨_,mg_n,⟨_,rfl⟩,rfl,_,(jM (ds:=[.ob (O.length+i),.int (m:Int)]) rfl).trans e,λj x B=>?_⟩
   ·have:=I j x B
    rw[zC (zj.mp this).1]
    exact this)
 rw[zM,Qr5 (λq=>tD (dB m q))] at ek;refine⟨Q,?_,λj x B=>I j x (by rw[zC (zj.mp B).1];exact B)⟩;have e0:=pB ((jM (c:=mz) (ma:=ao (bz qM (ao (aa 0) au)) (ao (mC (.str [101,110,100])) au)) (ρ:=[some (.str t),some (.int (m:Int)),none,none,none,none]) (maS ((jM (ma1 rfl)).trans U) (ma1 rfl))).trans ec);have e1:=Gx (own:=1) (cap:=[1]) e0 (by rw[ur];omega) rfl ek
 obtain⟨L,Y⟩:∃L,L=(S++[c]).map λq=>tD (dB m q):=⟨_,rfl⟩
 rw[<-Y] at e1
 have hL':L=(S.map λq=>tD (dB m q))++[tD (dB m c)]:=by rw[Y,zI];rfl
 have cl':S.length<=600:=by rw[zd,zL] at cl;omega
 have fl:∀i,(((S.take i).map (nJ m)).flatten).length<=400000:=λi=>by
  have:=Od (m:=m) 600 (S.take i) λr y=>u r (jk _ (List.mem_of_mem_take y))
  have h2:(S.take i).length<=600:=by rw[List.length_take];omega
  have:=Nat.mul_le_mul_right 601 h2
  omega
 obtain⟨ρ',n,J,⟨E,C,rfl⟩,rfl⟩:=wR (all:=S.map λq=>tD (dB m q)) (g:=dO 2 (bC (mgN 4) (bC (mgN 5) dW))) (b:=D_b) (λi ρ n=>(∃E C,ρ=[some (.str t),some (.int (m:Int)),some (.lst L),some (.lst (((S.take i).map (nJ m)).flatten.map aR)),E,C])/\n=Q) (by
   rintro i d ρ n hi ⟨⟨E,C,rfl⟩,rfl⟩;obtain⟨q,G,rfl⟩:=uw hi
   have:=u q (jk _ (zS G))
   have:=fl i
   refine⟨_,tO,_,_,Qr9 _ (dB m q) (by omega) _ _ _ n,⟨some (.lst ((dB m q).1.map aR)),some (.lst ((dB m q).2.map dL)),?_⟩,rfl⟩;rw[take_snoc G,show((S.take i++[q]).map (nJ m)).flatten=((S.take i).map (nJ m)).flatten++nJ m q by simp]
   rfl)
  (ρ:=[some (.str t),some (.int (m:Int)),some (.lst L),some (.lst []),none,none]) (O:=Q) ⟨⟨none,none,rfl⟩,rfl⟩
 rw[ze,List.take_length] at J;have fS:=fl S.length;rw[List.take_length] at fS;obtain⟨F,Z⟩:∃F,F=(S.map (nJ m)).flatten:=⟨_,rfl⟩;rw[<-Z] at J fS;show cN (aA (aO 2 (ig (d8 (bz mz (ao (bz qM (ao (aa 0) au)) (ao (mC (.str [101,110,100])) au)))) 1 [1] (mgN 0) il (bz uf (ao (aa 0) (ao (aa 1) au))))) (aA (aO 3 (bx au)) (aA (eG (d8 (mSl (aa 2) moN (moS (mUn fJ (mC (.int 1)))))) (dO 2 (bC (mgN 4) (bC (mgN 5) dW))) D_b) (aM (bQ (ao (ak aX (aa 3) (ak gIx (ak gIx (aa 2) (mUn fJ (mC (.int 1)))) (mC (.int 0)))) (ao (ak gIx (ak gIx (aa 2) (mUn fJ (mC (.int 1)))) (mC (.int 1))) au)))))) [some (.str t),some (.int (m:Int)),none,none,none,none] O)=_
 rw[bG,dF,e1,dM,bI,bG,iV (d:=.lst []) rfl,bI,bG,jW]
 have es:d8 (mSl (aa 2) moN (moS (mUn fJ (mC (.int 1))))) [some (.str t),some (.int (m:Int)),some (.lst L),some (.lst []),none,none] n=.ok (S.map λq=>tD (dB m q)) n:=by
  have:=pB (wX (ρ:=[some (.str t),some (.int (m:Int)),some (.lst L),some (.lst []),none,none]) (O:=n) (m:=aa 2) (l:=L) (lo:=moN) (a:=none) rfl rfl (uy (wU _ _)))
  rw[hL',QsU] at this;rw[hL'];exact this
 show cN (iT (vI (d8 (mSl (aa 2) moN (moS (mUn fJ (mC (.int 1))))) [some (.str t),some (.int (m:Int)),some (.lst L),some (.lst []),none,none] n) _ D_b [some (.str t),some (.int (m:Int)),some (.lst L),some (.lst []),none,none]) _)=_;rw[es,jX,J,bI,iB];have T:ak gIx (aa 2) (mUn fJ (mC (.int 1))) [some (.str t),some (.int (m:Int)),some (.lst L),some (.lst (F.map aR)),E,C] n=.ok (tD (dB m c)) n:=cO (x:=.lst L) rfl (wU _ _) (by rw[hL'];exact Oc);have w0:ak gIx (ak gIx (aa 2) (mUn fJ (mC (.int 1)))) (mC (.int 0)) [some (.str t),some (.int (m:Int)),some (.lst L),some (.lst (F.map aR)),E,C] n=.ok (.lst ((dB m c).1.map aR)) n:=cO T m_c rfl
 have w1:ak gIx (ak gIx (aa 2) (mUn fJ (mC (.int 1)))) (mC (.int 1)) [some (.str t),some (.int (m:Int)),some (.lst L),some (.lst (F.map aR)),E,C] n=.ok (.lst ((dB m c).2.map dL)) n:=cO T m_c rfl;have rc:=u c (zV _ (zl.mpr rfl));have w2:=uz (a:=aa 3) (x:=F.map aR) rfl w0 (by rw[ze,ze];omega);rw[Gj (maS w2 (ma1 w1)) (by simp),iC,iU,<-zI];unfold wQ;rw[X,Z];rfl
theorem Oe{g:D->D->Option D}{a b:L2.M D}{ρ:aB}{O d c:aq}{x y z:D}(j:a ρ O=.ok x d)(hb:b ρ d=.ok y c)(h:g (bO c x) (bO c y)=some z):ak g a b ρ O=.ok z c:=by
 rw[iw,j,aY,hb,aY,h,gQ]
def kE(c:List Du):List Nat:=match c.getLast? with
 |some x=>x.2
 |none=>bR
theorem Qrn(M:Int)(s:Sta)(k:List Nat)(c:List Du):kE (c++due M s k)=lwS M s (kE c) k:=by
 unfold lwS;have d:=wM M s k
 match due M s k,d with
 | [],_=>rw[zB]
 | [(a,w)],_ =>
  unfold kE;rw[List.getLast?_append];rfl
def uA:MS:=(aO 8 (ak aX (aa 8) (bN "Maker" "put" j9 (aa 7) (ao (aa 11) au))))
abbrev eP(a0 a1 a2 a3 a4 a5:Option D)(r o:Nat)(T:List D)(x9 x10 x11:Option D):aB:=[a0,a1,a2,a3,a4,a5,some (.ob r),some (.ob o),some (.lst T),x9,x10,x11,none,none,none,none,none,none,none,none]
section
variable {a0 a1 a2 a3 a4 a5:Option D}{r o:Nat}
theorem Gz{M:Int}(F:1<=M/\M<=200)(u c:Option D):∀(its:List It3) (O:aq) (s:Sta) (T:List D) (l:List Du) (t:Option D),(∀x∈its,Itm x.2.1 x.2.2)->T.length+its.length<=10000->Mk O o M (kE l) s->OkS M s->TD O o T l ->
  ∃d C j,cz (mgN 11) uA (its.map itD) (eP a0 a1 a2 a3 a4 a5 r o T u c t) O=.nx (eP a0 a1 a2 a3 a4 a5 r o C u c j) d/\Mk d o M (kE (l++(rn M s its).2)) (rn M s its).1/\TD d o C (l++(rn M s its).2)/\K28.Keeps O d o
 | [],O,s,T,l,t,_,_,h,_,td=>⟨O,T,t,rfl,by simpa [rn] using h,by simpa [rn] using td,Keeps.refl⟩
 |x::its,O,s,T,l,t,hi,hl,h,hs,td=>by
  have it:=hi x zp;simp only[zn] at hl;obtain⟨G,told,q,E,I,sp,kp⟩:=Nj (p:=x.1) h hs F.2 it;obtain⟨n,e,_⟩:=id h;have B:=Nq E I sp;have tl:=B.len;have R:=wM M s x.2.1;rw[<-Qrn] at E;obtain⟨d,C,j,Q,h2,h3,h4⟩:=Gz F u c its G _ (T++told) (l++due M s x.2.1) (some (itD x)) (λy J=>hi y (zr _ J)) (by rw[zd];omega) E (hs.stp F.1 it) (TD.app B (td.keeps kp))
  have H:(l++(rn M s (x::its)).2)=l++due M s x.2.1++(rn M (stp M s x.1 x.2.1 x.2.2) its).2:=by simp[rn]
  refine⟨d,C,j,?_,by rw[H];exact h2,by rw[H];exact h3,kp.trans h4⟩
  have P:uA (eP a0 a1 a2 a3 a4 a5 r o T u c (some (itD x))) O=.nx (eP a0 a1 a2 a3 a4 a5 r o (T++told) u c (some (itD x))) G:=by
   unfold uA
   have L:bN "Maker" "put" j9 (aa 7) (ao (aa 11) au) (eP a0 a1 a2 a3 a4 a5 r o T u c (some (itD x))) O=.ok (.lst told) G:=by
    rw[gD,show aa 7 (eP a0 a1 a2 a3 a4 a5 r o T u c (some (itD x))) O=.ok (.ob o) O from rfl,aY,jz (m:="put") (by decide) (by decide) (by decide) (by decide) (by decide) e];exact q
   rw[dF,Oe (x:=.lst T) rfl L (z:=.lst (T++told)) (by rw[gh,gh,tG,if_pos (by omega)]),dM];rfl
  rw[zx];unfold cz;rw[mg_n];dsimp only
  show(match uA (eP a0 a1 a2 a3 a4 a5 r o T u c (some (itD x))) O with
   | .nx ρ' d=>cz _ _ (its.map itD) ρ' d | .ct ρ' d=>cz _ _ (its.map itD) ρ' d | .bk ρ' d=>Fl.nx ρ' d | r=>r)=_
  rw[P];exact Q
def P_b:MS:=(aA (aO 10 (bN "Reader" "feed" oX (aa 6) (ao (ak gIx (ak aX (aa 2) (bx (ao (mC (.str [])) au))) (aa 9)) au)))
  (aA (aQ (aH (ak gEq (aa 9) (bM bW (ao (aa 2) au)))) (aO 10 (ak aX (aa 10) (bN "Reader" "finish" oY (aa 6) au))) aW)
  (eG (d8 (aa 10)) (mgN 11) uA)))
theorem Og{O:aq}{M:Int}{lw:List Nat}{s:Sta}{h h':List Nat}{p j:Int}(e:O[r]?=some (RO h p))(m:Mk O o M lw s):Mk (O.set r (RO h' j)) o M lw s:=by
 obtain⟨n,d,c⟩:=m;refine⟨n,?_,?_⟩
 ·rw[zf (λz=>by rw[z,d] at e;cases e)];exact d
 ·rw[zf (λz=>by rw[z,c] at e;cases e)];exact c
theorem GC{O:aq}{M:Int}{lw:List Nat}{s:Sta}{h h':List Nat}{p j:Int}{n:Nat}{ds:List D}(e:O[r]?=some (RO h p))(m:Mk O o M lw s)(c:Old O o n ds):Old (O.set r (RO h' j)) o n ds:=by
 obtain⟨k,d,l⟩:=m;refine nF (M:=M) (lw:=lw) (m:=k) (i:=s.i) (g:=s.g) (st:=s.st) ?_ ?_ (c.2 _ _ _ _ _ _ d)
 ·rw[zf (λz=>by rw[z,c.1] at e;cases e)];exact c.1
 ·rw[zf (λz=>by rw[z,d] at e;cases e)];exact d
theorem GD{O:aq}{M:Int}{lw:List Nat}{s:Sta}{h h':List Nat}{p j:Int}(e:O[r]?=some (RO h p))(m:Mk O o M lw s):∀{T:List D}{c:List Du},TD O o T c->TD (O.set r (RO h' j)) o T c
 | [],[],_=>True.intro
 |d::T,x::c,h=>by
  obtain⟨⟨n,u,q⟩,t,l⟩:=h;exact⟨⟨n,u,GC e m q⟩,t,GD e m l⟩
 | [],_::_,h=>h.elim
 | _::_,[],h=>h.elim
theorem Qw1{l:List D}{i:Nat}{x:D}(h:l[i]?=some x):gIx (.lst l) (.int (i:Int))=some x:=by
 rw[vJ,vL];exact h
structure PiA(Fo:Nat->List D->Prop)(O:aq)(r o:Nat)(M:Int)(h:List Nat)(p:Int)(s:Sta)(T:List D)(Ds:List Du):Prop where
 rd:O[r]?=some (RO h p)
 mak:Mk O o M (kE Ds) s
 td:TD O o T Ds
 fo:∀n ds,Fo n ds->Old O o n ds
theorem Oh{Fo:Nat->List D->Prop}{M:Int}(hM:1<=M/\M<=200){O:aq}{h:List Nat}{p:Int}{s:Sta}{T:List D}{W:List Du}(c:PiA Fo O r o M h p s T W)(hs:OkS M s)(H:cj h)(ps:List (List Nat))(hps:ps.length<=1000)(i:Nat)(t:List Nat)(ht:Okt t)(hi:(ps++[[]])[i]?=some t)
  (B:List It3) (hB:∀x∈B,Itm x.2.1 x.2.2) (hT:T.length+B.length<=10000) (E:(bh h p t).1++(if i=ps.length then d9 (p+t.length - ((bh h p t).2.length:Int)) (bh h p t).2 else[])=B.map itD) (J d:Option D):
  ∃P L F j,P_b (eP a0 a1 (some (.lst (ps.map D.str))) a3 a4 a5 r o T (some (.int (i:Int))) J d) O=.nx (eP a0 a1 (some (.lst (ps.map D.str))) a3 a4 a5 r o L (some (.int (i:Int))) F j) P/\PiA Fo P r o M (if i=ps.length then[] else(bh h p t).2) (p+t.length) (rn M s B).1 L (W++(rn M s B).2):=by
 have X:r≠o:=λz=>by
  obtain⟨k,e1,e2⟩:=c.mak
  have:=c.rd
  rw[z,e1] at this;cases this
 have f1:=M5 c.rd H t ht;have H2:=(vQ t H p []).1;obtain⟨q,C⟩:∃q,q=O.set r (RO (bh h p t).2 (p+t.length)):=⟨_,rfl⟩;rw[<-C] at f1
 have Q:q[r]?=some (RO (bh h p t).2 (p+t.length)):=by rw[C];exact gs c.rd
 have I:PiA Fo q r o M (bh h p t).2 (p+t.length) s T W:=⟨Q,by rw[C];exact Og c.rd c.mak,by rw[C];exact GD c.rd c.mak c.td,λn G R=>by rw[C];exact GC c.rd c.mak (c.fo n G R)⟩
 have ex:ak gIx (ak aX (aa 2) (bx (ao (mC (.str [])) au))) (aa 9) (eP a0 a1 (some (.lst (ps.map D.str))) a3 a4 a5 r o T (some (.int (i:Int))) J d) O=.ok (.str t) O:=by
  refine cO (x:=.lst ((ps++[[]]).map D.str)) (y:=.int (i:Int)) (cO (x:=.lst (ps.map D.str)) (y:=.lst [.str []]) rfl rfl ?_) rfl ?_
  ·rw[gh,gh,tG,if_pos (by rw[ze];simp only[zL];omega),zI];rfl
  ·rw[gh,fQ];exact Qw1 (by rw[zG,hi];rfl)
 have e1:bN "Reader" "feed" oX (aa 6) (ao (ak gIx (ak aX (aa 2) (bx (ao (mC (.str [])) au))) (aa 9)) au) (eP a0 a1 (some (.lst (ps.map D.str))) a3 a4 a5 r o T (some (.int (i:Int))) J d) O=.ok (.lst (bh h p t).1) q:=by
  rw[gD,show aa 6 (eP a0 a1 (some (.lst (ps.map D.str))) a3 a4 a5 r o T (some (.int (i:Int))) J d) O=.ok (.ob r) O from rfl,aY,wJ (by decide) (by decide) c.rd,ma1 ex,aY];exact f1
 unfold P_b;rw[bG,dF,e1,dM,bI];show ∃P L F j,aA _ _ (eP a0 a1 (some (.lst (ps.map D.str))) a3 a4 a5 r o T (some (.int (i:Int))) (some (.lst (bh h p t).1)) d) q=_/\_
 have t1:aH (ak gEq (aa 9) (bM bW (ao (aa 2) au))) (eP a0 a1 (some (.lst (ps.map D.str))) a3 a4 a5 r o T (some (.int (i:Int))) (some (.lst (bh h p t).1)) d) q=.ok (decide (i=ps.length)) q:=by
  refine(Z8 (i:=(i:Int)) rfl (Gm (l:=ps.map D.str) rfl)).trans ?_;rw[ze];congr 1;exact decide_eq_decide.mpr (by omega)
 rw[bG]
 by_cases m:i=ps.length
 ·rw[zH m] at t1;rw[if_pos m] at E;rw[wO t1,if_pos m];have f2:=M6 Q H2
  have e2:bN "Reader" "finish" oY (aa 6) au (eP a0 a1 (some (.lst (ps.map D.str))) a3 a4 a5 r o T (some (.int (i:Int))) (some (.lst (bh h p t).1)) d) q=.ok (.lst (d9 (p+t.length - ((bh h p t).2.length:Int)) (bh h p t).2)) (q.set r (RO [] (p+t.length))):=by
   rw[gD,show aa 6 (eP a0 a1 (some (.lst (ps.map D.str))) a3 a4 a5 r o T (some (.int (i:Int))) (some (.lst (bh h p t).1)) d) q=.ok (.ob r) q from rfl,aY,wJ (by decide) (by decide) Q,cM,aY];exact f2
  have hBl:=congrArg List.length E;rw[zd,ze] at hBl;rw[dF,Oe (x:=.lst (bh h p t).1) rfl e2 (z:=.lst (B.map itD)) (by rw[gh,gh,tG,if_pos (by omega),E]),dM,bI];show ∃P L F j,eG _ _ _ (eP a0 a1 (some (.lst (ps.map D.str))) a3 a4 a5 r o T (some (.int (i:Int))) (some (.lst (B.map itD))) d) (q.set r (RO [] (p+t.length)))=_/\_;obtain⟨Z,u⟩:∃Z,Z=q.set r (RO [] (p+t.length)):=⟨_,rfl⟩;have Y:PiA Fo Z r o M [] (p+t.length) s T W:=⟨by rw[u];exact gs Q,by rw[u];exact Og Q I.mak,by rw[u];exact GD Q I.mak I.td,λn G R=>by rw[u];exact GC Q I.mak (I.fo n G R)⟩
  rw[<-u];obtain⟨P,L,j,e3,m3,U,kp⟩:=Gz (a0:=a0) (a1:=a1) (a2:=some (.lst (ps.map D.str))) (a3:=a3) (a4:=a4) (a5:=a5) (r:=r) hM (some (.int (i:Int))) (some (.lst (B.map itD))) B Z s T W d hB hT Y.mak hs Y.td;refine⟨P,L,some (.lst (B.map itD)),j,?_,kp.2 _ _ _ X Y.rd,m3,U,λn G R=>kp.1 n G (Y.fo n G R)⟩;rw[jW,pB (l:=B.map itD) rfl,jX];exact e3
 ·rw[zz m] at t1;rw[if_neg m,zB] at E;rw[pq t1,if_neg m,iz,bI];obtain⟨P,L,j,e3,m3,U,kp⟩:=Gz (a0:=a0) (a1:=a1) (a2:=some (.lst (ps.map D.str))) (a3:=a3) (a4:=a4) (a5:=a5) (r:=r) hM (some (.int (i:Int))) (some (.lst (B.map itD))) B q s T W d hB hT I.mak hs I.td;refine⟨P,L,some (.lst (B.map itD)),j,?_,kp.2 _ _ _ X I.rd,m3,U,λn G R=>kp.1 n G (I.fo n G R)⟩;rw[E,jW,pB (l:=B.map itD) rfl,jX];exact e3
end
def tI(ps:List (List Nat))(i:Nat):List Nat:=(ps.take i).flatten
def jI(ps:List (List Nat))(i:Nat):Nat:=(bh [] 0 (tI ps i)).1.length
theorem QuX{ps:List (List Nat)}{i:Nat}{t:List Nat}(h:ps[i]?=some t):tI ps (i+1)=tI ps i++t:=by
 unfold tI;rw[take_snoc h,jf,List.flatten_singleton]
theorem Qwh(ps:List (List Nat)):tI ps ps.length=ps.flatten:=by
 unfold tI;rw[List.take_length]
theorem Oi(ps:List (List Nat))(i:Nat):∃u,ps.flatten=tI ps i++u:=⟨(ps.drop i).flatten,by unfold tI;rw[<-jf,List.take_append_drop]⟩
theorem Oj{t u v:List Nat}(h:t=u++v):∃R,items 0 t=(bh [] 0 u).1++R:=by
 obtain⟨_,q⟩:=Af t;rw[q,h,um];exact⟨_,zk ..⟩
theorem pre_take{its:List It3}{g R:List D}(h:its.map itD=g++R):g=(its.take g.length).map itD:=by
 rw[List.map_take,h,List.take_left'];rfl
section
variable {a0 a1 a3 a4 a5:Option D}{r o:Nat}
theorem Qvg{Fo:Nat->List D->Prop}{M:Int}(X:1<=M/\M<=200){ps:List (List Nat)}(P:ps.length<=1000)(ht:∀t∈ps,Okt t){its:List It3}(h:Its ps.flatten 0 its)(hl:ps.flatten.length<=600){O:aq}(c:PiA Fo O r o M [] 0 s0 [] []):
  ∃T G m l E h' B,cz (mgN 9) P_b (fD 0 (ps.length+1)) (eP a0 a1 (some (.lst (ps.map D.str))) a3 a4 a5 r o [] none none none) O=.nx (eP a0 a1 (some (.lst (ps.map D.str))) a3 a4 a5 r o T G m l) E/\PiA Fo E r o M h' B (rn M s0 its).1 T (rn M s0 its).2:=by
 have hil:=h.len
 have key:∀i,(bh [] 0 (tI ps i)).1=(its.take (jI ps i)).map itD:=λi=>by
  obtain⟨u,Y⟩:=Oi ps i;obtain⟨R,I⟩:=Oj Y;rw[h.eq] at I;exact pre_take I
 have hjl:∀i,jI ps i<=its.length:=λi=>by
  obtain⟨u,Y⟩:=Oi ps i;obtain⟨R,I⟩:=Oj Y;rw[h.eq] at I
  have:=congrArg List.length I
  rw[ze,zd] at this;unfold jI;omega
 have W:∀(a b:Nat),∀x∈(its.take a).drop b,Itm x.2.1 x.2.2:=λa b x H=>h.itm x (List.mem_of_mem_take (jc H))
 have hst:∀a,OkS M (rn M s0 (its.take a)).1/\(rn M s0 (its.take a)).2.length<=its.length:=λa=>by
  obtain⟨q1,q2⟩:=wN X.1 (its.take a) s0 (wL X.1) λx H=>h.itm x (List.mem_of_mem_take H)
  rw[List.length_take] at q2;exact⟨q1,by omega⟩
 have j0:jI ps 0=0:=rfl
 obtain⟨ρ',E,e,T,G,m,l,h',B,rfl,_,C⟩:=wR (all:=fD 0 (ps.length+1)) (g:=mgN 9) (b:=P_b) (λi ρ E=>∃T G m l h' B,ρ=eP a0 a1 (some (.lst (ps.map D.str))) a3 a4 a5 r o T G m l/\(i<=ps.length->h'=(bh [] 0 (tI ps i)).2/\B=((tI ps i).length:Int))/\PiA Fo E r o M h' B (rn M s0 (its.take (if i<=ps.length then jI ps i else its.length))).1 T (rn M s0 (its.take (if i<=ps.length then jI ps i else its.length))).2) (by
   rintro i d ρ E hi ⟨T,G,m,l,h',B,rfl,hp,C⟩;unfold fD at hi;obtain⟨k,hk,rfl⟩:=uw hi;obtain⟨hlt,U⟩:=zj.mp hk;rw[List.length_range] at hlt;rw[List.getElem_range] at U;subst U
   have Q:i<=ps.length:=by omega
   obtain⟨rfl,rfl⟩:=hp Q;rw[if_pos Q] at C;have Hh:=(vQ (tI ps i) cj.h0 0 []).1;have tl:=C.td.len;obtain⟨s1,s2⟩:=hst (jI ps i);refine⟨_,mg_n,?_⟩;rw[Int.zero_add]
   by_cases j:i=ps.length
   ·have Z:(bh (bh [] 0 (tI ps i)).2 ((tI ps i).length:Int) []).1++(if i=ps.length then d9 (((tI ps i).length:Int)+(([]:List Nat).length:Nat) - ((bh (bh [] 0 (tI ps i)).2 ((tI ps i).length:Int) []).2.length:Int)) (bh (bh [] 0 (tI ps i)).2 ((tI ps i).length:Int) []).2 else[])=(its.drop (jI ps i)).map itD:=by
     rw[if_pos j];obtain⟨_,q⟩:=Af ps.flatten;rw[h.eq] at q
     have ti:tI ps i=ps.flatten:=by rw[j,Qwh]
     rw[List.map_drop,q,show(bh (bh [] 0 (tI ps i)).2 ((tI ps i).length:Int) [])=([],(bh [] 0 (tI ps i)).2) from rfl];unfold jI;rw[ti,List.drop_left']
     ·simp
     ·rfl
    obtain⟨O2,T2,y,n,e2,L⟩:=Oh (a0:=a0) (a1:=a1) (a3:=a3) (a4:=a4) (a5:=a5) X C s1 Hh ps P i [] ⟨by simp,by simp⟩ (by rw[j,zv (zc _),Nat.sub_self];rfl) (its.drop (jI ps i)) (λx H=>h.itm x (jc H)) (by rw[List.length_drop];omega) Z m l;rw[if_pos j] at L;refine⟨_,O2,e2,T2,some (.int (i:Int)),y,n,[],((tI ps i).length:Int)+(([]:List Nat).length:Nat),rfl,λz=>absurd z (by omega),?_⟩;rw[if_neg (show ¬i+1<=ps.length by omega),List.take_length];have J:=Gu (M:=M) (its.drop (jI ps i)) (its.take (jI ps i)) s0;rw[List.take_append_drop] at J;rw[J]
    exact L
   ·have hlt':i<ps.length:=by omega
    have hq:=zD hlt';have ts:=QuX hq
    have F:jI ps i<=jI ps (i+1):=by
     unfold jI;rw[ts,um,zd];exact ji _ _
    have Z:(bh (bh [] 0 (tI ps i)).2 ((tI ps i).length:Int) ps[i]).1++(if i=ps.length then d9 (((tI ps i).length:Int)+(ps[i].length:Nat) - ((bh (bh [] 0 (tI ps i)).2 ((tI ps i).length:Int) ps[i]).2.length:Int)) (bh (bh [] 0 (tI ps i)).2 ((tI ps i).length:Int) ps[i]).2 else[])=((its.take (jI ps (i+1))).drop (jI ps i)).map itD:=by
     rw[if_neg j,zB,List.map_drop,<-key (i+1),ts,um,Int.zero_add];unfold jI;rw[List.drop_left'];rfl
    have hbl:((its.take (jI ps (i+1))).drop (jI ps i)).length<=its.length:=by rw[List.length_drop,List.length_take];omega
    obtain⟨O2,T2,y,n,e2,L⟩:=Oh (a0:=a0) (a1:=a1) (a3:=a3) (a4:=a4) (a5:=a5) X C s1 Hh ps P i ps[i] (ht _ (zN hlt')) (by rw[zC hlt'];exact hq) ((its.take (jI ps (i+1))).drop (jI ps i)) (W _ _) (by omega) Z m l;rw[if_neg j] at L;refine⟨_,O2,e2,T2,some (.int (i:Int)),y,n,(bh (bh [] 0 (tI ps i)).2 ((tI ps i).length:Int) ps[i]).2,((tI ps i).length:Int)+(ps[i].length:Nat),rfl,λz=>⟨?_,?_⟩,?_⟩
    ·rw[ts,um,Int.zero_add]
    ·rw[ts,zd]
     push_cast
     rfl
    ·rw[if_pos (show i+1<=ps.length by omega)];have J:=Gu (M:=M) ((its.take (jI ps (i+1))).drop (jI ps i)) (its.take (jI ps i)) s0
     have ea:its.take (jI ps i)++(its.take (jI ps (i+1))).drop (jI ps i)=its.take (jI ps (i+1)):=by
      have:=List.take_append_drop (jI ps i) (its.take (jI ps (i+1)))
      rw[List.take_take,Nat.min_eq_left F] at this;exact this
     rw[ea] at J;rw[J]
     exact L)
  (ρ:=eP a0 a1 (some (.lst (ps.map D.str))) a3 a4 a5 r o [] none none none) (O:=O) ⟨[],none,none,none,[],0,rfl,λ_=>⟨rfl,rfl⟩,by rw[if_pos (Nat.zero_le _),j0];exact c⟩
 have hrl:(fD 0 (ps.length+1)).length=ps.length+1:=by unfold fD;rw[ze,List.length_range]
 rw[hrl,if_neg (show ¬ps.length+1<=ps.length by omega),List.take_length] at C;exact⟨T,G,m,l,E,h',B,e,C⟩
end
theorem Ol{n:Nat}{ma c:L2.M D}{ρ:aB}{O:aq}{x y z:D}(hi:ma ρ O=.ok x O)(d:c ρ O=.ok y O)(h1:dz O n x=z)(h2:dz O n y=z)(hz:okE z=true):aH (lB true n ma c) ρ O=.ok false O:=by
 refine nG ?_;unfold lB;rw[hi,aY,d,aY,h1,h2,hz,Bool.and_self,if_pos rfl,if_pos rfl,vO hz];rfl
theorem QxJ{a:L2.M D}{r:L2.M (List D)}{ρ:aB}{O d c:aq}{x:D}{xs:List D}(h:a ρ O=.ok x d)(h2:r ρ d=.ok xs c):ao a r ρ O=.ok (x::xs) c:=by
 rw[gj,h,aY,h2,aY]
theorem QtY{c:List D->aq->Res D}{ma:L2.M (List D)}{ρ:aB}{O d:aq}{ds:List D}(h:ma ρ O=.ok ds d):bz c ma ρ O=c ds d:=by
 rw[oN,h,aY]
theorem Qyw{i j k l:Nat}{a b c d:D}{ρ:aB}:dO 4 (bC (mgN i) (bC (mgN j) (bC (mgN k) (bC (mgN l) dW)))) (.tup [a,b,c,d]) ρ=some ((((ρ.set i (some a)).set j (some b)).set k (some c)).set l (some d)):=rfl
def TF(O:aq):List D->List Du->Prop
 | [],[]=>True
 |d::T,x::Ds=>(∃n,d=.tup [.ob n,.str x.2]/\O[n]?=some (.ml (x.1.map dL)))/\TF O T Ds
 | _,_=>False
theorem TE.tf{O:aq}:∀{T:List D}{c:List Du},TE O T c->TF O T c
 | [],[],_=>True.intro
 |d::T,x::c,h=>⟨h.1,TE.tf h.2.2⟩
 | [],_::_,h=>h.elim
 | _::_,[],h=>h.elim
theorem TF.app{O:aq}{l:List D}{c:List Du}(h':TF O l c):∀{T:List D}{j:List Du},TF O T j->TF O (T++l) (j++c)
 | [],[],_=>h'
 |d::T,x::j,h=>⟨h.1,TF.app h' h.2⟩
 | [],_::_,h=>h.elim
 | _::_,[],h=>h.elim
theorem TE.len{O:aq}:∀{T:List D}{c:List Du},TE O T c->T.length=c.length
 | [],[],_=>rfl
 |d::T,x::c,h=>by rw[zn,zn,TE.len h.2.2]
 | [],_::_,h=>h.elim
 | _::_,[],h=>h.elim
theorem TE.dues{O:aq}:∀{T:List D}{j:List Du},TE O T j->∀x∈j,qT x
 | [],[],_,x,c=>nomatch c
 |d::T,y::j,h,x,c=>by
  rcases zh.mp c with rfl | c
  ·exact h.2.1
  ·exact TE.dues h.2.2 x c
 | [],_::_,h,_,_=>h.elim
 | _::_,[],h,_,_=>h.elim
theorem GF(O:aq)(n:Nat)(l:List LT):(l.map dL).map (dz O (n+1))=l.map dL:=by
 rw[List.map_map]
 refine jn λx _=>?_
 cases n<;>rfl
theorem GJ{O:aq}:∀{T:List D}{c:List Du},TE O T c->T.map (dz O 3)=c.map aR
 | [],[],_=>rfl
 |d::T,x::c,h=>by
  obtain⟨⟨n,rfl,l⟩,_,j⟩:=h;rw[zx,zx,GJ j];congr 1;show D.tup [dz O 2 (.ob n),.str x.2]=_
  have:dz O 2 (.ob n)=.lst (x.1.map dL):=by
   unfold dz;rw[l];exact congrArg D.lst (GF O 0 x.1)
  rw[this];rfl
 | [],_::_,h=>h.elim
 | _::_,[],h=>h.elim
def Good(t:List Nat)(x:LT):Prop:=∃n:Nat,x.2.2.2=(n:Int)/\t[n]?=some x.1
def pl(x:LT):Int:=x.2.2.2
def wY:MS:=(aA (iQ 13 (aa 19))
  (aQ (aH (ak gNe (ak gIx (aa 3) (aa 19)) (aa 16))) (aM (mC (.bl false))) aW))
abbrev eQ(a0 a1 a2:Option D)(t:List Nat)(a4 a5 a6 a7 a8 a9 a10 a11 a12:Option D)(P:List Int)(x14 x15 x16 x17 x18 x19:Option D):aB:=[a0,a1,a2,some (.str t),a4,a5,a6,a7,a8,a9,a10,a11,a12,some (.lst (P.map D.int)),x14,x15,x16,x17,x18,x19]
section
variable {a0 a1 a2 a4 a5 a6 a7 a8 a9 a10 a11 a12:Option D}{t:List Nat}
theorem QuV{x:LT}(j:Good t x)(l:t.length<=1000000)(P:List Int)(m:P.length<1000000)(h c:Option D)(O:aq):
  wY (eQ a0 a1 a2 t a4 a5 a6 a7 a8 a9 a10 a11 a12 P h c (some (.str [x.1])) (some (.str [x.2.1])) (some (.str [x.2.2.1])) (some (.int x.2.2.2))) O=.nx (eQ a0 a1 a2 t a4 a5 a6 a7 a8 a9 a10 a11 a12 (P++[pl x]) h c (some (.str [x.1])) (some (.str [x.2.1])) (some (.str [x.2.2.1])) (some (.int x.2.2.2))) O:=by
 obtain⟨n,h1,h2⟩:=j;unfold wY;rw[bG,Z5 (i:=13) (d:=.int x.2.2.2) (ds:=P.map D.int) rfl rfl (by rw[ze];exact m),bI]
 have q:(P.map D.int++[D.int x.2.2.2])=(P++[pl x]).map D.int:=by rw[zI];rfl
 rw[q];show aQ _ _ _ (eQ a0 a1 a2 t a4 a5 a6 a7 a8 a9 a10 a11 a12 (P++[pl x]) h c (some (.str [x.1])) (some (.str [x.2.1])) (some (.str [x.2.2.1])) (some (.int x.2.2.2))) O=_
 have t1:aH (ak gNe (ak gIx (aa 3) (aa 19)) (aa 16)) (eQ a0 a1 a2 t a4 a5 a6 a7 a8 a9 a10 a11 a12 (P++[pl x]) h c (some (.str [x.1])) (some (.str [x.2.1])) (some (.str [x.2.2.1])) (some (.int x.2.2.2))) O=.ok false O:=by
  refine(nG (cO (x:=.str [x.1]) (y:=.str [x.1]) (cO (x:=.str t) (y:=.int x.2.2.2) rfl rfl ?_) rfl Xy)).trans ?_
  ·rw[lW,fQ,h1,KY,if_pos l,vL,h2];rfl
  ·rw[zH rfl];rfl
 rw[pq t1];rfl
def Q_b:MS:=iu (aa 14) (dO 4 (bC (mgN 16) (bC (mgN 17) (bC (mgN 18) (bC (mgN 19) dW))))) wY
theorem QwD{O:aq}{n:Nat}{l:List LT}(Q:O[n]?=some (.ml (l.map dL)))(R:∀x∈l,Good t x)(L:t.length<=1000000)(P:List Int)(U:P.length+l.length<1000000)(c C B y u:Option D):
  ∃I H G F,Q_b (eQ a0 a1 a2 t a4 a5 a6 a7 a8 a9 a10 a11 a12 P (some (.ob n)) c C B y u) O=.nx (eQ a0 a1 a2 t a4 a5 a6 a7 a8 a9 a10 a11 a12 (P++l.map pl) (some (.ob n)) c I H G F) O:=by
 obtain⟨T,E,e,⟨r,q,j,h,rfl⟩,rfl⟩:=Gw (m:=aa 14) (all:=l.map dL) (g:=dO 4 (bC (mgN 16) (bC (mgN 17) (bC (mgN 18) (bC (mgN 19) dW))))) (b:=wY) (λi ρ E=>(∃r q j h,ρ=eQ a0 a1 a2 t a4 a5 a6 a7 a8 a9 a10 a11 a12 (P++(l.take i).map pl) (some (.ob n)) c r q j h)/\E=O)
  (ρ:=eQ a0 a1 a2 t a4 a5 a6 a7 a8 a9 a10 a11 a12 P (some (.ob n)) c C B y u) (O:=O) (x:=.ob n) rfl (.inr ⟨n,rfl,by rintro i ρ E ⟨_,rfl⟩;exact Q⟩) ⟨⟨C,B,y,u,by rw[List.take_zero,zW,zB]⟩,rfl⟩ (by
   rintro i d ρ E hi ⟨⟨r,q,j,h,rfl⟩,rfl⟩;obtain⟨x,J,rfl⟩:=uw hi
   have hlen:(P++(l.take i).map pl).length<1000000:=by rw[zd,ze,List.length_take];omega
   refine⟨_,Qyw,_,_,QuV (R x (zS J)) L _ hlen (some (.ob n)) c E,⟨some (.str [x.1]),some (.str [x.2.1]),some (.str [x.2.2.1]),some (.int x.2.2.2),?_⟩,rfl⟩;rw[take_snoc J,zI,<-zk]
   rfl)
 rw[ze,List.take_length] at e;exact⟨r,q,j,h,e⟩
theorem Om{O:aq}(ht:t.length<=1000000):∀(T:List D) (B:List Du) (P:List Int) (u q m l j c:Option D),TF O T B->(∀x∈lets B,Good t x)->P.length+(lets B).length<1000000 ->
  ∃I H G F E C,cz (dO 2 (bC (mgN 14) (bC (mgN 15) dW))) Q_b T (eQ a0 a1 a2 t a4 a5 a6 a7 a8 a9 a10 a11 a12 P u q m l j c) O=.nx (eQ a0 a1 a2 t a4 a5 a6 a7 a8 a9 a10 a11 a12 (P++(lets B).map pl) I H G F E C) O
 | [],[],P,u,q,m,l,j,c,_,_,_=>⟨u,q,m,l,j,c,by rw[show lets []=[] from rfl,zW,zB];rfl⟩
 |d::T,x::B,P,u,q,m,l,j,c,h,hg,hl=>by
  obtain⟨⟨n,rfl,hn⟩,ht'⟩:=h;have hc:lets (x::B)=x.1++lets B:=rfl;rw[hc] at hg hl;rw[zd] at hl;obtain⟨y16,y17,Z,Y,e1⟩:=QwD (a0:=a0) (a1:=a1) (a2:=a2) (a4:=a4) (a5:=a5) (a6:=a6) (a7:=a7) (a8:=a8) (a9:=a9) (a10:=a10) (a11:=a11) (a12:=a12) hn (λy J=>hg y (jk _ J)) ht P (by omega) (some (.str x.2)) m l j c;obtain⟨X,W,U,R,Q,L,e2⟩:=Om ht T B (P++x.1.map pl) (some (.ob n)) (some (.str x.2)) y16 y17 Z Y ht' (λy J=>hg y (zV _ J)) (by rw[zd,ze];omega);refine⟨X,W,U,R,Q,L,?_⟩;unfold cz;rw[tO];dsimp only
  show(match Q_b (eQ a0 a1 a2 t a4 a5 a6 a7 a8 a9 a10 a11 a12 P (some (.ob n)) (some (.str x.2)) m l j c) O with
   | .nx ρ' O'=>cz _ _ T ρ' O' | .ct ρ' O'=>cz _ _ T ρ' O' | .bk ρ' O'=>Fl.nx ρ' O' | r=>r)=_
  rw[e1];dsimp only;rw[e2,hc,zI,zk]
 | [],_::_,_,_,_,_,_,_,_,h,_,_=>h.elim
 | _::_,[],_,_,_,_,_,_,_,h,_,_=>h.elim
end
theorem Oo:∀l:List Int,intsT (l.map D.int)=some l
 | []=>rfl
 |x::l=>by
  rw[zx];show(intsT (l.map D.int)).map (x :: ·)=_;rw[Oo l];rfl
theorem Qu5{l:List Int}(h:l.length<=4000)(c:l.Pairwise (· < ·)):oF [.lst (l.map D.int)]=some (.lst (l.map D.int)):=by
 unfold oF;dsimp only;rw[Oo];dsimp only;rw[if_pos ⟨h,c⟩]
theorem Oq(l:List Int):okE (.lst (l.map D.int))=true:=vN (n:=5) (by decide) λd hd=>by
 obtain⟨x,_,rfl⟩:=zT.mp hd;exact⟨rfl,rfl,by show PyData.depth (.int x)<=5;simp[PyData.depth]⟩
theorem Qre(ns:List Int)(m:Nat)(j:m<=60)(ρ:aB)(c:ρ[0]?=some (some (.lst (ns.map D.int))))(O:aq):ig (d8 (mSl (aa 0) moN (moS (mC (.int (m:Int)))))) 1 [] (mgN 0) il (bz mD (ao (aa 0) au)) ρ O=.ok (.lst (((ns.take m).map pc).map D.str)) O:=by
 have h:aa 0 ρ O=.ok (.lst (ns.map D.int)) O:=by rw[cG,c]
 have d:=pB (wX (lo:=moN) (a:=none) h rfl (uy (m:=mC (.int (m:Int))) rfl));rw[Zv,<-List.map_take] at d;refine Gx d (by rw[ze,List.length_take];omega) rfl ?_;show fB _ _ _ _ [none] O []=_
 rw[Ac (λρ=>∃a,ρ=[a]) D.int (λn=>.str (pc n)) (ns.take m) [none] O [] ⟨none,rfl⟩ (by
  rintro n _ ρ ⟨a,rfl⟩
  exact⟨_,mg_n,⟨_,rfl⟩,rfl,(jM (ma1 rfl)).trans (Qxn n O)⟩),zM,List.map_map]
 rfl
theorem Ot:∀ns:List Int,(ns.map pc).flatten.length<=9 * ns.length/\((ns.map pc).map List.length).sum<=9 * ns.length
 | []=>⟨zc _,zc _⟩
 |n::ns=>by
  obtain⟨a,b⟩:=Ot ns
  have:=(Gq n).len
  simp only[zx,List.flatten_cons,zd,List.sum_cons,zn] at *;omega
theorem QtT{m:L2.M D}{ρ:aB}{O:aq}{ps:List (List Nat)}(h:m ρ O=.ok (.lst (ps.map D.str)) O)(c:(ps.map List.length).sum<=1000000):uW m ρ O=.ok (.str ps.flatten) O:=by
 have:=K3 (f:=id) ps
 rw[List.map_id] at this;rw[XJ,h,aY,gh,XH,show(ps.map D.str)=ps.map (λx=>D.str (id x)) from rfl,this,XD,if_pos c]
def L2t:MS:=aQ (cU (eF (cW (bz jL (ao (ak gIx (aa 5) (mC (.int 0))) (ao (ak gIx (aa 4) (mC (.int 0))) au))))) (eF (cW (bz nC (ao (ak gIx (aa 5) (mC (.int 1))) (ao (ak gIx (aa 4) (mC (.int 1))) au)))))) (aM (mC (.bl false))) aW
def rT:MS:=aM (ak gEq (bM oF (ao (aa 13) au)) (aa 13))
def lT:MS:=eG (d8 (ak aX (ak gIx (aa 5) (mC (.int 0))) (bx (ao (bQ (ao (ak gIx (aa 5) (mC (.int 1))) (ao (mC (.str [])) au))) au)))) (dO 2 (bC (mgN 14) (bC (mgN 15) dW))) Q_b
def cT:L2.M Bool:=(cU (aH (ak gNe (ak gIx (aa 4) (mC (.int 1))) (bx au))) (gH (aH (ak gNe (ak gIx (aa 4) (mC (.int 0))) (bx au))) (aH (ak gEq (ak gIx (ak gIx (ak gIx (aa 4) (mC (.int 0))) (mUn fJ (mC (.int 1)))) (mC (.int 1))) (mC (.str [109,111,114,101]))))))
def sT:MS:=aQ cT (aO 12 (bx (ao (bQ (ao (ak gIx (aa 4) (mC (.int 1))) (ao (mC (.str [119,104,111,108,101])) au))) au))) aW
def fT:MS:=aQ (eF (cW (bz jL (ao (bN "Maker" "finish" t8 (aa 7) au) (ao (aa 12) au))))) (aM (mC (.bl false))) aW
def gT:MS:=aQ (cU (aH (lB true 4 (aa 8) (ak gIx (aa 5) (mC (.int 0))))) (aH (lB true 4 (bN "Maker" "open_letters" mj (aa 7) au) (ak gIx (aa 5) (mC (.int 1)))))) (aM (mC (.bl false))) aW
def tail:MS:=aA gT (aA (aO 12 (bx au)) (aA sT (aA fT (aA (aO 13 (bx au)) (aA lT rT)))))
theorem rm{m:L2.M D}{ρ:aB}{O c:aq}{b:Bool}(h:m ρ O=.ok (.bl b) c):cW m ρ O=.ok b c:=by
 rw[oJ,h,aY,oG,oK,oH]
theorem GK{t:L2.M Bool}{ρ:aB}{O c:aq}{b:Bool}(h:t ρ O=.ok b c):eF t ρ O=.ok (!b) c:=by
 rw[oM,h,aY]
theorem Ou{a b:L2.M Bool}{ρ:aB}{O d c:aq}{z:Bool}(h:a ρ O=.ok false d)(h2:b ρ d=.ok z c):cU a b ρ O=.ok z c:=by
 rw[pY,h,aY,if_neg zm,h2]
theorem Qx9(c:List Du)(h:∀x∈c,qT x):gNe (.lst (c.map aR)) (.lst [])=some (.bl (decide (c≠[]))):=by
 rw[yZ,Np c h,okn]
 cases c with
 |nil=>rfl
 |cons x l=>rw[zx,Gi];rfl
theorem Qvs{t:L2.M Bool}{a b:MS}{ρ:aB}{O c:aq}(h:t ρ O=.ok false c):aQ t a b ρ O=b ρ c:=by
 rw[gk,h,gm,if_neg zm]
theorem Qxr{row:List LT}{c:List Du}(j:∀x∈row,OkL x)(hd:∀x∈c,qT x){ρ:aB}{O:aq}(h4:∀O,aa 4 ρ O=.ok (tD (c,row)) O):cT ρ O=.ok (decide (row≠[]\/kE c=cL)) O:=by
 have r:ak gIx (aa 4) (mC (.int 1)) ρ O=.ok (.lst (row.map dL)) O:=cO (h4 O) m_c rfl;have h:ak gIx (aa 4) (mC (.int 0)) ρ O=.ok (.lst (c.map aR)) O:=cO (h4 O) m_c rfl;have t1:aH (ak gNe (ak gIx (aa 4) (mC (.int 1))) (bx au)) ρ O=.ok (decide (row≠[])) O:=nG (cO (y:=.lst []) r rfl (ZX row j));have t2:aH (ak gNe (ak gIx (aa 4) (mC (.int 0))) (bx au)) ρ O=.ok (decide (c≠[])) O:=nG (cO (y:=.lst []) h rfl (Qx9 c hd));unfold cT;rw[pY,t1,aY]
 by_cases h1:row=[]
 ·rw[zz (λz=>z h1),if_neg zm,Xk,t2,aY]
  rcases List.eq_nil_or_concat c with rfl | ⟨t,x,d⟩
  ·rw[zz (λz=>z rfl),if_neg zm];rw[zz];rintro(z | z)
   ·exact z h1
   ·exact absurd z (by decide)
  ·rw[List.concat_eq_append] at d;subst d;rw[zH (by simp),if_pos rfl];have n:ak gIx (ak gIx (aa 4) (mC (.int 0))) (mUn fJ (mC (.int 1))) ρ O=.ok (aR x) O:=cO h (wU _ _) (by rw[gh,zI];exact Oc);have m:ak gIx (ak gIx (ak gIx (aa 4) (mC (.int 0))) (mUn fJ (mC (.int 1)))) (mC (.int 1)) ρ O=.ok (.str x.2) O:=cO n m_c rfl;have l:aH (ak gEq (ak gIx (ak gIx (ak gIx (aa 4) (mC (.int 0))) (mUn fJ (mC (.int 1)))) (mC (.int 1))) (mC (.str [109,111,114,101]))) ρ O=.ok (decide (x.2=cL)) O:=nG (cO m m_c rfl);rw[l];congr 1
   have:kE (t++[x])=x.2:=by unfold kE;rw[List.getLast?_append];rfl
   rw[this];exact decide_eq_decide.mpr ⟨λz=>.inr z,λz=>z.elim (λq=>absurd h1 q) id⟩
 ·rw[zH h1,if_pos rfl,zH (.inl h1)]
theorem Qss(ns:List Int)(hns:ns.length<=63):∃O',MK [.lst (ns.map D.int)] []=.ok (.bl true) O':=by
 obtain⟨v0,ec⟩:=ZQ ns [];have m13:=wK v0 13 (by decide) (by decide) [];obtain⟨d,hd,ed⟩:=ixL (l:=[.int 1,.int 2,.int 3,.int 4,.int 5,.int 200]) (v:=mix v0 13) (n:=6) rfl (by decide)
 obtain⟨m,rfl,hm⟩:∃m:Nat,d=.int (m:Int)/\1<=m/\m<=200:=by
  simp only[zh,List.not_mem_nil,or_false] at hd
  rcases hd with rfl | rfl | rfl | rfl | rfl | rfl
  ·exact⟨1,rfl,by decide,by decide⟩
  ·exact⟨2,rfl,by decide,by decide⟩
  ·exact⟨3,rfl,by decide,by decide⟩
  ·exact⟨4,rfl,by decide,by decide⟩
  ·exact⟨5,rfl,by decide,by decide⟩
  ·exact⟨200,rfl,by decide,by decide⟩
 have hM:(1:Int)<=(m:Int)/\(m:Int)<=200:=by omega
 obtain⟨X,hX⟩:∃X,X=D.lst (ns.map D.int):=⟨_,rfl⟩
 have em:(ak gIx (bx (ao (mC (.int 1)) (ao (mC (.int 2)) (ao (mC (.int 3)) (ao (mC (.int 4)) (ao (mC (.int 5)) (ao (mC (.int 200)) au))))))) (ak dq (bz mq (ao (bz qJ (ao (aa 0) (ao (mC (.int 0)) au))) (ao (mC (.int 13)) au))) (mC (.int 6)))) [some X,none,none,none,none,none,none,none,none,none,none,none,none,none,none,none,none,none,none,none] []=.ok (.int (m:Int)) []:=by
  refine cO (x:=.lst [.int 1,.int 2,.int 3,.int 4,.int 5,.int 200]) rfl (Z6 ((jM (maS ((jM (maS rfl (ma1 rfl))).trans (by rw[hX];exact ec)) (ma1 rfl))).trans m13) m_c (by decide)) ?_;rw[gh,fQ,ed]
 obtain⟨ps,T⟩:∃ps,ps=(ns.take 60).map pc:=⟨_,rfl⟩
 have tk:(ns.take 60).length<=60:=by rw[List.length_take];omega
 have pl1:=Ot (ns.take 60);rw[<-T] at pl1
 have hpl:ps.length<=60:=by rw[T,ze];exact tk
 have ep:=Qre ns 60 (by decide) [some X,some (.int (m:Int)),none,none,none,none,none,none,none,none,none,none,none,none,none,none,none,none,none,none] (by rw[hX];rfl) [];rw[<-T] at ep
 change ig (d8 (mSl (aa 0) moN (moS (mC (.int 60))))) 1 [] (mgN 0) il (bz mD (ao (aa 0) au)) _ _=_ at ep
 have ej:=QtT (m:=aa 2) (ρ:=[some X,some (.int (m:Int)),some (.lst (ps.map D.str)),none,none,none,none,none,none,none,none,none,none,none,none,none,none,none,none,none]) (O:=[]) (ps:=ps) rfl (by omega)
 have hpk:∀t∈ps,Okt t:=λt ht=>by
  rw[T] at ht;obtain⟨n,_,rfl⟩:=zT.mp ht;exact⟨by have:=(Gq n).len;omega,(Gq n).ok⟩
 have hfl:ps.flatten.length<=600:=by omega
 have hok:Okt ps.flatten:=⟨by omega,λc Y=>by
  obtain⟨l,hl,hcl⟩:=List.mem_flatten.mp Y
  exact(hpk l hl).ok c hcl⟩
 obtain⟨G,Q⟩:=Nz ps.flatten.length ps.flatten 0 (zc _) (λc Y=>by have:=hok.ok c Y;omega);have hil:=Q.len;obtain⟨O4,e4,_⟩:=QxT hm Q hfl [];rw[QvA hm.1 rfl G Q.itm] at e4;obtain⟨u,o5,no,j,e5,td1,n1,_⟩:=Z2 hM ps.flatten hok G Q.eq Q.itm (by omega) O4;obtain⟨P,rk2⟩:=wN hM.1 G s0 (wL hM.1) Q.itm;have p1:=Z3 td1;have q1:=Gh (rn (m:Int) s0 G).1.row P.ok n1;have H:=Quj Q (m:Int);obtain⟨t,ht⟩:∃t,t=ps.flatten:=⟨_,rfl⟩;obtain⟨s,hs⟩:∃s,s=(rn (m:Int) s0 G).1:=⟨_,rfl⟩;obtain⟨h,W⟩:∃h,h=(rn (m:Int) s0 G).2:=⟨_,rfl⟩
 rw[<-hs,<-W] at e4 H;rw[<-W] at td1 p1 rk2;rw[<-hs] at n1 P q1;rw[<-ht] at ej e4 e5 H;have hte:=td1.te;have er:=M7 [some X,some (.int (m:Int)),some (.lst (ps.map D.str)),some (.str t),some (tD (h,s.row)),some (.tup [.lst j,.ob no]),none,none,none,none,none,none,none,none,none,none,none,none,none,none] u;obtain⟨B,U⟩:∃B,B=u++[RO [] 0]:=⟨_,rfl⟩
 have l6:B.length=u.length+1:=by rw[U,zd];rfl
 have r6:B[u.length]?=some (RO [] 0):=by rw[U];exact wI u
 rw[<-U] at er;obtain⟨O7,n7,ek,m7,m7',lt7,k7⟩:=Nm (m:Int) hM B [some X,some (.int (m:Int)),some (.lst (ps.map D.str)),some (.str t),some (tD (h,s.row)),some (.tup [.lst j,.ob no]),some (.ob u.length),none,none,none,none,none,none,none,none,none,none,none,none,none] (λ_=>rfl)
 have c7:PiA (λn ds=>u[n]?=some (.ml ds)) O7 u.length B.length (m:Int) [] 0 s0 [] []:=by
  refine⟨k7 _ _ r6,⟨n7,m7,m7'⟩,True.intro,λn ds hn=>?_⟩;have hlt:=(zj.mp hn).1;exact nF (k7 _ _ (by rw[U];exact ap1 hn)) m7 (by omega)
 obtain⟨C,E,r,q,F,h8,p8,el,R⟩:=Qvg (a0:=some X) (a1:=some (.int (m:Int))) (a3:=some (.str t)) (a4:=some (tD (h,s.row))) (a5:=some (.tup [.lst j,.ob no])) hM (by omega) hpk Q hfl c7;rw[<-hs,<-W] at R;have te8:TE F j h:=TE.keeps (λn ds hn=>(R.fo n ds hn).1) hte;have n8:F[no]?=some (.ml (s.row.map dL)):=(R.fo no _ n1).1;have dok:=TE.dues te8
 have row8:s.row.length<=1000:=by have:=P.len;omega
 have gt:gT (eP (some X) (some (.int (m:Int))) (some (.lst (ps.map D.str))) (some (.str t)) (some (tD (h,s.row))) (some (.tup [.lst j,.ob no])) u.length B.length C E r q) F=.nx (eP (some X) (some (.int (m:Int))) (some (.lst (ps.map D.str))) (some (.str t)) (some (tD (h,s.row))) (some (.tup [.lst j,.ob no])) u.length B.length C E r q) F:=by
  unfold gT;obtain⟨n,f1,f2⟩:=R.mak;have t1:aH (lB true 4 (aa 8) (ak gIx (aa 5) (mC (.int 0)))) (eP (some X) (some (.int (m:Int))) (some (.lst (ps.map D.str))) (some (.str t)) (some (tD (h,s.row))) (some (.tup [.lst j,.ob no])) u.length B.length C E r q) F=.ok false F :=
   Ol (x:=.lst C) (y:=.lst j) (z:=.lst (h.map aR)) rfl (cO (x:=.tup [.lst j,.ob no]) rfl m_c rfl) (congrArg D.lst (GJ R.td.te)) (congrArg D.lst (GJ te8)) (Np h dok)
  have eo:bN "Maker" "open_letters" mj (aa 7) au (eP (some X) (some (.int (m:Int))) (some (.lst (ps.map D.str))) (some (.str t)) (some (tD (h,s.row))) (some (.tup [.lst j,.ob no])) u.length B.length C E r q) F=.ok (.lst (s.row.map dL)) F:=by
   rw[gD,show aa 7 (eP (some X) (some (.int (m:Int))) (some (.lst (ps.map D.str))) (some (.str t)) (some (tD (h,s.row))) (some (.tup [.lst j,.ob no])) u.length B.length C E r q) F=.ok (.ob B.length) F from rfl,aY,jz (m:="open_letters") (by decide) (by decide) (by decide) (by decide) (by decide) f1];exact Ng f1 f2
  have t2:aH (lB true 4 (bN "Maker" "open_letters" mj (aa 7) au) (ak gIx (aa 5) (mC (.int 1)))) (eP (some X) (some (.int (m:Int))) (some (.lst (ps.map D.str))) (some (.str t)) (some (tD (h,s.row))) (some (.tup [.lst j,.ob no])) u.length B.length C E r q) F=.ok false F:=by
   refine Ol (x:=.lst (s.row.map dL)) (y:=.ob no) (z:=.lst (s.row.map dL)) eo (cO (x:=.tup [.lst j,.ob no]) rfl m_c rfl) (congrArg D.lst (GF F 2 s.row)) ?_ (Ga s.row P.ok);unfold dz;rw[n8];exact congrArg D.lst (GF F 2 s.row)
  rw[pq (Ou t1 t2)];rfl
 obtain⟨J,hcd⟩:∃J:List Du,J=if s.row≠[]\/kE h=cL then[(s.row,bR)] else[]:=⟨_,rfl⟩
 have st:∀O,sT [some X,some (.int (m:Int)),some (.lst (ps.map D.str)),some (.str t),some (tD (h,s.row)),some (.tup [.lst j,.ob no]),some (.ob u.length),some (.ob B.length),some (.lst C),E,r,q,some (.lst []),none,none,none,none,none,none,none] O=.nx [some X,some (.int (m:Int)),some (.lst (ps.map D.str)),some (.str t),some (tD (h,s.row)),some (.tup [.lst j,.ob no]),some (.ob u.length),some (.ob B.length),some (.lst C),E,r,q,some (.lst (J.map aR)),none,none,none,none,none,none,none] O:=λO=>by
  unfold sT;have tc:=Qxr (ρ:=[some X,some (.int (m:Int)),some (.lst (ps.map D.str)),some (.str t),some (tD (h,s.row)),some (.tup [.lst j,.ob no]),some (.ob u.length),some (.ob B.length),some (.lst C),E,r,q,some (.lst []),none,none,none,none,none,none,none]) (O:=O) P.ok dok (λ_=>rfl)
  by_cases Y:s.row≠[]\/kE h=cL
  ·rw[zH Y] at tc;rw[wO tc,hcd,if_pos Y];rfl
  ·rw[zz Y] at tc;rw[pq tc,hcd,if_neg Y];rfl
 obtain⟨I,told,ef,m9,p9,kp9⟩:=Qsa R.mak P.ok row8;rw[<-hcd] at p9;have pr:=ZP p9
 have ft:fT [some X,some (.int (m:Int)),some (.lst (ps.map D.str)),some (.str t),some (tD (h,s.row)),some (.tup [.lst j,.ob no]),some (.ob u.length),some (.ob B.length),some (.lst C),E,r,q,some (.lst (J.map aR)),none,none,none,none,none,none,none] F=.nx [some X,some (.int (m:Int)),some (.lst (ps.map D.str)),some (.str t),some (tD (h,s.row)),some (.tup [.lst j,.ob no]),some (.ob u.length),some (.ob B.length),some (.lst C),E,r,q,some (.lst (J.map aR)),none,none,none,none,none,none,none] I:=by
  unfold fT;obtain⟨n,f1,f2⟩:=R.mak
  have eo:bN "Maker" "finish" t8 (aa 7) au [some X,some (.int (m:Int)),some (.lst (ps.map D.str)),some (.str t),some (tD (h,s.row)),some (.tup [.lst j,.ob no]),some (.ob u.length),some (.ob B.length),some (.lst C),E,r,q,some (.lst (J.map aR)),none,none,none,none,none,none,none] F=.ok (.lst told) I:=by
   rw[gD,show aa 7 [some X,some (.int (m:Int)),some (.lst (ps.map D.str)),some (.str t),some (tD (h,s.row)),some (.tup [.lst j,.ob no]),some (.ob u.length),some (.ob B.length),some (.lst C),E,r,q,some (.lst (J.map aR)),none,none,none,none,none,none,none] F=.ok (.ob B.length) F from rfl,aY,jz (m:="finish") (by decide) (by decide) (by decide) (by decide) (by decide) f1];exact ef
  have t1:=GK (rm ((QtY (c:=jL) (QxJ eo (ma1 (show aa 12 [some X,some (.int (m:Int)),some (.lst (ps.map D.str)),some (.str t),some (tD (h,s.row)),some (.tup [.lst j,.ob no]),some (.ob u.length),some (.ob B.length),some (.lst C),E,r,q,some (.lst (J.map aR)),none,none,none,none,none,none,none] I=.ok (.lst (J.map aR)) I from rfl)))).trans pr));rw[Qvs t1];rfl
 have tf9:TF I (j++[.tup [.ob no,.str []]]) (h++[(s.row,[])]):=by
  exact TF.app (show TF I [.tup [.ob no,.str []]] [(s.row,[])] from⟨⟨no,rfl,(kp9.1 _ _ (R.fo no _ n1)).1⟩,True.intro⟩) (TE.tf (TE.keeps (λn ds hn=>(kp9.1 _ _ (R.fo n ds hn)).1) hte))
 have L:lets (h++[(s.row,[])])=lets h++s.row:=by rw[Ny];show _++(s.row++[])=_;rw[zB]
 have llen:(lets h++s.row).length<=4000:=by
  have hsub:=(Gv (M:=(m:Int)) G s0 Q.itm).length_le;rw[<-hs,<-W,ze,zd (as:=s0.row.map prj),show(s0.row.map prj).length=0 from rfl] at hsub
  have:(sg G).length<=G.length:=List.length_filterMap_le _ _
  omega
 have tlen:t.length<=1000000:=by rw[ht];omega
 obtain⟨x14,x15,x16,x17,x18,Z,e9⟩:=Om (a0:=some X) (a1:=some (.int (m:Int))) (a2:=some (.lst (ps.map D.str))) (a4:=some (tD (h,s.row))) (a5:=some (.tup [.lst j,.ob no])) (a6:=some (.ob u.length)) (a7:=some (.ob B.length)) (a8:=some (.lst C)) (a9:=E) (a10:=r) (a11:=q) (a12:=some (.lst (J.map aR))) tlen (j++[.tup [.ob no,.str []]]) (h++[(s.row,[])]) [] none none none none none none tf9 (by rw[L];exact H.2) (by rw[L];simp only[zw];omega);rw[L,zM] at e9;have t1l:=TE.len hte
 have lt:lT [some X,some (.int (m:Int)),some (.lst (ps.map D.str)),some (.str t),some (tD (h,s.row)),some (.tup [.lst j,.ob no]),some (.ob u.length),some (.ob B.length),some (.lst C),E,r,q,some (.lst (J.map aR)),some (.lst []),none,none,none,none,none,none] I=.nx (eQ (some X) (some (.int (m:Int))) (some (.lst (ps.map D.str))) t (some (tD (h,s.row))) (some (.tup [.lst j,.ob no])) (some (.ob u.length)) (some (.ob B.length)) (some (.lst C)) E r q (some (.lst (J.map aR))) ((lets h++s.row).map pl) x14 x15 x16 x17 x18 Z) I:=by
  unfold lT;have ei:d8 (ak aX (ak gIx (aa 5) (mC (.int 0))) (bx (ao (bQ (ao (ak gIx (aa 5) (mC (.int 1))) (ao (mC (.str [])) au))) au))) [some X,some (.int (m:Int)),some (.lst (ps.map D.str)),some (.str t),some (tD (h,s.row)),some (.tup [.lst j,.ob no]),some (.ob u.length),some (.ob B.length),some (.lst C),E,r,q,some (.lst (J.map aR)),some (.lst []),none,none,none,none,none,none] I=.ok (j++[.tup [.ob no,.str []]]) I :=
   pB (uz (x:=j) (y:=[.tup [.ob no,.str []]]) (cO (x:=.tup [.lst j,.ob no]) rfl m_c rfl) (Z4 (ma1 (Gj (maS (cO (x:=.tup [.lst j,.ob no]) rfl m_c rfl) (ma1 rfl)) (by simp))) (by simp)) (by simp only[zL];omega))
  rw[jW,ei,jX];exact e9
 have hpw:((lets h++s.row).map pl).Pairwise (· < ·):=H.1
 have rt:rT (eQ (some X) (some (.int (m:Int))) (some (.lst (ps.map D.str))) t (some (tD (h,s.row))) (some (.tup [.lst j,.ob no])) (some (.ob u.length)) (some (.ob B.length)) (some (.lst C)) E r q (some (.lst (J.map aR))) ((lets h++s.row).map pl) x14 x15 x16 x17 x18 Z) I=.rt (.bl true) I:=by
  unfold rT;have e1:bM oF (ao (aa 13) au) (eQ (some X) (some (.int (m:Int))) (some (.lst (ps.map D.str))) t (some (tD (h,s.row))) (some (.tup [.lst j,.ob no])) (some (.ob u.length)) (some (.ob B.length)) (some (.lst C)) E r q (some (.lst (J.map aR))) ((lets h++s.row).map pl) x14 x15 x16 x17 x18 Z) I=.ok (.lst (((lets h++s.row).map pl).map D.int)) I :=
   Gk (ma1 rfl) (Qu5 (by rw[ze];exact llen) hpw)
  have e2:=cO (g:=gEq) (b:=aa 13) (y:=.lst (((lets h++s.row).map pl).map D.int)) e1 rfl (z:=.bl true) (by rw[gh,KR,Oq,Bool.and_self,if_pos rfl,vO (Oq _)]);rw[iB,e2,iC]
 have tl:tail (eP (some X) (some (.int (m:Int))) (some (.lst (ps.map D.str))) (some (.str t)) (some (tD (h,s.row))) (some (.tup [.lst j,.ob no])) u.length B.length C E r q) F=.rt (.bl true) I:=by
  unfold tail;rw[bG,gt,bI,bG,iV (d:=.lst []) rfl,bI];show aA sT _ [some X,some (.int (m:Int)),some (.lst (ps.map D.str)),some (.str t),some (tD (h,s.row)),some (.tup [.lst j,.ob no]),some (.ob u.length),some (.ob B.length),some (.lst C),E,r,q,some (.lst []),none,none,none,none,none,none,none] F=_;rw[bG,st,bI,bG,ft,bI,bG,iV (d:=.lst []) rfl,bI];show aA lT rT [some X,some (.int (m:Int)),some (.lst (ps.map D.str)),some (.str t),some (tD (h,s.row)),some (.tup [.lst j,.ob no]),some (.ob u.length),some (.ob B.length),some (.lst C),E,r,q,some (.lst (J.map aR)),some (.lst []),none,none,none,none,none,none] I=_
  rw[bG,lt,bI,rt]
 refine⟨I,?_⟩;rw[<-hX]
 have lt2:L2t [some X,some (.int (m:Int)),some (.lst (ps.map D.str)),some (.str t),some (tD (h,s.row)),some (.tup [.lst j,.ob no]),none,none,none,none,none,none,none,none,none,none,none,none,none,none] u=.nx [some X,some (.int (m:Int)),some (.lst (ps.map D.str)),some (.str t),some (tD (h,s.row)),some (.tup [.lst j,.ob no]),none,none,none,none,none,none,none,none,none,none,none,none,none,none] u:=by
  unfold L2t;have t1:=GK (rm ((jM (c:=jL) (ρ:=[some X,some (.int (m:Int)),some (.lst (ps.map D.str)),some (.str t),some (tD (h,s.row)),some (.tup [.lst j,.ob no]),none,none,none,none,none,none,none,none,none,none,none,none,none,none]) (O:=u) (maS (a:=ak gIx (aa 5) (mC (.int 0))) (x:=.lst j) (cO (x:=.tup [.lst j,.ob no]) rfl m_c rfl) (ma1 (a:=ak gIx (aa 4) (mC (.int 0))) (x:=.lst (h.map aR)) (cO (x:=tD (h,s.row)) rfl m_c rfl)))).trans p1));have t2:=GK (rm ((jM (c:=nC) (ρ:=[some X,some (.int (m:Int)),some (.lst (ps.map D.str)),some (.str t),some (tD (h,s.row)),some (.tup [.lst j,.ob no]),none,none,none,none,none,none,none,none,none,none,none,none,none,none]) (O:=u) (maS (a:=ak gIx (aa 5) (mC (.int 1))) (x:=.ob no) (cO (x:=.tup [.lst j,.ob no]) rfl m_c rfl) (ma1 (a:=ak gIx (aa 4) (mC (.int 1))) (x:=.lst (s.row.map dL)) (cO (x:=tD (h,s.row)) rfl m_c rfl)))).trans q1))
  show aQ _ _ _ _ _=_;rw[pq (Ou t1 t2)];rfl
 show cN (wD [some X,none,none,none,none,none,none,none,none,none,none,none,none,none,none,none,none,none,none,none] [])=_;unfold wD;rw[bG,iV em,bI];show cN (aA _ _ [some X,some (.int (m:Int)),none,none,none,none,none,none,none,none,none,none,none,none,none,none,none,none,none,none] [])=_;rw[bG,iV ep,bI];show cN (aA _ _ [some X,some (.int (m:Int)),some (.lst (ps.map D.str)),none,none,none,none,none,none,none,none,none,none,none,none,none,none,none,none,none] [])=_;rw[bG,iV ej,bI];show cN (aA _ _ [some X,some (.int (m:Int)),some (.lst (ps.map D.str)),some (.str t),none,none,none,none,none,none,none,none,none,none,none,none,none,none,none,none] [])=_
 rw[bG,dF,jM (c:=wB) (ds:=[.str t,.int (m:Int)]) rfl,e4,dM,bI];show cN (aA _ _ [some X,some (.int (m:Int)),some (.lst (ps.map D.str)),some (.str t),some (tD (h,s.row)),none,none,none,none,none,none,none,none,none,none,none,none,none,none,none] O4)=_;rw[bG,dF,jM (c:=v9) (ds:=[.str t,.int (m:Int)]) rfl,e5,dM,bI];show cN (aA L2t _ [some X,some (.int (m:Int)),some (.lst (ps.map D.str)),some (.str t),some (tD (h,s.row)),some (.tup [.lst j,.ob no]),none,none,none,none,none,none,none,none,none,none,none,none,none,none] u)=_;rw[bG,lt2,bI,bG,dF,er,dM,bI];show cN (aA _ _ [some X,some (.int (m:Int)),some (.lst (ps.map D.str)),some (.str t),some (tD (h,s.row)),some (.tup [.lst j,.ob no]),some (.ob u.length),none,none,none,none,none,none,none,none,none,none,none,none,none] B)=_
 rw[bG,dF,ek,dM,bI];show cN (aA _ _ [some X,some (.int (m:Int)),some (.lst (ps.map D.str)),some (.str t),some (tD (h,s.row)),some (.tup [.lst j,.ob no]),some (.ob u.length),some (.ob B.length),none,none,none,none,none,none,none,none,none,none,none,none] O7)=_;rw[bG,iV (d:=.lst []) rfl,bI];show cN (aA (eG (jt (ao (ak aX (bM bW (ao (aa 2) au)) (mC (.int 1))) au)) (mgN 9) P_b) tail (eP (some X) (some (.int (m:Int))) (some (.lst (ps.map D.str))) (some (.str t)) (some (tD (h,s.row))) (some (.tup [.lst j,.ob no])) u.length B.length [] none none none) O7)=_
 have eg:jt (ao (ak aX (bM bW (ao (aa 2) au)) (mC (.int 1))) au) (eP (some X) (some (.int (m:Int))) (some (.lst (ps.map D.str))) (some (.str t)) (some (tD (h,s.row))) (some (.tup [.lst j,.ob no])) u.length B.length [] none none none) O7=.ok (fD 0 (ps.length+1)) O7:=by
  refine Nu ((Nv (Gm (l:=ps.map D.str) rfl) m_c).trans ?_) (by omega);rw[ze]
  push_cast
  rfl
 rw[bG,jW,eg,jX,el,bI,tl,iU]
theorem all_mk{l:PySem.W.OpenLaw}{w:World}{K:PySem.W.Frag}{h:Heap}{mg:Str->Option Value}{fa:Addr}(X:K.In h)(G:h.Ns mainGlobals mg)(hfa:mg "law" = some (.ref fa))
  {pC:Addr}
  {iH:Addr}
  {GP:Addr}{QvV Ov:Option Addr}{Qv6:Array (Option Value)}{Qv7 Ox Oz OD GQ OJ:Value}
  {ad_PLAIN:Addr}{Pa:Value}{QsL:Option Addr}{it_PLAIN:Array Value}{nn_PLAIN:Nat}{Qtg:Array (Option Value)}
  (Z_Reader:ClsAt K "Reader" pC)
  (Qm2:PySem.W.findIn K (.ref pC) "held" = some none)
  (Qme:PySem.W.findIn K (.ref pC) "place" = some none)
  (Z_Maker:ClsAt K "Maker" iH)
  (QkC:PySem.W.findIn K (.ref iH) "last_word" = some none)
  (Qly:PySem.W.findIn K (.ref iH) "letters" = some none)
  (QnG:PySem.W.findIn K (.ref iH) "most" = some none)
  (Qn0:PySem.W.findIn K (.ref iH) "pair" = some none)
  (Qm4:PySem.W.findIn K (.ref iH) "stale" = some none)
  (Ai:Def K mg "is_sign" Ag)
  (Ao:Def K mg "is_colour" Al)
  (Ay:Def K mg "checked" Ar)
  (Bb:Def K mg "mark_of" Ba)
  (Bd:Def K mg "may_become_mark" Bc)
  (Bg:Def K mg "own_item" Be)
  (Bk:Def K mg "own_items" vU)
  (M_Reader___init__:MethAt K pC "__init__" "Reader.__init__" Bm)
  (M_Reader_take:MethAt K pC "take" "Reader.take" Br)
  (M_Reader_feed:MethAt K pC "feed" "Reader.feed" Bw)
  (M_Reader_finish:MethAt K pC "finish" "Reader.finish" BR)
  (Ce:Def K mg "items_of" BZ)
  (Cj:Def K mg "pair_behind" Cg)
  (Cr:Def K mg "is_whole" Ck)
  (Cw:Def K mg "is_within" Cu)
  (M_Maker_begin_row:MethAt K iH "begin_row" "Maker.begin_row" Cz)
  (M_Maker___init__:MethAt K iH "__init__" "Maker.__init__" CK)
  (M_Maker_tell:MethAt K iH "tell" "Maker.tell" CV)
  (M_Maker_empty_stale:MethAt K iH "empty_stale" "Maker.empty_stale" Dc)
  (M_Maker_add_letter:MethAt K iH "add_letter" "Maker.add_letter" De)
  (M_Maker_put:MethAt K iH "put" "Maker.put" Di)
  (M_Maker_open_letters:MethAt K iH "open_letters" "Maker.open_letters" Do)
  (M_Maker_going_on:MethAt K iH "going_on" "Maker.going_on" Dt)
  (M_Maker_finish:MethAt K iH "finish" "Maker.finish" Dy)
  (DP:Def K mg "rows_of" DN)
  (DW:Def K mg "_law_cell" DR)
  (DY:Def K mg "_law_mix" DX)
  (Eb:Def K mg "_law_signs" Ea)
  (Ed:Def K mg "_law_token" Ec)
  (Ej:Def K mg "_law_item" Eg)
  (Em:Def K mg "_law_items" Ek)
  (Er:Def K mg "_law_whole" Eo)
  (Eu:Def K mg "_law_letters_right" wu)
  (Ez:Def K mg "_law_parts_right" Ex)
  (Fb:Def K mg "_law_stretch" EY)
  (Fg:Def K mg "_law_cut" Fd)
  (Fi:Def K mg "_law_row" wz)
  (Fp:Def K mg "_law_due" wA)
  (Fw:Def K mg "_law_piece" Fv)
  (GR:PySem.W.nsIn K mainGlobals "law" = some (some (.ref GP))) (Pb:K.lookup GP=some ⟨Qv7,QvV,.func (PySem.W.fnOf "law" "law" (jB kh) (gq kh) (aZ kh) .none Ox Oz OD Ov GQ OJ),Qv6⟩) (Qwl:PySem.W.codeIn K GQ "law" = true) (Qw5:PySem.W.keepIn K (.ref GP)=true)
  (B:cg mg)
  (qd:∃u,mg "ANEW_SIGN" = some u/\RelV (.str (S [9])) u)
  (Aq:∃u,mg "COLOURS" = some u/\RelV (.str (S [97,98,99,100,101,102,103,104,46])) u)
  (Aj:∃u,mg "FIRST_SIGN" = some u/\RelV (.str (S [32])) u)
  (CQ:∃u,mg "GREATEST_MOST" = some u/\RelV (.int 200) u)
  (Ak:∃u,mg "LAST_SIGN" = some u/\RelV (.str (S [125])) u)
  (Qr2:PySem.W.nsIn K mainGlobals "PLAIN" = some (some (.ref ad_PLAIN))) (Qra:K.lookup ad_PLAIN=some ⟨Pa,QsL,.seq it_PLAIN nn_PLAIN,Qtg⟩) (t_c_PLAIN:Pa=.type "tuple") (QrZ:it_PLAIN.size<=sizeLine) (v_c_PLAIN:aV (List.map (λl=>V.str (S l)) [[46],[46]]) it_PLAIN.toList)
  (qe:∃u,mg "ROW_END" = some u/\RelV (.str (S [10])) u):
  ∃fd:FuncData,(∀(s:Shared) (v:Value),BindsTo s fd ⟨[v],[]⟩ [("_law_script",v)])/\∀base:Heap,K.In base->base.Ns mainGlobals mg->eU l.prog w K mg base CX0 7 fa fd ["_law_script"] (sp_law K):=by
 have e:=hfa.symm.trans (PySem.W.mg_of X G GR);cases e;have gU:=Z_Reader.kf X G Qm2;have j5:=Z_Reader.kf X G Qme;have lX:=Z_Maker.kf X G QkC;have fV:=Z_Maker.kf X G Qly;have qy:=Z_Maker.kf X G QnG;have j7:=Z_Maker.kf X G Qn0;have j8:=Z_Maker.kf X G Qm4;have Bq:=Z_Reader.dc X G M_Reader___init__;have Bt:=Z_Reader.dm X G M_Reader_take;have BK:=Z_Reader.dm X G M_Reader_feed;have BX:=Z_Reader.dm X G M_Reader_finish;have CJ:=Z_Maker.dm X G M_Maker_begin_row;have CP:=Z_Maker.dc X G M_Maker___init__;have CZ:=Z_Maker.dm X G M_Maker_tell;have Dd:=Z_Maker.dm X G M_Maker_empty_stale;have Dh:=Z_Maker.dm X G M_Maker_add_letter
 have Dk:=Z_Maker.dm X G M_Maker_put;have Dr:=Z_Maker.dm X G M_Maker_open_letters;have Dw:=Z_Maker.dm X G M_Maker_going_on;have DG:=Z_Maker.dm X G M_Maker_finish;have Fy:Def K mg "law" kh:=⟨_,_,PySem.W.mg_of X G GR,xO (st:=kh) Pb Qwl Qw5⟩;have qx:u9 K mg "PLAIN" [[46],[46]]:=⟨ad_PLAIN,_,it_PLAIN,nn_PLAIN,PySem.W.mg_of X G Qr2,Qra,t_c_PLAIN,rfl,QrZ,v_c_PLAIN⟩;refine⟨PySem.W.fnOf "law" "law" (jB kh) (gq kh) (aZ kh) .none Ox Oz OD Ov GQ OJ,λs v=>.of_eq rfl,λbase _ _=>?_⟩;have Az:=@X7 l.prog w K mg base Ai B Aj Ak;have nu:=@Yb l.prog w K mg base Ao B Aq
 have BL:=@Yc l.prog w K mg base Ay B qd qe Az;have Bv:=@Ye l.prog w K mg base Bb B nu;have Bu:=@Yh l.prog w K mg base Bd B nu;have Bl:=@Yj l.prog w K mg base Bg B qd qe;have oW:=@Yl l.prog w K mg base Bk B Bl;have qp:=@Yn l.prog w K mg base Bq B gU j5;have BP:=@Yo l.prog w K mg base Bt B j5 gU Bu Bv oW;have qt:=@Yp l.prog w K mg base BK B BL BP;have qw:=@Yq l.prog w K mg base BX B gU j5 oW;have DQ:=@Yr l.prog w K mg base Ce B qp qt qw;have Dn:=@Yt l.prog w K mg base Cj B qx;have Cy:=@Yv l.prog w K mg base Cr B;have CT:=@Yx l.prog w K mg base Cw B Cy
 have qz:=@Yz l.prog w K mg base CJ B qx fV j7 j8;have qG:=@YC l.prog w K mg base CP B CQ qy lX CT qz;have lZ:=@YD l.prog w K mg base CZ B fV lX;have Dl:=@YG l.prog w K mg base Dd B j8 fV;have Dm:=@YH l.prog w K mg base Dh B qy fV j7 lZ;have qH:=@YJ l.prog w K mg base Dk B j7 j8 lZ Dl Dm Dn;have qI:=@YL l.prog w K mg base Dr B fV;have DK:=@YQ l.prog w K mg base Dw B lX;have FQ:=@YS l.prog w K mg base DG B fV DK lZ qz;have FP:=@YT l.prog w K mg base DP B qG DQ qH qI;have Fz:=@YX l.prog w K mg base DW B;have jK:=@YZ l.prog w K mg base DY B
 have Ef:=@Y0 l.prog w K mg base Eb B;have Fx:=@Y4 l.prog w K mg base Ed B jK Ef;have En:=@Y5 l.prog w K mg base Ej B;have Ft:=@Y6 l.prog w K mg base Em B En;have Ew:=@Y8 l.prog w K mg base Er B;have qN:=@Y9 l.prog w K mg base Eu B Ew;have wG:=@Za l.prog w K mg base Ez B qN;have Fj:=@Zb l.prog w K mg base Fb B;have qO:=@Zc l.prog w K mg base Fg B;have Fq:=@Zd l.prog w K mg base Fi B qO Fj;have FN:=@Ze l.prog w K mg base Fp B Fq qO Ft;have FJ:=@Zg l.prog w K mg base Fw B jK Fx;have QxC:=@Zi l.prog w K mg base Fy B jK Fz FJ FN FP wG qN qp qG qt qw qH qI FQ
 obtain⟨f',fd',hm',hk',hb',F',oc',od',osl',lk'⟩:=QxC;have e2:=(PySem.W.mg_of X G GR).symm.trans hm';cases e2;have e3:=Pb.symm.trans lk';cases e3;exact F'.imp (VN Qss)
theorem walk{l:PySem.W.OpenLaw}{q:Program}{loose:List Str}{XP:(Str->Option Value)->Heap->Prop}{YP:World->Heap->Prop}{d:DefRec}{K:Params->PySem.W.Frag}(hn:l.most=some 63)(hdf:d.params.defaults=[])
  (hY:∀(w:World) (h:Heap),YP w h->(K w.params).In h)
  (F:∀(w:World) (mg:Str->Option Value) (fa:Addr) (h:Heap),(K w.params).In h->h.Ns mainGlobals mg->mg d.name=some (.ref fa) ->
   ∃fd:FuncData,(∀(s:Shared) (u:Value),BindsTo s fd ⟨[u],[]⟩ [("_law_script",u)])/\∀base:Heap,(K w.params).In base->base.Ns mainGlobals mg->eU l.prog w (K w.params) mg base CX0 7 fa fd ["_law_script"] (sp_law (K w.params))):
  PySem.W.WalkO q loose XP YP l.row.toRowW d [] (λf vs=>PySem.call f vs):=
 L2.walk_ofR (n:=63) (k:=7) (x:="_law_script") (CX:=λ_=>CX0) (sp:=λw=>sp_law (K w.params)) hn (by decide) hdf ⟨rfl,by decide,by decide⟩ hY F (λ_ _ a ns hl ho hS=>⟨a,ns,rfl,hS,hl,ho,λ_=>rfl⟩) λ_ _ _ _ _ z=>z
end K28
open PySem PySem.W PyProof.Rows L2
set_option maxRecDepth 100000 in
set_option maxHeartbeats 0 in
theorem PySem.Challenge.cw_outweave_k28_whole_rows_of_a_text_holds : PySem.Challenge.rw_outweave_k28_whole_rows_of_a_text.Holds := by
 w_on;o_law;k_head;(case hw=>w_witness2)
 k_fill
 refine K28.walk (l:=PySem.Challenge.rw_outweave_k28_whole_rows_of_a_text) rfl rfl (λw h Y=>PySem.W.kIn_of Y) ?F
 case F =>
  intro w mg fa h KX G hmg
  refine' K28.all_mk KX G hmg ⟨?x1,?x2,?x3,?x4,?x5,?x6,?x7⟩ ?x8 ?x9 ⟨?x10,?x11,?x12,?x13,?x14,?x15,?x16⟩ ?x17 ?x18 ?x19 ?x20 ?x21 (mkD KX G ?x22 ?x23 ?x24 ?x25) (mkD KX G ?x26 ?x27 ?x28 ?x29) (mkD KX G ?x30 ?x31 ?x32 ?x33) (mkD KX G ?x34 ?x35 ?x36 ?x37) (mkD KX G ?x38 ?x39 ?x40 ?x41) (mkD KX G ?x42 ?x43 ?x44 ?x45) (mkD KX G ?x46 ?x47 ?x48 ?x49) (mkM ?x50 ?x51 ?x52 ?x53 ?x54) (mkM ?x55 ?x56 ?x57 ?x58 ?x59) (mkM ?x60 ?x61 ?x62 ?x63 ?x64) (mkM ?x65 ?x66 ?x67 ?x68 ?x69) (mkD KX G ?x70 ?x71 ?x72 ?x73) (mkD KX G ?x74 ?x75 ?x76 ?x77) (mkD KX G ?x78 ?x79 ?x80 ?x81) (mkD KX G ?x82 ?x83 ?x84 ?x85) (mkM ?x86 ?x87 ?x88 ?x89 ?x90) (mkM ?x91 ?x92 ?x93 ?x94 ?x95) (mkM ?x96 ?x97 ?x98 ?x99 ?x100) (mkM ?x101 ?x102 ?x103 ?x104 ?x105) (mkM ?x106 ?x107 ?x108 ?x109 ?x110) (mkM ?x111 ?x112 ?x113 ?x114 ?x115) (mkM ?x116 ?x117 ?x118 ?x119 ?x120) (mkM ?x121 ?x122 ?x123 ?x124 ?x125) (mkM ?x126 ?x127 ?x128 ?x129 ?x130) (mkD KX G ?x131 ?x132 ?x133 ?x134) (mkD KX G ?x135 ?x136 ?x137 ?x138) (mkD KX G ?x139 ?x140 ?x141 ?x142) (mkD KX G ?x143 ?x144 ?x145 ?x146) (mkD KX G ?x147 ?x148 ?x149 ?x150) (mkD KX G ?x151 ?x152 ?x153 ?x154) (mkD KX G ?x155 ?x156 ?x157 ?x158) (mkD KX G ?x159 ?x160 ?x161 ?x162) (mkD KX G ?x163 ?x164 ?x165 ?x166) (mkD KX G ?x167 ?x168 ?x169 ?x170) (mkD KX G ?x171 ?x172 ?x173 ?x174) (mkD KX G ?x175 ?x176 ?x177 ?x178) (mkD KX G ?x179 ?x180 ?x181 ?x182) (mkD KX G ?x183 ?x184 ?x185 ?x186) (mkD KX G ?x187 ?x188 ?x189 ?x190) ?x191 ?x192 ?x193 ?x194 ⟨⟨⟨PySem.W.mg_none_of KX G ?x195,PySem.W.mg_none_of KX G ?x196,PySem.W.mg_none_of KX G ?x197,PySem.W.mg_none_of KX G ?x198,PySem.W.mg_none_of KX G ?x199,PySem.W.mg_none_of KX G ?x200,PySem.W.mg_none_of KX G ?x201,PySem.W.mg_none_of KX G ?x202,PySem.W.mg_none_of KX G ?x203,PySem.W.mg_none_of KX G ?x204,PySem.W.mg_none_of KX G ?x205,PySem.W.mg_none_of KX G ?x206,PySem.W.mg_none_of KX G ?x207,PySem.W.mg_none_of KX G ?x208,PySem.W.mg_none_of KX G ?x209⟩,PySem.W.mg_none_of KX G ?x210⟩,PySem.W.mg_none_of KX G ?x211⟩ ⟨_,PySem.W.mg_of KX G ?x212,?x213⟩ ⟨_,PySem.W.mg_of KX G ?x214,?x215⟩ ⟨_,PySem.W.mg_of KX G ?x216,?x217⟩ ⟨_,PySem.W.mg_of KX G ?x218,?x219⟩ ⟨_,PySem.W.mg_of KX G ?x220,?x221⟩ ?x222 ?x223 ?x224 ?x225 ?x226 ⟨_,PySem.W.mg_of KX G ?x227,?x228⟩
  (case x1 | x2 | x3 | x4 | x5 | x6 | x7 | x8 | x9 | x10 | x11 | x12 | x13 | x14 | x15 | x16 | x17 | x18 | x19 | x20 | x21 | x22 | x23 | x24 | x25 | x26 | x27 | x28 | x29 | x30 | x31 | x32 | x33 | x34 | x35 | x36 | x37 | x38 | x39 | x40 | x41 | x42 | x43 | x44 | x45 | x46 | x47 | x48 | x49 | x50 | x51 | x52 | x53 | x54 | x55 | x56 | x57 | x58 | x59 | x60 | x61 | x62 | x63 | x64 | x65 | x66 | x67 | x68 | x69 | x70 | x71 | x72 | x73 | x74 | x75 | x76 | x77 | x78 | x79 | x80 | x81 | x82 | x83 | x84 | x85 | x86 | x87 | x88 | x89 | x90 | x91 | x92 | x93 | x94 | x95 | x96 | x97 | x98 | x99 | x100 | x101 | x102 | x103 | x104 | x105 | x106 | x107 | x108 | x109 | x110 | x111 | x112 | x113 | x114 | x115 | x116 | x117 | x118 | x119 | x120 | x121 | x122 | x123 | x124 | x125 | x126 | x127 | x128 | x129 | x130 | x131 | x132 | x133 | x134 | x135 | x136 | x137 | x138 | x139 | x140 | x141 | x142 | x143 | x144 | x145 | x146 | x147 | x148 | x149 | x150 | x151 | x152 | x153 | x154 | x155 | x156 | x157 | x158 | x159 | x160 | x161 | x162 | x163 | x164 | x165 | x166 | x167 | x168 | x169 | x170 | x171 | x172 | x173 | x174 | x175 | x176 | x177 | x178 | x179 | x180 | x181 | x182 | x183 | x184 | x185 | x186 | x187 | x188 | x189 | x190 | x191 | x192 | x193 | x194 | x195 | x196 | x197 | x198 | x199 | x200 | x201 | x202 | x203 | x204 | x205 | x206 | x207 | x208 | x209 | x210 | x211 | x212 | x214 | x216 | x218 | x220 | x222 | x223 | x227=>k_is)
  (case x213 | x215 | x217 | x219 | x221 | x228=>exact⟨_,rfl⟩)
  (case x224=>rfl)
  (case x225=>decide +kernel)
  (case x226=>repeat (first | exact .nil | refine .cons ⟨_,rfl⟩ ?_))
