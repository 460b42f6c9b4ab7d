import PyProof.Rows.All
import Wide.All
import OpenK.AllK
import Wide.FinOn
import Lean
import PyProof.EqAt
import PyProof.EqKinds
import PyProof.TupleCall
import PySem.Challenge.RW_outweave_k51_heads_and_numbers
set_option Elab.async false
set_option linter.all false
set_option maxRecDepth 100000
set_option maxHeartbeats 4000000
local macro_rules|`(tactic|omega)=>`(tactic|first|lia|fail)
set_option genSizeOf false
set_option genInjectivity false in
structure PySem.W.Fast where
 (tw7173594005979593050 tw9153230459594105861 tw14132386331952028129 tw13577700744325391494 tw12378875919022914583 tw2398813880283277140 tw653550822177014614 tw11166200755381090688 tw14840570849863604615 tw13972818199553798668 tw3436762265352728541 tw8326747041701244811 tw15806440638338434404 tw11299462189909592691 tw10227766651776620068 tw4479936018855009777 tw12867987691248658082 tw9483895785347397509 tw17779824571598392655 tw9674179767454115486 tw6361671552496324566 tw5838749465415206939 tw9263640353895567364 tw15372723738180071061 tw16151189222256693637 tw6861118384313793633 tw7075144765802740853 tw9659735087639216033 tw6427711210886131857 tw6364276926247660489 tw10010876470889970818 tw11367137476669242777 tw6989115174325744649 tw4034178249895488149 tw13372885637777943132 tw996694770679690867 tw2492209092903436044 tw7439734432748552216 tw4927534533184086989 tw10930542883153825636 tw14421907020903675196 tw3560277794078241608 tw12428073724307997562 tw15044389690891771067 tw5654080950360192129 tw10175860174890441450 tw13211182879318126797 tw7300899823713847471 tw8241948304416441538 tw17890463425311481004 tw13299428732560197383 tw15142802335127379858 tw1450545614996998623 tw1430110546710950048 tw10216127388344889490 tw10405764857928843652 tw3102545949194512859 tw1138009993950112320 tw3031982569039257531 tw418514143163320044 tw15704764103409186826 tw11219130455231659626 tw15540850031254582652 tw11827367044096381762 tw3685801041409177344 tw1714284290039503358 tw13831245011204374364 tw78414768587227774 tw5770312411439349843 tw1189681924490604361 tw11698674153127258803 tw8600202360163521554 tw9476144207728018399 tw11616956318086335846 tw6651241003880974980 tw2905590533518486002 tw7166491440033856887 tw13376016996827694917 tw5317406657829014463 tw5666521446271921623 tw7437951136980378639 tw15569177930249729537 tw17648813683113710352 tw10017353169000991152 tw5291851678167389465 tw12035936022971960243 tw4755692756937980447 tw4738510906391226077 tw15351316310549087999 tw2763179725517343535 tw15434998974898667204 tw4814645953225286343 tw4004145941530745106 tw18146352225280109167 tw6561782457355506192 tw15445269520335375799 tw4858150611705736334 tw1704383203690943972 tw12437068153118481411 tw9490661201749920540 tw6467073286784584793 tw14589230831032209128 tw4355748381232449892 tw8359951102995717532 tw10112932904560282438 tw13682800701515595027 tw12552215578255123964 tw2704368742687915992 tw7661620365115997216 tw887482741144329882 tw914188202512754371 tw15517191558962584750 tw17660376002664136921 tw10741138215739502550 tw15163419875714827669 tw444828266740917918 tw9952153310485305749 tw1834378911866463340 tw10272145586411597893 tw1462652614469406035 tw15029516513568826019 tw17401225100046826106 tw8469603937935431126 tw1336467943877932978 tw292279363888981736 tw13613807352791244437 tw15162606867223891705 tw5078546158739561212 tw10526911565368629360 tw666724738430807412 tw17566845254353745714 tw4180715879156130651 tw1824965000303292912 tw672741250296224279 tw13971320215040089200 tw14937730345370085360 tw7786653110344688824 tw10323913016976297966 tw5444739462862333920 tw15901393534633451368 tw4950612168058436464 tw13023979858663068686 tw10900643739134764263 tw918007281195917374 tw10194065583244645172 tw15281783036036359000 tw14096119923349404522 tw4975284948225951785 tw9226085794500112609 tw1533969483512010633 tw15654669727288876728 tw16014595860970990634 tw16408405319209176159 tw12858211025565808378 tw3355229599353239311 tw12913757004135979270 tw10502017680780767579 tw11042334291623155731 tw326254572047249104 tw6072315815395586233 tw9998172697599850461 tw5168584412279197269 tw4022315074259590449 tw14307928360559715929 tw13763798616860060965 tw1027454163508282903 tw13712790236545340022 tw6308502955118732941 tw4067730740605728099 tw16006553240740569131 tw15531052982119259691 tw7766314812856217801 tw14362040276725059436 tw8327346525179517910 tw11043437766660463566 tw9116884280708672167 tw9040479880379872408 tw4493062430909642480 tw12764330208655057375 tw14838108007255146591 tw8507432147750488804 tw7204511610161410681 tw690036829876722206 tw8253228547681228615 tw2296665191735656133 tw4211955638117698299 tw10559141193277524771 tw6493066327797850770 tw11792594561685310033 tw14162130049140852836 tw9880981696417987996 tw15906938818692817765 tw3277449312807084728 tw3263297635835612272 tw4629977998905233737 tw13619308057698613382 tw5711625166243212982 tw9401932948247445948 tw6385544834951252815 tw17474319638872875486 tw5620435909177593129 tw3500427301596104732 tw881329241872474356 tw8098914503531150060 tw14268476178665925031 tw17926804964489638307 tw12267752679875944219 tw7647700865078764001 tw8135139609565051704 tw5566454991659289586 tw4874462783363839912 tw12866309628070249076 tw13862430421327209688 tw17612781615173239778 tw934535918470338553 tw12202992586286907582 tw13095465260236697517 tw3753583875196006642 tw15596691128649694657 tw11126157578788613116 tw521836944447681817 tw5866288905351720262 tw5291899235059509615 tw14880878533148174207 tw9852685491405298862 tw319126977912988482 tw14925845007684048677 tw14163873459790706079 tw9182724410136801913 tw9344664417498745284 tw5897365553571894300 tw15665299624414701287 tw17694260883994448160 tw3579900872470971262 tw11353385087108934596 tw8760917928732518180 tw17613183279707735086 tw7287957371844797723 tw15678395333928485475 tw15579161315453349163 tw15222417867682376734 tw6506407255896465411 tw13704606560399009324 tw14644066165106118965 tw9497383201439223869 tw8463945608075182651 tw10374708196218817370 tw5770914629786407852 tw10826873140603362008 tw10056382507974737169 tw17157916323021739495 tw13700012577128697410 tw8981166835960535630 tw15739343894519407652 tw5291550207373073250 tw4469566153891328948 tw14806749826530073233 tw2578342183214889665 tw17490519393460946292 tw15385297786116586880 tw11297117720836804675 tw13525838574273345143 tw6544767295300492555 tw8665385020418330443 tw7792919917423706889 tw10261173909674969758 tw4493469598800445241 tw13631208737084627724 tw6709576822366954070 tw6708272447596005103 tw10703523805094150785 tw10685825981073753623 tw17647712325544903464 tw13077116266910203246 tw6733225928326807960 tw7023795653935372153 tw8985898663157436787 tw5266684787540147566 tw16364373059727527556 tw5323771853802837269 tw1679275389942140058 tw465682084141498810 tw15374059457099580056 tw11667531498924287002 tw9280368315024629896 tw5224059613458598660 tw17760371069605575641 tw18088471444712773920 tw12162960086352019242 tw1264624861973830519 tw2288414223587176339 tw2035678988501738398 tw14890775902797934309 tw10283318612673776649 tw16242440287719114458 tw13811141532148675898 tw8894658251724775662 tw6265036433568525552 tw3592461325725571410 tw15963030825644217824 tw9870052128037133597 tw14570621399871722971 tw14809845883340619044 tw10539033054695622480 tw7835166407753491225 tw2479000201517827461 tw15128332693554365852 tw5553761233968007342 tw16629194252022291550 tw571912749233180281 tw16952610167437923984 tw723080607276867046 tw12368644590678684439 tw8932557309011814206 tw3589313918938910698 tw13277799114685413663 tw12114179844969599959 tw39074313553375965 tw16144097124528945712 tw5415228804059774 tw4361772294891190916 tw10360701501024884077 tw16369782351273953865 tw576081637309744372 tw3641567944748802198 tw17095281589931637511 tw742422498844249589 tw14868302023951953776 tw9575003291951608841 tw2970308307741069157 tw3709798071047480702 tw13750579696172724365 tw1124161126063576784 tw3770192294654266911 tw1411049056227402743 tw8324218090148298663 tw16610337174159631728 tw17954417485935578853 tw11251582474459276915 tw18353753266705955250:Unit)
noncomputable section
section
open PySem PyProof.Rows
abbrev za:=@wpAny_bind
abbrev zb:=@wpAny_pure
abbrev zc:=@Nat.le_refl
abbrev zd:=@List.mem_cons_self
abbrev ze:=@List.length_append
abbrev zf:=@List.length_map
abbrev zg:=@List.map_cons
abbrev zh:=@List.getElem?_set_ne
abbrev zj:=@List.mem_singleton
abbrev zk:=@List.mem_cons
abbrev zl:=@decide_eq_false
abbrev zm:=@Heap.lt_size
abbrev zo:=@Heap.get?_push_of_some
abbrev zp:=@List.mem_cons_of_mem
abbrev zq:=@Nat.ne_of_lt
abbrev zt:=@List.mem_append
abbrev zu:=@List.getElem?_eq_some_iff
abbrev zv:=@decide_eq_true
abbrev zw:=@List.mem_map
abbrev zx:=@Bool.false_ne_true
abbrev zy:=@List.getElem?_eq_getElem
abbrev zz:=@Heap.get?_push_size
abbrev zA:=@List.length_cons
abbrev zB:=@Bool.and_eq_true
abbrev zC:=@Option.some.inj
abbrev zD:=@List.append_assoc
abbrev zE:=@List.getElem?_append_left
abbrev zF:=@List.getElem?_map
abbrev zG:=@List.size_toArray
abbrev zH:=@Nat.lt_of_lt_of_le
abbrev zI:=@Nat.le_trans
abbrev zJ:=@List.append_nil
abbrev zK:=@List.getElem?_append_right
abbrev zL:=@List.mem_of_getElem?
abbrev zM:=@List.map_append
abbrev zN:=@List.mem_append_right
abbrev zO:=@List.nil_append
abbrev zP:=@wpAny_holding
abbrev zQ:=@List.map_map
abbrev zR:=@List.length_singleton
abbrev zS:=@List.getElem?_set_self
abbrev zT:=@wpAny_mono
abbrev zU:=@Nat.lt_irrefl
abbrev zV:=@List.map_nil
abbrev zW:=@of_decide_eq_true
abbrev zX:=@wpAny_rule
abbrev zY:=@List.length_set
abbrev zZ:=@codeAny_builtin
abbrev ja:=@List.mem_append_left
abbrev jb:=@List.length_nil
abbrev jc:=@List.getElem?_cons_zero
abbrev jd:=@Nat.lt_succ_self
abbrev je:=@List.all_eq_true
abbrev jf:=@List.getElem?_cons_succ
abbrev jg:=@Nat.lt_succ_of_lt
abbrev jh:=@List.getElem_mem
abbrev jj:=@List.map_congr_left
abbrev jk:=@Nat.zero_add
abbrev jm:=@List.nodup_append
abbrev jo:=@Heap.get?_update_other
abbrev jp:=@List.getElem?_eq_none
abbrev jq:=@Option.map_eq_some_iff
abbrev jr:=@List.getD_eq_getElem?_getD
abbrev js:=@wpAny_updateSeq
abbrev jt:=@Int.emod_nonneg
abbrev ju:=@Int.emod_lt_of_pos
end
namespace L2
open PySem PySem.Spec PyProof.Rows
abbrev Key:=Sum Int Str
def nG:Key->Value->Bool
 | .inl k,v=>Value.isInt k v
 | .inr x,v=>Value.isStrOf x v
def Oz(w:World):Key->Int
 | .inl k=>hashInt k
 | .inr x=>hashStr w x
theorem iW:∀{k:Key}{v:Value},nG k v=true->(∃i t,k=Sum.inl i/\v=Value.int i t)\/(∃x t,k=Sum.inr x/\v=Value.str x t)
 | .inl i,v,h=>by
  obtain⟨t,e⟩:=Value.isInt_shape h;exact .inl ⟨i,t,rfl,e⟩
 | .inr x,v,h=>by
  obtain⟨t,e⟩:=Value.isStrOf_shape h;exact .inr ⟨x,t,rfl,e⟩
def OD(i:Int)(t:Tok):nG (.inl i) (.int i t)=true:=by simp[nG,Value.isInt]
def OJ(x:Str)(t:Tok):nG (.inr x) (.str x t)=true:=by simp[nG,Value.isStrOf]
def O5(a b:Int):decide ((Sum.inl a:Key)=Sum.inl b)=(a == b):=by
 by_cases e:a=b
 ·subst e;simp
 ·have h:¬(Sum.inl a:Key)=Sum.inl b:=λq=>e (Sum.inl.inj q)
  rw[zl h];exact(beq_eq_false_iff_ne.mpr e).symm
def O7(a b:Str):decide ((Sum.inr a:Key)=Sum.inr b)=decide (a=b):=by
 by_cases e:a=b
 ·simp
 ·have h:¬(Sum.inr a:Key)=Sum.inr b:=λq=>e (Sum.inr.inj q)
  rw[zl h,zl e]
def O8(a:Int)(b:Str):decide ((Sum.inl a:Key)=Sum.inr b)=false:=zl λq=>nomatch q
def O9(a:Str)(b:Int):decide ((Sum.inr a:Key)=Sum.inl b)=false:=zl λq=>nomatch q
def cO(prog:Program)(w:World):PySem.KeyKind prog w Key where
 is:=nG
 hash:=Oz w
 inj:=λv a b ha hb=>by
  rcases iW ha with⟨i,t,rfl,rfl⟩ | ⟨x,t,rfl,rfl⟩
  ·rcases iW hb with⟨j,u,rfl,e⟩ | ⟨y,u,rfl,e⟩
   ·injection e with e1 _;rw[e1]
   ·exact nomatch e
  ·rcases iW hb with⟨j,u,rfl,e⟩ | ⟨y,u,rfl,e⟩
   ·exact nomatch e
   ·injection e with e1 _;rw[e1]
 byValue:=λk v h=>by
  rcases iW h with⟨i,t,rfl,rfl⟩ | ⟨x,t,rfl,rfl⟩<;>rfl
 pyHash:=λhv h=>by
  rcases iW hv with⟨i,t,rfl,rfl⟩ | ⟨x,t,rfl,rfl⟩
  ·exact wpAny_pyHash_int h
  ·exact wpAny_pyHash_str h
 eqBool:=λhu hv h=>by
  rcases iW hu with⟨i,t,rfl,rfl⟩ | ⟨x,t,rfl,rfl⟩
  ·rcases iW hv with⟨j,u,rfl,rfl⟩ | ⟨y,u,rfl,rfl⟩
   ·rw[O5] at h;exact wpAny_eqBool_int h
   ·rw[O8] at h;exact SeqAt.EqAt.int_str i t y u _ _ _ _ h
  ·rcases iW hv with⟨j,u,rfl,rfl⟩ | ⟨y,u,rfl,rfl⟩
   ·rw[O9] at h;exact SeqAt.EqAt.str_int x t j u _ _ _ _ h
   ·rw[O7] at h;exact wpAny_eqBool_str h
 «strs»:=λk x t v h=>by
  rcases iW h with⟨i,u,rfl,e⟩ | ⟨y,u,rfl,e⟩
  ·exact nomatch e
  ·injection e with e1 _
   subst e1
   cases v<;>rfl
def Pa(prog:Program)(w:World)(i:Int)(t:Tok):(cO prog w).is (.inl i) (.int i t)=true:=OD i t
def Pb(prog:Program)(w:World)(x:Str)(t:Tok):(cO prog w).is (.inr x) (.str x t)=true:=OJ x t
inductive V where
 | non | bl (b:Bool) | int (i:Int) | str (x:Str) | byt (b:Array UInt8) | flt (b:UInt64) | ref (a:Addr) | ty (n:String)
 deriving DecidableEq
def RelV:V->Value->Prop
 | .non,u=>u=Value.none
 | .bl b,u=>u=Value.bool b
 | .int i,u=>∃t,u=Value.int i t
 | .str x,u=>∃t,u=Value.str x t
 | .byt b,u=>∃t,u=Value.bytes b t
 | .flt b,u=>∃t,u=Value.float b t
 | .ref a,u=>u=Value.ref a
 | .ty n,u=>u=Value.type n
abbrev aH:List V->List Value->Prop:=Paired RelV
def aH.length   (r:aH xs us):xs.length=us.length:=Paired.length r
theorem aH.get:∀{xs:List V}{us:List Value}{i:Nat}{x:V},aH xs us->xs[i]?=some x->∃u,us[i]?=some u/\RelV x u
 | _,_,_,_,.nil,e=>by simp at e
 | _,_,0,_,.cons r _,e=>by simp at e;subst e;exact⟨_,rfl,r⟩
 | _,_,i+1,x,.cons _ t,e=>by
  obtain⟨u,h1,h2⟩:=aH.get (i:=i) (x:=x) t (by simpa using e);exact⟨u,by simpa using h1,h2⟩
theorem aH.set   (r:RelV x u):∀{xs:List V}{us:List Value} (i:Nat),aH xs us->aH (xs.set i x) (us.set i u)
 | _,_,_,.nil=>.nil
 | _,_,0,.cons _ t=>.cons r t
 | _,_,i+1,.cons q t=>.cons q (aH.set r i t)
theorem aH.append:∀{xs ys:List V}{us b:List Value},aH xs us->aH ys b->aH (xs++ys) (us++b)
 | _,_,_,_,.nil,s=>s
 | _,_,_,_,.cons r t,s=>.cons r (aH.append t s)
theorem aH.take:∀{xs:List V}{us:List Value} (n:Nat),aH xs us->aH (xs.take n) (us.take n)
 | _,_,0,_=>.nil
 | _,_,_+1,.nil=>.nil
 | _,_,n+1,.cons r t=>.cons r (aH.take n t)
theorem aH.drop:∀{xs:List V}{us:List Value} (n:Nat),aH xs us->aH (xs.drop n) (us.drop n)
 | _,_,0,r=>r
 | _,_,_+1,.nil=>.nil
 | _,_,n+1,.cons _ t=>aH.drop n t
def dH:Option V->Option Value->Prop
 |some v,some u=>RelV v u
 |none,none=>True
 | _,_=>False
def KV :List (κ×V)->List (κ×Value)->Prop:=Paired λ(p:κ×V) (q:κ×Value)=>p.1=q.1/\RelV p.2 q.2
def kV:Key->V
 | .inl i=>.int i
 | .inr x=>.str x
section
variable {prog:Program}{w:World}{K:Type}[DecidableEq K](knd:KeyKind prog w K)(ik:Int->K)
def dY(h:Heap)(k:Int×List K)(a:Addr):Prop:=∃o items n u c,h.get? a=some o/\o.cls=.type "tuple"/\o.data=.seq items n/\items.toList=[u,.ref c]/\knd.is (ik k.1) u=true/\IsTupleKey knd h k.2 c
variable {knd ik}
def dY.typeIs{s:Shared}{k:Int×List K}{a:Addr}(x:dY knd ik s.heap k a):s.TypeIs (.ref a) "tuple":=let ⟨o,_,_,_,_,ho,hc,_⟩:=x;⟨o,ho,hc⟩
def dY.inj(F:∀i j,ik i=ik j->i=j){h:Heap}{a:Addr}{x y:Int×List K}(hx:dY knd ik h x a)(L:dY knd ik h y a):x=y:=by
 obtain⟨o,items,n,u,c,P,_,hd,R,O,Q⟩:=hx;obtain⟨J,m,W,U,X,C,_,f,d,q,E⟩:=L;obtain rfl:o=J:=zC (P.symm.trans C);rw[hd] at f
 injection f with h1 _
 subst h1;rw[R] at d
 injection d with T b
 injection b with b _
 injection b with b
 subst T b;have I:=F _ _ (knd.inj _ _ _ O q);have G:=Q.inj E;exact Prod.ext I G
def dY.keeps{h h':Heap}{k:Int×List K}{a d:Addr}{o:Obj}{es ep}(x:dY knd ik h k a)(q:h.get? d=some o)(hd:o.data=.dict es ep)(hs:Heap.SameBut d h h'):dY knd ik h' k a:=by
 obtain⟨m,items,n,u,c,f,F,b,E,y,C⟩:=x
 have j:a≠d:=by
  rintro rfl;obtain rfl:m=o:=zC (f.symm.trans q);rw[hd] at b;exact nomatch b
 exact⟨m,items,n,u,c,(hs.2 a j).trans f,F,b,E,y,C.keeps q hd hs⟩
variable {A:Around}{E:Value->Shared->Prop}{s:Shared}
def vY(knd:KeyKind prog w K)(ik:Int->K)(k:Int×List K):Int:=reduceHash (Builtin.Tuple.tupleHashOf [knd.hash (ik k.1),tupleKeyHash knd k.2])
def Pg{k:Int×List K}{a:Addr}{Q:Int->Shared->Prop}(f:A.units+1<cLine)(G:dY knd ik s.heap k a)(h:Q (vY knd ik k) {s with toks:=s.toks+(k.2.length+3)}):
  wpAny (model prog w) A (pyHash (.ref a)) Q E s:=by
 have j:=G.typeIs;have I:A.units<cLine:=Nat.lt_of_le_of_lt (Nat.le_add_right _ 1) f;obtain⟨o,items,n,u,c,J,_,hd,L,y,C⟩:=G;unfold pyHash
 first | unfold pyHashByItsType | skip
 first | refine za (wpAny_cRoomFor_or (.inr I) ?_) | skip
 refine za (wpAny_specialOf j F.slot_tuple_hash.lookup ?_);show wpAny _ _ (if(some (Value.builtin "tuple.__hash__") == some Value.none)=true then _ else _) Q E s;rw[if_neg (by rw[beq_builtin_none];exact zx)];refine za (wpAny_specialOf j F.slot_tuple_hash.lookup ?_);show wpAny _ _ (callSpecialIfBoundUnlessNone? (.ref a) "__hash__" _ >>= _) Q E s;refine za (wpAny_callSpecialIfBoundUnlessNone?_slot j F.slot_tuple_hash (wpAny_call_entry F.slot_tuple_hash j F.entry_tuple_hash ?_ (F.args_tuple_hash_1 _)));show wpAny _ _ (Builtin.Tuple.tupleItemsOf (.ref a) >>= _) _ _ s;refine za (wpAny_tupleItemsOf J hd ?_)
 refine za ?_;rw[<-Array.forIn_toList,L];refine wpAny_forIn_list _
  (λrest (b:Array Int) s'=>(rest=[u,.ref c]/\b.toList=[]/\s'=s)\/(rest=[.ref c]/\b.toList=[knd.hash (ik k.1)]/\s' = {s with toks:=s.toks+1})\/(rest=[]/\b.toList=[knd.hash (ik k.1),tupleKeyHash knd k.2]/\s' = {s with toks:=s.toks+(k.2.length+2)}))
  _ ?_ ?_ _ _ (.inl ⟨rfl,rfl,rfl⟩)
 ·rintro x rest b s' (⟨d,hb,rfl⟩ | ⟨d,hb,rfl⟩ | ⟨d,hb,rfl⟩)
  ·injection d with q m
   subst q m;refine za (knd.pyHash y ?_)
   first
    | exact zb (.inr (.inl ⟨rfl,by simp[hb],rfl⟩))
    | exact za (zb (zb (.inr (.inl ⟨rfl,by simp[hb],rfl⟩))))
  ·injection d with q m
   subst q m;refine za (wpAny_pyHash_tuple (tupleKind_room_in1 (knd:=knd) f) (s:={s with toks:=s.toks+1}) C ?_)
   first
    | exact zb (.inr (.inr ⟨rfl,by simp[hb],by simp[Nat.add_assoc,Nat.add_comm];omega⟩))
    | exact za (zb (zb (.inr (.inr ⟨rfl,by simp[hb],by simp[Nat.add_assoc,Nat.add_comm];omega⟩))))
  ·cases d
 ·rintro b s' (⟨d,hb,rfl⟩ | ⟨d,hb,rfl⟩ | ⟨d,hb,rfl⟩)
  ·cases d
  ·cases d
  ·show wpAny _ _ (retInt (Builtin.Tuple.tupleHashOf b.toList)) _ _ _;rw[hb];refine wpAny_ret_mkInt ?_;show wpAny _ _ (if(decide (-(2:Int) ^ 63<=Builtin.Tuple.tupleHashOf [knd.hash (ik k.1),tupleKeyHash knd k.2])&&decide (Builtin.Tuple.tupleHashOf [knd.hash (ik k.1),tupleKeyHash knd k.2]<2 ^ 63))=true then _ else _) Q E _;unfold vY reduceHash at h
   by_cases d:(decide (-(2:Int) ^ 63<=Builtin.Tuple.tupleHashOf [knd.hash (ik k.1),tupleKeyHash knd k.2])&&decide (Builtin.Tuple.tupleHashOf [knd.hash (ik k.1),tupleKeyHash knd k.2]<2 ^ 63))=true
   ·rw[if_pos d];rw[if_pos d] at h;exact zb (by simpa [Nat.add_assoc] using h)
   ·rw[if_neg d];rw[if_neg d] at h;exact za (zX (zb (by simpa [Nat.add_assoc] using h)))
def Ph(Y:∀i j,ik i=ik j->i=j)(hu:A.units+2<cLine){x y:Int×List K}{a b:Addr}{P:Fin->Shared->Prop}(hx:dY knd ik s.heap x a)(hy:dY knd ik s.heap y b)(h:P (.done (.ret (.bool (decide (x=y))))) s):
  wpAny (model prog w) A (Builtin.«tuple.__eq__» ⟨[.ref a,.ref b],[]⟩) P E s:=by
 have hTb:=hy.typeIs;obtain⟨oa,I,na,ua,ca,X,_,hda,C,ha1,ha2⟩:=hx;obtain⟨ob,G,nb,ub,cb,W,_,Z,q,hb1,hb2⟩:=hy
 have U:(I.size == G.size)=true:=by
  have h1:I.toList.length=2:=by rw[C];rfl
  have h2:G.toList.length=2:=by rw[q];rfl
  rw[Array.length_toList] at h1 h2;rw[h1,h2];rfl
 show wpAny _ _ (isInstance (.ref b) (.type "tuple") >>= _) _ _ s;refine za (wpAny_isInstance hTb isSubtype_tuple_tuple ?_);simp only[Bool.not_true,Bool.false_eq_true,if_false];refine za (wpAny_tupleItemsOf X hda ?_);refine za (wpAny_tupleItemsOf W Z ?_);refine za ?_;rw[C,q];refine wpAny_forIn_list _
  (λrest r J=>r.1=none/\J=s/\(rest=[(ua,ub),(.ref ca,.ref cb)]\/(rest=[(.ref ca,.ref cb)]/\x.1=y.1)\/(rest=[]/\x.1=y.1/\x.2=y.2)))
  _ ?_ ?_ _ _ ⟨rfl,rfl,.inl rfl⟩
 ·rintro⟨u,v⟩ rest r J ⟨R,rfl,(d | ⟨d,L⟩ | ⟨d,_⟩)⟩
  ·injection d with m Q
   injection m with m O
   subst m Q O;refine za (knd.eqBool (a:=ik x.1) (b:=ik y.1) ha1 hb1 ?_)
   by_cases f:x.1=y.1
   ·rw[zv (by rw[f])];simp only[Bool.not_true,Bool.false_eq_true,if_false];exact zb ⟨by simp,by simp,.inr (.inl ⟨by simp,f⟩)⟩
   ·rw[zl (λz=>f (Y _ _ z))];simp only[Bool.not_false,if_true]
    have T:decide (x=y)=false:=zl λz=>f (by rw[z])
    rw[T] at h;exact za (zb (zb (zb h)))
  ·injection d with m Q
   injection m with m O
   subst m Q O;refine za (wpAny_eqBool_tuple (by omega) ha2 hb2 ?_)
   by_cases f:x.2=y.2
   ·rw[zv f];simp only[Bool.not_true,Bool.false_eq_true,if_false];exact zb ⟨by simp,by simp,.inr (.inr ⟨by simp,L,f⟩)⟩
   ·rw[zl f];simp only[Bool.not_false,if_true]
    have T:decide (x=y)=false:=zl λz=>f (by rw[z])
    rw[T] at h;exact za (zb (zb (zb h)))
  ·cases d
 ·rintro⟨r1,r2⟩ J ⟨R,rfl,(d | ⟨d,L⟩ | ⟨d,L,e2⟩)⟩
  ·cases d
  ·cases d
  ·simp only at R;subst R;refine zb ?_
   have F:(I.size == G.size)=decide (x=y):=by rw[U,zv (Prod.ext L e2)]
   show P (.done (.ret (.bool (I.size == G.size)))) J;rw[F];exact h
def Pj(f:∀i j,ik i=ik j->i=j){x y:Int×List K}{a b:Addr}{Q:Bool->Shared->Prop}(G:A.units+4<cLine)(hx:dY knd ik s.heap x a)(m:dY knd ik s.heap y b)(h:Q (decide (x=y)) s):
  wpAny (model prog w) A (eqBool (.ref a) (.ref b)) Q E s:=by
 have C:A.units<cLine:=by omega
 have u:A.in1.units+2<cLine:=by
  show A.units+1+2<cLine;omega
 have q:A.units+2<cLine:=by omega
 unfold eqBool
 try with_reducible refine zP ?_
 show wpAny _ _ (if(Value.ref a == Value.ref b)=true then _ else _) Q E s
 by_cases d:(Value.ref a == Value.ref b)=true
 ·rw[if_pos d]
  have e:a=b:=by have:=eq_of_beq d;injection this
  subst e;obtain rfl:=hx.inj f m;exact za (zX (zb (by simpa using h)))
 ·rw[if_neg d]
  exact za (wpAny_richCompare_same_room (op:=.Eq) hx.typeIs m.typeIs F.slot_tuple_eq
   (wpAny_call_entry F.slot_tuple_eq hx.typeIs F.entry_tuple_eq (Ph f (by first | exact u | exact q) hx m ⟨_,rfl,(λe=>nomatch e),wpAny_truthy_bool h⟩) (F.args_tuple_eq_2 _ _)) C)
def Pk{m:Nat}{ks:List K}{a:Addr}{Q:Bool->Shared->Prop}(j:IsTupleKey knd s.heap ks a)(h:Q true s):wpAny (model prog w) A (eqIsQuiet (m+1) (.ref a)) Q E s:=by
 have q:=j.typeIs;obtain⟨o,items,n,x,_,hd,y⟩:=j;unfold eqIsQuiet;refine za (wpAny_specialOf q F.slot_tuple_eq.lookup ?_);show wpAny _ _ (isInstance (.ref a) (.type "tuple") >>= _) _ _ s;refine za (wpAny_isInstance q isSubtype_tuple_tuple ?_);simp only[Bool.not_true,Bool.false_eq_true,if_false];refine za (wpAny_seqItems x hd ?_);refine za ?_;show wpAny _ _ (forIn items _ _) _ _ s;rw[<-Array.forIn_toList];refine wpAny_forIn_list _ (λrest r b=>r.1=none/\b=s/\∀v∈rest,carriedByValue v=true) _ ?_ ?_ _ _ ⟨rfl,rfl,y.byValue⟩
 ·rintro v rest r b ⟨d,rfl,hall⟩;rw[eqIsQuiet_byValue _ (hall v zd)];refine za (zb ?_);simp only[Bool.not_true,Bool.false_eq_true,if_false];exact zb ⟨rfl,rfl,λu f=>hall u (zp _ f)⟩
 ·rintro⟨G,C⟩ b ⟨d,rfl,_⟩;simp only at d;subst d;exact zb h
def Pn{k:Int×List K}{a:Addr}{Q:Bool->Shared->Prop}(q:dY knd ik s.heap k a)(h:Q true s):wpAny (model prog w) A (eqIsQuiet 8 (.ref a)) Q E s:=by
 have x:=q.typeIs;obtain⟨o,items,n,u,c,C,_,hd,G,j,m⟩:=q;unfold eqIsQuiet;refine za (wpAny_specialOf x F.slot_tuple_eq.lookup ?_);show wpAny _ _ (isInstance (.ref a) (.type "tuple") >>= _) _ _ s;refine za (wpAny_isInstance x isSubtype_tuple_tuple ?_);simp only[Bool.not_true,Bool.false_eq_true,if_false];refine za (wpAny_seqItems C hd ?_);refine za ?_;show wpAny _ _ (forIn items _ _) _ _ s;rw[<-Array.forIn_toList,G];refine wpAny_forIn_list _ (λrest r d=>r.1=none/\d=s/\∀v∈rest,v=u\/v=.ref c) _ ?_ ?_ _ _ ⟨rfl,rfl,λv y=>by simpa using y⟩
 ·rintro v rest r d ⟨f,rfl,hall⟩
  rcases hall v zd with e | e
  ·rw[e,eqIsQuiet_byValue _ (knd.byValue _ _ j)];refine za (zb ?_);simp only[Bool.not_true,Bool.false_eq_true,if_false];exact zb ⟨rfl,rfl,λu b=>hall u (zp _ b)⟩
  ·rw[e];refine za (Pk m ?_);simp only[Bool.not_true,Bool.false_eq_true,if_false];exact zb ⟨rfl,rfl,λu b=>hall u (zp _ b)⟩
 ·rintro⟨J,I⟩ d ⟨f,rfl,_⟩;simp only at f;subst f;exact zb h
end
abbrev NK:=Int×List Key
def nH(prog:Program)(w:World):HeapKind prog w NK where
 is:=dY (cO prog w) Sum.inl
 hash:=vY (cO prog w) Sum.inl
 draws:=λk=>k.2.length+3
 room:=λA=>A.units+4<cLine
 inj:=λhx hy=>hx.inj (λ_ _ e=>Sum.inl.inj e) hy
 keeps:=λx ho hd hs=>x.keeps ho hd hs
 pyHash:=λhu hk h=>Pg (by omega) hk h
 eqBool:=λhu hx hy h=>Pj (λ_ _ e=>Sum.inl.inj e) hu hx hy h
 quiet:=λhk h=>Pn hk h
inductive HO where
 | lst (xs:List V)
 | tup (xs:List V)
 | dK (kvs:List (Key×V)) | dT (kvs:List (List Key×V))
 | dN (K:List (Addr×Obj)) (kvs:List (NK×V))
 | set (S:Int->Bool) (n:Nat)
 | ins (C dx:Addr) (fs:List (Str×V))
 | own (x:Addr)
 | xd (fs:List (Str×V))
 | met (f x:Addr)
 | rng (lo hi:Int)
 | frz (o:Obj) (u:HO)
 | tbl (ps:Array Value)
 | ext (φ:Heap->Prop)
abbrev Hp:=Addr->Option HO
noncomputable def upd(H:Hp)(a:Addr)(o:HO):Hp:=λb=>if b=a then some o else H b
def bC   :upd H a o a=some o:=by unfold upd;rw[if_pos rfl]
def aG    (h:b≠a):upd H a o b=H b:=by unfold upd;rw[if_neg h]
def ne_of{H:Hp}   (h:H a=some o)(h':H b=some u)(d:o≠u):a≠b:=by
 intro e;subst e;rw[h] at h';exact d (zC h')
def bV{H:Hp}   (h:H a=some o)(h':H b=none):a≠b:=by
 intro e;subst e;rw[h] at h';cases h'
def NAt(K:List (Addr×Obj))(H:Hp)(k:NK)(b:Addr):Prop:=∃c,H b=some (.tup [.int k.1,.ref c]) /\
 (H c=some (.tup (k.2.map kV))\/∃(o:Obj) (d:Array Value) (n:Nat),K.lookup c=some o/\o.cls=.type "tuple"/\o.data=.seq d n/\d.size<=sizeLine/\aH (k.2.map kV) d.toList)
def NAt.mono{K:List (Addr×Obj)}    (x:NAt K H k b)(d:∀b xs,H b=some (.tup xs)->f b=some (.tup xs)):NAt K f k b:=by
 obtain⟨c,h1,h2⟩:=x;exact⟨c,d _ _ h1,h2.imp (d _ _) id⟩
section
variable (P:Program)(w:World)
def bZ(H:Hp)(h:Heap)(a:Addr):HO->Prop
 | .lst b=>b.length<=sizeLine/\∃(d:List Value) (n:Nat),aH b d/\h.get? a=some {cls:=.type "list",data:=.seq d.toArray n}
 | .tup b=>b.length<=sizeLine/\∃d:List Value,aH b d/\IsTup h a d.toArray
 | .dK kvs=>kvs.length<=sizeLine/\(a == sysModules)=false/\∃E,KV kvs E/\h.DictOf (cO P w) a E
 | .dT kvs=>kvs.length<=sizeLine/\(a == sysModules)=false/\∃b:List (List Key×Addr×Value),
   Paired (λ(p:List Key×V) (q:List Key×Addr×Value)=>p.1=q.1/\H q.2.1=some (.tup (p.1.map kV))/\RelV p.2 q.2.2) kvs b /\
   ∃o m y,h.get? a=some o/\o.ExactDict/\o.data=.dict m y/\m.toList=b.map (entryOfKey (tupleKind (cO P w)))/\(b.map (·.1)).Nodup
 | .dN K kvs=>kvs.length<=sizeLine/\(a == sysModules)=false/\∃b:List (NK×Addr×Value),
   Paired (λ(p:NK×V) (q:NK×Addr×Value)=>p.1=q.1/\NAt K H p.1 q.2.1/\RelV p.2 q.2.2) kvs b /\
   ∃o m y,h.get? a=some o/\o.ExactDict/\o.data=.dict m y/\m.toList=b.map (entryOfKey (nH P w))/\(b.map (·.1)).Nodup
 | .set S n=>h.SetOf (intKind P w) a S n
 | .ins C dx fs=>H dx=some (.own a)/\fs.length<=1000/\dx≠a/\h.get? a=some (PySem.W.instObj C dx) /\
   ∃j,h.Ns1 dx j/\(∀f,dH (fs.lookup f) (j f))/\PySem.Within j (fs.map (·.1))
 | .own _=>∃o,h.get? a=some o
 | .xd fs=>∃j,h.Ns1 a j/\∀f,dH (fs.lookup f) (j f)
 | .rng lo hi=>∃t u v,h.get? a=some {cls:=.type "range",data:=.fields #[.int lo t,.int hi u,.int 1 v]}
 | .frz o u=>h.get? a=some o/\bZ H h a u
 | .tbl ps=>h.get? a=some {cls:=.none,data:=.fields ps}
 | .met f x=>h.get? a=some (PySem.W.methodObj (.ref f) (.ref x))
 | .ext φ=>φ h/\(∃o,h.get? a=some o)/\∀h1 h2:Heap,φ h1->(∀o,h1.get? a=some o->h2.get? a=some o)->φ h2
def HOk(H:Hp)(h:Heap):Prop:=∀a o,H a=some o->bZ P w H h a o
end
def bZ.lt(x:bZ P w H h a o):a<h.objs.size:=by
 cases o with
 |lst d=>obtain⟨_,_,_,_,e⟩:=x;exact zm e
 |tup d=>obtain⟨_,_,_,p⟩:=x;exact p.lt
 |dK b=>obtain⟨_,_,_,_,o,_,_,e,_⟩:=x;exact zm e
 |dT b=>obtain⟨_,_,_,_,o,_,_,e,_⟩:=x;exact zm e
 |dN K b=>obtain⟨_,_,_,_,o,_,_,e,_⟩:=x;exact zm e
 |set S n=>obtain⟨o,_,_,_,e,_⟩:=x;exact zm e
 |ins C q fs=>obtain⟨_,_,_,e,_⟩:=x;exact zm e
 |own y=>obtain⟨_,e⟩:=x;exact zm e
 |xd fs=>obtain⟨_,⟨_,_,_,e,_⟩,_⟩:=x;exact zm e
 |rng lo m=>obtain⟨_,_,_,e⟩:=x;exact zm e
 |frz ob u=>obtain⟨e,_⟩:=x;exact zm e
 |tbl j=>exact zm (show h.get? a=some _ from x)
 |met f y=>exact zm (show h.get? a=some _ from x)
 |ext φ=>obtain⟨_,⟨_,e⟩,_⟩:=x;exact zm e
theorem Paired.mapP  :∀{j:List α}{d:List β},Paired F j d->(∀a b,F a b->G a b)->Paired G j d
 | _,_,.nil,_=>.nil
 | _,_,.cons r t,f=>.cons (f _ _ r) (Paired.mapP t f)
def bZ.stay(x:bZ P w H h a o)(k:∀b u,(b=a\/H b=some (.own a))->h.get? b=some u->h'.get? b=some u)
  (Q:∀b,H b=some (.own a)->H' b=some (.own a)) (J:∀b xs,H b=some (.tup xs)->H' b=some (.tup xs)):bZ P w H' h' a o:=by
 induction o with
 |lst xs=>obtain⟨z,E,n,r,e⟩:=x;exact⟨z,E,n,r,k _ _ (.inl rfl) e⟩
 |tup xs=>obtain⟨z,E,r,ob,e,c⟩:=x;exact⟨z,E,r,ob,k _ _ (.inl rfl) e,c⟩
 |dK F=>obtain⟨z,y,L,r,ob,j,m,e,c⟩:=x;exact⟨z,y,L,r,ob,j,m,k _ _ (.inl rfl) e,c⟩
 |dT F =>
  obtain⟨z,y,xs,r,ob,j,m,e,c⟩:=x;exact⟨z,y,xs,Paired.mapP r λp q z=>⟨z.1,J _ _ z.2.1,z.2.2⟩,ob,j,m,k _ _ (.inl rfl) e,c⟩
 |dN K F =>
  obtain⟨z,y,xs,r,ob,j,m,e,c⟩:=x;exact⟨z,y,xs,Paired.mapP r λp q z=>⟨z.1,z.2.1.mono J,z.2.2⟩,ob,j,m,k _ _ (.inl rfl) e,c⟩
 |set S n=>obtain⟨ob,j,m,t,e,c⟩:=x;exact⟨ob,j,m,t,k _ _ (.inl rfl) e,c⟩
 |ins C dx fs =>
  obtain⟨d,z,ne,e,I,⟨G,j,m,R,c⟩,r⟩:=x;exact⟨Q _ d,z,ne,k _ _ (.inl rfl) e,I,⟨G,j,m,k _ _ (.inr d) R,c⟩,r⟩
 |own y=>obtain⟨ob,e⟩:=x;exact⟨ob,k _ _ (.inl rfl) e⟩
 |xd fs=>obtain⟨I,⟨G,j,m,e,c⟩,r⟩:=x;exact⟨I,⟨G,j,m,k _ _ (.inl rfl) e,c⟩,r⟩
 |rng lo T=>obtain⟨t,u,v,e⟩:=x;exact⟨t,u,v,k _ _ (.inl rfl) e⟩
 |frz ob u O=>obtain⟨e,q⟩:=x;exact⟨k _ _ (.inl rfl) e,O q⟩
 |tbl ps =>
  have e:h.get? a=some {cls:=.none,data:=.fields ps}:=x;show h'.get? a=some {cls:=.none,data:=.fields ps};exact k a _ (.inl rfl) e
 |met f y =>
  have e:h.get? a=some (PySem.W.methodObj (.ref f) (.ref y)):=x;show h'.get? a=some (PySem.W.methodObj (.ref f) (.ref y));exact k a _ (.inl rfl) e
 |ext φ=>obtain⟨p,⟨o,e⟩,st⟩:=x;exact⟨st _ _ p λo q=>k _ _ (.inl rfl) q,⟨o,k _ _ (.inl rfl) e⟩,st⟩
def HOk.lt(x:HOk P w H h)(e:H a=some o):a<h.objs.size:=(x a o e).lt
def HOk.fresh{a:Addr}(x:HOk P w H h)(e:h.objs.size<=a):H a=none:=by
 cases q:H a with
 |none=>rfl
 |some u=>exact absurd (zH (x.lt q) e) (zU _)
def HOk.kept(x:HOk P w H h)(k:∀b u,h.get? b=some u->h'.get? b=some u):HOk P w H h':=λa o e =>
 (x a o e).stay (λb u _ q=>k b u q) (λ_ q=>q) λ_ _ q=>q
def HOk.laid{a:Addr}(x:HOk P w H h)(k:∀b u,h.get? b=some u->h'.get? b=some u)(m:h.objs.size<=a)(d:bZ P w (upd H a o) h' a o):HOk P w (upd H a o) h':=λb u e=>by
 have f:=x.fresh m
 by_cases j:b=a
 ·subst j;rw[bC] at e;cases e;exact d
 ·rw[aG j] at e
  exact(x b u e).stay (λc v _ q=>k c v q) (λc q=>by rw[aG (bV q f)];exact q) λc y q=>by rw[aG (bV q f)];exact q
def Rd(H:Hp)(a:Addr)(u:HO):Prop:=H a=some u\/∃o,H a=some (.frz o u)
def Rd.ok       (r:Rd H a u)(x:HOk P w H h):bZ P w H h a u:=by
 rcases r with r | ⟨o,r⟩
 ·exact x a u r
 ·obtain⟨_,q⟩:=x a _ r;exact q
def Mut:Option HO->Prop
 |some (.lst _)=>True
 |some (.dK _)=>True
 |some (.dT _)=>True
 |some (.dN _ _)=>True
 |some (.set _ _)=>True
 |some (.ins _ _ _)=>True
 |some (.ext _)=>True
 | _=>False
def HOk.write(ok:HOk P w H h)(m:Mut (H x))(G:e=x\/H e=some (.own x))(k:∀b u,b≠e->h.get? b=some u->h'.get? b=some u)(F:∃u,h'.get? e=some u)
  (E:bZ P w (upd H x J) h' x J):HOk P w (upd H x J) h':=λb u q=>by
 have f:∀c y,H c=some (.own y)->c≠x:=λc y r z=>by subst z;rw[r] at m;exact m
 have j:∀c xs,H c=some (.tup xs)->c≠x:=λc xs r z=>by subst z;rw[r] at m;exact m
 by_cases hb:b=x
 ·subst hb;rw[bC] at q;cases q;exact E
 ·rw[aG hb] at q
  by_cases d:b=e
  ·have q':H b=some (.own x):=by
    rcases G with z | z
    ·exact absurd (d.trans z) hb
    ·rw[d];exact z
   rw[q] at q';cases q';obtain⟨v,I⟩:=F;exact⟨v,by rw[d];exact I⟩
  ·refine(ok b u q).stay (λc v C r=>k c v ?_ r) (λc r=>by rw[aG (f c b r)];exact r) λc xs r=>by rw[aG (j c xs r)];exact r
   rcases C with rfl | C
   ·exact d
   ·rintro rfl
    rcases G with z | z
    ·exact f c b C z
    ·rw[C] at z;cases z;exact hb rfl
structure Un(fs ex:List Addr)(H H':Hp)(h h':Heap):Prop where
 keep:∀b o,h.get? b=some o->H b=none->b∉fs->b∉ex->h'.get? b=some o
 slot:∀b o,h.get? b=some o->H b=none->b∈fs->b∉ex->∃sl,h'.get? b=some {o with slots:=sl}
 free:∀b o,h.get? b=some o->H b=none->b∉ex->H' b=none
 there:∀b o,h.get? b=some o->b∉ex->∃o',h'.get? b=some o'
 tups:∀b xs,H b=some (.tup xs)->H' b=some (.tup xs)
 frzs:∀b o u,H b=some (.frz o u)->H' b=some (.frz o u)
 tbls:∀b ps,H b=some (.tbl ps)->∃more,H' b=some (.tbl (ps++more))
def Un.any(u:Un fs ex H f h h1)   (q:h.get? b=some ob)(n:H b=none)(hx:b∉ex):∃sl,h1.get? b=some {ob with slots:=sl}:=by
 by_cases d:b∈fs
 ·exact u.slot b ob q n d hx
 ·exact⟨ob.slots,u.keep b ob q n d hx⟩
def Un.kept(k:∀b u,h.get? b=some u->h'.get? b=some u):Un fs ex H H h h' :=
 ⟨λb ob q _ _ _=>k b ob q,λb ob q _ _ _=>⟨ob.slots,k b ob q⟩,λ_ _ _ n _=>n,λb ob q _=>⟨ob,k b ob q⟩,λ_ _ q=>q,λ_ _ _ q=>q,λ_ d q=>⟨#[],by rw[q];simp⟩⟩
def Un.refl:Un fs ex H H h h:=Un.kept λ_ _ q=>q
def Un.laid{h:Heap}{a:Addr}(k:∀b u,h.get? b=some u->h'.get? b=some u)(hp:h.objs.size<=a)(hn:H a=none):Un fs ex H (upd H a o) h h' where
 keep:=λb u q _ _ _=>k b u q
 slot:=λb u q _ _ _=>⟨u.slots,k b u q⟩
 free:=λb u q n _=>by rw[aG (zq (zH (zm q) hp))];exact n
 there:=λb u q _=>⟨u,k b u q⟩
 tups:=λb xs q=>by rw[aG (bV q hn)];exact q
 frzs:=λb u xs q=>by rw[aG (bV q hn)];exact q
 tbls:=λb ps q=>⟨#[],by rw[aG (bV q hn),q];simp⟩
def Un.write(f:Mut (H x))(E:e=x\/H e=some (.own x))(k:∀b u,b≠e->h.get? b=some u->h'.get? b=some u)(m:∃u,h'.get? e=some u):Un fs ex H (upd H x o) h h':=by
 have hx:∀b,H b=none->b≠x:=λb n z=>by subst z;rw[n] at f;exact f
 have y:∀b,H b=none->b≠e:=λb n z=>by
  subst z
  rcases E with r | r
  ·exact hx b n r
  ·rw[n] at r;cases r
 have j:∀b u,H b=some u->¬Mut (some u)->b≠x:=λb u q nm z=>by subst z;rw[q] at f;exact nm f
 refine⟨λb u q n _ _=>k b u (y b n) q,λb u q n _ _=>⟨u.slots,k b u (y b n) q⟩,λb u q n _=>by rw[aG (hx b n)];exact n,λb u q _=>?_,
  λb C q=>by rw[aG (j b _ q λz=>z)];exact q,λb u C q=>by rw[aG (j b _ q λz=>z)];exact q,λb F q=>⟨#[],by rw[aG (j b _ q λz=>z),q];simp⟩⟩
 by_cases d:b=e
 ·subst d;exact m
 ·exact⟨u,k b u d q⟩
noncomputable def trk(h:Heap)(H:Hp):List Addr:=(List.range h.objs.size).filter λa=>(H a).isSome
def iY(h:Heap)(H:Hp):Heap:=PySem.W.hideAll h (trk h H)
def Pq(h:Heap)(H:Hp):(iY h H).objs.size=h.objs.size:=PySem.W.hideAll_size _ _
def Pu     (e:h.get? b=some o)(n:H b=none):(iY h H).get? b=some o :=
 PySem.W.hideAll_get _ e λd=>by
  have q :=(List.mem_filter.mp d).2;rw[n] at q;simp at q
def Px     (e:(iY h H).get? b=some o):h.get? b=some o/\H b=none:=by
 have e' :=PySem.W.of_hideAll _ e;refine⟨e',?_⟩
 cases q:H b with
 |none=>rfl
 |some x =>
  have d:b∈trk h H:=List.mem_filter.mpr ⟨List.mem_range.mpr (zm e'),by simp[q]⟩;have z:(iY h H).get? b=none:=PySem.W.hideAll_none _ d;rw[z] at e;cases e
noncomputable def Py(g h:Heap)(L:Addr):List (Addr×Obj):=(List.range h.objs.size).filterMap λa=>if a=L\/(g.get? a).isSome=true then none else(h.get? a).map λo=>(a,o)
def rest(g h:Heap)(L d:Addr):List (Addr×Obj):=(Py g h L).filter λp=>decide (p.1≠d)
structure Mod(K:PySem.W.Frag)(mg:Str->Option Value)(base:Heap):Prop where
 kin:K.In base
 glob:base.Ns mainGlobals mg
 blt:∃mb,base.Ns builtinsNs mb/\∀x:Str,x≠"__name__"->mb x=bootBuiltins x
 nolimit:base.NoLimit
structure Cx where
 prog:Program
 w:World
 K:PySem.W.Frag
 mg:Str->Option Value
 base:Heap
 A:Around
 N:List Str
 s₀:Shared
 H₀:Hp
 env:Env
 outer:List Env
 stack:List Env
 ex:List Addr
 fn:Str->Bool
 calm:Bool
 pn:List (Addr×Obj)
 xe:Value->Shared->Prop
def frs(l:List Env):List Addr:=l.filterMap (·.frame)
abbrev Cx.fs(X:Cx):List Addr:=frs X.outer
def Vis(b:Scope)(x:Str):Prop:=b.names.lookup x=some .local\/b.names.lookup x=some .cell\/b.names.lookup x=some .free
def Loc(b:Scope)(x:Str):Prop:=b.names.lookup x=some .local\/b.names.lookup x=some .cell
def Look(env:Env)(h:Heap)(m:Str->Option Value)(x:Str)(u:Value):Prop :=
 (env.kindOf x=some .local/\m x=some u)\/((env.kindOf x=some .cell\/env.kindOf x=some .free)/\∃c,env.cells.lookup x=some c/\h.IsCell c (some u))
structure Cx.Ok(X:Cx):Prop where
 mod:Mod X.K X.mg X.base
 kind:X.env.scope.kind=.function
 glob:X.env.globals=mainGlobals
 blt:X.env.builtins=builtinsNs
 above:X.s₀.heap.objs.size<=X.env.locals
 inj:∀x y c,X.env.cells.lookup x=some c->X.env.cells.lookup y=some c->x=y
 has:∀x,(X.env.kindOf x=some .cell\/X.env.kindOf x=some .free)->∃c,X.env.cells.lookup x=some c
 cab:∀x c,X.fn x=true->X.env.cells.lookup x=some c->X.s₀.heap.objs.size<=c
 hd:X.calm=true->X.A.handled=none
 frames:X.A.frames=some X.stack
 stk:X.stack=X.outer\/(X.stack=X.env::X.outer/\X.env.frame=some X.env.locals)
 exf:∀b∈X.ex,b≠X.env.locals/\∀x c,X.env.cells.lookup x=some c->c≠b
 bs:∀b o,X.base.get? b=some o->X.s₀.heap.get? b=some o/\X.H₀ b=none
 bsz:X.base.objs.size<=X.s₀.heap.objs.size
 noex:∀b o,X.base.get? b=some o->b∉X.ex
 exfs:∀b∈X.ex,b∉X.fs
 funs:X.s₀.heap.FunFrames X.base X.outer
 frf:∀b∈X.fs,X.H₀ b=none
structure Inv(X:Cx)(pins:List (Addr×Obj))(σ:List (Option V))(H:Hp)(s:Shared):Prop where
 ok:X.Ok
 os:s.os=X.s₀.os
 bare:AllBare s.gens
 base:Un X.fs X.ex X.H₀ H X.s₀.heap s.heap
 loc:∃m,s.heap.Ns X.env.locals m/\∀(i:Nat) (x:Str) (v:V),X.N[i]?=some x->σ[i]?=some (some v)->Vis X.env.scope x->∃u,RelV v u/\Look X.env s.heap m x u
 cell:∀x c,X.env.cells.lookup x=some c->∃v,s.heap.IsCell c v
 free:H X.env.locals=none
 freeC:∀x c,X.env.cells.lookup x=some c->H c=none
 pin:∀p∈X.pn++pins,s.heap.get? p.1=some p.2/\H p.1=none/\p.1≠X.env.locals/\p.1∉X.fs/\∀v,p.2.data≠.cell v
 hok:HOk X.prog X.w H s.heap
 len:σ.length=X.N.length
def Cx.Ok.nofr{X:Cx}(ok:X.Ok)   (e:X.base.get? b=some o):b∉X.fs:=λd=>by
 have:=(ok.funs.mem d).1
 rw[e] at this;cases this
def Inv.bs(I:Inv X d σ H s):∀b o,X.base.get? b=some o->s.heap.get? b=some o/\H b=none:=λb o e =>
 ⟨I.base.keep b o (I.ok.bs b o e).1 (I.ok.bs b o e).2 (I.ok.nofr e) (I.ok.noex b o e),I.base.free b o (I.ok.bs b o e).1 (I.ok.bs b o e).2 (I.ok.noex b o e)⟩
def Inv.bk(I:Inv X d σ H s):∀b o,X.base.get? b=some o->s.heap.get? b=some o:=λb o e=>(I.bs b o e).1
def Inv.mod(I:Inv X b σ H s):Mod X.K X.mg X.base:=I.ok.mod
def Inv.kIn(I:Inv X b σ H s):X.K.In s.heap:=I.ok.mod.kin.keeps I.bk
def Inv.lt(I:Inv X b σ H s):X.env.locals<s.heap.objs.size:=let ⟨_,hn,_⟩:=I.loc;hn.lt
def Inv.sz(I:Inv X b σ H s):X.s₀.heap.objs.size<=s.heap.objs.size:=zI I.ok.above (Nat.le_of_lt I.lt)
def Inv.nofs(I:Inv X f σ H s){a:Addr}(h:s.heap.objs.size<=a):a∉X.fs:=λd=>by
 obtain⟨_,o,b,_⟩:=I.ok.funs.mem d;exact absurd (zH (zm b) (zI I.sz h)) (zU _)
def Inv.cne(I:Inv X y σ H s):∀x c,X.env.cells.lookup x=some c->c≠X.env.locals:=λx c e z=>by
 obtain⟨v,o,f,hd⟩:=I.cell x c e;obtain⟨m,⟨j,q,u,b,d,_⟩,_⟩:=I.loc;rw[z,b] at f;cases f;rw[d] at hd;cases hd
def Inv.funs(I:Inv X C σ H s):s.heap.FunFrames X.base X.outer:=by
 have all:∀(l:List Env),(∀b∈frs l,b∈X.fs)->X.s₀.heap.FunFrames X.base l->s.heap.FunFrames X.base l:=by
  intro l
  induction l with
  |nil=>intro _ _;trivial
  |cons env r ih =>
   intro hs x;obtain⟨y,⟨L,o,d,u,q,hd⟩,m⟩:=x;have j:L∈X.fs:=hs L (by unfold frs;rw[List.filterMap_cons,d];exact zd)
   obtain⟨sl,e⟩:=I.base.slot L o q (I.ok.frf L j) j λz=>I.ok.exfs L z j
   exact⟨y,⟨L,_,d,u,e,hd⟩,ih (λb f=>hs b (by unfold frs;rw[List.filterMap_cons,d];exact zp _ f)) m⟩
 exact all X.outer (λ_ f=>f) I.ok.funs
def Inv.stack(I:Inv X f σ H s):s.heap.FunFrames X.base X.stack:=by
 rcases I.ok.stk with e | ⟨e,d⟩
 ·rw[e];exact I.funs
 ·rw[e];obtain⟨m,b,_⟩:=I.loc;refine .cons (by rw[I.ok.kind];decide) d b ?_ I.funs;exact Heap.get?_none_of_le (zI I.ok.bsz I.ok.above)
def Inv.stkSub(I:Inv X j σ H s):∀b∈frs X.stack,b∈X.env.locals::X.fs:=λb d=>by
 rcases I.ok.stk with e | ⟨e,f⟩
 ·rw[e] at d;exact zp _ d
 ·rw[e] at d;unfold frs at d;rw[List.filterMap_cons,f] at d;exact d
def Inv.stkFree(I:Inv X j σ H s):∀b∈frs X.stack,H b=none:=λb d=>by
 rcases zk.mp (I.stkSub b d) with e | d
 ·rw[e];exact I.free
 ·obtain⟨_,o,f,_⟩:=I.ok.funs.mem d
  exact I.base.free b o f (I.ok.frf b d) λz=>I.ok.exfs b z d
def Inv.step    {ch:List Addr}(I:Inv X pins σ H s)
  (j:∀b∈ch,(b∈X.ex\/X.s₀.heap.objs.size<=b)/\b≠X.env.locals/\(∀x c,X.env.cells.lookup x=some c->c≠b)/\∀p∈X.pn++pins,p.1≠b)
  (keep:∀b o,b≠X.env.locals->b∉X.fs->b∉ch->s.heap.get? b=some o->H b=none->h'.get? b=some o)
  (slot:∀b o,b≠X.env.locals->b∈X.fs->b∉ch->s.heap.get? b=some o->H b=none->∃sl,h'.get? b=some {o with slots:=sl}) (free:∀b o,b∉ch->s.heap.get? b=some o->H b=none->H' b=none)
  (there:∀b o,b∉ch->s.heap.get? b=some o->∃G,h'.get? b=some G)
  (tups:∀b xs,H b=some (.tup xs)->H' b=some (.tup xs)) (frzs:∀b o u,H b=some (.frz o u)->H' b=some (.frz o u)) (tbls:∀b ps,H b=some (.tbl ps)->∃more,H' b=some (.tbl (ps++more)))
  (ns:∀m,s.heap.Ns X.env.locals m->h'.Ns X.env.locals m) (hok:HOk X.prog X.w H' h') (Y:AllBare g'):
  Inv X pins σ H' {s with heap:=h',gens:=g',drawn:=d',toks:=t'}:=by
 have L:∀b o,X.s₀.heap.get? b=some o->b≠X.env.locals:=λb o e=>zq (zH (zm e) I.ok.above)
 have C:∀b o,X.s₀.heap.get? b=some o->b∉X.ex->b∉ch:=λb o e hx E=>by
  rcases(j b E).1 with z | z
  ·exact hx z
  ·exact absurd (zH (zm e) z) (zU _)
 have cellK:∀x c,X.env.cells.lookup x=some c->∀v,s.heap.IsCell c v->h'.IsCell c v:=λx c e v ⟨o,F,hd⟩=>by
  have f:c∉ch:=λz=>(j c z).2.2.1 x c e rfl
  by_cases Q:c∈X.fs
  ·obtain⟨sl,q⟩:=slot c o (I.cne x c e) Q f F (I.freeC x c e);exact⟨_,q,hd⟩
  ·exact⟨o,keep c o (I.cne x c e) Q f F (I.freeC x c e),hd⟩
 refine⟨I.ok,I.os,Y,⟨λb o e n E hx=>?_,λb o e n E hx=>?_,λb o e n hx=>?_,λb o e hx=>?_,λb xs e=>tups b xs (I.base.tups b xs e),λb o xs e=>frzs b o xs (I.base.frzs b o xs e),λb ps e=>?_⟩,?_,λx c e=>?_,?_,λx c e=>?_,λp P=>?_,hok,I.len⟩
 ·exact keep b o (L b o e) E (C b o e hx) (I.base.keep b o e n E hx) (I.base.free b o e n hx)
 ·obtain⟨sl,y⟩:=I.base.slot b o e n E hx;obtain⟨O,J⟩:=slot b _ (L b o e) E (C b o e hx) y (I.base.free b o e n hx);exact⟨O,J⟩
 ·obtain⟨G,y⟩:=I.base.there b o e hx;exact free b G (C b o e hx) y (I.base.free b o e n hx)
 ·obtain⟨G,y⟩:=I.base.there b o e hx;exact there b G (C b o e hx) y
 ·obtain⟨T,y⟩:=I.base.tbls b ps e;obtain⟨R,J⟩:=tbls b _ y;exact⟨T++R,by rw[J,Array.append_assoc]⟩
 ·obtain⟨m,U,W⟩:=I.loc;refine⟨m,ns m U,λi x v y J Z=>?_⟩;obtain⟨u,r,l⟩:=W i x v y J Z;refine⟨u,r,?_⟩
  rcases l with l | ⟨k,c,e,z⟩
  ·exact .inl l
  ·exact .inr ⟨k,c,e,cellK x c e _ z⟩
 ·obtain⟨v,z⟩:=I.cell x c e;exact⟨v,cellK x c e v z⟩
 ·obtain⟨m,⟨o,_,_,F,_⟩,_⟩:=I.loc;exact free _ o (λz=>(j _ z).2.1 rfl) F I.free
 ·obtain⟨v,o,F,hd⟩:=I.cell x c e;exact free c o (λz=>(j c z).2.2.1 x c e rfl) F (I.freeC x c e)
 ·obtain⟨e,n,ne,nf,d⟩:=I.pin p P
  have f:p.1∉ch:=λz=>(j p.1 z).2.2.2 p P rfl
  exact⟨keep p.1 p.2 ne nf f e n,free p.1 p.2 f e n,ne,nf,d⟩
def Inv.un  (I:Inv X O σ H s)(u:Un X.fs [] H P s.heap h')(hok:HOk X.prog X.w P h'):Inv X O σ P {s with heap:=h',toks:=t'}:=by
 obtain⟨m,⟨o,J,L,x,r⟩,_⟩:=id I.loc;obtain⟨sl,E⟩:=u.any x I.free (by simp)
 exact I.step (g':=s.gens) (d':=s.drawn) (ch:=[]) (λ_ z=>nomatch z) (λb o _ f _ e n=>u.keep b o e n f (by simp)) (λb o _ f _ e n=>u.slot b o e n f (by simp)) (λb o _ e n=>u.free b o e n (by simp)) (λb o _ e=>u.there b o e (by simp)) u.tups u.frzs u.tbls (λG C=>by
  obtain⟨F,j,q,d,y⟩:=C;rw[x] at d;cases d
  exact⟨_,j,q,E,y⟩) hok I.bare
def Inv.call     (I:Inv X T σ H s)(u:Un (frs X.stack) ch H U s.heap h')(hok:HOk X.prog X.w U h')(J:AllBare g')
  (j:∀b∈ch,(b∈X.ex\/X.s₀.heap.objs.size<=b)/\b≠X.env.locals/\(∀x c,X.env.cells.lookup x=some c->c≠b)/\∀p∈X.pn++T,p.1≠b):
  Inv X T σ U {s with heap:=h',gens:=g',drawn:=d',toks:=t'}:=by
 obtain⟨m,⟨o,Q,R,E,r⟩,_⟩:=id I.loc
 obtain⟨sl,q⟩:=u.any E I.free λz=>(j _ z).2.1 rfl
 exact I.step (ch:=ch) j (λb o q L d e n=>u.keep b o e n (λz=>(zk.mp (I.stkSub b z)).elim q L) d) (λb o _ _ d e n=>u.any e n d) (λb o d e n=>u.free b o e n d) (λb o d e=>u.there b o e d) u.tups u.frzs u.tbls (λP G=>by
  obtain⟨O,y,C,f,F⟩:=G;rw[E] at f;cases f
  exact⟨_,y,C,q,F⟩) hok J
def Inv.turned   (I:Inv X O σ H s)(k:∀b o,b≠it->s.heap.get? b=some o->h'.get? b=some o)(C:H it=none)(j:it≠X.env.locals)
  (h1:it∈X.ex\/X.s₀.heap.objs.size<=it) (h2:∀x c,X.env.cells.lookup x=some c->c≠it) (h3:∀p∈X.pn++O,p.1≠it):Inv X O σ H {s with heap:=h',toks:=t'}:=by
 have f:∀b u,H b=some u->b≠it:=λb u e z=>by rw[z,C] at e;cases e
 refine I.step (g':=s.gens) (d':=s.drawn) (ch:=[it]) (λb F=>?_) (λb o _ _ d e _=>k b o (λz=>d (by simp[z])) e) (λb o _ _ d e _=>⟨o.slots,k b o (λz=>d (by simp[z])) e⟩) (λ_ _ _ _ n=>n)
  (λb o d e=>⟨o,k b o (λz=>d (by simp[z])) e⟩) (λ_ _ e=>e) (λ_ _ _ e=>e) (λb L e=>⟨#[],by rw[e];simp⟩) (λm E=>?_) (λb u e=>?_) I.bare
 ·have e:b=it:=by simpa using F
  subst e;exact⟨h1,j,h2,h3⟩
 ·obtain⟨o,G,J,y,r⟩:=E;exact⟨o,G,J,k _ o (Ne.symm j) y,r⟩
 ·refine(I.hok b u e).stay (λc v d q=>k c v ?_ q) (λ_ q=>q) λ_ _ q=>q
  rcases d with z | z
  ·rw[z];exact f b u e
  ·exact f c _ z
def Inv.tok(I:Inv X b σ H s)(t:Nat):Inv X b σ H {s with toks:=t}:=I.un Un.refl I.hok
def Inv.kept  (I:Inv X d σ H s)(k:∀b u,s.heap.get? b=some u->h'.get? b=some u):Inv X d σ H {s with heap:=h',toks:=t'}:=I.un (Un.kept k) (I.hok.kept k)
def Inv.laid{a:Addr}   (I:Inv X j σ H s)(k:∀b u,s.heap.get? b=some u->h'.get? b=some u)(d:s.heap.objs.size<=a)(f:bZ X.prog X.w (upd H a o) h' a o):
  Inv X j σ (upd H a o) {s with heap:=h',toks:=t'}:=I.un (Un.laid k d (I.hok.fresh d)) (I.hok.laid k d f)
def Inv.write    (I:Inv X q σ H s)(j:Mut (H x))(m:e=x\/H e=some (.own x))(k:∀b u,b≠e->s.heap.get? b=some u->h'.get? b=some u)(d:∃u,h'.get? e=some u)
  (f:bZ X.prog X.w (upd H x o) h' x o):Inv X q σ (upd H x o) {s with heap:=h',toks:=t'}:=I.un (Un.write j m k d) (I.hok.write j m k d f)
def Inv.pins_of  (I:Inv X f σ H s)(h:∀p∈d,s.heap.get? p.1=some p.2/\H p.1=none/\p.1≠X.env.locals/\p.1∉X.fs/\∀v,p.2.data≠.cell v):Inv X d σ H s :=
 ⟨I.ok,I.os,I.bare,I.base,I.loc,I.cell,I.free,I.freeC,λp b=>(zt.mp b).elim (λz=>I.pin p (ja _ z)) (h p),I.hok,I.len⟩
def CN{N:List Str}(hN:N.Nodup){i:Nat}  (a:N[i]?=some x)(b:N[j]?=some x):i=j:=by
 obtain⟨h1,f⟩:=zu.mp a;obtain⟨h2,d⟩:=zu.mp b;exact(List.getElem_inj hN).mp (f.trans d.symm)
def Pz         (I:Inv X pins σ H s)(hN:X.N.Nodup)(U:X.N[i]?=some x)(hx:Loc X.env.scope x)(r:RelV v u)
  (h:∀s',Inv X pins (σ.set i (some v)) H s'->(∃a,Heap.SameBut a s.heap s'.heap/\(a=X.env.locals\/X.env.cells.lookup x=some a))->Q () s') (hf:X.fn x=true\/X.env.scope.names.lookup x=some .local:=by first | exact .inl rfl | exact .inr rfl | assumption):wpAny M A (storeName X.env x u) Q E s:=by
 obtain⟨m,hn,hl⟩:=id I.loc
 have hcls:(X.env.scope.kind == .class || (X.env.scope.kind == .module&&X.env.locals != X.env.globals))=false:=by rw[I.ok.kind];rfl
 have L:i<σ.length:=by rw[I.len];exact(zu.mp U).1
 have cne:=I.cne
 have tracked:∀{a:Addr}{T:Heap},(∃o,s.heap.get? a=some o/\H a=none)->Heap.SameBut a s.heap T->HOk X.prog X.w H T:=λ{a T} ha hs b ob e=>by
  obtain⟨_,_,F⟩:=ha
  refine(I.hok b ob e).stay (λc w' C q=>(hs.2 c ?_).trans q) (λ_ q=>q) λ_ _ q=>q
  rintro rfl
  rcases C with rfl | C
  ·rw[F] at e;cases e
  ·rw[F] at C;cases C
 rcases hx with J | J
 ·refine wpAny_storeName_local J hn (λT hn' hs=>?_) hcls;obtain⟨oL,_,_,hoL,_⟩:=id hn;refine h _ ⟨I.ok,I.os,I.bare,⟨λb o e n P hx=>?_,λb o e n P hx=>?_,I.base.free,λb o e hx=>?_,I.base.tups,I.base.frzs,I.base.tbls⟩,⟨_,hn',λj y v' f G e3=>?_⟩,λy c e=>?_,I.free,I.freeC,λp hp=>?_,tracked ⟨oL,hoL,I.free⟩ hs,by simpa using I.len⟩ ⟨_,hs,.inl rfl⟩
  ·exact(hs.2 b (zq (zH (zm e) I.ok.above))).trans (I.base.keep b o e n P hx)
  ·obtain⟨sl,f⟩:=I.base.slot b o e n P hx;exact⟨sl,(hs.2 b (zq (zH (zm e) I.ok.above))).trans f⟩
  ·obtain⟨o',f⟩:=I.base.there b o e hx;exact⟨o',(hs.2 b (zq (zH (zm e) I.ok.above))).trans f⟩
  ·by_cases O:j=i
   ·subst O;rw[U] at f;cases f;rw[zS L] at G;cases G;exact⟨u,r,.inl ⟨J,by simp⟩⟩
   ·rw[zh (Ne.symm O)] at G;obtain⟨u',r',q⟩:=hl j y v' f G e3;refine⟨u',r',?_⟩
    rcases q with⟨k,e⟩ | ⟨k,c,e,z⟩
    ·refine .inl ⟨k,?_⟩
     have:y≠x:=λe=>O (CN hN f (e ▸ U))
     simp[this,e]
    ·exact .inr ⟨k,c,e,z.sameBut hs (cne y c e)⟩
  ·obtain⟨w',z⟩:=I.cell y c e;exact⟨w',z.sameBut hs (cne y c e)⟩
  ·obtain⟨e,n,ne,nf,d⟩:=I.pin p hp;exact⟨(hs.2 p.1 ne).trans e,n,ne,nf,d⟩
 ·have R:X.fn x=true:=by
   rcases hf with z | z
   ·exact z
   ·rw[z] at J;cases J
  obtain⟨c,C⟩:=I.ok.has x (.inl J);obtain⟨w',z⟩:=I.cell x c C;refine wpAny_storeName_cell I.ok.kind J C z (λT Z hs=>?_);obtain⟨oc,W,hocd⟩:=id z;refine h {s with heap:=T} ⟨I.ok,I.os,I.bare,⟨λb o e n P hx=>?_,λb o e n P hx=>?_,I.base.free,λb o e hx=>?_,I.base.tups,I.base.frzs,I.base.tbls⟩,⟨m,hn.sameBut hs (Ne.symm (cne x c C)),λj y v' f G e3=>?_⟩,λy c' e=>?_,I.free,I.freeC,λp hp=>?_,tracked ⟨oc,W,I.freeC x c C⟩ hs,by simpa using I.len⟩ ⟨c,hs,.inr C⟩
  ·exact(hs.2 b (zq (zH (zm e) (I.ok.cab x c R C)))).trans (I.base.keep b o e n P hx)
  ·obtain⟨sl,f⟩:=I.base.slot b o e n P hx;exact⟨sl,(hs.2 b (zq (zH (zm e) (I.ok.cab x c R C)))).trans f⟩
  ·obtain⟨o',f⟩:=I.base.there b o e hx;exact⟨o',(hs.2 b (zq (zH (zm e) (I.ok.cab x c R C)))).trans f⟩
  ·by_cases O:j=i
   ·subst O;rw[U] at f;cases f;rw[zS L] at G;cases G;exact⟨u,r,.inr ⟨.inl J,c,C,Z⟩⟩
   ·rw[zh (Ne.symm O)] at G;obtain⟨u',r',q⟩:=hl j y v' f G e3;refine⟨u',r',?_⟩
    rcases q with q | ⟨k,c',e,z'⟩
    ·exact .inl q
    ·refine .inr ⟨k,c',e,z'.sameBut hs ?_⟩;rintro rfl;exact O (CN hN f (I.ok.inj _ _ _ e C ▸ U))
  ·by_cases Y:c'=c
   ·subst Y;exact⟨_,Z⟩
   ·obtain⟨w2,z2⟩:=I.cell y c' e;exact⟨w2,z2.sameBut hs Y⟩
  ·obtain⟨e,n,ne,nf,d⟩:=I.pin p hp;refine⟨(hs.2 p.1 ?_).trans e,n,ne,nf,d⟩;intro q;rw[q,W] at e;have q':oc=p.2:=zC e;exact d w' (by rw[<-q'];exact hocd)
def vZ         (I:Inv X j σ H s)(hN:X.N.Nodup)(d:X.N[i]?=some x)(hx:Loc X.env.scope x)(r:RelV v u)
  (h:∀b,Inv X j (σ.set i (some v)) H b->Q () b) (f:X.fn x=true\/X.env.scope.names.lookup x=some .local:=by first | exact .inl rfl | exact .inr rfl | assumption):wpAny M A (storeName X.env x u) Q E s :=
 Pz I hN d hx r λb I' _=>h b I'
def Inv.call'   (I:Inv X y σ H s)(j:C.os=s.os)(u:Un (frs X.stack) ch H E s.heap C.heap)(hok:HOk X.prog X.w E C.heap)(m:AllBare C.gens)
  (d:∀b∈ch,(b∈X.ex\/X.s₀.heap.objs.size<=b)/\b≠X.env.locals/\(∀x c,X.env.cells.lookup x=some c->c≠b)/\∀p∈X.pn++y,p.1≠b):Inv X y σ E C:=by
 obtain⟨q,g',d',t',f⟩:=C;have e:f=s.os:=j;subst e;exact I.call (g':=g') (t':=t') (d':=d') u hok m d
abbrev XK:=Value->Option Addr->Hp->Prop
abbrev St:=List (Option V)
abbrev VK:=V->Hp->Prop
abbrev TE:=St->Hp->VK->Prop
abbrev TT:=St->Hp->(Bool->Hp->Prop)->Prop
abbrev TA:=St->Hp->(List V->Hp->Prop)->Prop
structure Ends where
 nx:St->Hp->Prop
 rt:VK
 bk:St->Hp->Prop:=λ_ _=>False
 ct:St->Hp->Prop:=λ_ _=>False
abbrev TS:=Ends->St->Hp->Prop
inductive EP (X:Cx) (pins:List (Addr×Obj)) (σ:St) (Q:VK) (u:Value) (s':Shared):Prop
 | mk:∀v H',Inv X pins σ H' s'->RelV v u->Q v H'->EP X pins σ Q u s'
def TP(X:Cx)(pins:List (Addr×Obj))(σ:St)(Q:Bool->Hp->Prop)(b:Bool)(f:Shared):Prop:=∃d,Inv X pins σ d f/\Q b d
inductive AP (X:Cx) (pins:List (Addr×Obj)) (σ:St) (Q:List V->Hp->Prop) (us:List Value) (s':Shared):Prop
 | mk:∀vs H',Inv X pins σ H' s'->aH vs us->Q vs H'->AP X pins σ Q us s'
def SP(X:Cx)(pins:List (Addr×Obj))(D:Ends)(f:Flow)(j:Shared):Prop :=
 match f with
 | .next=>∃b d,Inv X pins b d j/\D.nx b d
 | .brk=>∃b d,Inv X pins b d j/\D.bk b d
 | .cont=>∃b d,Inv X pins b d j/\D.ct b d
 | .ret u=>∃v b d,Inv X pins b d j/\RelV v u/\D.rt v d
def PE(X:Cx)(e:Expr)(t:TE):Prop :=
 ∀(pins:List (Addr×Obj)) (s:Shared) (σ:St) (H:Hp) (Q:VK),Inv X pins σ H s->t σ H Q->wpAny (model X.prog X.w) X.A (eval e X.env) (EP X pins σ Q) X.xe s
def PT(X:Cx)(e:Expr)(t:TT):Prop :=
 ∀(pins:List (Addr×Obj)) (s:Shared) (σ:St) (H:Hp) (Q:Bool->Hp->Prop),Inv X pins σ H s->t σ H Q->wpAny (model X.prog X.w) X.A (isTrue e X.env (eval e X.env)) (TP X pins σ Q) X.xe s
def PW(X:Cx)(e:Expr)(t:TT):Prop :=
 ∀(whole:Sem Value) (pins:List (Addr×Obj)) (s:Shared) (σ:St) (H:Hp) (Q:Bool->Hp->Prop),Inv X pins σ H s->t σ H Q->wpAny (model X.prog X.w) X.A (isTrue e X.env whole) (TP X pins σ Q) X.xe s
def PW.pt    (h:PW X e t):PT X e t:=h _
def PA(X:Cx)(es:List Expr)(t:TA):Prop :=
 ∀(b:Pos) (pins:List (Addr×Obj)) (s:Shared) (σ:St) (H:Hp) (Q:List V->Hp->Prop),Inv X pins σ H s->t σ H Q->wpAny (model X.prog X.w) X.A (spliced (backTo b (starEach es X.env))) (AP X pins σ Q) X.xe s
def PS(X:Cx)(st:Stmt)(t:TS):Prop :=
 ∀(pins:List (Addr×Obj)) (s:Shared) (σ:St) (H:Hp) (D:Ends),Inv X pins σ H s->t D σ H->wpAny (model X.prog X.w) X.A (exec st X.env) (SP X pins D) X.xe s
def PSs(X:Cx)(st:List Stmt)(t:TS):Prop :=
 ∀(pins:List (Addr×Obj)) (s:Shared) (σ:St) (H:Hp) (D:Ends),Inv X pins σ H s->t D σ H->wpAny (model X.prog X.w) X.A (execs st X.env) (SP X pins D) X.xe s
def thn  {t:Sem α}{Q b:α->Shared->Prop}     (h:wpAny M A t Q E s)(d:∀a s,Q a s->b a s):wpAny M A t b E s:=zT h d λ_ _ x=>x
def CP(i:Nat):TE:=λσ H Q=>∃v,σ[i]?=some (some v)/\Q v H
def tC(v:V):TE:=λ_ H Q=>Q v H
def iu{X:Cx}   {f:Pos}(hN:X.N[i]?=some x)(hv:Vis X.env.scope x)(hd:(x == ("__debug__":Str))=false:=by decide)(j:(x == ("__classdict__":Str))=false:=by decide):PE X (.Name x f) (CP i):=by
 intro pins s σ H Q I h;obtain⟨v,e,h⟩:=h;obtain⟨m,y,E⟩:=I.loc;obtain⟨u,r,l⟩:=E i x v hN e hv;have fin:EP X _ σ Q u s:=⟨v,H,I,r,h⟩
 rcases l with⟨d,C⟩ | ⟨d,c,q,b⟩
 ·exact wpAny_Name (wpAny_loadName_local I.ok.kind d y C fin) hd
 ·rcases d with d | d
  ·exact wpAny_Name (wpAny_loadName_cell I.ok.kind d q b fin) hd
  ·exact wpAny_Name (wpAny_loadName_free I.ok.kind d q b fin j) hd
def PB :PE X (.Constant (.int i) j b) (tC (.int i)):=λ_ _ _ H _ I h=>wpAny_Constant_int ⟨.int i,H,I.tok _,⟨_,rfl⟩,h⟩
def PJ :PE X (.Constant (.bool b) j d) (tC (.bl b)):=λ_ _ _ H _ I h=>Constant_bool ⟨.bl b,H,I,rfl,h⟩
def PK :PE X (.Constant .none j b) (tC .non):=λ_ _ _ H _ I h=>Constant_none ⟨.non,H,I,rfl,h⟩
def CQ :PE X (.Constant (.str x) j b) (tC (.str x)):=λ_ _ _ H _ I h=>Calls.Constant_str ⟨.str x,H,I.tok _,⟨_,rfl⟩,h⟩
def Gl(X:Cx)(x:Str):Prop:=X.env.kindOf x=some .globalImplicit
def pQ    {σ:St}      (I:Inv X f σ H s)(d:Gl X x)(b:X.mg x=some u)(h:Q u s)
  (hd:(x == ("__debug__":Str))=false:=by decide):wpAny (model X.prog X.w) X.A (eval (.Name x pos) X.env) Q E s :=
 Calls.Name_function_global I.ok.kind d (Calls.loadGlobal_global (by rw[I.ok.glob];exact I.mod.glob.keeps I.bk) b h) hd
def j5{E:Value->Shared->Prop}   {σ:St}    {b:Pos}  (I:Inv X m σ H s)(j:Gl X x)(f:X.mg x=none)(hv:bootBuiltins x=some u)(h:Q u s)
  (d:x≠"__name__":=by decide) (hd:(x == ("__debug__":Str))=false:=by decide):wpAny (model X.prog X.w) X.A (eval (.Name x b) X.env) Q E s:=by
 obtain⟨mb,h1,h2⟩:=I.mod.blt;exact Calls.Name_function_global I.ok.kind j (Calls.loadGlobal_builtin (by rw[I.ok.glob];exact I.mod.glob.keeps I.bk) f (by rw[I.ok.blt];exact h1.keeps I.bk) ((h2 x d).trans hv) h) hd
def PL     (d:Gl X x)(b:X.mg x=some u)(r:RelV v u)(hd:(x == ("__debug__":Str))=false:=by decide):PE X (.Name x pos) (tC v):=
 λ_ _ _ H _ I h=>pQ I d b ⟨v,H,I,r,h⟩ hd
def PN    {b:Pos}(j:Gl X x)(f:X.mg x=none)(hv:bootBuiltins x=some u)(r:RelV v u)(d:x≠"__name__":=by decide)(hd:(x == ("__debug__":Str))=false:=by decide):PE X (.Name x b) (tC v):=
 λ_ _ _ H _ I h=>j5 I j f hv ⟨v,H,I,r,h⟩ d hd
def PC(X:Cx)(op:CmpOp)(a b:Expr)(t:TE):Prop :=
 ∀(pins:List (Addr×Obj)) (s:Shared) (σ:St) (H:Hp) (Q:VK),Inv X pins σ H s->t σ H Q ->
  wpAny (model X.prog X.w) X.A (eval a X.env) (λv f=>wpAny (model X.prog X.w) X.A (eval b X.env) (λu d=>wpAny (model X.prog X.w) X.A (compareOp op v u) (EP X pins σ Q) X.xe d) X.xe f) X.xe s
def PP(b:Expr)  (h:op≠.In)(h2:op≠.NotIn):behindInMarks op b=false:=by
 have f:(op == CmpOp.In)=false:=by cases op<;>first | rfl | exact absurd rfl h
 have d:(op == CmpOp.NotIn)=false:=by cases op<;>first | rfl | exact absurd rfl h2
 cases b<;>simp[behindInMarks,f,d]
def CT(b:TE):TE:=λσ H Q=>b σ H λx d=>Q (.bl (decide (x=.non))) d
def CV(b:TE):TE:=λσ H Q=>b σ H λx d=>Q (.bl (!decide (x=.non))) d
def RelV.none_iff   (r:RelV x v):(v == Value.none)=decide (x=.non):=by
 cases x with
 |non=>cases r;rfl
 |bl _=>cases r;rfl
 |int _=>obtain⟨t,rfl⟩:=r;rfl
 |str _=>obtain⟨t,rfl⟩:=r;rfl
 |byt _=>obtain⟨t,rfl⟩:=r;rfl
 |flt _=>obtain⟨t,rfl⟩:=r;rfl
 |ref _=>cases r;rfl
 |ty _=>cases r;rfl
def PQ  (b:PE X a f):PC X .Is a (.Constant .none j d) (CT f):=by
 intro pins s σ H Q I h
 refine thn (b _ s σ H _ I h) λv s1 ⟨x,H1,I1,r1,q1⟩=>?_
 exact Constant_none (is_none_gen ⟨.bl _,H1,I1,by rw[r1.none_iff];rfl,q1⟩)
def PX  (b:PE X a f):PC X .IsNot a (.Constant .none j d) (CV f):=by
 intro pins s σ H Q I h
 refine thn (b _ s σ H _ I h) λv s1 ⟨x,H1,I1,r1,q1⟩=>?_
 exact Constant_none (isnot_none_gen ⟨.bl _,H1,I1,by rw[r1.none_iff];rfl,q1⟩)
def tB(t:TE):TT:=λσ H Q=>t σ H λx b=>∃c,x=.bl c/\Q c b
def v7   (h:PC X op a b t)(h1:behindInMarks op b=false:=by first | exact PP _ (by decide) (by decide) | rfl):PT X (.Compare a [op] [b] pos) (tB t):=by
 intro pins s σ H Q I f;refine wpAny_isTrue_Compare1 (thn (h _ s σ H _ I f) λv m h1=>thn h1 λu j h2=>thn h2 λc s3 ⟨x,H1,I1,r1,q1⟩=>?_) h1;obtain⟨d,rfl,q⟩:=q1;cases r1;exact wpAny_truthy_bool ⟨H1,I1,q⟩
def CW(t u:TT):TT:=λσ H Q=>t σ H λc b=>if c=true then u σ b Q else Q false b
def tOr(t u:TT):TT:=λσ H Q=>t σ H λc b=>if c=true then Q true b else u σ b Q
def P0(t:TT):TT:=λσ H Q=>t σ H λc b=>Q (!c) b
def Qa(b:PT X a tA):PW X (.BoolOp .And [a] pos) tA:=by
 intro d pins s σ H Q I h;refine isTrue_and (thn (b _ s σ H Q I h) λc f e=>?_)
 cases c with
 |true=>exact isTrue_and_nil e
 |false=>exact e
def Qc(b:PT X a tA):PW X (.BoolOp .Or [a] pos) tA:=by
 intro d pins s σ H Q I h;refine isTrue_or (thn (b _ s σ H Q I h) λc f e=>?_)
 cases c with
 |false=>exact isTrue_or_nil e
 |true=>exact e
def Qd{rest:List Expr}(f:PT X a tA)(hb:PW X (.BoolOp .And (b::rest) pos) tB'):PW X (.BoolOp .And (a::b::rest) pos) (CW tA tB'):=by
 intro d pins s σ H Q I h;refine isTrue_and (thn (f _ s σ H _ I h) λc s1 ⟨H1,I1,q1⟩=>?_)
 cases c with
 |true=>exact hb d _ s1 σ H1 Q I1 q1
 |false=>exact⟨H1,I1,q1⟩
def Qe{rest:List Expr}(f:PT X a tA)(hb:PW X (.BoolOp .Or (b::rest) pos) tB'):PW X (.BoolOp .Or (a::b::rest) pos) (tOr tA tB'):=by
 intro d pins s σ H Q I h;refine isTrue_or (thn (f _ s σ H _ I h) λc s1 ⟨H1,I1,q1⟩=>?_)
 cases c with
 |true=>exact⟨H1,I1,q1⟩
 |false=>exact hb d _ s1 σ H1 Q I1 q1
def Qf(b:PT X a d):PT X (.UnaryOp .Not a f) (P0 d):=by
 intro pins s σ H Q I h;exact isTrue_not (b _ s σ H _ I h)
def Qg(f d:TE):TE:=λσ H Q=>f σ H λx b=>∃c,x=.bl c/\if c=true then d σ b Q else Q (.bl false) b
def Qh(b:TE):TE:=λσ H Q=>b σ H λx d=>∃c,x=.bl c/\Q (.bl (!c)) d
def Qi   (h:PE X a t):PE X (.BoolOp op [a] d) t:=λpins s σ H Q I b=>BoolOp_one (h _ s σ H Q I b)
def Qj{rest:List Expr}(f:PE X a ta)(hb:PE X (.BoolOp .And (b::rest) pos) tb):PE X (.BoolOp .And (a::b::rest) pos) (Qg ta tb):=by
 intro pins s σ H Q I h;refine BoolOp_and (thn (f _ s σ H _ I h) λv s1 ⟨x,H1,I1,r1,d⟩=>?_);obtain⟨c,rfl,d⟩:=d;cases r1;refine wpAny_truthy_bool ?_
 cases c with
 |true=>exact hb _ s1 σ H1 Q I1 d
 |false=>exact⟨.bl _,H1,I1,rfl,d⟩
def Qk(d:PE X a f):PE X (.UnaryOp .Not a j) (Qh f):=by
 intro pins s σ H Q I h;refine UnaryOp_ (thn (d _ s σ H _ I h) λv s1 ⟨x,H1,I1,r1,b⟩=>?_);obtain⟨c,rfl,b⟩:=b;cases r1;exact not_of (wpAny_truthy_bool ⟨.bl _,H1,I1,rfl,b⟩)
def tIf(t:TT)(f d:TE):TE:=λσ H Q=>t σ H λc b=>if c=true then f σ b Q else d σ b Q
def Ql  (f:PT X c tA)(j:PE X a ta)(hb:PE X b tb):PE X (.IfExp c a b pos) (tIf tA ta tb):=by
 intro pins s σ H Q I h;refine wpAny_IfExp (thn (f _ s σ H _ I h) λd s1 ⟨H1,I1,q1⟩=>?_)
 cases d with
 |true=>exact j _ s1 σ H1 Q I1 q1
 |false=>exact hb _ s1 σ H1 Q I1 q1
def SqL(K:PySem.W.Frag)(H:Hp)(a:Addr)(xs:List V):Prop :=
 Rd H a (.lst xs) \/
  ∃(o:Obj) (b:Array Value) (n:Nat),K.lookup a=some o/\o.cls=.type "list"/\o.dict=none/\o.data=.seq b n/\b.size<=sizeLine/\aH xs b.toList
def SqT(K:PySem.W.Frag)(H:Hp)(a:Addr)(xs:List V):Prop :=
 Rd H a (.tup xs) \/
  ∃(o:Obj) (b:Array Value) (n:Nat),K.lookup a=some o/\o.cls=.type "tuple"/\o.data=.seq b n/\b.size<=sizeLine/\aH xs b.toList
def Qm:Value->Option V
 | .none=>some .non
 | .bool b=>some (.bl b)
 | .int i _=>some (.int i)
 | .str x _=>some (.str x)
 | .bytes b _=>some (.byt b)
 | .float b _=>some (.flt b)
 | .ref a=>some (.ref a)
 | .type n=>some (.ty n)
 | _=>none
def RelV.abs   (r:RelV x u):Qm u=some x:=by
 cases x with
 |non=>cases r;rfl
 |bl _=>cases r;rfl
 |int _=>obtain⟨t,rfl⟩:=r;rfl
 |str _=>obtain⟨t,rfl⟩:=r;rfl
 |byt _=>obtain⟨t,rfl⟩:=r;rfl
 |flt _=>obtain⟨t,rfl⟩:=r;rfl
 |ref _=>cases r;rfl
 |ty _=>cases r;rfl
def RelV.inj{x y:V}{u:Value}(r:RelV x u)(q:RelV y u):x=y:=zC (r.abs.symm.trans q.abs)
theorem aH.inj:∀{xs ys:List V}{us:List Value},aH xs us->aH ys us->xs=ys
 | _,_,_,.nil,.nil=>rfl
 | _,_,_,.cons r t,.cons r' t'=>by rw[r.inj r',aH.inj t t']
def Inv.list{σ:St}(I:Inv X m σ H s)(h:SqL X.K H a xs):∃b:List Value,aH xs b/\PlainL s.heap a b.toArray/\xs.length<=sizeLine:=by
 rcases h with h | ⟨o,b,n,d,f,hd,hs,j,r⟩
 ·obtain⟨z,b,n,r,e⟩:=h.ok I.hok;exact⟨b,r,⟨_,n,e,rfl,rfl,rfl⟩,z⟩
 ·refine⟨b.toList,r,⟨o,n,I.kIn a o d,f,hd,by simpa using hs⟩,?_⟩;have e:=r.length;simp only[Array.length_toList] at e;omega
def Inv.tuple{σ:St}(I:Inv X m σ H s)(h:SqT X.K H a xs):∃b:List Value,aH xs b/\IsTup s.heap a b.toArray/\xs.length<=sizeLine:=by
 rcases h with h | ⟨o,b,n,d,f,hs,j,r⟩
 ·obtain⟨z,b,r,p⟩:=h.ok I.hok;exact⟨b,r,p,z⟩
 ·refine⟨b.toList,r,⟨o,I.kIn a o d,f,n,by simpa using hs⟩,?_⟩;have e:=r.length;simp only[Array.length_toList] at e;omega
def Inv.list_inj{σ:St}(I:Inv X C σ H s)(h:SqL X.K H a xs)(h':SqL X.K H a ys):xs=ys:=by
 obtain⟨f,r,⟨o,n,e,_,_,d⟩,_⟩:=I.list h;obtain⟨b,q,⟨x,y,j,_,_,m⟩,_⟩:=I.list h';rw[e] at j;cases j;rw[d] at m
 injection m with u _
 have:f=b:=by simpa using congrArg Array.toList u
 subst this;exact r.inj q
def Inv.tuple_inj{σ:St}(I:Inv X C σ H s)(h:SqT X.K H a xs)(h':SqT X.K H a ys):xs=ys:=by
 obtain⟨f,r,⟨o,e,_,n,d⟩,_⟩:=I.tuple h;obtain⟨b,q,⟨x,j,_,y,m⟩,_⟩:=I.tuple h';rw[e] at j;cases j;rw[d] at m
 injection m with u _
 have:f=b:=by simpa using congrArg Array.toList u
 subst this;exact r.inj q
abbrev Cx.wish(X:Cx)(E:Value->Shared->Prop):Cx:={X with xe:=E}
abbrev Cx.nox(X:Cx):Cx:=X.wish λ_ _=>False
def Cx.Ok.wish{X:Cx}(ok:X.Ok)(E:Value->Shared->Prop):(X.wish E).Ok :=
 ⟨ok.mod,ok.kind,ok.glob,ok.blt,ok.above,ok.inj,ok.has,ok.cab,ok.hd,ok.frames,ok.stk,ok.exf,ok.bs,ok.bsz,ok.noex,ok.exfs,ok.funs,ok.frf⟩
def Cx.Ok.unwish{X:Cx}  (ok:(X.wish E).Ok):X.Ok :=
 ⟨ok.mod,ok.kind,ok.glob,ok.blt,ok.above,ok.inj,ok.has,ok.cab,ok.hd,ok.frames,ok.stk,ok.exf,ok.bs,ok.bsz,ok.noex,ok.exfs,ok.funs,ok.frf⟩
def Inv.wish{σ:St}(I:Inv X b σ H s)(E:Value->Shared->Prop):Inv (X.wish E) b σ H s:=⟨I.ok.wish E,I.os,I.bare,I.base,I.loc,I.cell,I.free,I.freeC,I.pin,I.hok,I.len⟩
def Inv.unwish{σ:St}(I:Inv (X.wish E) b σ H s):Inv X b σ H s:=⟨I.ok.unwish,I.os,I.bare,I.base,I.loc,I.cell,I.free,I.freeC,I.pin,I.hok,I.len⟩
def SP.unwish    (h:SP (X.wish E) pins D f s'):SP X pins D f s':=by
 cases f with
 |next=>obtain⟨b,d,I,q⟩:=h;exact⟨b,d,I.unwish,q⟩
 |brk=>obtain⟨b,d,I,q⟩:=h;exact⟨b,d,I.unwish,q⟩
 |cont=>obtain⟨b,d,I,q⟩:=h;exact⟨b,d,I.unwish,q⟩
 |ret u=>obtain⟨v,b,d,I,r,q⟩:=h;exact⟨v,b,d,I.unwish,r,q⟩
def PSs.nox{st:List Stmt}  (h:PSs X.nox st t):PSs X st t:=λpins s σ H D I hw =>
 zT (h pins s σ H D (I.wish _) hw) (λ_ _ q=>q.unwish) λ_ _ z=>False.elim z
section
variable {X:Cx}{st:Stmt}{rest:List Stmt}{t u:TS}{e:Expr}{te:TE}{pos:Pos}
def Qn:TS:=λD σ H=>D.nx σ H
def Qo(t u:TS):TS:=λD σ H=>t {D with nx:=u D} σ H
def Qp:PSs X [] Qn:=λ_ _ σ H _ I h=>wpAny_execs_nil ⟨σ,H,I,h⟩
def Qq{st:Stmt}{rest:List Stmt}(h1:PS X st t)(h2:PSs X rest u):PSs X (st::rest) (Qo t u):=by
 intro pins s σ H D I h;refine wpAny_execs_cons (thn (h1 _ s σ H _ I h) λf b q=>?_)
 cases f with
 |next =>
  obtain⟨m,j,d,q⟩:=q;exact h2 _ b _ j D d q
 | ret v
 | brk
 |cont=>exact q
def Qs{st:Stmt}(h1:PS X st t):PSs X [st] t:=by
 intro pins s σ H D I h;refine wpAny_execs_cons (thn (h1 _ s σ H D I h) λf b q=>?_)
 cases f with
 |next=>exact wpAny_execs_nil q
 | ret v
 | brk
 |cont=>exact q
def Qt:TS:=λD σ H=>D.bk σ H
def Qu:PS X (.Break pos) Qt:=λ_ _ σ H _ I h=>wpAny_Break ⟨σ,H,I,h⟩
def Inv.quiet  {σ:St}   (I:Inv X b σ H s):interactive X.env=false:=by simp[interactive,I.ok.kind]
def Qv(te:TE):TS:=λD σ H=>te σ H λ_ b=>D.nx σ b
def j6(b:PE X e te)(hs:swapsWith e none pos.line X.env=pure false:=by rfl):PS X (.Expr e pos) (Qv te):=by
 intro pins s σ H D I h;exact wpAny_Expr_any (thn (b _ s σ H _ I h) λv s1 ⟨x,H1,I1,r1,q1⟩=>⟨σ,H1,I1,q1⟩) I.quiet hs
def Qw(te:TE):TS:=λD σ H=>te σ H D.rt
def CZ(b:PE X e te):PS X (.Return (some e) pos) (Qw te):=by
 intro pins s σ H D I h;exact wpAny_Return_some (thn (b _ s σ H _ I h) λv s1 ⟨x,H1,I1,r1,q1⟩=>⟨x,σ,H1,I1,r1,q1⟩)
def Qx(c:TT)(t u:TS):TS:=λD σ H=>c σ H λb d=>if b=true then t D σ d else u D σ d
def Qy    (f:PT X c tc)(j:PSs X a t)(hb:PSs X b u):PS X (.If c a b pos) (Qx tc t u):=by
 intro pins s σ H D I h;refine wpAny_If (thn (f _ s σ H _ I h) λd s1 ⟨H1,I1,q1⟩=>?_)
 cases d with
 |true=>exact j _ s1 σ H1 D I1 q1
 |false=>exact hb _ s1 σ H1 D I1 q1
def Qz:TS:=λ_ _ _=>False
def QB{st:Stmt}:PS X st Qz:=λ_ _ _ _ _ _ h=>h.elim
end
abbrev TG:=V->St->Hp->(St->Hp->Prop)->Prop
abbrev TGs:=List V->St->Hp->(St->Hp->Prop)->Prop
def PG(X:Cx)(target:Expr)(t:TG):Prop :=
 ∀(pins:List (Addr×Obj)) (s:Shared) (σ:St) (H:Hp) (v:V) (u:Value) (Q:St->Hp->Prop),Inv X pins σ H s->RelV v u->t v σ H Q ->
  wpAny (model X.prog X.w) X.A (assign target X.env u) (λ_ f=>∃b d,Inv X pins b d f/\Q b d) X.xe s
def PGs(X:Cx)(ts:List Expr)(t:TGs):Prop :=
 ∀(pins:List (Addr×Obj)) (s:Shared) (σ:St) (H:Hp) (d:List V) (f:List Value) (Q:St->Hp->Prop),Inv X pins σ H s->aH d f->t d σ H Q ->
  wpAny (model X.prog X.w) X.A (assignInOrder ((assignEach ts X.env).map (·.2)) f) (λ_ m=>∃b j,Inv X pins b j m/\Q b j) X.xe s
abbrev Dc:=V->V->V->Hp->(Hp->Prop)->Prop
def Dd(X:Cx)(t:Dc):Prop :=
 ∀(pins:List (Addr×Obj)) (s:Shared) (σ:St) (H:Hp) (o i v:V) (b d u:Value) (Q:Hp->Prop),Inv X pins σ H s->RelV o b->RelV i d->RelV v u->t o i v H Q ->
  wpAny (model X.prog X.w) X.A (setItem b d u) (λ_ j=>∃f,Inv X pins σ f j/\Q f) X.xe s
def pR(i:Nat):TG:=λv σ H Q=>Q (σ.set i (some v)) H
def QC   (hN:X.N.Nodup)(b:X.N[i]?=some x)(hx:Loc X.env.scope x)(j:X.fn x=true\/X.env.scope.names.lookup x=some .local:=by first | exact .inl rfl | exact .inr rfl | assumption):PG X (.Name x pos) (pR i):=by
 intro pins s σ H v u Q I r h;exact wpAny_assign_Name (vZ I hN b hx r λf d=>⟨_,H,d,h⟩)
def QD:TGs:=λb σ H Q=>b=[]/\Q σ H
def QF(t:TG)(u:TGs):TGs:=λd σ H Q=>∃v r,d=v::r/\t v σ H λb f=>u r b f Q
def QG:PGs X [] QD:=by
 intro pins s σ H b d Q I r h;obtain⟨e,h⟩:=h;exact assignInOrder_nil ⟨σ,H,I,h⟩
def QH     (h1:PG X e t)(h2:PGs X es u)
  (hs:(assignEach (e::es) X.env).map (·.2)=assign e X.env::(assignEach es X.env).map (·.2):=by rfl):PGs X (e::es) (QF t u):=by
 intro pins s σ H d j Q I r h;obtain⟨v,f,b,h⟩:=h;subst b
 cases r with
 |cons r rr =>
  rw[hs];refine assignInOrder_cons (thn (h1 _ s σ H _ _ _ I r h) λ_ s1 ⟨σ1,H1,I1,q1⟩=>?_);exact h2 _ s1 _ H1 _ _ Q I1 rr q1
def QJ(K:PySem.W.Frag)(n:Nat)(t:TGs):TG:=λv σ H Q=>∃a b,v=.ref a/\SqT K H a b/\b.length=n/\t b σ H Q
def QK{f:Pos}  {k:Nat}   (F:X.calm=true)(h:PGs X es t)
  (C:(assignEach es X.env).length=n:=by rfl) (j:(assignEach es X.env).findIdx? (·.1)=none:=by rfl):PG X (.Tuple es k f) (QJ X.K n t):=by
 intro pins s σ H v u Q I r d;obtain⟨a,m,G,y,E,d⟩:=d;subst G;cases r;obtain⟨L,q,x,O⟩:=I.tuple y
 refine assign_Tuple_tuple (I.ok.hd F) x (by simp[C,<-E,q.length]) j λP hx=>?_
 have J :=I.kept (t':=s.toks) λb o e=>hx b o (zq (zm e)) e
 exact h _ _ σ H m _ Q J (by simpa ) d
def QL(to ti:TE)(t:Dc):TG:=λv σ H Q=>to σ H λo f=>ti σ f λi d=>t o i v d λb=>Q σ b
def QM    (b:PE X o to)(d:PE X i ti)(hs:Dd X t)
  (f:∀v,assign (.Subscript o i j) X.env v=(do
   let ov <-holding [v] (eval o X.env)
   let iv <-holding [v,ov] (eval i X.env)
   standAt j
   holding [v,ov,iv] (setItem ov iv v)
   release [v,ov,iv] []):=by intro _;rfl):PG X (.Subscript o i j) (QL to ti t):=by
 intro pins s σ H v u Q I r h;refine za (zP (thn (b _ s σ H _ I h) λov s1 ⟨x,H1,I1,r1,q1⟩=>?_));refine za (zP (thn (d _ s1 σ H1 _ I1 q1) λiv s2 ⟨y,H2,I2,r2,q2⟩=>?_));refine za (wpAny_standAt (za (zP (thn (hs _ s2 σ H2 x y v ov iv u _ I2 r1 r2 r q2) λ_ s3 ⟨H3,I3,q3⟩=>?_))));exact wpAny_release ⟨σ,H3,I3,q3⟩
def pU(te:TE)(g:TG):TS:=λD σ H=>te σ H λx b=>g x σ b D.nx
def De{b:Pos}    (j:PE X e te)(f:PG X u g)(hs:swapsWithSole [u] e b.line X.env=pure false:=by rfl)(d:swappedStores [u] e X.env=pure none:=by rfl)
  (h1:(assignEach [u] X.env).map (·.2)=[assign u X.env]:=by rfl):PS X (.Assign [u] e b) (pU te g):=by
 intro pins s σ H D I h;refine wpAny_Assign_stores (thn (j _ s σ H _ I h) λv s1 ⟨x,H1,I1,r1,q1⟩=>?_) hs d;rw[h1]
 exact thn (f _ s1 σ H1 x v _ I1 r1 q1) λ_ m q=>q
def Dg{b:Pos}      (hN:X.N.Nodup)(d:X.N[i]?=some x)(hx:Loc X.env.scope x)(j:PE X e te)(hs:swapsWith e (some (.Name x u)) b.line X.env=pure false:=by rfl)(f:X.fn x=true\/X.env.scope.names.lookup x=some .local:=by first | exact .inl rfl | exact .inr rfl | assumption):
  PS X (.Assign [.Name x u] e b) (pU te (pR i)):=by
 intro pins s σ H D I h;refine wpAny_Assign_Name (thn (j pins s σ H _ I h) λv s1 ⟨y,H1,I1,r1,q1⟩=>?_) hs;exact vZ I1 hN d hx r1 (λq m=>⟨_,H1,m,q1⟩) f
def Dh(c:TT)(u:TS):TS:=λD σ H=>∃W:Nat->St->Hp->Prop,(∃m,W m σ H)/\∀m σ H,W m σ H ->
 c σ H λb j=>if b=true then ∃N:St->Hp->Prop,(∀d q,N d q->∃f,f<m/\W f d q)/\u {D with nx:=N,ct:=N,bk:=D.nx} σ j else D.nx σ j
def QQ     (u:PassesOwn (model X.prog X.w) X.A X.env X.xe)(P:PT X c tc)(hb:PSs X body tb):PS X (.While c body [] pos) (Dh tc tb):=by
 intro pins s σ H D I h;obtain⟨W,⟨J,E⟩,turn⟩:=h;refine wpAny_While (codeAny_whileLoop (λn F=>∃d y,Inv X _ d y F/\W n d y) ?_ J ⟨σ,H,I,E⟩);rintro n s1 ⟨σ1,H1,I1,w1⟩;refine wpAny_passesOwn u (thn (P _ s1 _ H1 _ I1 (turn n _ H1 w1)) λb s2 ⟨H2,I2,j⟩=>?_)
 cases b with
 |true =>
  obtain⟨N,hN,j⟩:=j;refine wpAny_passesOwn u (thn (hb _ s2 _ H2 _ I2 j) λf R q=>?_)
  cases f with
  | next
  |cont =>
   obtain⟨m,x,Q,G⟩:=q;obtain⟨L,O,C⟩:=hN _ x G;exact⟨L,O,m,x,Q,C⟩
  | brk
  |ret v=>exact q
 |false =>
  exact wpAny_execs_nil ⟨σ1,H2,I2,j⟩
structure It where
 go:Nat->Hp->Prop
 yld:Nat->Hp->V->Hp->Prop
 stop:Nat->Hp->Prop
def eY(X:Cx)(pins:List (Addr×Obj))(H:Hp)(b:Addr):Prop :=
 H b=none/\b≠X.env.locals/\b∉X.fs/\(b∈X.ex\/X.s₀.heap.objs.size<=b)/\(∀x c,X.env.cells.lookup x=some c->c≠b)/\∀p∈X.pn++pins,p.1≠b
def Inv.fpOk   {σ:St}   {b:Addr}(I:Inv X j σ H s)(hb:s.heap.objs.size<=b)(f:m b=none):eY X j m b:=by
 refine⟨f,Nat.ne_of_gt (zH I.lt hb),I.nofs hb,.inr (zI I.sz hb),λx c e z=>?_,λp d z=>?_⟩
 ·obtain⟨v,q⟩:=I.cell x c e;exact absurd (zH q.lt (by rw[z];exact hb)) (zU _)
 ·exact absurd (zH (zm (I.pin p d).1) (by rw[z];exact hb)) (zU _)
structure Turn(P:Program)(w:World)(K:PySem.W.Frag)(tg:Expr)(J:It)(fp:List Addr)(it:Addr)(tn:Nat->Heap->Prop):Prop where
 mem:it∈fp
 obj:∀i h,tn i h->∀b∈fp,∃o,h.get? b=some o/\∀v,o.data≠.cell v
 keep:∀i h h',tn i h->(∀b∈fp,∀o,h.get? b=some o->h'.get? b=some o)->tn i h'
 item:∀(X:Cx),X.prog=P->X.w=w->X.K=K->X.calm=true->∀(i:Nat) (pins:List (Addr×Obj)) (s:Shared) (σ:St) (H:Hp) (E:Value->Shared->Prop),Inv X pins σ H s->(∀b∈fp,eY X pins H b)->tn i s.heap->J.go i H ->
  wpAny (model P w) X.A (pyNext (.ref it)) (λr s1=>∃u,r=some u /\
   wpAny (model P w) X.A (letOwnedTupleGo tg (.ref it) u) (λ_ s2=>∃x H',Inv X pins σ H' s2/\RelV x u/\J.yld i H x H'/\tn (i+1) s2.heap/\∀b∈fp,H' b=none) E s1) E s
 done:∀(X:Cx),X.prog=P->X.w=w->X.K=K->X.calm=true->∀(i:Nat) (pins:List (Addr×Obj)) (s:Shared) (σ:St) (H:Hp) (E:Value->Shared->Prop),Inv X pins σ H s->(∀b∈fp,eY X pins H b)->tn i s.heap->J.stop i H ->
  wpAny (model P w) X.A (pyNext (.ref it)) (λr s1=>r=none/\Inv X pins σ H s1) E s
 self:∀(A:Around) (i:Nat) (s:Shared) (Q:Value->Shared->Prop) (E:Value->Shared->Prop),tn i s.heap->Q (.ref it) s->wpAny (model P w) A (pyIter (.ref it)) Q E s
abbrev TI:=St->Hp->(It->Hp->Prop)->Prop
def PIE(X:Cx)(pins:List (Addr×Obj))(σ:St)(q:Expr)(R:It->Hp->Prop)(f:Value)(m:Shared):Prop :=
 ∃(it:Addr) (fp:List Addr) (j:Nat->Heap->Prop) (J:It) (d:Hp),f=.ref it/\Inv X pins σ d m/\Turn X.prog X.w X.K q J fp it j/\j 0 m.heap/\(∀b∈fp,eY X pins d b)/\R J d
def PI(X:Cx)(d iter:Expr)(b:TI):Prop :=
 ∀(pins:List (Addr×Obj)) (s:Shared) (σ:St) (H:Hp) (R:It->Hp->Prop),Inv X pins σ H s->b σ H R ->
  wpAny (model X.prog X.w) X.A (eval iter X.env) (λv f=>wpAny (model X.prog X.w) X.A (pyIter v) (PIE X pins σ d R) X.xe f) X.xe s
def nJ            (d:s.heap.get? it=some o)(j:o.cls=.type n)(hd:o.data=.fields vs)
  (f:["enumerate","zip","dict_itemiterator","dict_reverseitemiterator","odict_iterator","itertools.zip_longest","itertools.pairwise"].contains n=false) (b:Q () s):wpAny M A (letOwnedTupleGo m (.ref it) u) Q E s:=by
 unfold letOwnedTupleGo
 cases m<;>first
  | exact zb b
  | (cases u<;>first
    | exact zb b
    | (refine za (wpAny_load d ?_)
       rw[j,hd];show wpAny M A (if(["enumerate","zip","dict_itemiterator","dict_reverseitemiterator","odict_iterator","itertools.zip_longest","itertools.pairwise"].contains n&&vs[0]? == some (rawInt _))=true then _ else _) Q E s;rw[if_neg (by intro h;rw[f,Bool.false_and] at h;cases h)]
       exact zb b))
noncomputable def Itl(K:PySem.W.Frag)(a:Addr):It :=
 ⟨λi H=>∃b x,SqL K H a b/\b[i]?=some x,λi H x d=>d=H/\∀b,SqL K H a b->b[i]?=some x,λi H=>∃b,SqL K H a b/\b.length<=i⟩
noncomputable def Itt(K:PySem.W.Frag)(a:Addr):It :=
 ⟨λi H=>∃b x,SqT K H a b/\b[i]?=some x,λi H x d=>d=H/\∀b,SqT K H a b->b[i]?=some x,λi H=>∃b,SqT K H a b/\b.length<=i⟩
noncomputable def Itr(lo:Int)(n:Nat):It:=⟨λi _=>i<n,λi H x b=>b=H/\x=.int (lo+i),λi _=>n<=i⟩
def QR   {K:PySem.W.Frag}  (a it:Addr):Turn P w K tg (Itl K a) [it] it (λi h=>h.IsListIter it a i) where
 mem:=by simp
 obj:=λi h st b hb=>by
  have e:b=it:=by simpa using hb
  subst e;obtain⟨o,e,c,d⟩:=st;exact⟨o,e,λv z=>by rw[d] at z;cases z⟩
 keep:=λi h h' st k=>st.at λo e=>k it (by simp) o e
 item:=by
  intro X hP hw hK hc i pins s σ H E I hf st hg;subst hP hw hK;obtain⟨xs,x,hq,hx⟩:=hg;obtain⟨its,rv,p,hz⟩:=I.list hq;obtain⟨u,hu,ru⟩:=rv.get hx;obtain⟨f0,f1,f2,f3,f4,f5⟩:=hf it (by simp)
  refine wpAny_pyNext_list_item st p.isList (x:=u) (by simpa using hu) λh' st' sb=>?_
  have I1:Inv X pins σ H {s with heap:=h'}:=I.turned (t':=s.toks) (λb o hb e=>(sb.2 b hb).trans e) f0 f1 f3 f4 f5;obtain⟨o,e,c,d⟩:=id st';exact⟨u,rfl,nJ (s:={s with heap:=h'}) e c d (by decide) ⟨x,H,I1,ru,⟨rfl,λys hy=>by rw[I.list_inj hy hq];exact hx⟩,st',λb hb=>(hf b hb).1⟩⟩
 done:=by
  intro X hP hw hK hc i pins s σ H E I hf st hg;subst hP hw hK;obtain⟨xs,hq,hx⟩:=hg;obtain⟨its,rv,p,hz⟩:=I.list hq;obtain⟨f0,f1,f2,f3,f4,f5⟩:=hf it (by simp);have hl:=rv.length
  exact wpAny_pyNext_list_end (I.ok.hd hc) st p.isList (by simp;omega) λh' eb=>⟨rfl,I.turned (t':=s.toks) (λb o hb e=>eb b o hb e) f0 f1 f3 f4 f5⟩
 self:=λ_ _ _ _ _ st h=>wpAny_pyIter_listiter st h
def QS   {K:PySem.W.Frag}  (a it:Addr):Turn P w K tg (Itt K a) [it] it (λi h=>h.IsTupleIter it a i) where
 mem:=by simp
 obj:=λi h st b hb=>by
  have e:b=it:=by simpa using hb
  subst e;obtain⟨o,e,c,d⟩:=st;exact⟨o,e,λv z=>by rw[d] at z;cases z⟩
 keep:=λi h h' st k=>st.at λo e=>k it (by simp) o e
 item:=by
  intro X hP hw hK hc i pins s σ H E I hf st hg;subst hP hw hK;obtain⟨xs,x,hq,hx⟩:=hg;obtain⟨its,rv,p,hz⟩:=I.tuple hq;obtain⟨u,hu,ru⟩:=rv.get hx;obtain⟨f0,f1,f2,f3,f4,f5⟩:=hf it (by simp)
  refine wpAny_pyNext_tuple_item st (show s.heap.IsTuple a its.toArray from p) (x:=u) (by simpa using hu) λh' st' sb=>?_
  have I1:Inv X pins σ H {s with heap:=h'}:=I.turned (t':=s.toks) (λb o hb e=>(sb.2 b hb).trans e) f0 f1 f3 f4 f5;obtain⟨o,e,c,d⟩:=id st';exact⟨u,rfl,nJ (s:={s with heap:=h'}) e c d (by decide) ⟨x,H,I1,ru,⟨rfl,λys hy=>by rw[I.tuple_inj hy hq];exact hx⟩,st',λb hb=>(hf b hb).1⟩⟩
 done:=by
  intro X hP hw hK hc i pins s σ H E I hf st hg;subst hP hw hK;obtain⟨xs,hq,hx⟩:=hg;obtain⟨its,rv,p,hz⟩:=I.tuple hq;obtain⟨f0,f1,f2,f3,f4,f5⟩:=hf it (by simp);have hl:=rv.length
  exact wpAny_pyNext_tuple_end (I.ok.hd hc) st (show s.heap.IsTuple a its.toArray from p) (by simp;omega) λh' eb=>⟨rfl,I.turned (t':=s.toks) (λb o hb e=>eb b o hb e) f0 f1 f3 f4 f5⟩
 self:=λ_ _ _ _ _ st h=>wpAny_pyIter_tupleiter st h
def QT   {K:PySem.W.Frag}  (it:Addr)(lo:Int)(n:Nat):Turn P w K tg (Itr lo n) [it] it (λi h=>IsRangeIter h it (lo+(i:Nat) * 1) ((n:Int) - (i:Nat)) 1) where
 mem:=by simp
 obj:=λi h st b hb=>by
  have e:b=it:=by simpa using hb
  subst e
  exact⟨_,st,λv z=>by
   have z':Data.fields _=Data.cell v:=z
   cases z'⟩
 keep:=λi h h' st k=>k it (by simp) _ st
 item:=by
  intro X hP hw hK hc i pins s σ H E I hf st hg;subst hP hw hK;obtain⟨f0,f1,f2,f3,f4,f5⟩:=hf it (by simp);have W:=Walks.range (prog:=X.prog) (w:=X.w) (I.ok.hd hc) it lo 1 n
  refine W.item i s _ _ hg st λv h' tk hv st' kk=>?_
  obtain⟨t,rfl⟩:=hv;have I1:Inv X pins σ H {s with heap:=h',toks:=tk}:=I.turned (λb o hb e=>kk b o (by simpa using hb) e) f0 f1 f3 f4 f5;refine⟨_,rfl,nJ (s:={s with heap:=h',toks:=tk}) (n:="range_iterator") st' rfl rfl (by decide) ⟨.int (lo+i),H,I1,⟨t,?_⟩,⟨rfl,rfl⟩,st',λb hb=>(hf b hb).1⟩⟩;rw[Int.mul_one]
 done:=by
  intro X hP hw hK hc i pins s σ H E I hf st hg;subst hP hw hK;obtain⟨f0,f1,f2,f3,f4,f5⟩:=hf it (by simp)
  exact wpAny_pyNext_range_end (I.ok.hd hc) st (by have:n<=i:=hg;omega) λh' eb=>⟨rfl,I.turned (t':=s.toks) (λb o hb e=>eb b o hb e) f0 f1 f3 f4 f5⟩
 self:=λ_ _ _ _ _ st h=>wpAny_pyIter_rangeiter st h
def Di(K:PySem.W.Frag)(tl:TE):TI:=λσ H R=>tl σ H λx b=>∃a,x=.ref a/\(∃d,SqL K b a d)/\R (Itl K a) b
def QV(K:PySem.W.Frag)(tl:TE):TI:=λσ H R=>tl σ H λx b=>∃a,x=.ref a/\(∃d,SqT K b a d)/\R (Itt K a) b
def v8   (f:PE X l tl):PI X E l (Di X.K tl):=by
 intro pins s σ H R I h
 refine thn (f _ s σ H _ I h) λv s1 ⟨x,H1,I1,r1,q1⟩=>?_
 obtain⟨a,e,⟨u,d⟩,q⟩:=q1;subst e;cases r1;obtain⟨m,y,p,C⟩:=I1.list d;refine wpAny_pyIter_list p.isList ?_;refine⟨s1.heap.objs.size,[s1.heap.objs.size],_,_,H1,rfl,I1.kept λb o e=>zo _ e,QR a _,⟨_,zz _ rfl,rfl,rfl⟩,λb j=>?_,q⟩
 have e :=by simpa using j
 subst e;exact I1.fpOk (zc _) (I1.hok.fresh (zc _))
def QW   (f:PE X l tl):PI X E l (QV X.K tl):=by
 intro pins s σ H R I h
 refine thn (f _ s σ H _ I h) λv s1 ⟨x,H1,I1,r1,q1⟩=>?_
 obtain⟨a,e,⟨u,d⟩,q⟩:=q1;subst e;cases r1;obtain⟨m,y,p,C⟩:=I1.tuple d;refine wpAny_pyIter_tuple (p) ?_;refine⟨s1.heap.objs.size,[s1.heap.objs.size],_,_,H1,rfl,I1.kept λb o e=>zo _ e,QS a _,⟨_,zz _ rfl,rfl,rfl⟩,λb j=>?_,q⟩
 have e :=by simpa using j
 subst e;exact I1.fpOk (zc _) (I1.hok.fresh (zc _))
def QX  {σ:St}     {lo:Int}   (I:Inv X y σ H s)(h1:-(2 ^ 62)<=lo)(h2:lo<2 ^ 62)(h3:-(2 ^ 62)<=x)(h4:x<2 ^ 62)
  (q:R (Itr lo (x - lo).toNat) H):wpAny (model X.prog X.w) X.A (pyIter (.ref s.heap.objs.size)) (PIE X y σ C R) E {s with heap:=s.heap.push {cls:=.type "range",data:=.fields #[.int lo t,.int x u,.int 1 v]},toks:=tk}:=by
 refine wpAny_pyIter_range (IsRange.new ..) (small_one h1 h2 h3 h4) ?_
 have d:Inv X y σ H {s with heap:=s.heap.push {cls:=.type "range",data:=.fields #[.int lo t,.int x u,.int 1 v]},toks:=tk}:=I.kept λb o e=>zo _ e
 refine⟨(s.heap.push {cls:=.type "range",data:=.fields #[.int lo t,.int x u,.int 1 v]}).objs.size,[(s.heap.push {cls:=.type "range",data:=.fields #[.int lo t,.int x u,.int 1 v]}).objs.size],_,_,H,rfl,
  d.kept (t':=tk) λb o e=>zo _ e,QT _ lo (x - lo).toNat,?_,λb f=>?_,q⟩
 ·have m:lo+((0:Nat):Int) * 1=lo:=by simp
  have j:(((x - lo).toNat:Nat):Int) - ((0:Nat):Int)=Builtin.Range.rangeSize lo x 1:=by rw[rangeSize_one];split<;>omega
  show IsRangeIter _ _ (lo+((0:Nat):Int) * 1) ((((x - lo).toNat:Nat):Int) - ((0:Nat):Int)) 1;rw[m,j];exact zz _ rfl
 ·have e:b=(s.heap.push {cls:=.type "range",data:=.fields #[.int lo t,.int x u,.int 1 v]}).objs.size:=by simpa using f
  subst e;exact d.fpOk (zc _) (d.hok.fresh (zc _))
def QZ(d:TA):TI:=λσ H R=>d σ H λb f=>∃j:Int,b=[.int j]/\-(2 ^ 62)<=j/\j<2 ^ 62/\R (Itr 0 j.toNat) f
def Q0    (m:Gl X "range")(f:X.mg "range" = none)(u:PA X [a] ta)(hs:starEach [a] X.env=[(false,eval a X.env)]:=by rfl):PI X tg (.Call (.Name "range" p) [a] [] pos) (QZ ta):=by
 intro pins s σ H R I h;refine Call_ (j5 I m f boot_range (PyProof.Rows.callWith_type1 (thn (u _ _ s σ H _ I h) λus s1 ⟨vs,H1,I1,r1,b⟩=>?_) hs));obtain⟨j,e,b,d,q⟩:=b;subst e
 cases r1 with
 |cons r rr =>
  cases rr;obtain⟨t,rfl⟩:=r;exact call_range_1 (QX I1 (by omega) (by omega) b d (by simpa ))
def Dj(q:TI)(g:TG)(u:TS):TS:=λD σ H=>q σ H λJ C=>∃W:Nat->Nat->St->Hp->Prop,(∃m,W 0 m σ C)/\∀i m σ H,W i m σ H ->
 (J.stop i H/\D.nx σ H)\/(J.go i H/\∃N:St->Hp->Prop,(∀d b,N d b->∃j,j<m/\W (i+1) j d b)/\∀x b,J.yld i H x b->g x σ b λf y=>u {D with nx:=N,ct:=N,bk:=D.nx} f y)
def pX(fp:List Addr)(h:Heap):List (Addr×Obj):=fp.filterMap λb=>(h.get? b).map λo=>(b,o)
def sy     (hb:b∈fp)(e:h.get? b=some o):(b,o)∈pX fp h:=List.mem_filterMap.mpr ⟨b,hb,by rw[e];rfl⟩
def Q3    (d:p∈pX fp h):p.1∈fp/\h.get? p.1=some p.2:=by
 obtain⟨b,f,e⟩:=List.mem_filterMap.mp d
 cases q:h.get? b with
 |none=>rw[q] at e;cases e
 |some o =>
  rw[q] at e;have e' :=zC e;subst e';exact⟨f,q⟩
def Inv.pinned  {σ:St}    (I:Inv X C σ H s)(u:∀b∈fp,eY X C H b)(q:∀b∈fp,∃o,s.heap.get? b=some o/\∀v,o.data≠.cell v):Inv X (C++pX fp s.heap) σ H s :=
 I.pins_of λp m=>(zt.mp m).elim (λz=>I.pin p (zN _ z)) λz=>by
  obtain⟨f,e⟩:=Q3 z;obtain⟨f0,y,x,_⟩:=u p.1 f;obtain⟨o,j,d⟩:=q p.1 f;rw[e] at j;cases j;exact⟨e,f0,y,x,d⟩
def Inv.unpinned  {σ:St}   (I:Inv X (d++pl) σ H s):Inv X d σ H s:=I.pins_of λp b=>I.pin p (zN _ (ja _ b))
def Q4       (P:PassesOwn (model X.prog X.w) X.A X.env X.xe)(hc:X.calm=true)(hi:PI X tg iter wi)(hg:PG X tg g)(hb:PSs X body tb)
  (hs:∀x,foldedSetIterable iter X.env x=pure x:=by intro _;rfl):PS X (.For tg iter body [] pos) (Dj wi g tb):=by
 intro pins s σ H D I h;refine wpAny_For (thn (hi pins s σ H _ I h) λv s1 h1=>thn h1 λitv s2 h2=>?_) hs;obtain⟨it,fp,tn,J,H2,e,I2,T,st2,f2,W,⟨m0,w0⟩,turn⟩:=h2;subst e
 have F:∀{G:Hp},(∀b∈fp,G b=none)->∀b∈fp,eY X pins G b:=λhn b hb=>⟨hn b hb,(f2 b hb).2⟩
 refine codeAny_forLoop_any (λn s'=>∃i E G,Inv X pins E G s'/\tn i s'.heap/\(∀b∈fp,G b=none)/\W i n E G) ?_ m0 ⟨0,σ,H2,I2,st2,λb hb=>(f2 b hb).1,w0⟩;rintro n s3 ⟨i,C,U,I3,Q,R,w3⟩
 rcases turn i n C U w3 with⟨stop,qn⟩ | ⟨go,N,hN,step⟩
 ·refine wpAny_passesOwn P (thn (T.done X rfl rfl rfl hc i pins s3 C U X.xe I3 (F R) Q stop) λr s4 ⟨Z,I4⟩=>?_);subst Z;exact wpAny_execs_nil ⟨C,U,I4,qn⟩
 ·refine wpAny_passesOwn P (thn (T.item X rfl rfl rfl hc i pins s3 C U X.xe I3 (F R) Q go) λr s4 ⟨u,Z,h4⟩=>?_);subst Z;refine wpAny_passesOwn P (thn h4 λ_ s5 ⟨x,H5,I5,r5,y5,st5,fr5⟩=>?_);have I5':=I5.pinned (F fr5) (T.obj _ _ st5);refine wpAny_passesOwn P (thn (hg _ s5 C H5 x u _ I5' r5 (step x H5 y5)) λ_ s6 ⟨σ6,H6,I6,q6⟩=>?_);refine wpAny_passesOwn P (thn (hb _ s6 σ6 H6 _ I6 q6) λf Y L=>?_)
  have again:∀{j:St}{y:Hp},Inv X (pins++pX fp s5.heap) j y Y->N j y->∃m,m<n/\∃i E G,Inv X pins E G Y/\tn i Y.heap/\(∀b∈fp,G b=none)/\W i m E G:=λ{j y} q O=>by
   obtain⟨m',hm,w7⟩:=hN j y O;refine⟨m',hm,i+1,j,y,q.unpinned,T.keep _ _ _ st5 λb hb o e=>(q.pin (b,o) (zN _ (zN _ (sy hb e)))).1,λb hb=>?_,w7⟩;obtain⟨o,e,d⟩:=T.obj _ _ st5 b hb;exact(q.pin (b,o) (zN _ (zN _ (sy hb e)))).2.1
  cases f with
  |next=>obtain⟨j,y,q,O⟩:=L;exact again q O
  |cont=>obtain⟨j,y,q,O⟩:=L;exact again q O
  |brk=>obtain⟨j,y,q,L⟩:=L;exact⟨j,y,q.unpinned,L⟩
  |ret v=>obtain⟨x7,j,y,q,r7,L⟩:=L;exact⟨x7,j,y,q.unpinned,r7,L⟩
abbrev R2:=V->V->Hp->VK->Prop
def OpR(X:Cx)(f:Value->Value->Sem Value)(r:R2):Prop :=
 ∀(pins:List (Addr×Obj)) (s:Shared) (σ:St) (H:Hp) (x y:V) (v u:Value) (Q:VK),Inv X pins σ H s->RelV x v->RelV y u->r x y H Q ->
  wpAny (model X.prog X.w) X.A (f v u) (EP X pins σ Q) X.xe s
def UnR(X:Cx)(f:Value->Sem Value)(r:V->Hp->VK->Prop):Prop :=
 ∀(pins:List (Addr×Obj)) (s:Shared) (σ:St) (H:Hp) (x:V) (v:Value) (Q:VK),Inv X pins σ H s->RelV x v->r x H Q ->
  wpAny (model X.prog X.w) X.A (f v) (EP X pins σ Q) X.xe s
def fH(X:Cx)(f:Value)(r:List V->Hp->VK->Prop):Prop :=
 ∀(pins:List (Addr×Obj)) (s:Shared) (σ:St) (H:Hp) (b:List V) (d:List Value) (Q:VK),Inv X pins σ H s->aH b d->r b H Q ->
  wpAny (model X.prog X.w) X.A (call f d) (EP X pins σ Q) X.xe s
def Q5(X:Cx)(r:V->Hp->(Bool->Hp->Prop)->Prop):Prop :=
 ∀(pins:List (Addr×Obj)) (s:Shared) (σ:St) (H:Hp) (x:V) (v:Value) (Q:Bool->Hp->Prop),Inv X pins σ H s->RelV x v->r x H Q ->
  wpAny (model X.prog X.w) X.A (truthy v) (TP X pins σ Q) X.xe s
def tOp(r:R2)(d b:TE):TE:=λσ H Q=>d σ H λx j=>b σ j λy f=>r x y f Q
def tUn(r:V->Hp->VK->Prop)(b:TE):TE:=λσ H Q=>b σ H λx d=>r x d Q
def rI(C:Int->Int->Prop)(g:Int->Int->V):R2:=λx y H Q=>∃i j,x=.int i/\y=.int j/\C i j/\Q (g i j) H
def rI0(g:Int->Int->V):R2:=λx y H Q=>∃i j,x=.int i/\y=.int j/\Q (g i j) H
def rU(g:Int->V):V->Hp->VK->Prop:=λx H Q=>∃i,x=.int i/\Q (g i) H
def v9(F:PE X a L)(hb:PE X b J)   {σ:St}  {R:V->V->Hp->Prop}(I:Inv X G σ H s)
  (h:L σ H λx C=>J σ C λy d=>R x y d)  {f:Value->Value->Sem Value}
  (E:∀v u q x y d,Inv X G σ d q->RelV x v->RelV y u->R x y d->wpAny (model X.prog X.w) X.A (f v u) Q X.xe q):
  wpAny (model X.prog X.w) X.A (eval a X.env) (λv m=>wpAny (model X.prog X.w) X.A (eval b X.env) (λu j=>wpAny (model X.prog X.w) X.A (f v u) Q X.xe j) X.xe m) X.xe s:=by
 refine thn (F _ s σ H _ I h) λv s1 ⟨x,C,I1,r1,q1⟩=>?_
 refine thn (hb _ s1 σ C _ I1 q1) λu q ⟨y,d,I2,r2,q2⟩=>?_
 exact E v u q x y d I2 r1 r2 q2
def Q6   (m:OpR X (binaryOp op) r)(C:PE X a J)(hb:PE X b G):PE X (.BinOp a op b L) (tOp r J G):=by
 intro pins s σ H Q I h;exact wpAny_BinOp (v9 C hb I h λv u d x y F E j f q=>m _ d σ F x y v u Q E j f q)
def Q7   (b:UnR X (unaryOp op) r)(d:PE X a f):PE X (.UnaryOp op a j) (tUn r f):=by
 intro pins s σ H Q I h;exact UnaryOp_ (thn (d _ s σ H _ I h) λv s1 ⟨x,H1,I1,r1,q1⟩=>b _ s1 σ H1 x v Q I1 r1 q1)
def opI   {g:Int->Int->Int}
  (rule:∀(i j:Int) (t u:Tok) (s:Shared) (Q:Value->Shared->Prop) (E:Value->Shared->Prop),C i j->Q (.int (g i j) s.toks) {s with toks:=s.toks+1}->wpAny (model X.prog X.w) X.A (f (.int i t) (.int j u)) Q E s):
  OpR X f (rI C λi j=>.int (g i j)):=by
 intro pins s σ H x y v u Q I m d h;obtain⟨i,j,rfl,rfl,F,q⟩:=h;obtain⟨t,rfl⟩:=m;obtain⟨b,rfl⟩:=d;exact rule i j t b s _ _ F ⟨.int _,H,I.tok _,⟨_,rfl⟩,q⟩
def Dk  {g:Int->Int->Int}
  (rule:∀(i j:Int) (t u:Tok) (s:Shared) (Q:Value->Shared->Prop) (E:Value->Shared->Prop),Q (.int (g i j) s.toks) {s with toks:=s.toks+1}->wpAny (model X.prog X.w) X.A (f (.int i t) (.int j u)) Q E s):
  OpR X f (rI0 λi j=>.int (g i j)):=by
 intro pins s σ H x y v u Q I m d h;obtain⟨i,j,rfl,rfl,q⟩:=h;obtain⟨t,rfl⟩:=m;obtain⟨b,rfl⟩:=d;exact rule i j t b s _ _ ⟨.int _,H,I.tok _,⟨_,rfl⟩,q⟩
def wg  {g:Int->Int->Bool}
  (rule:∀(i j:Int) (t u:Tok) (s:Shared) (Q:Value->Shared->Prop) (E:Value->Shared->Prop),Q (.bool (g i j)) s->wpAny (model X.prog X.w) X.A (f (.int i t) (.int j u)) Q E s):
  OpR X f (rI0 λi j=>.bl (g i j)):=by
 intro pins s σ H x y v u Q I m d h;obtain⟨i,j,rfl,rfl,q⟩:=h;obtain⟨t,rfl⟩:=m;obtain⟨b,rfl⟩:=d;exact rule i j t b s _ _ ⟨.bl _,H,I,rfl,q⟩
def Q8(i j:Int):Prop:=0<j/\j<1073741824
def Q9(i j:Int):Prop:=0<=j/\j<=1000000/\i.natAbs<2 ^ 64
def wj(i j:Int):Prop:=(-(2 ^ 64)<i/\i<2 ^ 64)\/(-(2 ^ 64)<j/\j<2 ^ 64)
def wj.ok  (h:wj i j):IntMulOk i j:=by
 rcases h with⟨h1,h2⟩ | ⟨h1,h2⟩
 ·exact .of_left (intBits_le_64 h1 h2)
 ·exact .of_right (intBits_le_64 h1 h2)
def Ra:OpR X (binaryOp .Add) (rI0 λi j=>.int (i+j)):=Dk λ_ _ _ _ _ _ _ q=>add_int q
def Rb:OpR X (binaryOp .Sub) (rI0 λi j=>.int (i - j)):=Dk λ_ _ _ _ _ _ _ q=>sub_int q
def Rc:OpR X (binaryOp .Mult) (rI wj λi j=>.int (i * j)):=opI λ_ _ _ _ _ _ _ b q=>mul_int q b.ok
def Rf:OpR X (binaryOp .FloorDiv) (rI Q8 λi j=>.int (i / j)):=opI λi j _ _ _ _ _ b q=>by
 have h1:(0:Int)<j:=b.1;have h2:j<1073741824:=b.2;exact floordiv_int (by omega) (by rw[Int.fdiv_eq_ediv_of_nonneg i (by omega)];exact q) (.inl (PyProof.noPylong_small (by omega)))
def Rh:OpR X (binaryOp .Mod) (rI (λ_ j=>0<j) λi j=>.int (i % j)):=opI λi j _ _ _ _ _ b q=>by
 have h1:(0:Int)<j:=b;exact mod_int' (by omega) (by rw[Int.fmod_eq_emod_of_nonneg i (by omega)];exact q)
def Ri:OpR X (binaryOp .Pow) (rI Q9 λi j=>.int (i ^ j.toNat)):=opI λ_ _ _ _ _ _ _ b q=>pow_int_small b.1 b.2.1 b.2.2 q
def unI  {g:Int->Int}
  (rule:∀(i:Int) (t:Tok) (s:Shared) (Q:Value->Shared->Prop) (E:Value->Shared->Prop),Q (.int (g i) s.toks) {s with toks:=s.toks+1}->wpAny (model X.prog X.w) X.A (f (.int i t)) Q E s):
  UnR X f (rU λi=>.int (g i)):=by
 intro pins s σ H x v Q I b h;obtain⟨i,rfl,q⟩:=h;obtain⟨t,rfl⟩:=b;exact rule i t s _ _ ⟨.int _,H,I.tok _,⟨_,rfl⟩,q⟩
def Rj:UnR X (unaryOp .USub) (rU λi=>.int (-i)):=unI λ_ _ _ _ _ q=>neg_int q
def Rk:OpR X (binaryOp .Add) (λx y H Q=>∃i k,x=.int i/\y=.bl k/\Q (.int (i+b2i k)) H):=by
 intro pins s σ H x y v u Q I d b h;obtain⟨i,k,rfl,rfl,q⟩:=h;obtain⟨t,rfl⟩:=d;cases b;exact add_int_bool ⟨.int _,H,I.tok _,⟨_,rfl⟩,q⟩
def Dl:V->V->Bool
 | .non,.non=>true | .non,.int _=>true | .int _,.non=>true | .non,.bl _=>true | .bl _,.non=>true | .non,.str _=>true | .str _,.non=>true
 | .int _,.int _=>true | .bl _,.bl _=>true | .str _,.str _=>true | .byt _,.byt _=>true
 | .int _,.str _=>true | .str _,.int _=>true | .bl _,.str _=>true | .str _,.bl _=>true
 | _,_=>false
def rEq:R2:=λx y H Q=>Dl x y=true/\Q (.bl (decide (x=y))) H
def rNe:R2:=λx y H Q=>Dl x y=true/\Q (.bl (!decide (x=y))) H
def Dm :decide (V.int i=V.int j)=(i == j):=by
 rw[Bool.eq_iff_iff];simp
def Dn :decide (V.bl i=V.bl j)=(i == j):=by
 rw[Bool.eq_iff_iff];simp
def Do :decide (V.str i=V.str j)=(i == j):=by
 rw[Bool.eq_iff_iff];simp
def Dp :decide (V.byt i=V.byt j)=(i.toList == j.toList):=by
 rw[Bool.eq_iff_iff];cases i;cases j;simp
section
variable {X:Cx}{a b c:Expr}{ta tb tc:TE}{pos:Pos}
def bT  {σ:St}     (I:Inv X d σ H s)(q:Q (.bl k) H)(e:k=f):EP X d σ Q (.bool f) s:=by
 subst e;exact⟨.bl k,H,I,rfl,q⟩
def wk:OpR X (compareOp .Eq) rEq:=by
 intro pins s σ H x y v u Q I m d h;obtain⟨hs,q⟩:=h
 cases x with
 |non =>
  cases m
  cases y with
  |non=>cases d;exact PySem.EqNone.eq_none_none (bT I q (by simp))
  |bl j=>cases d;exact PySem.EqNone.eq_none_bool (bT I q (by simp))
  |int j=>obtain⟨f,rfl⟩:=d;exact PySem.EqNone.eq_none_int (bT I q (by simp))
  |str j=>obtain⟨f,rfl⟩:=d;exact PySem.EqNone.eq_none_str (bT I q (by simp))
  | _=>exact absurd (show false=true from hs) zx
 |bl i =>
  cases m
  cases y with
  |non=>cases d;exact PySem.EqNone.eq_bool_none (bT I q (by simp))
  |bl j=>cases d;exact eq_bool (bT I q Dn)
  |str j=>obtain⟨f,rfl⟩:=d;exact PySem.EqMixed.eq_bool_str (bT I q (by simp))
  | _=>exact absurd (show false=true from hs) zx
 |int i =>
  obtain⟨t,rfl⟩:=m
  cases y with
  |non=>cases d;exact PySem.EqNone.eq_int_none (bT I q (by simp))
  |int j=>obtain⟨f,rfl⟩:=d;exact eq_int (bT I q Dm)
  |str j=>obtain⟨f,rfl⟩:=d;exact PySem.EqMixed.eq_int_str (bT I q (by simp))
  | _=>exact absurd (show false=true from hs) zx
 |str i =>
  obtain⟨t,rfl⟩:=m
  cases y with
  |non=>cases d;exact PySem.EqNone.eq_str_none (bT I q (by simp))
  |bl j=>cases d;exact PySem.EqMixed.eq_str_bool (bT I q (by simp))
  |int j=>obtain⟨f,rfl⟩:=d;exact PySem.EqMixed.eq_str_int (bT I q (by simp))
  |str j=>obtain⟨f,rfl⟩:=d;exact eq_str (bT I q Do)
  | _=>exact absurd (show false=true from hs) zx
 |byt i =>
  obtain⟨t,rfl⟩:=m
  cases y with
  |byt j=>obtain⟨f,rfl⟩:=d;exact PySem.W.eq_bytes (bT I q Dp)
  | _=>exact absurd (show false=true from hs) zx
 | _=>cases y<;>exact absurd (show false=true from hs) zx
def wu:OpR X (compareOp .NotEq) rNe:=by
 intro pins s σ H x y v u Q I m d h;obtain⟨hs,q⟩:=h
 cases x with
 |non =>
  cases m
  cases y with
  |non=>cases d;exact PySem.EqNone.ne_none_none (bT I q (by simp))
  |bl j=>cases d;exact PySem.EqNone.ne_none_bool (bT I q (by simp))
  |int j=>obtain⟨f,rfl⟩:=d;exact PySem.EqNone.ne_none_int (bT I q (by simp))
  |str j=>obtain⟨f,rfl⟩:=d;exact PySem.EqNone.ne_none_str (bT I q (by simp))
  | _=>exact absurd (show false=true from hs) zx
 |bl i =>
  cases m
  cases y with
  |non=>cases d;exact PySem.EqNone.ne_bool_none (bT I q (by simp))
  |bl j=>cases d;exact ne_bool (bT I q (congrArg not Dn))
  |str j=>obtain⟨f,rfl⟩:=d;exact PySem.EqMixed.ne_bool_str (bT I q (by simp))
  | _=>exact absurd (show false=true from hs) zx
 |int i =>
  obtain⟨t,rfl⟩:=m
  cases y with
  |non=>cases d;exact PySem.EqNone.ne_int_none (bT I q (by simp))
  |int j=>obtain⟨f,rfl⟩:=d;exact ne_int (bT I q (congrArg not Dm))
  |str j=>obtain⟨f,rfl⟩:=d;exact PySem.EqMixed.ne_int_str (bT I q (by simp))
  | _=>exact absurd (show false=true from hs) zx
 |str i =>
  obtain⟨t,rfl⟩:=m
  cases y with
  |non=>cases d;exact PySem.EqNone.ne_str_none (bT I q (by simp))
  |bl j=>cases d;exact PySem.EqMixed.ne_str_bool (bT I q (by simp))
  |int j=>obtain⟨f,rfl⟩:=d;exact PySem.EqMixed.ne_str_int (bT I q (by simp))
  |str j=>obtain⟨f,rfl⟩:=d;exact ne_str (bT I q (congrArg not Do))
  | _=>exact absurd (show false=true from hs) zx
 |byt i =>
  obtain⟨t,rfl⟩:=m
  cases y with
  |byt j=>obtain⟨f,rfl⟩:=d;exact PySem.W.ne_bytes (bT I q (congrArg not Dp))
  | _=>exact absurd (show false=true from hs) zx
 | _=>cases y<;>exact absurd (show false=true from hs) zx
def Rm:OpR X (compareOp .Lt) (rI0 λi j=>.bl (decide (i<j))):=wg λ_ _ _ _ _ _ _ q=>lt_int q
def Rn:OpR X (compareOp .LtE) (rI0 λi j=>.bl (decide (i<=j))):=wg λ_ _ _ _ _ _ _ q=>le_int q
def Ro:OpR X (compareOp .Gt) (rI0 λi j=>.bl (decide (j<i))):=wg λ_ _ _ _ _ _ _ q=>gt_int q
def Rq:OpR X (compareOp .In) (λx y H Q=>∃i j,x=.str i/\y=.str j/\Q (.bl (!(Builtin.Str.occurrences j i 0 j.length 1).isEmpty)) H):=by
 intro pins s σ H x y v u Q I f d h;obtain⟨i,j,rfl,rfl,q⟩:=h;obtain⟨t,rfl⟩:=f;obtain⟨m,rfl⟩:=d;exact in_str (bT I q rfl)
def Rr:OpR X (compareOp .NotIn) (λx y H Q=>∃i j,x=.str i/\y=.str j/\Q (.bl (!(!(Builtin.Str.occurrences j i 0 j.length 1).isEmpty))) H):=by
 intro pins s σ H x y v u Q I f d h;obtain⟨i,j,rfl,rfl,q⟩:=h;obtain⟨t,rfl⟩:=f;obtain⟨m,rfl⟩:=d;exact notIn_str (bT I q rfl)
def nM(b:Expr)  (h:op≠.In:=by decide)(h2:op≠.NotIn:=by decide):behindInMarks op b=false:=by
 have f:(op == CmpOp.In)=false:=by cases op<;>first | rfl | exact absurd rfl h
 have d:(op == CmpOp.NotIn)=false:=by cases op<;>first | rfl | exact absurd rfl h2
 cases b<;>simp[behindInMarks,f,d]
def Rt   (m:OpR X (compareOp op) r)(E:PE X a ta)(hb:PE X b tb)(C:behindInMarks op b=false):PE X (.Compare a [op] [b] pos) (tOp r ta tb):=by
 intro pins s σ H Q I h;exact wpAny_Compare1 (v9 E hb I h λv u d x y G F j f q=>m pins d σ G x y v u Q F j f q) C
def sE(t:TE):TT:=λσ H Q=>t σ H λx d=>∃k,x=.bl k/\Q k d
def Ru   (d:OpR X (compareOp op) r)(j:PE X a ta)(hb:PE X b tb)(f:behindInMarks op b=false):PT X (.Compare a [op] [b] pos) (sE (tOp r ta tb)):=by
 intro pins s σ H Q I h
 refine wpAny_isTrue_Compare1 (thn (j _ s σ H _ I h) λv s1 ⟨x,H1,I1,r1,q1⟩=>thn (hb _ s1 σ H1 _ I1 q1) λu s2 ⟨y,H2,I2,r2,q2⟩ =>
  thn (d _ s2 σ H2 x y v u _ I2 r1 r2 q2) λc s3 ⟨z,H3,I3,r3,k,e,q3⟩=>?_) f
 subst e;cases r3;exact wpAny_truthy_bool ⟨H3,I3,q3⟩
def wy(r j:R2)(ta tb tc:TE):TE:=λσ H Q=>ta σ H λx u=>tb σ u λy q=>r x y q λz d=>∃k,z=.bl k /\
 (if k=true then tc σ d λf m=>j y f m Q else Q (.bl false) d)
def Rv   (j:OpR X (compareOp op) r)(f:OpR X (compareOp op') r')(C:PE X a ta)(hb:PE X b tb)(q:PE X c tc)
  (m:lastMarks [op,op'] [b,c]=false:=by with_unfolding_all rfl):PE X (.Compare a [op,op'] [b,c] pos) (wy r r' ta tb tc):=by
 intro pins s σ H Q I h
 refine Compare_chain (thn (C _ s σ H _ I h) λv s1 ⟨x,H1,I1,r1,q1⟩=>chain_link (thn (hb _ s1 σ H1 _ I1 q1) λu s2 ⟨y,H2,I2,r2,q2⟩ =>
  thn (j _ s2 σ H2 x y v u _ I2 r1 r2 q2) λd s3 ⟨z,H3,I3,r3,k,e,q3⟩=>?_)) m
 subst e;cases r3;refine wpAny_truthy_bool ?_
 cases k with
 |false=>exact ite_ff ⟨.bl _,H3,I3,rfl,q3⟩
 |true=>exact ite_tt (chain_last (thn (q _ s3 σ H3 _ I3 q3) λw' s4 ⟨z',H4,I4,r4,q4⟩=>f _ s4 σ H4 y z' u w' Q I4 r2 r4 q4))
def Rw   (m:OpR X (compareOp op) r)(f:OpR X (compareOp op') r')(E:PE X a ta)(hb:PE X b tb)(C:PE X c tc)
  (q:lastMarks [op,op'] [b,c]=false:=by with_unfolding_all rfl):PT X (.Compare a [op,op'] [b,c] pos) (sE (wy r r' ta tb tc)):=by
 intro pins s σ H Q I h
 refine isTrue_chain (thn (E _ s σ H _ I h) λv s1 ⟨x,H1,I1,r1,q1⟩=>test_link (thn (hb _ s1 σ H1 _ I1 q1) λu s2 ⟨y,H2,I2,r2,q2⟩ =>
  thn (m _ s2 σ H2 x y v u _ I2 r1 r2 q2) λd s3 ⟨z,H3,I3,r3,k,e,q3⟩=>?_)) q
 subst e;cases r3;refine wpAny_truthy_bool ?_
 cases k with
 |false =>
  obtain⟨G,F,j⟩:=q3;cases F;exact ite_ff ⟨H3,I3,j⟩
 |true =>
  refine ite_tt (test_last (thn (C _ s3 σ H3 _ I3 q3) λw' s4 ⟨z',H4,I4,r4,q4⟩=>thn (f _ s4 σ H4 y z' u w' _ I4 r2 r4 q4) λd' s5 ⟨z2,H5,I5,r5,k2,e2,q5⟩=>?_));subst e2;cases r5;exact wpAny_truthy_bool ⟨H5,I5,q5⟩
def wz(K:PySem.W.Frag)(x:V)(H:Hp)(k:Bool):Prop :=
 match x with
 | .non=>k=false
 | .bl b=>k=b
 | .int i=>k=(i != 0)
 | .str y=>y.length<=sizeLine/\k=((y.length:Int) != 0)
 | .byt y=>y.size<=sizeLine/\k=((y.size:Int) != 0)
 | .ref p=>(∃d,SqL K H p d/\k = !d.isEmpty)\/(∃d,SqT K H p d/\k = !d.isEmpty)\/∃f,H p=some (.dK f)/\k = !f.isEmpty
 | _=>False
def Rx    (r:KV d vs):(!vs.isEmpty) = !d.isEmpty:=by
 cases r<;>rfl
def Dq   (r:aH xs d):(!d.toArray.isEmpty) = !xs.isEmpty:=by
 cases r<;>simp
def pY:(sizeLine:Nat)<2 ^ 63:=by decide
def wA:Q5 X (λx H Q=>∃k,wz X.K x H k/\Q k H):=by
 intro pins s σ H x v Q I f h;obtain⟨k,e,q⟩:=h;have O:=pY;have hs:sizeLine=16777216:=sizeLine_eq
 cases x with
 |non =>
  cases f;have d:k=false:=e;subst d;exact truthy_none ⟨H,I,q⟩
 |bl b =>
  cases f;have d:k=b:=e;subst d;exact wpAny_truthy_bool ⟨H,I,q⟩
 |int i =>
  obtain⟨t,rfl⟩:=f;have d:k=(i != 0):=e;subst d;exact PySem.P.truthy_int ⟨H,I,q⟩
 |str y =>
  obtain⟨t,rfl⟩:=f;obtain⟨J,d⟩ :=e;subst d;exact PySem.P.truthy_str (by omega) ⟨H,I.tok _,q⟩
 |byt y =>
  obtain⟨t,rfl⟩:=f;obtain⟨J,d⟩ :=e;subst d;exact PySem.W.truthy_bytes (by omega) ⟨H,I.tok _,q⟩
 |ref p =>
  cases f;have d :=e
  rcases d with⟨F,hx,d⟩ | ⟨F,hx,d⟩ | ⟨u,hx,d⟩
  ·subst d;obtain⟨C,r,j,E⟩:=I.list hx;have hlen:=r.length;exact wpAny_truthy_list j.isList (by simp only[zG];omega) ⟨H,I.tok _,by rw[Dq r];exact q⟩
  ·subst d;obtain⟨C,r,j,E⟩:=I.tuple hx;have hlen:=r.length;exact truthy_tuple j (by simp only[zG];omega) ⟨H,I.tok _,by rw[Dq r];exact q⟩
  ·subst d;obtain⟨E,L,G,r,m⟩ :=I.hok p _ hx;have hlen:u.length=G.length:=Paired.length r;exact wpAny_truthy_dict L m (by omega) ⟨H,I.tok _,by rw[Rx r];exact q⟩
 | _=>exact(show False from e).elim
def Ry(j:PE X a ta)(f:∀whole,isTrue a X.env whole=(do let v <-whole;standAt a.pos;holding [v] (truthy v))):
  PT X a (λσ H Q=>ta σ H λx d=>∃k,wz X.K x d k/\Q k d):=by
 intro pins s σ H Q I h;exact isTrue_plain (thn (j pins s σ H _ I h) λv s1 ⟨x,H1,I1,r1,q1⟩=>wA pins s1 σ H1 x v Q I1 r1 q1) (f _)
def Rz:OpR X (binaryOp .Add) (λx y H Q=>∃i j,x=.str i/\y=.str j/\i.length+j.length<=sizeLine/\Q (.str (i++j)) H):=by
 intro pins s σ H x y v u Q I m f h;obtain⟨i,j,rfl,rfl,C,q⟩:=h;obtain⟨t,rfl⟩:=m;obtain⟨d,rfl⟩:=f
 exact add_str λd tk=>⟨.str _,H,I.tok _,⟨_,rfl⟩,q⟩
def vals1   (r:aH [x] us):∃u,us=[u]/\RelV x u:=by
 cases r with
 |cons f d=>cases d;exact⟨_,rfl,f⟩
def vals2   (r:aH [x,y] us):∃u d,us=[u,d]/\RelV x u/\RelV y d:=by
 cases r with
 |cons r1 r2 =>
  cases r2 with
  |cons j f=>cases f;exact⟨_,_,rfl,r1,j⟩
def Dr:fH X (.type "int") (λxs H Q=>(∃i,xs=[.int i]/\Q (.int i) H)\/∃k,xs=[.bl k]/\Q (.int (if k then 1 else 0)) H):=by
 intro pins s σ H xs f Q I r h
 rcases h with⟨i,rfl,q⟩ | ⟨k,rfl,q⟩
 ·obtain⟨u,rfl,t,rfl⟩:=vals1 r;exact call_int_int ⟨.int i,H,I,⟨_,rfl⟩,q⟩
 ·obtain⟨u,rfl,d⟩:=vals1 r;cases d;exact call_int_bool ⟨.int (if k then 1 else 0),H,I.tok _,⟨_,rfl⟩,q⟩
def RB:fH X (.type "str") (λxs H Q=>∃i,xs=[.int i]/\i.natAbs.log2<1920/\Q (.str (toString i)) H):=by
 intro pins s σ H xs f Q I r h;obtain⟨i,rfl,d,q⟩:=h;obtain⟨u,rfl,t,rfl⟩:=vals1 r;exact PySem.P.str_of_int d ⟨.str _,H,I.tok _,⟨_,rfl⟩,q⟩
def RC(K:PySem.W.Frag)(x:V)(H:Hp)(n:Nat):Prop :=
 match x with
 | .str y=>y.length<=sizeLine/\n=y.length
 | .byt y=>y.size<=sizeLine/\n=y.size
 | .ref p=>(∃d,SqL K H p d/\n=d.length)\/∃d,SqT K H p d/\n=d.length
 | _=>False
def call_len:fH X (.builtin "len") (λxs H Q=>∃x n,xs=[x]/\RC X.K x H n/\Q (.int n) H):=by
 intro pins s σ H xs G Q I r h;obtain⟨x,n,rfl,e,q⟩:=h;obtain⟨u,rfl,f⟩:=vals1 r;have hs :=sizeLine_eq
 cases x with
 |str y =>
  obtain⟨t,rfl⟩:=f;obtain⟨F,d⟩ :=e;subst d;exact len_str (by omega) ⟨.int _,H,I.tok _,⟨_,rfl⟩,q⟩
 |byt y =>
  obtain⟨t,rfl⟩:=f;obtain⟨F,d⟩ :=e;subst d;exact PySem.W.len_bytes (by omega) ⟨.int _,H,I.tok _,⟨_,rfl⟩,q⟩
 |ref p =>
  cases f;have d :=e
  rcases d with⟨xs,hx,d⟩ | ⟨xs,hx,d⟩
  ·subst d;obtain⟨C,j,m,E⟩:=I.list hx;have hlen:=j.length;exact Calls.call_len_list m.isList (by simp  ;omega) ⟨.int _,H,I.tok _,⟨_,by simp only[zG];rw[hlen]⟩,q⟩
  ·subst d;obtain⟨C,j,m,E⟩:=I.tuple hx;have hlen:=j.length;exact len_tuple m (by simp  ;omega) ⟨.int _,H,I.tok _,⟨_,by simp only[zG];rw[hlen]⟩,q⟩
 | _=>exact(e).elim
end
structure lR(h:Heap)(x dx C:Addr)(mA:Str->Option Value):Prop where
 obj:h.get? x=some (PySem.W.instObj C dx)
 ns:h.Ns1 dx mA
 ne:dx≠x
def RD{h:Heap}   (n:h.Ns1 F E):∃d,h.get? F=some d/\∀name,PySem.W.lookIn name d=some (E name):=by
 obtain⟨o,f,C,m,hd,x,_,u⟩:=n;refine⟨o,m,λname=>?_⟩;have e:=u name;unfold nsFind findBy at e;rw[<-Array.find?_toList] at e;unfold PySem.W.lookIn;rw[hd]
 dsimp
 split
 ·rename_i y q;rw[q] at e;exact congrArg _ e
 ·rename_i q;rw[q] at e
  have a:f.toList.any (·.refKey)=false:=by
   rw[List.any_eq_false];intro y j;obtain⟨z,t,b⟩:=x y (Array.mem_toList_iff.mp j);simp[DictEntry.refKey,b]
  have a':¬f.toList.any (·.refKey)=true:=by rw[a];exact zx
  rw[if_neg a'];exact congrArg _ e
def lR.look    (I:lR h x f C d):∃b,PySem.W.InstAt h x (PySem.W.instObj C f) C (some b)/\∀name,PySem.W.lookIn name b=some (d name):=
 let ⟨b,ho,hl⟩:=RD I.ns
 ⟨b,⟨I.obj,rfl,rfl,ho⟩,hl⟩
def RG{K:PySem.W.Frag}   (X:K.In s.heap)(I:lR s.heap x y C u)(j:PySem.W.plainGet K C name=true)(f:PySem.W.hasDictIn K C=true)
  (m:PySem.W.findIn K (.ref C) name=some none) (hv:u name=some v) (b:PySem.W.handedIn v=true) (h:Q v {s with toks:=s.toks+1}):
  wpAny (model prog w) A (getAttr (.ref x) name expr) Q E s:=by
 obtain⟨q,J,d⟩:=I.look;exact PySem.W.get_value X J (PySem.W.plainGet_of j).1 (PySem.W.findObj_own f m rfl (by rw[d,hv])) b h
def RJ{K:PySem.W.Frag}   (X:K.In s.heap)(I:lR s.heap x y C u)(b:PySem.W.plainGet K C name=true)
  (q:PySem.W.findIn K (.ref C) name=some (some (.ref f))) (j:PySem.W.isFn K (.ref f)=true) (hv:u name=none) (h:Q (.ref f,[.ref x]) s):
  wpAny (model prog w) A (getMethod (.ref x) name pl) Q E s:=by
 obtain⟨d,J,m⟩:=I.look;exact PySem.W.method_fn X J (PySem.W.plainGet_of b).1 (PySem.W.plainGet_of b).2 q (beq_iff_eq.mp j) (by show(PySem.W.lookIn _ d).map _=some _;rw[m,hv];rfl) h
def RK{K:PySem.W.Frag}   (X:K.In s.heap)(I:lR s.heap x dx C mA)
  (hs:PySem.W.findIn K (.ref C) "__setattr__" = some (some (.builtin "object.__setattr__"))) (L:PySem.W.plainOver K C=true) (G:PySem.W.takerIn K C name=some none) (O:PySem.W.hasDictIn K C=true)
  (F:PySem.Within mA ns) (hsz:ns.length<=sizeLine)
  (h:∀h',lR h' x dx C (λy=>if y=name then some v else mA y)->Heap.SameBut dx s.heap h'->Q () {s with heap:=h',toks:=s.toks+2}):
  wpAny (model prog w) A (setAttr (.ref x) name v) Q E s:=by
 obtain⟨U,J,Z⟩:=I.look;refine PySem.W.set_plain X J hs (PySem.W.osa_open X J L G λb=>?_);obtain⟨cd,P,q⟩:=PySem.W.any_some O;have hx :=I.obj;refine za (zb (za (za (wpAny_loadPart hx (za (PySem.W.Looks.here (PySem.W.looks_clsIn X P) ?_))))));rw[q];refine zb (za (zb (za ?_)))
 refine wpAny_nsSet1 I.ns λh' f d=>?_
 obtain⟨Y,R,T,j,m,u⟩:=f.count (PySem.Within.cons _ v F);refine za (wpAny_lookBehind j (by rw[m];exact pastItsLine_dict (zI u (by rw[zA];omega))) ?_);exact zb (h _ ⟨(d.2 _ (Ne.symm I.ne)).trans I.obj,f,I.ne⟩ d)
def RL{s:Shared}{K:PySem.W.Frag}    (X:K.In s.heap)(b:PySem.W.makesIn K C=true)
  (j:PySem.W.findIn K (.ref C) "__init__" = some (some (.ref f))) (m:PySem.W.typeIn K (.ref f)=some (.type "function"))
  (h:codeAny (model prog w) (A.under (.builtin "type.__call__" ⟨.ref C::vs,u⟩)) (.call (.ref f) ⟨.ref (s.heap.objs.size+1)::vs,u⟩) (PySem.W.InitBack (s.heap.objs.size+1) R)
   {s with heap:=(s.heap.push PySem.W.emptyDict).push (PySem.W.instObj C s.heap.objs.size)}):
  codeAny (model prog w) A (.call (.ref C) ⟨vs,u⟩) R s:=by
 obtain⟨q,g,d,t,os⟩:=s;exact PySem.W.make_core (PySem.W.makes_of X b) (PySem.W.looks_findIn X j) (λself=>PySem.W.bind_fn X self m) (.inl rfl) h
noncomputable def dB(f:Str)(v:V):List (Str×V)->List (Str×V)
 | []=>[(f,v)]
 | (g,x)::r=>if g=f then(g,v)::r else(g,x)::dB f v r
theorem Dt(f g:Str)(v:V):∀fs:List (Str×V),(dB f v fs).lookup g=if g=f then some v else fs.lookup g
 | []=>by
  show List.lookup g [(f,v)]=_
  by_cases h:g=f
  ·have b :=beq_iff_eq.mpr h;simp  [List.lookup,b,if_pos h]
  ·have b :=beq_eq_false_iff_ne.mpr h;simp  [List.lookup,b,if_neg h]
 | (k,x)::r=>by
  have j:=Dt f g v r;rw[show dB f v _=if k=f then(k,v)::r else(k,x)::dB f v r from rfl]
  by_cases d:k=f
  ·rw[if_pos d]
   by_cases h:g=k
   ·have b :=beq_iff_eq.mpr h;simp  [List.lookup,b,if_pos (h.trans d)]
   ·have b :=beq_eq_false_iff_ne.mpr h;simp  [List.lookup,b,if_neg λe:g=f=>h (e.trans d.symm)]
  ·rw[if_neg d]
   by_cases h:g=k
   ·have b :=beq_iff_eq.mpr h;simp  [List.lookup,b,if_neg λe =>d (h.symm.trans e)]
   ·have b :=beq_eq_false_iff_ne.mpr h;simp  [List.lookup,b];exact j
theorem wB(f:Str)(v:V):∀fs:List (Str×V),f∈(dB f v fs).map (·.1)/\∀g,g∈fs.map (·.1)->g∈(dB f v fs).map (·.1)
 | []=>⟨by simp[dB],λg h=>by simp at h⟩
 | (k,x)::r=>by
  obtain⟨j,d⟩:=wB f v r;rw[show dB f v _=if k=f then(k,v)::r else(k,x)::dB f v r from rfl]
  by_cases b:k=f
  ·subst b;exact⟨by simp,λg h=>by simpa using h⟩
  ·rw[if_neg b];refine⟨?_,λg h=>?_⟩
   ·exact zp _ j
   ·rcases zk.mp h with e | e
    ·exact zk.mpr (.inl e)
    ·exact zp _ (d g e)
theorem Dv(f:Str)(v:V):∀fs:List (Str×V),(dB f v fs).length<=fs.length+1
 | []=>by simp[dB]
 | (k,x)::r=>by
  have d:=Dv f v r;rw[show dB f v _=if k=f then(k,v)::r else(k,x)::dB f v r from rfl]
  by_cases b:k=f
  ·rw[if_pos b,zA,zA];omega
  ·rw[if_neg b,zA,zA];omega
def dH.some_of   (r:dH (some v) o):∃u,o=some u/\RelV v u:=by
 cases o with
 |none=>exact(show False from r).elim
 |some u=>exact⟨u,rfl,r⟩
def dH.none_of  (r:dH none o):o=none:=by
 cases o with
 |none=>rfl
 |some u=>exact(show False from r).elim
def RM   (r:RelV v u):PySem.W.handedIn u=true:=by
 cases v with
 | non
 |bl b=>cases(r);rfl
 | int i
 | str x
 | byt b
 |flt b=>obtain⟨t,e⟩:=(r);cases e;rfl
 | ref a
 |ty n=>cases(r);rfl
def sG(hok:HOk P w H h)(e:H a=some (.ins C j fs)):∃b,lR h a j C b/\(∀f,dH (fs.lookup f) (b f))/\PySem.Within b (fs.map (·.1))/\fs.length<=1000/\H j=some (.own a):=by
 obtain⟨d,z,ne,ob,b,n,r,q⟩:=(hok a _ e);exact⟨b,⟨ob,n,ne⟩,r,q,z,d⟩
structure Cls(K:PySem.W.Frag)(C:Addr):Prop where
 pg:PySem.W.plainGet K C Str.empty=true
 hd:PySem.W.hasDictIn K C=true
 po:PySem.W.plainOver K C=true
 sa:PySem.W.findIn K (.ref C) "__setattr__" = some (some (.builtin "object.__setattr__"))
def Cls.get{K:PySem.W.Frag}{C:Addr}(c:Cls K C)(f:Str):PySem.W.plainGet K C f=true:=c.pg
def lU(K:PySem.W.Frag)(C:Addr)(f:Str):Prop:=PySem.W.findIn K (.ref C) f=some none
def lU.taker{K:PySem.W.Frag}   (n:lU K C f):PySem.W.takerIn K C f=some none:=by
 unfold PySem.W.takerIn;rw[show PySem.W.findIn K (.ref C) f=some none from n];rfl
structure Con(K:PySem.W.Frag)(C:Addr)(f:Str)(v:V)(u:Value):Prop where
 at_:PySem.W.findIn K (.ref C) f=some (some u)
 rel:RelV v u
 get:PySem.W.specialIn K u "__get__" = some none
 cp:PySem.W.copiedNames.contains f=false
structure nO(K:PySem.W.Frag)(C:Addr)(m:Str)(f:Addr):Prop where
 at_:PySem.W.findIn K (.ref C) m=some (some (.ref f))
 fn:PySem.W.isFn K (.ref f)=true
 kp:PySem.W.keepIn K (.ref f)=true
def RN{σ:St}   (I:Inv X x σ H s)(e:H a=some (.ins C y fs))(c:Cls X.K C)(n:lU X.K C f)(l:fs.lookup f=some v)
  (h:∀u d,Inv X x σ H d->RelV v u->Q u d):wpAny (model X.prog X.w) A (getAttr (.ref a) f b) Q E s:=by
 obtain⟨q,O,r,_⟩:=sG I.hok e;obtain⟨u,m,j⟩:=dH.some_of (by rw[<-l];exact r f);exact RG I.kIn O (c.get f) c.hd n m (RM j) (h u _ (I.tok _) j)
def Dw{σ:St}     (I:Inv X f σ H s)(e:H a=some (.ins C j fs))(c:Cls X.K C)(k:nO X.K C m g)(l:fs.lookup m=none)
  (h:Q (.ref g,[.ref a]) s):wpAny (model X.prog X.w) A (getMethod (.ref a) m pl) Q E s:=by
 obtain⟨d,O,r,_⟩:=sG I.hok e;have b :=dH.none_of (by rw[<-l];exact r m);exact RJ I.kIn O (c.get m) k.at_ k.fn b h
def RP{σ:St}    (I:Inv X W σ H s)(e:H a=some (.ins C Y fs))(c:Cls X.K C)(n:lU X.K C f)(U:fs.length<1000)(G:RelV y u)
  (h:∀m,Inv X W σ (upd H a (.ins C Y (dB f y fs))) m->Q () m):wpAny (model X.prog X.w) A (setAttr (.ref a) f u) Q E s:=by
 obtain⟨J,O,r,j,_,x⟩:=sG I.hok e
 have L:(fs.map (·.1)).length<=sizeLine:=by rw[zf,sizeLine_eq];omega
 refine RK I.kIn O c.sa c.po n.taker c.hd j L λT d F=>h _ ?_
 have hd:∃o,T.get? Y=some o:=let ⟨o,_,_,e',_⟩:=d.ns;⟨o,e'⟩;refine I.write (by rw[e];exact True.intro) (.inr x) (λb q R z=>(F.2 b R).trans z) hd ?_;refine⟨by rw[aG O.ne];exact x,?_,O.ne,d.obj,_,d.ns,λg=>?_,λg P=>?_⟩
 ·have:=Dv f y fs;omega
 ·rw[Dt]
  by_cases q:g=f
  ·rw[if_pos q,if_pos q];exact G
  ·rw[if_neg q,if_neg q];exact r g
 ·by_cases q:g=f
  ·rw[q];exact(wB f y fs).1
  ·refine(wB f y fs).2 g (j g λz=>P ?_);show(if g=f then some u else J g)=none;rw[if_neg q];exact z
def Inv.made{σ:St}(I:Inv X F σ H s):Inv X F σ (upd (upd H s.heap.objs.size (.own (s.heap.objs.size+1))) (s.heap.objs.size+1) (.ins C s.heap.objs.size []))
  {s with heap:=(s.heap.push PySem.W.emptyDict).push (PySem.W.instObj C s.heap.objs.size)}:=by
 have d:(s.heap.push PySem.W.emptyDict).get? s.heap.objs.size=some PySem.W.emptyDict:=zz s.heap rfl
 have x:((s.heap.push PySem.W.emptyDict).push (PySem.W.instObj C s.heap.objs.size)).get? (s.heap.objs.size+1)=some (PySem.W.instObj C s.heap.objs.size):=by
  have:=zz (s.heap.push PySem.W.emptyDict) (o:=PySem.W.instObj C s.heap.objs.size) rfl
  rwa [Heap.size_push] at this
 have m:(s.heap.push PySem.W.emptyDict).Ns s.heap.objs.size (λ_=>none):=⟨PySem.W.emptyDict,#[],_,d,rfl,(λe j=>absurd j (by simp)),λ_=>rfl⟩;have E:=I.laid (a:=s.heap.objs.size) (o:=.own (s.heap.objs.size+1)) (h':=s.heap.push PySem.W.emptyDict) (t':=s.toks) (λb u q=>zo _ q) (zc _) ⟨_,d⟩;refine E.laid (a:=s.heap.objs.size+1) (o:=.ins C s.heap.objs.size []) (t':=s.toks) (λb u q=>zo _ q) (Nat.le_of_eq (Heap.size_push _ _)) ?_;have ne:s.heap.objs.size≠s.heap.objs.size+1:=zq (jd _);refine⟨by rw[aG ne,bC],Nat.zero_le _,ne,x,λ_=>none,(Heap.Ns1.of_empty m).at λo q=>zo _ q,λ_=>True.intro,λy f=>absurd rfl f⟩
def RQ         (hb:attributeBase e f env (eval e env)=eval e env)
  (h:wpAny (model prog w) A (eval e env) (λo b=>wpAny (model prog w) A (getAttr o f true) Q E b) E s):wpAny (model prog w) A (eval (.Attribute e f d) env) Q E s :=
 Attribute_any_ h (by rw[arm_eval_Attribute,hb])
def RT(K:PySem.W.Frag)(d:TE)(f:Str):TE:=λσ H Q=>d σ H λx b=>∃a C j fs v,x=.ref a/\b a=some (.ins C j fs)/\Cls K C/\lU K C f/\fs.lookup f=some v/\Q v b
def RV(K:PySem.W.Frag)(m j:TE)(f:Str):TS:=λD σ H=>j σ H λy q=>m σ q λx d=>∃a C b fs,x=.ref a/\d a=some (.ins C b fs)/\Cls K C/\lU K C f/\fs.length<1000 /\
 D.nx σ (upd d a (.ins C b (dB f y fs)))
def RX(d:PE X e E)(hb:attributeBase e f X.env (eval e X.env)=eval e X.env):PE X (.Attribute e f F) (RT X.K E f):=by
 intro pins s σ H Q I h;refine RQ hb (thn (d _ s σ H _ I h) λu s1 ⟨x,H1,I1,rx,a,C,dx,fs,v,ex,ea,c,n,l,q⟩=>?_);subst ex;obtain rfl :=rx
 exact RN I1 ea c n l λm y j b=>⟨v,H1,j,b,q⟩
def RZ(b:PE X o J)(hv:PE X m G)(hs:swapsWith m (some (.Attribute o f E)) F.line X.env=pure false):PS X (.Assign [.Attribute o f E] m F) (RV X.K J G f):=by
 intro pins s σ H D I h;refine plainObj_wpAny_Assign_Attribute (thn (hv _ s σ H _ I h) λu s1 ⟨y,H1,I1,ry,q⟩=>thn (b _ s1 σ H1 _ I1 q) λov s2 ⟨x,H2,I2,rx,a,C,dx,fs,ex,ea,c,n,l,q2⟩=>?_) hs;subst ex;obtain rfl :=rx
 exact RP I2 ea c n l ry λj d=>⟨σ,_,d,q2⟩
inductive gh (K:PySem.W.Frag) (H:Hp):V->Value->Prop where
 | non:gh K H .non (.type "NoneType")
 | bl (x:Bool):gh K H (.bl x) (.type "bool")
 | int (i:Int):gh K H (.int i) (.type "int")
 | str (x:Str):gh K H (.str x) (.type "str")
 | flt (x:UInt64):gh K H (.flt x) (.type "float")
 | lst {a:Addr}{xs:List V} (e:H a=some (.lst xs)):gh K H (.ref a) (.type "list")
 | frz {a:Addr}{o:Obj}{xs:List V} (e:H a=some (.frz o (.lst xs))):gh K H (.ref a) (.type "list")
 | tup {a:Addr}{xs:List V} (e:H a=some (.tup xs)):gh K H (.ref a) (.type "tuple")
 | dK {a:Addr}{kvs:List (Key×V)} (e:H a=some (.dK kvs)):gh K H (.ref a) (.type "dict")
 | dT {a:Addr}{kvs:List (List Key×V)} (e:H a=some (.dT kvs)):gh K H (.ref a) (.type "dict")
 | ins {a C dx:Addr}{fs:List (Str×V)} (e:H a=some (.ins C dx fs)) (cl:Cls K C) (ha:PySem.W.findIn K (.ref C) "__class__" = some (some (.builtin "object.__class__")))
   (hn:PySem.W.specialIn K (.builtin "object.__class__") "__get__" = some (some (.builtin "getset_descriptor.__get__"))) (htk:PySem.W.takesIn K (.builtin "object.__class__")=some true)
   (hm:PySem.W.mroIn K C (.type "object")=some true):gh K H (.ref a) (.ref C)
def pZ{σ:St}   (I:Inv X pins σ H s)(d:RelV x u)(ty:gh X.K H x t)(e:PySem.W.kitOne X.K t c=some b)(h:∀tk,Q (.bool b) {s with toks:=tk}):
  wpAny (model X.prog X.w) A (call (.builtin "isinstance") [u,c]) Q E s:=by
 cases ty with
 |non=>cases(show u=Value.none from d);exact PySem.W.kia_one PySem.W.kitx_none I.kIn True.intro e (λz=>nomatch z) h
 |bl y=>cases(show u=Value.bool y from d);exact PySem.W.kia_one PySem.W.kitx_bool I.kIn True.intro e (λz=>nomatch z) h
 |int i=>obtain⟨t,q⟩:=(show ∃t,u=Value.int i t from d);cases q;exact PySem.W.kia_one PySem.W.kitx_int I.kIn True.intro e (λz=>nomatch z) h
 |str y=>obtain⟨t,q⟩:=(show ∃t,u=Value.str y t from d);cases q;exact PySem.W.kia_one PySem.W.kitx_str I.kIn True.intro e (λz=>nomatch z) h
 |flt y=>obtain⟨t,q⟩:=(show ∃t,u=Value.float y t from d);cases q;exact PySem.W.kia_one PySem.W.kitx_float I.kIn True.intro e (λz=>nomatch z) h
 | @lst a f ea =>
  cases(show u=Value.ref a from d);obtain⟨_,_,n,_,h1⟩:=(show bZ X.prog X.w H s.heap a (.lst f) from I.hok a _ ea);exact PySem.W.kia_one PySem.W.kitx_list I.kIn ⟨_,h1,rfl⟩ e (λz=>nomatch z) h
 | @frz a ob f ea =>
  cases(show u=Value.ref a from d);obtain⟨_,_,_,n,_,h1⟩:=(show bZ X.prog X.w H s.heap a (.frz ob (.lst f)) from I.hok a _ ea);exact PySem.W.kia_one PySem.W.kitx_list I.kIn ⟨_,h1,rfl⟩ e (λz=>nomatch z) h
 | @tup a f ea =>
  cases(show u=Value.ref a from d);obtain⟨_,_,_,p⟩:=(show bZ X.prog X.w H s.heap a (.tup f) from I.hok a _ ea);obtain⟨o,h1,h2,_⟩:=p;exact PySem.W.kia_one PySem.W.kitx_tuple I.kIn ⟨o,h1,h2⟩ e (λz=>nomatch z) h
 | @dK a kvs ea =>
  cases(show u=Value.ref a from d);obtain⟨_,_,F,_,p⟩:=(show bZ X.prog X.w H s.heap a (.dK kvs) from I.hok a _ ea);obtain⟨o,j,m,h1,h2,_⟩:=p;exact PySem.W.kia_one PySem.W.kitx_dict I.kIn ⟨o,h1,h2.1⟩ e (λz=>nomatch z) h
 | @dT a kvs ea =>
  cases(show u=Value.ref a from d);obtain⟨_,_,f,_,o,j,m,h1,h2,_⟩:=(show bZ X.prog X.w H s.heap a (.dT kvs) from I.hok a _ ea);exact PySem.W.kia_one PySem.W.kitx_dict I.kIn ⟨o,h1,h2.1⟩ e (λz=>nomatch z) h
 | @ins a C dx fs ea cl ha hn htk hm =>
  cases(show u=Value.ref a from d);obtain⟨L,O,_⟩:=sG I.hok ea;obtain⟨G,J,_⟩:=O.look;exact PySem.W.kia_one (PySem.W.kitx_own (cl.get _) cl.hd ha hn htk hm) I.kIn J e (λz=>nomatch z) h
structure aZ(k:Nat)(A:Around):Prop where
 hd:A.handled=none
 dp:A.depth+3 * k+5<recursionLimit
 un:A.units+16 * k+200<cLine
def aZ.mono   (r:aZ k A)(h:j<=k):aZ j A:=⟨r.hd,by have:=r.dp;omega,by have:=r.un;omega⟩
def aZ.deeper   (r:aZ (k+1) A)(env:Env):aZ k (A.deeper env):=
 ⟨r.hd,by have:=r.dp;show A.depth+1+3 * k+5<_;omega,by have:=r.un;show A.units+3+16 * k+200<_;omega⟩
def R0{A:Around}   :(A.under (.builtin "type.__call__" ⟨.ref C::us,b⟩)).depth=A.depth+1:=by
 first | rfl | simp
def R1{A:Around}   :(A.under (.builtin "type.__call__" ⟨.ref C::us,b⟩)).units=A.units+1:=by
 first | rfl | simp
def aZ.make   (r:aZ (k+1) A)(C:Addr)(us:List Value)(b:List (Str×Value)):aZ k (A.under (.builtin "type.__call__" ⟨.ref C::us,b⟩)):=
 ⟨r.hd,by have:=r.dp;rw[R0];omega,by have:=r.un;rw[R1];omega⟩
def aZ.depth   (r:aZ k A):A.depth<recursionLimit:=by have:=r.dp;omega
def aZ.units   (r:aZ k A):A.units+64<cLine:=by have:=r.un;omega
def p6:TA:=λ_ H Q=>Q [] H
def R3(f:TE)(d:TA):TA:=λσ H Q=>f σ H λx m=>d σ m λb j=>Q (x::b) j
def gj:PA X [] p6:=λ_ _ _ _ H Q I h=>Calls.spliced_nil ⟨[],H,I,.nil,h⟩
def fJ(d:PE X e te)(b:PA X es t)(hs:starEach (e::es) X.env=(false,eval e X.env)::starEach es X.env:=by rfl):PA X (e::es) (R3 te t):=by
 intro f pins s σ H Q I h;rw[hs];show wpAny _ _ (spliced ((false,eval e _)::backTo _ _)) _ _ s;refine Calls.spliced_cons (thn (d _ s σ H _ I h) λu s1 ⟨x,H1,I1,r1,q1⟩=>?_)
 exact thn (b _ _ s1 σ H1 _ I1 q1) λus s2 ⟨xs,H2,I2,r2,q2⟩=>⟨x::xs,H2,I2,.cons r1 r2,q2⟩
def R4(t:TA):TE:=λσ H Q=>t σ H λb d=>b.length<=sizeLine/\∀p,d p=none->Q (.ref p) (upd d p (.tup b))
def R5(t:TA):TE:=λσ H Q=>t σ H λb d=>b.length<=sizeLine/\∀p,d p=none->Q (.ref p) (upd d p (.lst b))
def R6  (h:PA X es t):PE X (.Tuple es m j) (R4 t):=by
 intro pins s σ H Q I d;refine wpAny_Tuple_spliced (thn (h _ _ s σ H _ I d) λus s1 ⟨xs,H1,I1,r,z,q⟩=>⟨by rw[<-r.length];exact z,?_⟩);have f :=I1.hok.fresh (zc _);refine⟨.ref _,upd H1 _ _,I1.laid (λb u e=>zo _ e) (zc _) ?_,rfl,q _ f⟩;exact⟨z,us,r,⟨_,zz _ rfl,rfl,_,rfl⟩⟩
def R7(h:PA X es t):PE X (.List es j) (R5 t):=by
 intro pins s σ H Q I d;refine wpAny_List_spliced (thn (h _ _ s σ H _ I d) λus s1 ⟨xs,H1,I1,r,z,q⟩=>⟨by rw[<-r.length];exact z,?_⟩);have f :=I1.hok.fresh (zc _);refine⟨.ref _,upd H1 _ _,I1.laid (λb u e=>zo _ e) (zc _) ?_,rfl,q _ f⟩;exact⟨z,us,0,r,zz _ rfl⟩
abbrev Sp:=List V->Hp->VK->XK->Prop
abbrev CXT:=List Env->Hp->Shared->XK->Value->Shared->Prop
structure iZ(P:Program)(w:World)(K:PySem.W.Frag)(mg:Str->Option Value)(base:Heap)(A:Around)(outer:List Env)(s:Shared)(H:Hp):Prop where
 frames:A.frames=some outer
 mod:Mod K mg base
 bs:∀b o,base.get? b=some o->s.heap.get? b=some o/\H b=none
 bsz:base.objs.size<=s.heap.objs.size
 funs:s.heap.FunFrames base outer
 frf:∀b∈frs outer,H b=none
 hok:HOk P w H s.heap
 bare:AllBare s.gens
inductive CE (outer:List Env) (P:Program) (w:World) (H:Hp) (s:Shared) (Q:VK) (u:Value) (s':Shared):Prop
 | mk:∀v H',s'.os=s.os->AllBare s'.gens->Un (frs outer) [] H H' s.heap s'.heap->HOk P w H' s'.heap->RelV v u->Q v H'->CE outer P w H s Q u s'
def CR(CX:CXT)(outer:List Env)(P:Program)(w:World)(H:Hp)(s:Shared)(Q:VK)(E:XK)(r:Result)(b:Shared):Prop :=
 match r with
 | .ok (.ret u)=>CE outer P w H s Q u b
 | .ok _=>False
 | .error e=>CX outer H s E e b
structure cz(P:Program)(w:World)(K:PySem.W.Frag)(mg:Str->Option Value)(base:Heap)(CX:CXT)(k:Nat)(f:Addr)(fd:FuncData)(ps:List Str)(sp:Sp):Prop where
 len:∀vs H Q E,sp vs H Q E->vs.length=ps.length
 run:∀(A:Around) (outer:List Env) (s:Shared) (H:Hp) (args:Args) (us:List Value) (vs:List V) (Q:VK) (E:XK),aZ k A->iZ P w K mg base A outer s H->BindsTo s fd args (ps.zip us)->aH vs us->sp vs H Q E ->
  codeAny (model P w) A (.call (.ref f) args) (CR CX outer P w H s Q E) s
def cz.imp   {K:PySem.W.Frag}         (F:cz P w K mg base CX k f fd ps sp)
  (h:∀vs H Q E,x vs H Q E->sp vs H Q E):cz P w K mg base CX k f fd ps x :=
 ⟨λvs H Q E q=>F.len vs H Q E (h _ _ _ _ q),λA outer s H args b vs Q E j m u d hs=>F.run A outer s H args b vs Q E j m u d (h _ _ _ _ hs)⟩
def iZ.make   {K:PySem.W.Frag}       (e:iZ P w K mg base A outer s H)(C:Addr)(us:List Value)(b:List (Str×Value)):
  iZ P w K mg base (A.under (.builtin "type.__call__" ⟨.ref C::us,b⟩)) outer s H:=⟨by first | exact e.frames | (simpa [Around.under,Code.envs,Code.isFrame,pushEnvs] using e.frames),e.mod,e.bs,e.bsz,e.funs,e.frf,e.hok,e.bare⟩
def Inv.env0{σ:St}(I:Inv X b σ H s):iZ X.prog X.w X.K X.mg X.base X.A X.stack s H :=
 ⟨I.ok.frames,I.ok.mod,I.bs,zI I.ok.bsz I.sz,I.stack,I.stkFree,I.hok,I.bare⟩
def Inv.after{σ:St}   (I:Inv X x σ H s)(h:CE X.stack X.prog X.w H s Q u y):EP X x σ Q u y:=by
 obtain⟨v,m,os,bare,un,hok,r,q⟩:=h;obtain⟨j,g,d,t,f⟩:=y;obtain rfl:f=s.os:=os;exact⟨v,m,I.call (h':=j) (g':=g) (d':=d) (t':=t) (ch:=[]) un hok bare (λb z=>absurd z (by simp)),r,q⟩
def p7(sp:Sp)(dvs:List V)(E:XK)(t:TA):TE:=λσ H Q=>t σ H λb d=>sp (b++dvs) d Q E
def wC(C:Addr)(m:Str)(sp:Sp)(dvs:List V)(E:XK)(f:TE)(t:TA):TE:=λσ H Q=>f σ H λx b=>∃a j fs,x=.ref a/\b a=some (.ins C j fs)/\fs.lookup m=none /\
 t σ b λd q=>sp (x::(d++dvs)) q Q E
def wD(C:Addr)(sp:Sp)(dvs:List V)(E:XK)(t:TA):TE:=λσ H Q=>t σ H λf d=>∀x b,d x=none->d b=none->b≠x ->
 sp (.ref x::(f++dvs)) (upd (upd d b (.own x)) x (.ins C b [])) (λv j=>v=.non/\Q (.ref x) j) E
def Binds(K:PySem.W.Frag)(fd:FuncData)(ps:List Str)(ds:List Value):Prop :=
 ∀(s:Shared) (b:List Value),K.In s.heap->(b++ds).length=ps.length->BindsTo s fd ⟨b,[]⟩ (ps.zip (b++ds))
def Binds.all{K:PySem.W.Frag}   (h:∀us:List Value,us.length=ps.length->bindArgs fd ⟨us,[]⟩=pure (ps.zip us)):Binds K fd ps []:=λs us _ b=>by
 rw[zJ] at b ⊢;exact .of_eq (h us b)
def jw(CX:CXT)(X:Cx)(E:XK):Prop:=∀(pins:List (Addr×Obj)) (σ:St) (H:Hp) (s:Shared) (e:Value) (b:Shared),Inv X pins σ H s->CX X.stack H s E e b->X.xe e b
def sH  {σ:St}      (F:cz X.prog X.w X.K X.mg X.base CX k f fd ps sp)(m:aZ k X.A)(hb:Binds X.K fd ps ds)(hd:aH dvs ds)(hx:jw CX X E)
  (I:Inv X pins σ H s) (r:aH vs us) (h:sp (vs++dvs) H Q E):wpAny (model X.prog X.w) X.A (call (.ref f) us) (EP X pins σ Q) X.xe s:=by
 have d:aH (vs++dvs) (us++ds):=r.append hd
 have q:(us++ds).length=ps.length:=by rw[<-d.length];exact F.len _ _ _ _ h
 refine wpAny_call (codeAny_mono (F.run X.A X.stack s H ⟨us,[]⟩ (us++ds) (vs++dvs) Q E m I.env0 (hb s us I.kIn q) d h) λr j b=>?_)
 cases r with
 |error e=>exact hx pins σ H s e j I b
 |ok fl =>
  cases fl with
  |ret u=>exact I.after b
  |next=>exact False.elim b
  |brk=>exact False.elim b
  |cont=>exact False.elim b
def R8{p b:Pos}(F:cz X.prog X.w X.K X.mg X.base CX k f fd ps sp)(m:aZ k X.A)(C:Gl X x)(u:X.mg x=some (.ref f))(y:PySem.W.keepIn X.K (.ref f)=true)(hb:Binds X.K fd ps ds)(hd:aH dvs ds)(hx:jw CX X E)
  (J:PA X (e::es) t) (j:(x == ("__debug__":Str))=false:=by decide) (G:starEach (e::es) X.env=(false,eval e X.env)::starEach es X.env:=by rfl) (d:(backTo b (starEach es X.env)).any (·.1)=false:=by rfl):
  PE X (.Call (.Name x p) (e::es) [] b) (p7 sp dvs E t):=by
 intro pins s σ H Q I h;refine wpAny_Call_Name_kw (pQ I C u ?_ j);refine PySem.W.callWith_K I.ok.mod.kin y (thn (J _ _ s σ H _ I h) λus s1 ⟨vs,H1,I1,r,q⟩=>⟨I1.kIn,?_⟩) G d;exact sH F m hb hd hx I1 r q
def R9(F:cz X.prog X.w X.K X.mg X.base CX k f fd ps sp)(d:aZ k X.A)(q:Gl X x)(j:X.mg x=some (.ref f))(m:PySem.W.keepIn X.K (.ref f)=true)(hb:Binds X.K fd ps ds)(hd:aH dvs ds)(hx:jw CX X E)
  (b:(x == ("__debug__":Str))=false:=by decide):PE X (.Call (.Name x p) [] [] pos) (p7 sp dvs E p6):=by
 intro pins s σ H Q I h;refine wpAny_Call_Name_kw (pQ I q j ?_ b);exact PySem.W.callWith_K0 I.kIn m (sH F d hb hd hx I .nil h)
def Sd{b apos:Pos}{pl:Sem Bool}(L:PE X o P)(c:Cls X.K C)(y:nO X.K C m f)(F:cz X.prog X.w X.K X.mg X.base CX k f fd ps sp)(J:aZ k X.A)(hb:Binds X.K fd ps ds)(hd:aH dvs ds)(hx:jw CX X E)(O:PA X (e::es) t)
  (d:starEach (e::es) X.env=(false,eval e X.env)::starEach es X.env:=by rfl) (j:(backTo b (starEach es X.env)).any (·.1)=false:=by rfl)
  (G:eval (.Call (.Attribute o m apos) (e::es) [] b) X.env=(do
   let ov <-eval o X.env
   standAt apos.atName
   let (f,first) <-holding [ov] (getMethod ov m pl)
   callWith b f first (backTo b (starEach (e::es) X.env)) (backToKw b (keywordEach [] X.env))):=by rfl):
  PE X (.Call (.Attribute o m apos) (e::es) [] b) (wC C m sp dvs E P t):=by
 intro pins s σ H Q I h;refine PySem.W.methodCall_KW (pl:=pl) (thn (L pins s σ H _ I h) λu s1 ⟨x,H1,I1,rx,a,dx,fs,ex,ea,l,q⟩=>?_) G;subst ex;obtain rfl:u=Value.ref a:=rx;refine Dw I1 ea c y l ?_;refine PySem.W.callWith_K (first:=[.ref a]) (h₀:=X.base) I.ok.mod.kin y.kp (thn (O b pins s1 σ H1 _ I1 q) λus s2 ⟨vs,H2,I2,r,q2⟩=>⟨I2.kIn,?_⟩) d j;exact sH (us:=.ref a::us) (vs:=.ref a::vs) F J hb hd hx I2 (.cons rfl r) q2
def Sg  (y:PE X o L)(c:Cls X.K C)(b:nO X.K C m f)(F:cz X.prog X.w X.K X.mg X.base CX k f fd ps sp)(j:aZ k X.A)(hb:Binds X.K fd ps ds)(hd:aH dvs ds)(hx:jw CX X E)
  (d:eval (.Call (.Attribute o m J) [] [] G) X.env=(do
   let ov <-eval o X.env
   standAt J.atName
   let (f,first) <-holding [ov] (getMethod ov m pl)
   callWith G f first (backTo G (starEach [] X.env)) (backToKw G (keywordEach [] X.env))):=by rfl):
  PE X (.Call (.Attribute o m J) [] [] G) (wC C m sp dvs E L p6):=by
 intro pins s σ H Q I h;refine PySem.W.methodCall_KW (pl:=pl) (thn (y pins s σ H _ I h) λu s1 ⟨x,H1,I1,rx,a,dx,fs,ex,ea,l,q⟩=>?_) d;subst ex;obtain rfl:u=Value.ref a:=rx;refine Dw I1 ea c b l ?_;exact PySem.W.callWith_K0 (first:=[.ref a]) I1.kIn b.kp (sH (us:=[.ref a]) (vs:=[.ref a]) F j hb hd hx I1 (.cons rfl .nil) q)
structure Mk(K:PySem.W.Frag)(C f:Addr):Prop where
 makes:PySem.W.makesIn K C=true
 init:PySem.W.findIn K (.ref C) "__init__" = some (some (.ref f))
 fn:PySem.W.isFn K (.ref f)=true
 kp:PySem.W.keepIn K (.ref C)=true
def Dy  {σ:St}      (M:Mk X.K C f)(F:cz X.prog X.w X.K X.mg X.base CX k f fd ps sp)(L:aZ (k+1) X.A)(hb:Binds X.K fd ps ds)(hd:aH dvs ds)
  (hx:jw CX X E) (I:Inv X pins σ H s) (r:aH vs us)
  (h:∀x d,H x=none->H d=none->d≠x->sp (.ref x::(vs++dvs)) (upd (upd H d (.own x)) x (.ins C d [])) (λv T=>v=.non/\Q (.ref x) T) E):
  wpAny (model X.prog X.w) X.A (call (.ref C) us) (EP X pins σ Q) X.xe s:=by
 have q:=h _ _ (I.hok.fresh (Nat.le_succ _)) (I.hok.fresh (zc _)) (zq (jd _));have j:=Inv.made (C:=C) I;have m:aH (V.ref (s.heap.objs.size+1)::(vs++dvs)) _:=.cons rfl (r.append hd)
 have O :=by
  have e:=m.length;rw[F.len _ _ _ _ q] at e;exact e.symm
 refine wpAny_call (RL I.kIn M.makes M.init (beq_iff_eq.mp M.fn) (codeAny_mono (F.run _ _ _ _ _ _ _ _ E (L.make C us [])
  (j.env0.make C us []) (hb _ _ j.kIn O) m q) λr y b=>?_))
 cases r with
 |error e=>exact hx _ σ _ _ e y j b
 |ok fl =>
  cases fl with
  |ret u =>
   obtain⟨v,U,R,G,P,J⟩:=j.after b;subst P;exact⟨G,⟨V.ref _,U,R,rfl,J⟩⟩
  | next
  | brk
  |cont=>exact False.elim b
def Dz{p b:Pos}(M:Mk X.K C f)(F:cz X.prog X.w X.K X.mg X.base CX k f fd ps sp)(m:aZ (k+1) X.A)(y:Gl X x)(u:X.mg x=some (.ref C))(hb:Binds X.K fd ps ds)(hd:aH dvs ds)(hx:jw CX X E)
  (J:PA X (e::es) t) (j:(x == ("__debug__":Str))=false:=by decide) (G:starEach (e::es) X.env=(false,eval e X.env)::starEach es X.env:=by rfl) (d:(backTo b (starEach es X.env)).any (·.1)=false:=by rfl):
  PE X (.Call (.Name x p) (e::es) [] b) (wD C sp dvs E t):=by
 intro pins s σ H Q I h;refine wpAny_Call_Name_kw (pQ I y u ?_ j);refine PySem.W.callWith_K I.ok.mod.kin M.kp (thn (J _ _ s σ H _ I h) λus s1 ⟨vs,H1,I1,r,q⟩=>⟨I1.kIn,?_⟩) G d;exact Dy M F m hb hd hx I1 r q
def Sh(M:Mk X.K C f)(F:cz X.prog X.w X.K X.mg X.base CX k f fd ps sp)(d:aZ (k+1) X.A)(m:Gl X x)(j:X.mg x=some (.ref C))(hb:Binds X.K fd ps ds)(hd:aH dvs ds)(hx:jw CX X E)
  (b:(x == ("__debug__":Str))=false:=by decide):PE X (.Call (.Name x p) [] [] pos) (wD C sp dvs E p6):=by
 intro pins s σ H Q I h;refine wpAny_Call_Name_kw (pQ I m j ?_ b);exact PySem.W.callWith_K0 I.kIn M.kp (Dy M F d hb hd hx I .nil h)
structure QDO(K:PySem.W.Frag)(fd:FuncData)(ps ks:List Str)(g:List Value->List Value->List Value)(gV:List V->List V->List V):Prop where
 to:∀(s:Shared) (us ws:List Value),K.In s.heap->(g us ws).length=ps.length->BindsTo s fd ⟨us,ks.zip ws⟩ (ps.zip (g us ws))
 rel:∀{vs:List V}{us:List Value}{zs:List V}{ws:List Value},aH vs us->aH zs ws->aH (gV vs zs) (g us ws)
structure fK(N P:List Str)(sc:Scope):Prop where
 kind:sc.kind=.function
 co:sc.isCoroutine=false
 gen:sc.isGenerator=false
 nd:N.Nodup
 pre:N.take P.length=P
 par:∀x∈P,sc.names.lookup x=some .local\/sc.names.lookup x=some .cell
 nofree:∀y∈sc.names,y.2≠.free
theorem DG{kindOf:Str->Option NameKind} :∀{binds:List (Str×Value)}{m:Str->Option Value},(∀v,(x,v)∉binds)->bindL kindOf binds m x=m x
 | [],_,_=>rfl
 | (n,v)::r,m,h=>by
  unfold bindL;rw[DG λw b=>h w (zp _ b)]
  split
  ·have:x≠n:=by rintro rfl;exact h v zd
   simp[this]
  ·rfl
theorem DK{kindOf:Str->Option NameKind} :∀{binds:List (Str×Value)}{m:Str->Option Value},(∀v,(x,v)∉binds)->bindC kindOf binds m x=m x
 | [],_,_=>rfl
 | (n,v)::r,m,h=>by
  unfold bindC;rw[DK λw b=>h w (zp _ b)]
  split
  ·rfl
  ·have:x≠n:=by rintro rfl;exact h v zd
   simp[this]
theorem DN{kindOf:Str->Option NameKind}{x:Str}{v:Value}:∀{P:List Str}{vs:List Value}{i:Nat}{m:Str->Option Value},P.Nodup->P[i]?=some x->vs[i]?=some v->kindOf x=some .local ->
  bindL kindOf (P.zip vs) m x=some v
 | [],_,_,_,_,h,_,_=>by simp at h
 | _::_,[],_,_,_,_,h,_=>by simp at h
 |p::P,w::vs,0,m,nd,h1,h2,hk=>by
  simp at h1 h2;subst h1;subst h2
  show bindL _ ((p,w)::P.zip vs) m p=_;unfold bindL;rw[DG λv b=>(List.nodup_cons.mp nd).1 (List.of_mem_zip b).1,if_pos hk];simp
 |p::P,w::vs,i+1,m,nd,h1,h2,hk=>by
  unfold bindL;exact DN (List.nodup_cons.mp nd).2 (by simpa ) (by simpa ) hk
theorem DP{kindOf:Str->Option NameKind}{x:Str}{v:Value}:∀{P:List Str}{vs:List Value}{i:Nat}{m:Str->Option Value},P.Nodup->P[i]?=some x->vs[i]?=some v->kindOf x≠some .local ->
  bindC kindOf (P.zip vs) m x=some v
 | [],_,_,_,_,h,_,_=>by simp at h
 | _::_,[],_,_,_,_,h,_=>by simp at h
 |p::P,w::vs,0,m,nd,h1,h2,hk=>by
  simp at h1 h2;subst h1;subst h2
  show bindC _ ((p,w)::P.zip vs) m p=_;unfold bindC;rw[DK λv b=>(List.nodup_cons.mp nd).1 (List.of_mem_zip b).1,if_neg hk];simp
 |p::P,w::vs,i+1,m,nd,h1,h2,hk=>by
  unfold bindC;exact DP (List.nodup_cons.mp nd).2 (by simpa ) (by simpa ) hk
noncomputable def start(N:List Str)(vs:List V):St:=vs.map some++List.replicate (N.length - vs.length) none
noncomputable def gk(CX:CXT)(P:Program)(w:World)(K:PySem.W.Frag)(mg:Str->Option Value)(base:Heap)(N:List Str)(qual:Str)(scope:Scope)(f:Addr)(cd:Value)(A:Around)(outer:List Env)(s:Shared)(H:Hp)(E:XK):Cx where
 prog:=P
 w:=w
 K:=K
 mg:=mg
 base:=base
 A:=A.deeper (envOfC qual scope s.heap.objs.size f cd)
 N:=N
 s₀:=s
 H₀:=H
 env:=envOfC qual scope s.heap.objs.size f cd
 outer:=outer
 stack:=envOfC qual scope s.heap.objs.size f cd::outer
 ex:=[]
 calm:=true
 fn:=λ_=>true
 pn:=[]
 xe:=λe s'=>wpAny (model P w) (A.deeper (envOfC qual scope s.heap.objs.size f cd)) (leaving (envOfC qual scope s.heap.objs.size f cd) e) (λ_ s''=>CX outer H s E e s'') (λe' s''=>CX outer H s E e' s'') s'
def DQ{b:Scope}   (h:b.names.lookup x=some .cell):∃c,(cellsFrom n b.names []).lookup x=some c:=by
 have q:=PySem.W.cellsFrom_some _ n [] (.inl h);exact Option.isSome_iff_exists.mp q
def Sq    {K:PySem.W.Frag}
  (S:fK N ps scope) (hd:A.handled=none) (d:iZ P w K mg base A outer s H) (R:vs.length=ps.length) (r:aH vs us)
  (x:InCallC s s.heap.objs.size (bindL (envOfC T scope s.heap.objs.size f U).kindOf (ps.zip us) λ_=>none) (cellsFrom (s.heap.objs.size+1) scope.names []) (bindC (envOfC T scope s.heap.objs.size f U).kindOf (ps.zip us) λ_=>none) X):
  Inv (gk CX P w K mg base N T scope f U A outer s H E) [] (start N vs) H X:=by
 have Q :=by have:=congrArg List.length S.pre;rw[List.length_take] at this;omega
 obtain⟨h1,tk,rfl,J⟩:=x.done
 have j:∀b ,b∉(gk CX P w K mg base N T scope f U A outer s H E).ex:=λb z=>absurd (show b∈[] from z) (by simp)
 refine⟨⟨d.mod,S.kind,rfl,rfl,zc _,λy z c h1 h2=>?_,λy m=>?_,λy c _ h=>?_,λ_=>hd,Around.frames_deeper d.frames,.inr ⟨rfl,rfl⟩,λb z=>absurd z (j b),d.bs,d.bsz,λb _ _=>j b,λb z=>absurd z (j b),d.funs,d.frf⟩,
  rfl,d.bare,Un.kept J,⟨_,x.toInCall.ns,λi y v h1 h2 h3=>?_⟩,λy c h=>⟨_,x.cell y c h⟩,d.hok.fresh (zc _),λy c h=>?_,λp C=>absurd (show p∈[] from C) (by simp),d.hok.kept J,?_⟩
 ·exact name_of_addr x.apart (PySem.mem_of_lookup h1) (PySem.mem_of_lookup h2)
 ·rcases m with m | m
  ·exact DQ m
  ·exact absurd rfl (S.nofree _ (PySem.mem_of_lookup m))
 ·exact Nat.le_of_lt (x.above y c (PySem.mem_of_lookup h))
 ·have G:i<vs.length:=by
   unfold start at h2
   by_cases G:i<vs.length
   ·exact G
   ·rw[zK (by simpa using G)] at h2;rw[List.getElem?_replicate] at h2
    split at h2<;>cases h2
  have O:vs[i]?=some v:=by
   unfold start at h2;rw[zE (by simpa ),zF] at h2
   cases e:vs[i]? with
   |none=>rw[e] at h2;cases h2
   |some a=>rw[e] at h2;cases h2;rfl
  obtain⟨u,I,L⟩:=r.get O
  have C:ps[i]?=some y:=by
   rw[<-S.pre,List.getElem?_take_of_lt (by omega)];exact h1
  have F:ps.Nodup:=by rw[<-S.pre];exact S.nd.sublist (List.take_sublist _ _)
  refine⟨u,L,?_⟩
  rcases S.par y (zL C) with k | k
  ·exact .inl ⟨k,DN F C I k⟩
  ·obtain⟨c,e⟩:=DQ k;refine .inr ⟨.inl k,c,e,?_⟩;have q:=x.cell y c e;rw[DP F C I (by show scope.names.lookup y≠_;rw[k];decide)] at q;exact q
 ·exact d.hok.fresh (Nat.le_of_lt (x.above y c (PySem.mem_of_lookup h)))
 ·unfold start;show _=N.length;rw[ze,zf,List.length_replicate];omega
def DR    {K:PySem.W.Frag}         {kV:Value}
       (lk:K.lookup f=some ⟨oc,od,.func (PySem.W.fnOf name qual params body scope dV kV doc pm an cdv ct),osl⟩) (U:PySem.W.codeIn K cdv qual=true) (S:fK N ps scope)
  (len:∀vs H Q E,sp vs H Q E->vs.length=ps.length)
  (C:∀(A:Around) (outer:List Env) (s:Shared) (H:Hp) (vs:List V) (Q:VK) (E:XK),aZ k (A.deeper (envOfC qual scope s.heap.objs.size f cdv))->sp vs H Q E ->
   ∃t,PSs (gk CX P w K mg base N qual scope f cdv A outer s H E) body t/\t {nx:=λ_ j=>Q .non j,rt:=Q} (start N vs) H):
  cz P w K mg base CX (k+1) f (PySem.W.fnOf name qual params body scope dV kV doc pm an cdv ct) ps sp:=by
 refine⟨len,λA outer s H args Z vs Q E R F hb r G=>?_⟩;have hl:=len _ _ _ _ G
 have Y:K.In s.heap:=F.mod.kin.keeps λb o e=>(F.bs b o e).1
 have T:s.heap.NoLimit:=F.mod.nolimit.keeps λb o e=>(F.bs b o e).1
 have m:∀y∈ps.zip Z,scope.names.lookup y.1=some .local\/(scope.names.lookup y.1=some .cell/\((cellsFrom (s.heap.objs.size+1) scope.names []).lookup y.1).isSome=true):=λ⟨n,v⟩ hy=>by
  rcases S.par n (List.of_mem_zip hy).1 with q | q
  ·exact .inl q
  ·exact .inr ⟨q,PySem.W.cellsFrom_some _ _ _ (.inl q)⟩
 refine codeAny_call_function R.depth (Y _ _ lk) rfl S.co S.gen rfl (PySem.W.codeRec_of Y U) (hb _ _ _ _ ?_)
 refine wpAny_newFunctionEnv_cells S.kind m λenv he X x=>?_
 subst he;refine⟨T.keeps x.toInCall.keep,codeAny_func ?_⟩;obtain⟨t,ht,hq⟩:=C A outer s H vs Q E (R.deeper _) G;have I:Inv (gk CX P w K mg base N qual scope f cdv A outer s H E) [] (start N vs) H X:=Sq S R.hd F hl r x
 refine zT (ht [] X (start N vs) H _ I hq) (λfl L hs=>?_) λe L hs=>hs
 have fin:∀{d:St}{j:Hp}{v:V}{u:Value},Inv (gk CX P w K mg base N qual scope f cdv A outer s H E) [] d j L->RelV v u->Q v j->CE outer P w H s Q u L :=
  λ{d j v u} J O q=>⟨v,j,J.os,J.bare,J.base,J.hok,O,q⟩
 cases fl with
 |ret u =>
  obtain⟨v,d,j,J,O,q⟩:=hs;exact fin J O q
 |next =>
  obtain⟨d,j,J,q⟩:=hs;exact fin (v:=V.non) (u:=Value.none) J rfl q
 |brk =>
  obtain⟨_,_,_,q⟩:=hs;exact False.elim q
 |cont =>
  obtain⟨_,_,_,q⟩:=hs;exact False.elim q
def tCB(r:List V->Hp->VK->Prop)(t:TA):TE:=λσ H Q=>t σ H λb d=>r b d Q
def wG{p b:Pos}{j:String}(C:fH X (.builtin j) r)(u:Gl X x)(q:X.mg x=none)(hv:bootBuiltins x=some (.builtin j))(E:PA X (e::es) t)(m:x≠"__name__":=by decide)(f:(x == ("__debug__":Str))=false:=by decide)
  (y:starEach (e::es) X.env=(false,eval e X.env)::starEach es X.env:=by rfl) (d:(backTo b (starEach es X.env)).any (·.1)=false:=by rfl):PE X (.Call (.Name x p) (e::es) [] b) (tCB r t):=by
 intro pins s σ H Q I h;refine wpAny_Call_Name_kw (j5 I u q hv ?_ m f);exact PyProof.Rows.callWith_builtin1 (thn (E b pins s σ H _ I h) λus s1 ⟨vs,H1,I1,r1,q1⟩=>C pins s1 σ H1 vs us Q I1 r1 q1) y d
def wH{p b:Pos}(y:fH X (.type T) r)(q:Gl X x)(m:X.mg x=none)(hv:bootBuiltins x=some (.type T))(C:PA X (e::es) t)(j:x≠"__name__":=by decide)(f:(x == ("__debug__":Str))=false:=by decide)
  (u:starEach (e::es) X.env=(false,eval e X.env)::starEach es X.env:=by rfl) (d:(backTo b (starEach es X.env)).any (·.1)=false:=by rfl):PE X (.Call (.Name x p) (e::es) [] b) (tCB r t):=by
 intro pins s σ H Q I h;refine wpAny_Call_Name_kw (j5 I q m hv ?_ j f);exact PyProof.Rows.callWith_type1 (thn (C b pins s σ H _ I h) λus s1 ⟨vs,H1,I1,r1,q1⟩=>y pins s1 σ H1 vs us Q I1 r1 q1) u d
end L2
namespace HT
open PySem PyProof.Rows
section
open PySem.SeqAt
open PySem.AutoSeq1 (wpAny_loadPart')
open PySem.MeetsSeq PySem.MeetsSeq2 PySem.MeetsSeq3
end
def cat_tup    (J:IsTup s.heap t vs.toArray)(hb:IsTup s.heap b L.toArray)(hv:vs≠[])
  (h1:L=[]->Q (.ref t) s) (h2:L≠[]->Q (.ref s.heap.objs.size) {s with heap:=s.heap.push {cls:=.type "tuple",data:=.seq (vs++L).toArray}})
  (hsz:vs.length+L.length<=sizeLine):wpAny (model prog w) A (binaryOp .Add (.ref t) (.ref b)) Q E s:=by
 obtain⟨⟨cls,G,data,sl⟩,x,C,n,hd⟩:=id J;obtain⟨⟨I,q,data2,f⟩,d,m,y,j⟩:=id hb;simp only at C hd m j;subst C hd m j
 have e:vs.toArray++L.toArray=(vs++L).toArray:=by simp
 by_cases u:L=[]
 ·exact concat_meets ⟨_,x,rfl⟩ ⟨_,d,rfl⟩ noFill_tuple_add seq_tuple_add PySem.F.slot_tuple_add PySem.F.entry_tuple_add (PySem.F.args_tuple_add_2 _ _)
   (tuple_addW1 t b vs.toArray L.toArray n y G q sl f (by simpa using hv) (by simp[u])) ⟨x,d,h1 u⟩
 ·refine concat_meets ⟨_,x,rfl⟩ ⟨_,d,rfl⟩ noFill_tuple_add seq_tuple_add PySem.F.slot_tuple_add PySem.F.entry_tuple_add (PySem.F.args_tuple_add_2 _ _)
   (tuple_addW2 t b vs.toArray L.toArray n y G q sl f (by simpa using hv) (by simpa using u) (by rw[zG,zG];exact hsz)) ⟨x,d,?_⟩
  rw[e];exact h2 u
def sIx(n d:Nat):Option Int->Nat
 |none=>d
 |some v=>if v<0 then(v+(n:Int)).toNat else min v.toNat n
def sIx_none(n d:Nat):sIx n d none=d:=rfl
def sIx_nat(n d k:Nat):sIx n d (some (k:Int))=min k n:=by
 show(if k<0 then k+(n:Int).toNat else min _ n)=min k n;rw[if_neg (by omega),Int.toNat_natCast]
def sIx_le(n d:Nat)(hd:d<=n)(o:Option Int):sIx n d o<=n:=by
 cases o with
 |none=>exact hd
 |some v =>
  show(if v<0 then(v+n).toNat else min _ n)<=n
  by_cases b:v<0
  ·rw[if_pos b];omega
  ·rw[if_neg b];exact Nat.min_le_right _ _
def DW(v:Int)(n d:Nat):(if v<0 then max (v+(n:Int)) 0 else min v (n:Int))=((sIx n d (some v):Nat):Int):=by
 show(if v<0 then max _ 0 else min v n)=(if v<0 then(v+(n:Int)).toNat else min v.toNat n)
 by_cases b:v<0
 ·simp only[if_pos b];omega
 ·simp  [if_neg b];omega
def Ss(lo b:Option Int)(n:Nat):Builtin.Slice.sliceAdjust lo b 1 (n:Int)=(((sIx n 0 lo:Nat):Int),((sIx n n b:Nat):Int)):=by
 refine Prod.ext ?_ ?_
 ·cases lo with
  |none=>rfl
  |some v=>exact DW v n 0
 ·cases b with
  |none=>rfl
  |some v=>exact DW v n n
def Su(i j:Nat):Builtin.Slice.slicePlaces (i:Int) (j:Int) 1=j - i:=by
 unfold Builtin.Slice.slicePlaces
 split<;>omega
def DX    (p:IsPart v o)(h:Q o s):wpAny (model prog w) A (Builtin.Slice.slicePartIndex v) Q E s:=by
 cases p with
 |none=>exact slicePart_none h
 |int =>exact slicePart_int h
def sliceApplied_gen   {lo:Option Int}{n:Nat}  (hs:s.heap.IsSliceOf sl vl q .none)(pl:IsPart vl lo)(f:IsPart q m)
  (h:Q (((sIx n 0 lo:Nat):Int),1,sIx n n m - sIx n 0 lo) s):wpAny (model prog w) A (Builtin.Slice.sliceApplied (.ref sl) (pure (n:Int))) Q E s:=by
 obtain⟨os,b,j,d⟩:=id hs;refine za (za (wpAny_field b d rfl (za (wpAny_field b d rfl (za (wpAny_field b d rfl (zb ?_)))))));refine za (slicePart_none ?_);refine za (DX pl (za (DX f (za (zb ?_)))));show wpAny _ _ (match Builtin.Slice.sliceAdjust lo m 1 n with | (lo,m)=>pure (lo,(1:Int),Builtin.Slice.slicePlaces lo m 1)) _ _ s;rw[Ss ];show wpAny _ _ (pure _) _ _ s;rw[Su];exact zb h
def Sw(xs:Array Value)(i k:Nat):((List.range k).filterMap λ(m:Nat)=>xs[((i:Int)+(m:Int) * 1).toNat]?).toArray=((xs.toList.drop i).take k).toArray:=by
 have e:(λ(m:Nat)=>xs[(i+(m:Int) * 1).toNat]?)=λm=>xs[i+m]?:=by
  funext m
  have:((i:Int)+m * 1).toNat=i+m:=by omega
  rw[this]
 rw[e]
 have:=pick_run xs i k
 rw[List.filterMap_map] at this
 have b:((λx=>xs[x]?) ∘ λx=>i+x)=λm=>xs[i+m]?:=rfl
 rw[b] at this;rw[this]
def getItem_tuple_cut    {lo:Option Int}  (d:IsTup s.heap t items)(hs:s.heap.IsSliceOf sl vl J .none)(pl:IsPart vl lo)(x:IsPart J I)
  (y:¬(sIx items.size 0 lo=0/\sIx items.size items.size I=items.size))
  (h:Q (.ref s.heap.objs.size) {s with heap:=s.heap.push {cls:=.type "tuple",data:=.seq ((items.toList.drop (sIx items.size 0 lo)).take (sIx items.size items.size I - sIx items.size 0 lo)).toArray}})
  (hsz:items.size<=sizeLine):wpAny (model prog w) A (getItem (.ref t) (.ref sl)) Q E s:=by
 have b :=by
  show((items.toList.drop (sIx items.size 0 lo)).take (sIx items.size items.size I - sIx items.size 0 lo)).toArray.size<=sizeLine;rw[zG,List.length_take,List.length_drop,Array.length_toList];omega
 obtain⟨os,f,m,C⟩:=id hs;have u:s.TypeIs (.ref sl) "slice":=⟨os,f,m⟩;unfold getItem
 try with_reducible refine zP ?_
 refine za (wpAny_sequenceKey d.typeIs (by decide) ?_)
 refine za (wpAny_callSpecial?_slot d.typeIs PyProof.Rows.slot_tuple_getitem
  (wpAny_call_entry PyProof.Rows.slot_tuple_getitem d.typeIs entry_tuple_getitem ?_))
 show wpAny _ _ (Builtin.Tuple.tupleItemsOf (.ref t) >>= _) _ _ s;refine za (tupleItemsOf_ d ?_);refine za (wpAny_typeOf u ?_);refine za (sliceApplied_gen hs pl x ?_)
 have j:¬((((sIx items.size 0 lo:Nat):Int) == 0&&(1:Int) == 1&&(sIx items.size items.size I - sIx items.size 0 lo) == items.size)=true):=by
  intro q;rw[zB,zB] at q;have G :=eq_of_beq q.1.1;have F :=eq_of_beq q.2;exact y ⟨by omega,by omega⟩
 show wpAny _ _ (if(((sIx items.size 0 lo:Nat):Int) == 0&&(1:Int) == 1&&(sIx items.size items.size I - sIx items.size 0 lo) == items.size)=true then _ else _) _ _ s;rw[if_neg j,Sw]
 first
  | exact za (wpAny_newObj_type (zb ⟨_,rfl,zb h⟩) b)
  | exact za
  | exact za
  | exact za
end HT
namespace L2
open PySem PySem.Spec PyProof.Rows
abbrev TO:=St->Hp->(Option Int->Hp->Prop)->Prop
def PO(X:Cx)(e:Option Expr)(t:TO):Prop :=
 ∀(pins:List (Addr×Obj)) (s:Shared) (σ:St) (H:Hp) (Q:Option Int->Hp->Prop),Inv X pins σ H s->t σ H Q ->
  wpAny (model X.prog X.w) X.A (evalPart e X.env) (λu d=>∃o b,Inv X pins σ b d/\IsPart u o/\Q o b) X.xe s
def Sx:TO:=λ_ H Q=>Q none H
def Sy(t:TE):TO:=λσ H Q=>t σ H λx b=>∃i,x=.int i/\Q (some i) b
def intsAre_of :∀{us:List Value},aH (ns.map V.int) us->IntsAre us ns:=by
 induction ns with
 |nil=>intro us r;cases r;exact .nil
 |cons n ns ih =>
  intro us r
  cases r with
  |cons r1 r2 =>
   obtain⟨t,e⟩:=r1;subst e;exact .cons n t (ih r2)
def SJ:PO X none Sx:=by
 intro pins s σ H Q I h;exact zb ⟨none,H,I,.none,h⟩
def SM(h:PE X e te):PO X (some e) (Sy te):=by
 intro pins s σ H Q I b
 refine thn (h _ s σ H _ I b) λu s1 ⟨x,H1,I1,r1,q1⟩=>?_
 obtain⟨i,rfl,q⟩:=q1;obtain⟨t,rfl⟩:=r1;exact⟨some i,H1,I1,.int i t,q⟩
def SlR(X:Cx)(r:V->Option Int->Option Int->Hp->VK->Prop):Prop :=
 ∀(pins:List (Addr×Obj)) (s:Shared) (σ:St) (H:Hp) (x:V) (v vl b:Value) (lo d:Option Int) (sl:Addr) (Q:VK),Inv X pins σ H s->RelV x v->s.heap.IsSliceOf sl vl b .none->IsPart vl lo->IsPart b d->r x lo d H Q ->
  ∃T f,typeLookup (.type T) "__getitem__" = pure (some (.builtin f))/\s.TypeIs v T/\wpAny (model X.prog X.w) X.A (getItem v (.ref sl)) (EP X pins σ Q) X.xe s
def tSl(r:V->Option Int->Option Int->Hp->VK->Prop)(te:TE)(tl b:TO):TE:=λσ H Q=>te σ H λx j=>tl σ j λl f=>b σ f λu d=>r x l u d Q
def SN{lo:Option Expr}  (j:SlR X r)(C:PE X e te)(m:PO X lo tl)(d:PO X J L):PE X (.Subscript e (.Slice lo J none O) P) (tSl r te tl L):=by
 intro pins s σ H Q I h;refine Subscript_ (thn (C pins s σ H _ I h) λv s1 ⟨x,H1,I1,r1,q1⟩=>?_);refine wpAny_Slice (thn (m pins s1 σ H1 _ I1 q1) λvl s2 ⟨l,H2,I2,pl,q2⟩=>thn (d pins s2 σ H2 _ I2 q2) λvu s3 ⟨u,H3,I3,pu,q3⟩=>?_);rw[evalPart_none];refine zb ?_
 have F:Inv X pins σ H3 {s3 with heap:=s3.heap.push {cls:=.type "slice",data:=.fields #[vl,vu,.none]}}:=I3.kept (t':=s3.toks) λb ob q=>zo _ q
 obtain⟨T,G,E,f,y⟩:=j pins {s3 with heap:=s3.heap.push {cls:=.type "slice",data:=.fields #[vl,vu,.none]}} σ H3 x v vl vu l u s3.heap.objs.size Q F r1 (Heap.IsSliceOf.new ..) pl pu q3;show wpAny (model X.prog X.w) X.A (subscriptTail e (.Slice lo J none O) v (.ref s3.heap.objs.size)) (EP X pins σ Q) X.xe {s3 with heap:=s3.heap.push {cls:=.type "slice",data:=.fields #[vl,vu,.none]}};exact tail_any (ops:=[.ref s3.heap.objs.size,v]) f E y (by with_unfolding_all rfl)
def lV(xs:List V)(lo b:Option Int):List V:=(xs.drop (HT.sIx xs.length 0 lo)).take (HT.sIx xs.length xs.length b - HT.sIx xs.length 0 lo)
def DY(xs:List V)(lo b:Option Int):(lV xs lo b).length<=xs.length:=by
 unfold lV;rw[List.length_take,List.length_drop];omega
def SQ(K:PySem.W.Frag):V->Option Int->Option Int->Hp->VK->Prop:=λx lo d H Q=>∃a b,x=.ref a/\SqT K H a b /\
 ¬(HT.sIx b.length 0 lo=0/\HT.sIx b.length b.length d=b.length)/\∀p,H p=none->Q (.ref p) (upd H p (.tup (lV b lo d)))
def SX:SlR X (SQ X.K):=by
 intro pins s σ H x v vl G lo F sl Q I u hs C y h;obtain⟨a,f,rfl,hx,E,q⟩:=h;cases u;obtain⟨d,r,m,j⟩:=I.tuple hx
 have hlen:d.toArray.size=f.length:=by exact r.length.symm
 refine⟨"tuple",_,PyProof.Rows.slot_tuple_getitem.lookup,m.typeIs,?_⟩;refine HT.getItem_tuple_cut m hs C y (by rw[hlen];exact E) ?_ (by rw[hlen];exact j);rw[hlen];refine⟨.ref _,_,I.laid (λb ob q=>zo _ q) (zc _) ?_,rfl,q _ (I.hok.fresh (zc _))⟩;exact⟨zI (DY f lo F) j,_,(r.drop _).take _,IsTup.new _ _⟩
def S5(K:PySem.W.Frag):R2:=λx y H Q=>∃a b f d,x=.ref a/\y=.ref b/\SqT K H a f/\SqT K H b d/\f≠[]/\f.length+d.length<=sizeLine /\
 (d=[]->Q (.ref a) H)/\(d≠[]->∀p,H p=none->Q (.ref p) (upd H p (.tup (f++d))))
def aH.nil_iff   (r:aH xs us):us=[]↔xs=[]:=by
 cases r with
 |nil=>simp
 |cons _ _=>simp
def S6:OpR X (binaryOp .Add) (S5 X.K):=by
 intro pins s σ H x y v u Q I E C h;obtain⟨a,b,U,T,rfl,rfl,P,O,hx,j,G,F⟩:=h;cases E;cases C;obtain⟨R,f,L,_⟩:=I.tuple P;obtain⟨m,d,J,_⟩:=I.tuple O;refine HT.cat_tup L J (λz=>hx (f.nil_iff.mp z)) (λz=>⟨.ref a,H,I,rfl,G (d.nil_iff.mp z)⟩) (λz=>?_) (by rw[<-f.length,<-d.length];exact j);refine⟨.ref _,_,I.laid (λb ob q=>zo _ q) (zc _) ?_,rfl,F (λw=>z (d.nil_iff.mpr w)) _ (I.hok.fresh (zc _))⟩;exact⟨by rw[ze];exact j,_,f.append d,IsTup.new _ _⟩
def ixN(n:Nat)(i:Int):Option Nat:=if 0<=i then(if i<n then some i.toNat else none) else if -(n:Int)<=i then some (i+n).toNat else none
def atI{α:Type}(xs:List α)(i:Int):Option α:=(ixN xs.length i).bind λj=>xs[j]?
def Ea    (h:ixN n i=some j):seqIndex? i n=some j/\j<n/\-(n:Int)<=i/\i<n:=by
 unfold ixN at h
 by_cases h0:0<=i
 ·rw[if_pos h0] at h
  by_cases h1:i<n
  ·rw[if_pos h1] at h;have e :=zC h;exact⟨by rw[seqIndex_of h0 h1,e],by omega⟩
  ·rw[if_neg h1] at h;cases h
 ·rw[if_neg h0] at h
  by_cases h1:-n<=i
  ·rw[if_pos h1] at h;have e :=zC h;exact⟨by rw[seqIndex_neg (by omega) h1,e],by omega⟩
  ·rw[if_neg h1] at h;cases h
def wI     (h:atI xs i=some v):∃j,seqIndex? i xs.length=some j/\xs[j]?=some v/\j<xs.length/\-(xs.length:Int)<=i/\i<xs.length:=by
 unfold atI at h
 cases e:ixN _ i with
 |none=>rw[e] at h;cases h
 |some j =>
  rw[e] at h;obtain⟨h1,h2,h3,h4⟩:=Ea e;exact⟨j,h1,h,h2,h3,h4⟩
def sJ(b:Expr):Prop:=∀o i,subscripted b false o i=operate [o,i] (getItem o i)
def IxR(X:Cx)(r:R2):Prop :=
 ∀(value slice:Expr) (pins:List (Addr×Obj)) (s:Shared) (σ:St) (H:Hp) (x y:V) (v u:Value) (Q:VK),Inv X pins σ H s->RelV x v->RelV y u->r x y H Q ->
  subscripted slice false v u=operate [v,u] (getItem v u)->wpAny (model X.prog X.w) X.A (subscriptTail value slice v u) (EP X pins σ Q) X.xe s
def MtR(X:Cx)(f:String)(r:V->List V->Hp->VK->Prop):Prop :=
 ∀(pins:List (Addr×Obj)) (s:Shared) (σ:St) (H:Hp) (x:V) (b:List V) (v:Value) (d:List Value) (Q:VK),Inv X pins σ H s->RelV x v->aH b d->r x b H Q ->
  wpAny (model X.prog X.w) X.A (call (.builtin f) (v::d)) (EP X pins σ Q) X.xe s
section
variable {X:Cx}{a b:Expr}{ta tb:TE}{pos:Pos}
def S7  (m:IxR X r)(C:PE X a ta)(hb:PE X b tb)(hs:sJ b):PE X (.Subscript a b pos) (tOp r ta tb):=by
 intro pins s σ H Q I h;exact Subscript_ (v9 C hb I h λv u d x y F E j f q=>m a b pins d σ F x y v u Q E j f q (hs _ _))
def S8(K:PySem.W.Frag):R2:=λx y H Q=>∃p d i v,x=.ref p/\y=.int i/\SqL K H p d/\atI d i=some v/\Q v H
def S9(K:PySem.W.Frag):R2:=λx y H Q=>∃p d i v,x=.ref p/\y=.int i/\SqT K H p d/\atI d i=some v/\Q v H
def Tc:R2:=λx y H Q=>∃z i c,x=.str z/\y=.int i/\z.length<=sizeLine/\atI z.cps.toList i=some c/\Q (.str ⟨#[c]⟩) H
def Td:IxR X (S8 X.K):=by
 intro value slice pins s σ H x y v u Q I F E h hs;obtain⟨p,P,i,z,rfl,rfl,G,L,q⟩:=h;cases F;obtain⟨t,rfl⟩:=E;obtain⟨C,r,d,R⟩:=I.list G;obtain⟨j,h1,h2,h3,h4,O⟩:=wI L;obtain⟨w,U,m⟩:=r.get h2;have J:=r.length;have T:=pY;have fin:EP X _ σ Q w s:=⟨z,H,I,m,q⟩
 by_cases h0:0<=i
 ·have f :=by
   rw[seqIndex_of h0 O] at h1;exact zC h1
  exact item_listR d.isList h0 (by omega) (by rw[f];simpa ) fin hs
 ·have f:(i+C.toArray.size).toNat=j:=by
   rw[seqIndex_neg (by omega) h4] at h1;rw[zG,<-J];exact zC h1
  exact subscriptTail_builtinR d.isList.typeIs slot_list_getitem.lookup
   (wpAny_getItem_list_neg d.isList (by omega) (by rw[zG]<;>omega) (by omega) (by rw[f];simpa ) ⟨rfl,fin⟩) hs
def Te:IxR X (S9 X.K):=by
 intro value slice pins s σ H x y v u Q I C m h hs;obtain⟨p,L,i,z,rfl,rfl,E,G,q⟩:=h;cases C;obtain⟨t,rfl⟩:=m;obtain⟨J,r,f,O⟩:=I.tuple E;obtain⟨j,h1,h2,R⟩:=wI G;obtain⟨w,T,d⟩:=r.get h2;have F:=r.length;have P:=pY;have fin:EP X _ σ Q w s:=⟨z,H,I,d,q⟩;exact subscriptTail_builtinR f.typeIs slot_tuple_getitem.lookup
  (getItem_tuple f (by omega) (by omega) (by rw[zG,<-F];exact h1) (by simpa ) ⟨rfl,fin⟩) hs
def Tf:IxR X Tc:=by
 intro value slice pins s σ H x y v u Q I f d h hs;obtain⟨z,i,c,rfl,rfl,L,C,q⟩:=h;obtain⟨t,rfl⟩:=f;obtain⟨J,rfl⟩:=d;obtain⟨j,h1,h2,h4,E⟩:=wI C
 have m:z.cps.toList.length=z.length:=by simp[Str.length]
 rw[m] at h1 h4 E;have O:=pY
 exact tail_any (typeIs_str s z t) slot_str_getitem.lookup (getItem_str (by
  have G:decide (i < -2 ^ 63)=false:=zl (by omega);have F:decide (i>=2 ^ 63)=false:=zl (by omega)
  rw[G,F,Bool.or_false]) (by rw[h1];simpa using h2) ⟨.str _,H,I.tok _,⟨_,rfl⟩,q⟩) hs
def Tg(d:List Value)(n j:Nat)(u:Value):Obj.mapSeq (·.setIfInBounds j u) {cls:=.type "list",data:=.seq d.toArray n} = {cls:=.type "list",data:=.seq (d.set j u).toArray n}:=by
 simp[Obj.mapSeq]
def Inv.lst{X:Cx}{pins:List (Addr×Obj)}{σ:St}{H:Hp}{s:Shared}{p:Addr}{xs:List V}(I:Inv X pins σ H s)(h:H p=some (.lst xs)):
  ∃(d:List Value) (n:Nat),aH xs d/\s.heap.get? p=some {cls:=.type "list",data:=.seq d.toArray n}/\xs.length<=sizeLine:=by
 obtain⟨z,d,n,r,e⟩:=I.hok p _ h;exact⟨d,n,r,e,z⟩
def Inv.lstUpd  {σ:St}     {d:List Value}   (I:Inv X C σ H s)(h:H p=some (.lst xs))
  (m:s.heap.get? p=some {cls:=.type "list",data:=.seq d.toArray n}) (j:f {cls:=.type "list",data:=.seq d.toArray n} = {cls:=.type "list",data:=.seq its'.toArray n'}) (r:aH ys its') (hz:ys.length<=sizeLine) (t:Nat):
  Inv X C σ (upd H p (.lst ys)) {s with heap:=s.heap.update p f,toks:=t}:=by
 have e:(s.heap.update p f).get? p=some {cls:=.type "list",data:=.seq its'.toArray n'}:=by
  rw[Heap.get?_update_self f m (by rw[j]<;>rfl),j]
 refine I.write (x:=p) (e:=p) (by rw[h];trivial) (.inl rfl) (λb u y q=>(jo _ _ (Ne.symm y)).trans q) ⟨_,e⟩ ?_;exact⟨hz,its',n',r,e⟩
def Th:V->V->V->Hp->(Hp->Prop)->Prop:=λo i v H Q=>∃p d k j,o=.ref p/\i=.int k/\H p=some (.lst d)/\ixN d.length k=some j/\Q (upd H p (.lst (d.set j v)))
def set_list:Dd X Th:=by
 intro pins s σ H o i v O P u Q I E F C h;obtain⟨p,L,k,j,rfl,rfl,y,J,q⟩:=h;cases E;obtain⟨t,rfl⟩:=F;obtain⟨x,n,r,d,G⟩:=I.lst y;obtain⟨h1,h2,h3,h4⟩:=Ea J;have f:=r.length;have R:=pY;have I'  :=
  I.lstUpd y d (Tg _ n j u) (r.set C j) (by rw[zY];exact G) s.toks
 by_cases h0:0<=k
 ·have m :=by
   rw[seqIndex_of h0 h4] at h1;exact zC h1
  exact PySem.W.ki_setAt d h0 (by omega) (by rw[zG,<-f];exact h4) (by rw[m];exact⟨_,I',q⟩)
 ·have m:(k+x.toArray.size).toNat=j:=by
   rw[seqIndex_neg (by omega) h3] at h1;rw[zG,<-f];exact zC h1
  exact PySem.W.ki_setBack d (by omega) (by rw[zG,<-f];exact h3) (by omega) (by rw[m];exact⟨_,I',q⟩)
def Eb(lo d:Option Int)(n:Nat):(sliceBounds lo d none n).1=((HT.sIx n 0 lo:Nat):Int)/\(sliceBounds lo d none n).2.1=((HT.sIx n n d:Nat):Int)/\(sliceBounds lo d none n).2.2=1:=by
 refine⟨?_,?_⟩
 ·cases lo with
  |none=>simp[sliceBounds,HT.sIx]
  |some i =>
   simp  [sliceBounds,HT.sIx,if_true]
   by_cases h:i<0
   ·simp  [h]<;>omega
   ·simp  [h]<;>omega
 ·cases d with
  |none=>simp[sliceBounds,HT.sIx]
  |some i =>
   simp  [sliceBounds,HT.sIx,if_true]
   by_cases h:i<0
   ·simp  [h]<;>omega
   ·simp  [h]<;>omega
def Ti(d:List Value)(lo f:Option Int):slicePick d.toArray lo f none=((d.drop (HT.sIx d.length 0 lo)).take (HT.sIx d.length d.length f - HT.sIx d.length 0 lo)).toArray:=by
 obtain⟨h1,h2,h3⟩:=Eb lo f _;unfold slicePick;rw[h1,h2,h3]
 simp only[sliceRange_one,pick_run]<;>rfl
def Tj(K:PySem.W.Frag):V->Option Int->Option Int->Hp->VK->Prop:=λx lo f H Q=>∃a d,x=.ref a/\SqL K H a d/\∀p,H p=none->Q (.ref p) (upd H p (.lst (lV d lo f)))
def Tn:SlR X (Tj X.K):=by
 intro pins s σ H x v vl F lo C sl Q I j hs u m h;obtain⟨a,f,rfl,hx,q⟩:=h;cases j;obtain⟨E,r,d,y⟩:=I.list hx;have hlen:=r.length;refine⟨"list",_,slot_list_getitem.lookup,d.isList.typeIs,?_⟩;refine wpAny_getItem_list_slice d.isList hs u m .none (by simp) ?_;rw[Ti,<-hlen];refine⟨.ref _,_,I.laid (λb ob q=>zo _ q) (zc _) ?_,rfl,q _ (I.hok.fresh (zc _))⟩;exact⟨zI (DY f lo C) y,_,0,(r.drop _).take _,zz _ rfl⟩
def iw:V->Bool
 | .non=>true
 | .bl _=>true
 | .int _=>true
 | .str _=>true
 | _=>false
def eqV:V->V->Bool
 | .non,.non=>true
 | .bl a,.bl b=>a == b
 | .bl a,.int b=>(if a then 1 else 0) == b
 | .int a,.bl b=>a == (if b then 1 else 0)
 | .int a,.int b=>a == b
 | .str a,.str b=>a == b
 | _,_=>false
def Tp     (j:RelV y u)(d:RelV x v)(q:iw y=true)(m:iw x=true):SeqAt.EqAt A s u v (eqV y x):=by
 cases y with
 |non =>
  cases j
  cases x with
  |non=>cases d;exact SeqAt.EqAt.same _
  |bl b=>cases d;exact SeqAt.EqAt.none_bool b
  |int b=>obtain⟨t,rfl⟩:=d;exact SeqAt.EqAt.none_int b t
  |str b=>obtain⟨t,rfl⟩:=d;exact SeqAt.EqAt.none_str b t
  | _=>exact absurd (show false=true from m) zx
 |bl a =>
  cases j
  cases x with
  |non=>cases d;exact SeqAt.EqAt.bool_none a
  |bl b=>cases d;exact SeqAt.EqAt.bool_bool a b
  |int b=>obtain⟨t,rfl⟩:=d;exact SeqAt.EqAt.bool_int a b t
  |str b=>obtain⟨t,rfl⟩:=d;exact SeqAt.EqAt.bool_str a b t
  | _=>exact absurd (show false=true from m) zx
 |int a =>
  obtain⟨f,rfl⟩:=j
  cases x with
  |non=>cases d;exact SeqAt.EqAt.int_none a f
  |bl b=>cases d;exact SeqAt.EqAt.int_bool a f b
  |int b=>obtain⟨t,rfl⟩:=d;exact SeqAt.EqAt.int_int a f b t
  |str b=>obtain⟨t,rfl⟩:=d;exact SeqAt.EqAt.int_str a f b t
  | _=>exact absurd (show false=true from m) zx
 |str a =>
  obtain⟨f,rfl⟩:=j
  cases x with
  |non=>cases d;exact SeqAt.EqAt.str_none a f
  |bl b=>cases d;exact SeqAt.EqAt.str_bool a f b
  |int b=>obtain⟨t,rfl⟩:=d;exact SeqAt.EqAt.str_int a f b t
  |str b=>obtain⟨t,rfl⟩:=d;exact SeqAt.EqAt.str_str a f b t
  | _=>exact absurd (show false=true from m) zx
 | _=>exact absurd (show false=true from q) zx
def eqU(x:V)(u:Value):Bool:=match u with
 | .none=>eqV .non x
 | .bool b=>eqV (.bl b) x
 | .int i _=>eqV (.int i) x
 | .str z _=>eqV (.str z) x
 | _=>false
def Ec   (r:RelV y u)(f:iw y=true):eqU x u=eqV y x:=by
 cases y with
 | non
 | bl b
 | int i
 |str z=>obtain⟨t,rfl⟩:=r;rfl
 | _=>exact absurd (f) zx
theorem p8 :∀{xs:List V}{us:List Value},aH xs us->xs.all iw=true->us.any (eqU x)=xs.any λy=>eqV y x
 | _,_,.nil,_=>rfl
 |y::xs,u::us,.cons r t,f=>by
  rw[List.all_cons,zB] at f;rw[List.any_cons,List.any_cons,Ec r f.1,p8 t f.2]
theorem qb  {s:Shared}{x:V}{v:Value}(j:RelV x v)(m:iw x=true):∀{xs:List V}{us:List Value},aH xs us->xs.all iw=true->∀u∈us,SeqAt.EqAt A s u v (eqU x u)
 | _,_,.nil,_=>λu d=>by cases d
 |y::xs,u::us,.cons r t,f=>λq d=>by
  rw[List.all_cons,zB] at f
  rcases zk.mp d with rfl | d
  ·rw[Ec r f.1];exact Tp r j f.1 m
  ·exact qb j m t f.2 q d
def inV(x:V)(xs:List V):Bool:=xs.any λy=>eqV y x
def rIn(K:PySem.W.Frag)(f:Bool):R2:=λx y H Q=>∃p d,y=.ref p/\(SqL K H p d\/SqT K H p d)/\iw x=true/\d.all iw=true/\Q (.bl (if f then !inV x d else inV x d)) H
def Tq:OpR X (compareOp .In) (rIn X.K false):=by
 intro pins s σ H x y v u Q I C F h;obtain⟨p,J,rfl,f,E,fs,q⟩:=h;cases F
 rcases f with f | f
 ·obtain⟨d,r,j,G⟩:=I.list f;refine SeqAt.in_listAt _ j.isList (λw m=>qb C E r fs w (by simpa using m)) ⟨.bl _,H,I,rfl,?_⟩;rw[show d.toArray.any _=d.any (eqU x) by simp,p8 r fs];exact q
 ·obtain⟨d,r,j,G⟩:=I.tuple f;refine SeqAt.in_tupleAt _ j (λw m=>qb C E r fs w (by simpa using m)) ⟨.bl _,H,I,rfl,?_⟩;rw[show d.toArray.any _=d.any (eqU x) by simp,p8 r fs];exact q
def Tr:OpR X (compareOp .NotIn) (rIn X.K true):=by
 intro pins s σ H x y v u Q I C F h;obtain⟨p,J,rfl,f,E,fs,q⟩:=h;cases F
 rcases f with f | f
 ·obtain⟨d,r,j,G⟩:=I.list f;refine SeqAt.notIn_listAt (eqU x) j.isList (λw m=>qb C E r fs w (by simpa using m)) ⟨.bl _,H,I,rfl,?_⟩;rw[show d.toArray.any (eqU x)=d.any (eqU x) by simp,p8 r fs];exact q
 ·obtain⟨d,r,j,G⟩:=I.tuple f;refine SeqAt.notIn_tupleAt (eqU x) j (λw m=>qb C E r fs w (by simpa using m)) ⟨.bl _,H,I,rfl,?_⟩;rw[show d.toArray.any (eqU x)=d.any (eqU x) by simp,p8 r fs];exact q
def Ed:fH X (.type "list") (λxs H Q=>∃p ys,xs=[.ref p]/\(SqL X.K H p ys\/SqT X.K H p ys)/\∀l,H l=none->Q (.ref l) (upd H l (.lst ys))):=by
 intro pins s σ H xs L Q I r h;obtain⟨p,ys,rfl,y,q⟩:=h;obtain⟨u,rfl,J⟩:=vals1 r;cases J;have fin:∀(d ),aH ys _->ys.length<=sizeLine->∀(f:Heap) (m ),(∀b G,s.heap.get? b=some G->f.get? b=some G) ->
   f.get? _=some _->EP X _ σ Q _ _:=λd j x f m kp e =>
  ⟨.ref _,_,I.laid (t':=s.toks) kp (zc _) (show bZ _ _ _ f _ (.lst ys) from⟨x,d,m,j,e⟩),rfl,q _ (I.hok.fresh (zc _))⟩
 rcases y with y | y
 ·obtain⟨d,j,C,x⟩:=I.list y;have hlen:=j.length;obtain⟨o,E,F,n,hd⟩:=C.isList
  exact call_list_seq p (.inl rfl) E F hd λf m kp e=>fin _ j x f m kp e
 ·obtain⟨d,j,C,x⟩:=I.tuple y;have hlen:=j.length;obtain⟨o,E,F,n,hd⟩:=C
  exact call_list_seq p (.inr rfl) E F hd λf m kp e=>fin _ j x f m kp e
def tyV(K:PySem.W.Frag)(T:String)(x:V)(H:Hp):Prop:=match x with
 | .str _=>T = "str"
 | .int _=>T = "int"
 | .ref p=>(T = "list"/\∃f,SqL K H p f)\/(T = "tuple"/\∃o,K.lookup p=some o/\o.cls=.type "tuple"/\o.dict=none) \/
   (T = "dict"/\((∃d,H p=some (.dK d))\/∃d,H p=some (.dT d)))\/(T = "set"/\∃S n,H p=some (.set S n))
 | _=>False
def Ef  {σ:St}      (I:Inv X pins σ H s)(r:RelV x v)(ty:tyV X.K T x H):
  s.TypeIs v T/\∀a,v=.ref a->∃ob,s.heap.get? a=some ob/\ob.dict=none:=by
 cases x with
 |str z =>
  obtain⟨t,rfl⟩:=r;cases(ty);exact⟨typeIs_str s z t,λ_ e=>nomatch e⟩
 |int i =>
  obtain⟨t,rfl⟩:=r;cases(ty);exact⟨typeIs_int s i t,λ_ e=>nomatch e⟩
 |ref p =>
  cases r
  rcases ty with⟨rfl,C,q⟩ | ⟨rfl,o,d,u,hd⟩ | ⟨rfl,d⟩ | ⟨rfl,S,n,d⟩
  ·obtain⟨y,_,m,_⟩:=I.list q;refine⟨m.isList.typeIs,λa e=>?_⟩;cases e;obtain⟨o,n,e,c,hd,_⟩:=m;exact⟨o,e,hd⟩
  ·refine⟨⟨o,I.kIn p o d,u⟩,λa e=>?_⟩;cases e;exact⟨o,I.kIn _ o d,hd⟩
  ·have z:∃o,s.heap.get? p=some o/\o.ExactDict:=by
    rcases d with⟨j,d⟩ | ⟨j,d⟩
    ·obtain⟨_,_,_,_,o,_,_,e,ex,_⟩:=I.hok p _ d;exact⟨o,e,ex⟩
    ·obtain⟨_,_,_,_,o,_,_,e,ex,_⟩:=I.hok p _ d;exact⟨o,e,ex⟩
   obtain⟨o,e,ex⟩:=z;refine⟨⟨o,e,ex.1⟩,λa f=>?_⟩;cases f;exact⟨o,e,ex.2.1⟩
  ·obtain⟨o,_,_,_,e,ex,_⟩:=I.hok p _ d;refine⟨⟨o,e,ex.1⟩,λa f=>?_⟩;cases f;exact⟨o,e,ex.2.1⟩
 | _=>exact False.elim ty
def Tt(K:PySem.W.Frag)(T:String)(r:V->List V->Hp->VK->Prop)(to:TE):TE:=λσ H Q=>to σ H λx d=>tyV K T x d/\r x [] d Q
def tBM(K:PySem.W.Frag)(T:String)(r:V->List V->Hp->VK->Prop)(to:TE)(t:TA):TE:=λσ H Q=>to σ H λx d=>tyV K T x d/\t σ d λf j=>r x f j Q
variable {o e:Expr}{es:List Expr}{to:TE}{t:TA}{name:Str}{apos cpos:Pos}{T id:String}{r:V->List V->Hp->VK->Prop}
def wJ{apos cpos:Pos}{id:String}(m:PlainAttrs T)(slot:Slot T name id)(j:typeOf (.builtin id)=pure (.type "method_descriptor"))(u:MtR X id r)(q:PE X o to)
  (f:attributeBase o name X.env (eval o X.env)=eval o X.env:=by rfl) (d:(apos.endLine == cpos.line)=true:=by rfl):PE X (.Call (.Attribute o name apos) [] [] cpos) (Tt X.K T r to):=by
 intro pins s σ H Q I h;refine wpAny_Call_method0_late f d (thn (q _ s σ H _ I h) λv s1 ⟨x,H1,I1,r1,ty,q1⟩=>?_);obtain⟨h1,h2⟩:=Ef I1 r1 ty;exact⟨T,id,m,slot,j,h1,h2,Calls.callWith_builtin rfl (PySem.evalArgs_none (u _ s1 σ H1 x [] v [] Q I1 r1 .nil q1))⟩
def lW{apos cpos:Pos}{id:String}(y:PlainAttrs T)(slot:Slot T name id)(q:typeOf (.builtin id)=pure (.type "method_descriptor"))(E:MtR X id r)(C:PE X o to)(F:PA X (e::es) t)
  (j:attributeBase o name X.env (eval o X.env)=eval o X.env:=by rfl)
  (m:((backTo cpos (starEach (e::es) X.env)).all (λx=>!x.1)&&(backToKw cpos (keywordEach [] X.env)).all (λx=>x.1.isSome)
   && decide ((e::es).length+([]:List Keyword).length+(if([]:List Keyword).isEmpty then 0 else 1)<30))=true:=by rfl)
  (f:(apos.endLine == cpos.line)=true:=by rfl) (hs:starEach (e::es) X.env=(false,eval e X.env)::starEach es X.env:=by rfl) (d:(backTo cpos (starEach es X.env)).any (·.1)=false:=by rfl):
  PE X (.Call (.Attribute o name apos) (e::es) [] cpos) (tBM X.K T r to t):=by
 intro pins s σ H Q I h;refine wpAny_Call_method_late j m f rfl (thn (C _ s σ H _ I h) λv s1 ⟨x,H1,I1,r1,ty,q1⟩=>?_);obtain⟨h1,h2⟩:=Ef I1 r1 ty;refine⟨T,id,y,slot,q,h1,h2,?_⟩;have u:=F cpos _ s1 σ H1 _ I1 q1;rw[hs] at u ⊢;refine Calls.callWith_builtin (by show(false || (backTo _ _).any _)=false;rw[d]<;>rfl) (Calls.evalArgs_plain ?_)
 exact thn u λus s2 ⟨vs,H2,I2,r2,q2⟩=>E _ s2 σ H2 x vs v us Q I2 r1 r2 q2
end
def MtM(X:Cx)(f:String)(r:V->List V->Hp->VK->Prop):Prop :=
 ∀(pins:List (Addr×Obj)) (s:Shared) (σ:St) (H:Hp) (x:V) (b:List V) (v:Value) (d:List Value) (Q:VK),Inv X pins σ H s->RelV x v->aH b d->r x b H Q ->
  wpAny (model X.prog X.w) X.A (call (.builtin f) (v::d)) (EP X pins σ Q) X.xe s
theorem aH.one:∀{x:V}{us:List Value},aH [x] us->∃u,us=[u]/\RelV x u
 | _,_,.cons r .nil=>⟨_,rfl,r⟩
theorem aH.zero:∀{us:List Value},aH [] us->us=[]
 | _,.nil=>rfl
def aH.reverse   (h:aH xs us):aH xs.reverse us.reverse:=by
 induction h with
 |nil=>exact .nil
 |cons r t b=>rw[List.reverse_cons,List.reverse_cons];exact aH.append b (.cons r .nil)
theorem aH.rep   (h:aH xs us):∀k:Nat,aH (List.replicate k xs).flatten (List.replicate k us).flatten
 | 0=>.nil
 |k+1=>by
  rw[List.replicate_succ,List.replicate_succ,List.flatten_cons,List.flatten_cons];exact aH.append h (aH.rep h k)
theorem foldl_rep(d:List Value):∀(k:Nat) (b:List Value),
  List.foldl (λj f=>j++f) b.toArray (List.replicate k d.toArray)=(b++(List.replicate k d).flatten).toArray
 | 0,b=>by simp
 |k+1,b=>by
  have e:b.toArray++d.toArray=(b++d).toArray:=by simp
  have m:b++d++(List.replicate k d).flatten=b++(List.replicate (k+1) d).flatten:=by
   rw[List.replicate_succ,List.flatten_cons,zD]
  rw[<-m,<-foldl_rep ,<-e,List.replicate_succ,List.foldl_cons]
def Inv.lset{σ:St}{b:List Value}    (I:Inv X E σ H s)(y:H l=some (.lst xs))
  (e:s.heap.get? l=some {cls:=.type "list",data:=.seq b.toArray n}) (j:f b.toArray=its'.toArray) (hv:aH ys its') (hz:ys.length<=sizeLine):
  Inv X E σ (upd H l (.lst ys)) {s with heap:=s.heap.update l (Obj.mapSeq f),toks:=t'}:=by
 have q:=PySem.IsL.update e f;rw[j] at q;refine I.write (x:=l) (e:=l) (by rw[y];exact trivial) (.inl rfl) (λC u m d=>(jo s.heap (Obj.mapSeq f) (Ne.symm m)).trans d) ⟨_,q⟩ ?_;exact⟨hz,its',_,hv,q⟩
def Inv.lnew{σ:St}   (I:Inv X d σ H s)(hv:aH ys b)(hz:ys.length<=sizeLine):
  Inv X d σ (upd H s.heap.objs.size (.lst ys)) {s with heap:=s.heap.push {cls:=.type "list",data:=.seq b.toArray},toks:=t'}:=
 I.laid (λ_ _ q=>zo _ q) (zc _) ⟨hz,b,0,hv,zz _ rfl⟩
def Inv.fresh{σ:St}(I:Inv X b σ H s):H s.heap.objs.size=none:=I.hok.fresh (zc _)
def Inv.lstM{σ:St}(I:Inv X f σ H s)(d:H l=some (.lst xs)):xs.length<=sizeLine/\∃(b:List Value) (n:Nat),aH xs b/\xs.length=b.length/\s.heap.get? l=some {cls:=.type "list",data:=.seq b.toArray n}:=by
 obtain⟨z,b,n,r,e⟩:=I.hok l _ d;exact⟨z,b,n,r,r.length,e⟩
def Eg  (h:n<=sizeLine):Builtin.List.listTooLong n=false:=by
 exact zl (by omega)
section
variable {X:Cx}
def Tu:V->List V->Hp->VK->Prop:=λx d H Q=>∃l b y,x=.ref l/\d=[y]/\H l=some (.lst b)/\b.length<sizeLine/\Q .non (upd H l (.lst (b++[y])))
def Eh:MtM X "list.append" Tu:=by
 intro pins s σ H x E v G Q I d f h;obtain⟨l,C,y,rfl,rfl,b,J,q⟩:=h;cases d;obtain⟨u,rfl,j⟩:=f.one;obtain⟨z,m,n,r,L,e⟩:=I.lstM b;refine call_meets F.slot_list_append ⟨_,e,rfl⟩ F.entry_list_append (F.args_list_append_2 _ _) (PySem.list_append l _ n u) ⟨e,?_⟩;refine⟨.non,_,I.lset b e (by simp) (r.append (.cons j .nil)) ?_,rfl,q⟩;rw[ze,zR];omega
def Tv:V->List V->Hp->VK->Prop:=λx d H Q=>∃l b,x=.ref l/\d=[]/\H l=some (.lst b)/\Q .non (upd H l (.lst b.reverse))
def Tw:MtM X "list.reverse" Tv:=by
 intro pins s σ H x y v C Q I f j h;obtain⟨l,u,rfl,rfl,d,q⟩:=h;cases f;have b:=j.zero;subst b;obtain⟨z,m,n,r,E,e⟩:=I.lstM d;refine call_meets F.slot_list_reverse ⟨_,e,rfl⟩ F.entry_list_reverse (F.args_list_reverse_1 _) (AutoSeq1.list_reverse_list_0 l _ n (by rw[zG];omega)) ⟨e,?_⟩;refine⟨.non,_,I.lset d e (by simp) r.reverse ?_,rfl,q⟩;rw[List.length_reverse];omega
def Tz:V->List V->Hp->VK->Prop:=λx d H Q=>∃l b,x=.ref l/\d=[]/\H l=some (.lst b)/\Q .non (upd H l (.lst []))
def Ei:MtM X "list.clear" Tz:=by
 intro pins s σ H x y v C Q I j m h;obtain⟨l,u,rfl,rfl,f,q⟩:=h;cases j;have d:=m.zero;subst d;obtain⟨z,b,n,r,E,e⟩:=I.lstM f;refine call_meets F.slot_list_clear ⟨_,e,rfl⟩ F.entry_list_clear (F.args_list_clear_1 _) (AutoSeq1.list_clear_list_0 l b.toArray n (by rw[zG];omega)) ⟨e,?_⟩;exact⟨.non,_,I.lset (its':=[]) (ys:=[]) f e rfl .nil (Nat.zero_le _),rfl,q⟩
def len_rep{α:Type}(xs:List α)(k:Nat):(List.replicate k xs).flatten.length=k * xs.length:=by
 induction k with
 |zero=>simp
 |succ k b=>rw[List.replicate_succ,List.flatten_cons,ze,b,Nat.succ_mul,Nat.add_comm]
end
end L2
namespace Att
open PySem PySem.W PySem.Calls PyProof.Rows
def TF  :∀(ns:List Int) (vs:List Value),WellAll P h vs (ns.map WData.int)->IntsAre vs ns:=by
 intro ns
 induction ns with
 |nil =>
  intro vs w;cases w;exact .nil
 |cons n ns ih =>
  intro vs w
  cases w with
  |cons a b =>
   cases a;exact .cons _ _ (ih _ b)
def TJ{l:OpenLaw}  (u:l.most=some n)
  (b:l.row.toRowW.claim.pre args=true) (j:WellAll P h vals args):
  ∃a vs ns,vals=[Value.ref a]/\args=[WData.list (ns.map WData.int)]/\h.get? a=some {cls:=.type "list",data:=.seq vs.toArray}/\IntsAre vs ns/\ns.length<=n:=by
 have m :=(pre_splitW b).1;have x :=(pre_splitW b).2;obtain⟨d,r,rfl,h1,h2⟩:=hasAllW_cons m;obtain rfl:=hasAllW_nil h2;obtain⟨C,rfl,h3⟩:=hasW_list h1;obtain⟨ns,rfl⟩:=items_int h3
 have hlen :=by
  have h4 :=by
   have h4:=(holds_andW x).1;rw[u] at h4;exact h4
  have y:=condW_of h4 (w_not (w_lt w_lit (w_len_list (w_arg rfl))))
  first
   | (exact absurd )
   | (simp at y;omega)
 cases j with
 |cons w1 w2 =>
  cases w2
  cases w1 with
  |list q f=>exact⟨_,_,ns,rfl,rfl,q,TF ns _ f,hlen⟩
def TQ(l:OpenLaw)(args:List WData):l.row.toRowW.claim.post args (.bool true) args=true :=
 postW_of
  (show WShape.has [] _ _=true by first | rfl | decide | simp )
  (w_eq_bool (w_res rfl) w_lit) rfl
def attach_call{l:OpenLaw}
  (Q:l.most=some n) (F:d.params.defaults=[])
  (call:∀(w:World) (s₀ b:Shared) (mg mb:Str->Option Value) (fa:Addr) (o:Obj) (pm y j:Value) (a:Addr) (vs:List Value) (ns:List Int),
   Ground q loose [] XP w s₀ mg mb b.heap->YP w b.heap ->
   b.heap.get? fa=some o->o.data=.func (docDef d.name d.params d.body d.scope pm y j)->b.heap.CodeRec y d.name->mg d.name=some (.ref fa) ->
   b.heap.get? a=some {cls:=.type "list",data:=.seq vs.toArray}->IntsAre vs ns->ns.length<=n->b.gens = #[] ->
   codeAny (model l.prog w) callerA (.call (.ref fa) ⟨[.ref a],[]⟩) (λr x=>r=.ok (.ret (.bool true))/\OldK b.heap x.heap/\x.os=b.os/\AllBare x.gens) b):
  WalkO q loose XP YP l.row.toRowW d [] (λf vs=>PySem.call f vs):=by
 intro w s₀ b mg mb G Y fa o pm y j U kV P hd I J E T args vals Z m L W C X;obtain rfl:U=.none:=Dflts.none J F;obtain rfl:kV=.none:=Dflts.noKw J;obtain⟨a,vs,ns,rfl,rfl,u,hints,hlen⟩:=TJ Q m C;refine enter_call (codeAny_mono (call w s₀ b mg mb fa o pm y j a vs ns G Y P (fd_plain hd) I E u hints hlen T) λr x O=>?_);obtain⟨rfl,h2,h3,h4⟩:=O;exact⟨.inl ⟨.bool true,.bool true,[],rfl,λ_=>rfl,.bool true,TQ l _,λ_=>⟨List.Pairwise.nil,λ_ R=>(nomatch R)⟩⟩,h2,h3,h4⟩
end Att
namespace L2
open PySem PySem.Spec PyProof.Rows
theorem Ej:∀{vs:List Value}{ns:List Int},IntsAre vs ns->aH (ns.map V.int) vs
 | _,_,.nil=>.nil
 | _,_,.cons n t h=>.cons ⟨t,rfl⟩ (Ej h)
def sO(H:Hp):Prop:=∀b,H b=none\/∃o d,H b=some (.frz o (.lst d))
def inClass(s:Stmt)(j:Nat):Stmt:=match s with
 | .ClassDef _ _ _ body _ _ _ _ _ _ _=>body.getD j (.Pass ⟨0,0,0,0⟩)
 | _=>.Pass ⟨0,0,0,0⟩
def dI(s:Stmt):Arguments:=match s with
 | .FunctionDef _ a _ _ _ _ _ _ _ _=>a
 | _=>{posonlyargs:=[],args:=[],vararg:=none,kwonlyargs:=[],kw_defaults:=[],kwarg:=none,defaults:=[]}
def cM(s:Stmt):List Stmt:=match s with
 | .FunctionDef _ _ b _ _ _ _ _ _ _=>b
 | _=>[]
def bf(s:Stmt):Scope:=match s with
 | .FunctionDef _ _ _ _ _ _ sc _ _ _=>sc
 | _=>{kind:=.function,names:=[],isGenerator:=false,isCoroutine:=false}
abbrev CX0:CXT:=λ_ _ _ _ _ _=>False
abbrev E0:XK:=λ_ _ _=>False
def lX :jw CX0 X E0:=λ_ _ _ _ _ _ _ h=>h.elim
structure Fun(K:PySem.W.Frag)(x qual:Str)(st:Stmt)(f:Addr)(fd:FuncData):Prop where
 ex:∃(oc:Value) (od:Option Addr) (kV doc pm:Value) (an:Option Addr) (cdv ct:Value) (osl:Array (Option Value)),
  fd=PySem.W.fnOf x qual (dI st) (cM st) (bf st) .none kV doc pm an cdv ct/\K.lookup f=some ⟨oc,od,.func fd,osl⟩/\PySem.W.codeIn K cdv qual=true
 kp:PySem.W.keepIn K (.ref f)=true
def Fun.ok{K:PySem.W.Frag}  {st:Stmt}      (F:Fun K x R st f fd)(S:fK N ps (bf st))(len:∀vs H Q E,sp vs H Q E->vs.length=ps.length)
  (d:∀(b:Value) (A:Around) (outer:List Env) (s:Shared) (H:Hp) (vs:List V) (Q:VK) (E:XK),aZ k (A.deeper (envOfC R (bf st) s.heap.objs.size f b))->sp vs H Q E ->
   ∃t,PSs (gk CX0 P w K mg base N R (bf st) f b A outer s H E).nox (cM st) t/\t {nx:=λ_ y=>Q .non y,rt:=Q} (start N vs) H):cz P w K mg base CX0 (k+1) f fd ps sp:=by
 obtain⟨L,J,kV,G,I,O,b,ct,C,rfl,lk,m⟩:=F.ex
 refine DR lk m S len λA outer s H vs Q E u j=>?_
 obtain⟨t,h,q⟩:=d b A outer s H vs Q E u j;exact⟨t,h.nox,q⟩
def Fun.binds{K:PySem.W.Frag}  {st:Stmt}    (F:Fun K x C st f fd)
  (h:∀(kV b pm:Value) (j:Option Addr) (d ct:Value) (us:List Value),us.length=ps.length->bindArgs (PySem.W.fnOf x C (dI st) (cM st) (bf st) .none kV b pm j d ct) ⟨us,[]⟩=pure (ps.zip us)):Binds K fd ps []:=by
 obtain⟨y,u,kV,b,pm,j,d,ct,m,rfl,lk,q⟩:=F.ex;exact .all (h kV b pm j d ct)
def Ek{K:PySem.W.Frag}  {st:Stmt}     {kV:Value}(l:K.lookup f=some ⟨y,u,.func (PySem.W.fnOf x b (dI st) (cM st) (bf st) .none kV j pm q d ct),m⟩)
  (c:PySem.W.codeIn K d b=true) (k:PySem.W.keepIn K (.ref f)=true):Fun K x b st f (PySem.W.fnOf x b (dI st) (cM st) (bf st) .none kV j pm q d ct):=⟨⟨y,u,kV,j,pm,q,d,ct,m,rfl,l,c⟩,k⟩
def wK   (b:aZ k A):A.units+1<cLine:=Nat.lt_of_le_of_lt (Nat.add_le_add_left (by decide) _) b.units
section
variable {X:Cx}
def pv(i:Nat){x:Str}{b:Pos}(hN:X.N[i]?=some x:=by rfl)(f:Vis X.env.scope x:=by first | exact Or.inl rfl | exact Or.inr (Or.inl rfl) | exact Or.inr (Or.inr rfl))(hd:(x == ("__debug__":Str))=false:=by decide)
  (d:(x == ("__classdict__":Str))=false:=by decide):PE X (.Name x b) (CP i):=iu hN f hd d
end
def Same(H d:Hp):Prop:=∀b o,H b=some o->d b=some o
def Same.refl(H:Hp):Same H H:=λ_ _ h=>h
def Same.trans  (a:Same H f)(b:Same f d):Same H d:=λc o h=>b c o (a c o h)
def Same.seq{K:PySem.W.Frag}    (e:Same H b)(h:SqL K H a xs):SqL K b a xs:=by
 rcases h with(h | ⟨o,h⟩) | h
 ·exact .inl (.inl (e _ _ h))
 ·exact .inl (.inr ⟨o,e _ _ h⟩)
 ·exact .inr h
section
variable {κ:Type}[DecidableEq κ]
def dJ(b:List (κ×V))(k:κ):Option V:=(b.find? λd=>decide (d.1=k)).map (·.2)
def putK(b:List (κ×V))(k:κ)(v:V):List (κ×V):=
 if(b.any λd=>decide (d.1=k))=true then b.map (λd=>if d.1=k then(d.1,v) else d) else b++[(k,v)]
def nP{p:κ×V}{r:List (κ×V)}{k:κ}(e:p.1=k):dJ (p::r) k=some p.2:=by simp[dJ,List.find?_cons,e]
def nQ{p:κ×V}{r:List (κ×V)}{k:κ}(e:¬p.1=k):dJ (p::r) k=dJ r k:=by simp[dJ,List.find?_cons,e]
theorem wL(k:κ):∀b:List (κ×V),(b.any λd=>decide (d.1=k))=(dJ b k).isSome
 | []=>rfl
 |p::r=>by
  rw[List.any_cons]
  by_cases e:p.1=k
  ·simp only[nP e,zv e,Bool.true_or,Option.isSome_some]
  ·rw[nQ e,zl e,Bool.false_or];exact wL k r
def sS(b:List (κ×V))(k:κ)(v:V):(putK b k v).length<=b.length+1:=by
 unfold putK
 split
 ·rw[zf];omega
 ·rw[ze,zA,jb];omega
def dH.isSome_eq{o:Option V}{u:Option Value}(r:dH o u):o.isSome=u.isSome:=by
 cases o with
 |none=>cases u with
  |none=>rfl
  |some _=>exact(show False from r).elim
 |some _=>cases u with
  |none=>exact(show False from r).elim
  |some _=>rfl
def KV.val{d:List (κ×V)}{vs:List (κ×Value)}(r:KV d vs)(k:κ):dH (dJ d k) (valueAt vs k):=by
 unfold KV at r
 induction r with
 |nil=>exact True.intro
 | @cons p q ps qs h t ih =>
  obtain⟨h1,h2⟩:=h
  by_cases e:p.1=k
  ·have e':q.1=k:=h1.symm.trans e
   have b:valueAt (q::qs) k=some q.2:=by simp[valueAt,List.find?_cons,e']
   rw[nP e,b];exact h2
  ·have e':¬q.1=k:=λz=>e (h1.trans z)
   have b:valueAt (q::qs) k=valueAt qs k:=by simp[valueAt,List.find?_cons,e']
   rw[nQ e,b];exact ih
def KV.any{b:List (κ×V)}{vs:List (κ×Value)}(r:KV b vs)(k:κ):(b.any λd=>decide (d.1=k))=vs.any λd=>decide (d.1=k):=by
 unfold KV at r
 induction r with
 |nil=>rfl
 |cons h t f=>rw[List.any_cons,List.any_cons,f,h.1]
def KV.repl{d:List (κ×V)}{vs:List (κ×Value)}(r:KV d vs)(k:κ){y:V}{u:Value}(f:RelV y u):
  KV (d.map λb=>if b.1=k then(b.1,y) else b) (vs.map λb=>if b.1=k then(b.1,u) else b):=by
 unfold KV at r ⊢
 induction r with
 |nil=>exact .nil
 | @cons p q ps qs h t ih =>
  rw[zg,zg];refine .cons ?_ ih;obtain⟨h1,h2⟩:=h
  by_cases e:p.1=k
  ·rw[if_pos e,if_pos (h1.symm.trans e)];exact⟨h1,f⟩
  ·rw[if_neg e,if_neg (λz=>e (h1.trans z))];exact⟨h1,h2⟩
def KV.put{b:List (κ×V)}{vs:List (κ×Value)}(r:KV b vs)(k:κ){y:V}{u:Value}(d:RelV y u):KV (putK b k y) (stored vs k u):=by
 unfold putK stored;rw[r.any k]
 by_cases e:(vs.any λf=>decide (f.1=k))=true
 ·rw[if_pos e,if_pos e];exact r.repl k d
 ·rw[if_neg e,if_neg e];exact Paired.snoc r ⟨rfl,d⟩
def KV.length{b:List (κ×V)}{vs:List (κ×Value)}(r:KV b vs):b.length=vs.length:=Paired.length r
end
def nR     (r:RelV (kV k) u):(cO P w).is k u=true:=by
 cases k with
 |inl i=>obtain⟨t,e⟩:=(r);subst e;exact Pa P w i t
 |inr x=>obtain⟨t,e⟩:=(r);subst e;exact Pb P w x t
theorem sU  :∀{ks:List Key}{us:List Value},aH (ks.map kV) us->ItemsAre (cO P w) ks us
 | [],_,r=>by cases r;exact .nil
 |k::ks,_,r=>by
  cases r with
  |cons h t=>exact .cons (nR h) (sU t)
abbrev KT(H:Hp):List (List Key×V)->List (List Key×Addr×Value)->Prop:=Paired λp q=>p.1=q.1/\H q.2.1=some (.tup (p.1.map kV))/\RelV p.2 q.2.2
def KT.val    (r:KT H kvs xs)(k:List Key):dH (dJ kvs k) ((atKey xs k).map (·.2)):=by
 induction r with
 |nil=>exact True.intro
 | @cons p q ps qs h t ih =>
  obtain⟨h1,_,h2⟩:=h
  by_cases e:p.1=k
  ·have e':q.1=k:=h1.symm.trans e
   have b:atKey (q::qs) k=some q.2:=by simp[atKey,List.find?_cons,e']
   rw[nP e,b];exact h2
  ·have e':¬q.1=k:=λz=>e (h1.trans z)
   have b:atKey (q::qs) k=atKey qs k:=by simp[atKey,List.find?_cons,e']
   rw[nQ e,b];exact ih
def KT.repl    (r:KT H kvs xs)(k:List Key)   (d:RelV y u):
  KT H (kvs.map λb=>if b.1=k then(b.1,y) else b) (xs.map (putAt k u)):=by
 induction r with
 |nil=>exact .nil
 | @cons p q ps qs h t ih =>
  rw[zg,zg];refine .cons ?_ ih;obtain⟨h1,h2,h3⟩:=h;unfold putAt
  by_cases e:p.1=k
  ·rw[if_pos e,if_pos (h1.symm.trans e)];exact⟨h1,h2,d⟩
  ·rw[if_neg e,if_neg (λz=>e (h1.trans z))];exact⟨h1,h2,h3⟩
def KT.put    (r:KT H j xs)(k:List Key)    (hb:H b=some (.tup (k.map kV)))(d:RelV y u):
  KT H (putK j k y) (storedH xs k b u):=by
 have e:(j.any λf=>decide (f.1=k))=(atKey xs k).isSome:=by
  rw[wL,(r.val k).isSome_eq,Option.isSome_map]
 unfold putK storedH;rw[e]
 by_cases q:(atKey xs k).isSome=true
 ·rw[if_pos q,if_pos q];exact r.repl k d
 ·rw[if_neg q,if_neg q];exact Paired.snoc r ⟨rfl,hb,d⟩
def KT.keeps    (r:KT H f xs)(d:∀b ys,H b=some (.tup ys)->j b=some (.tup ys)):KT j f xs :=
 Paired.mapP r λ_ _ z=>⟨z.1,d _ _ z.2.1,z.2.2⟩
def wM  (ok:HOk P w H h)(e:Rd H a u):bZ P w H h a u:=e.ok ok
def sV  (ok:HOk P w H h)(e:Rd H a (.dK b)):b.length<=sizeLine/\(a == sysModules)=false/\∃vs,KV b vs/\h.DictOf (cO P w) a vs :=
 wM ok e
def TV  (ok:HOk P w H h)(e:H a=some (.dK b)):b.length<=sizeLine/\(a == sysModules)=false/\∃vs,KV b vs/\h.DictOf (cO P w) a vs:=sV ok (.inl e)
def sW  (ok:HOk P w H h)(e:H a=some (.tup (ks.map kV))):(tupleKind (cO P w)).is h ks a:=by
 obtain⟨_,b,r,o,h1,h2,n,h3⟩:=(show bZ P w H h a (.tup (ks.map kV)) from ok a _ e);exact⟨o,b.toArray,n,h1,h2,h3,by simpa using sU r⟩
def sX  (ok:HOk P w H h)(e:Rd H a (.dT j)):j.length<=sizeLine/\(a == sysModules)=false /\
  ∃xs,KT H j xs/\h.DictOfH (tupleKind (cO P w)) a xs:=by
 obtain⟨z,y,xs,r,o,d,f,h1,h2,h3,h4,b⟩:=(wM ok e);refine⟨z,y,xs,r,o,d,f,h1,h2,h3,h4,λx hx=>?_,b⟩
 have all:∀{l}{m},KT H l m->∀x∈m,(tupleKind (cO P w)).is h x.1 x.2.1:=by
  intro l m q
  induction q with
  |nil=>intro x hx;exact nomatch hx
  | @cons p q ps qs hq t ih =>
   intro x hx
   rcases zk.mp hx with e | hx
   ·subst e;exact sW ok (by rw[<-hq.1];exact hq.2.1)
   ·exact ih x hx
 exact all r x hx
def TY  (ok:HOk P w H h)(e:H a=some (.dT b)):b.length<=sizeLine/\(a == sysModules)=false /\
  ∃xs,KT H b xs/\h.DictOfH (tupleKind (cO P w)) a xs:=sX ok (.inl e)
def jx(H:Hp)(a:Addr)(y:V)(r:Option V):Prop :=
 (∃d k,Rd H a (.dK d)/\y=kV k/\r=dJ d k)\/∃d k b,Rd H a (.dT d)/\y=.ref b/\H b=some (.tup (k.map kV))/\r=dJ d k
def qd(H:Hp)(a:Addr)(y v:V)(f:Hp):Prop :=
 (∃d k,H a=some (.dK d)/\y=kV k/\d.length<sizeLine/\f=upd H a (.dK (putK d k v))) \/
 ∃d k b,H a=some (.dT d)/\y=.ref b/\H b=some (.tup (k.map kV))/\d.length<sizeLine/\f=upd H a (.dT (putK d k v))
def jx.k    {k:Key}(e:H a=some (.dK b)):jx H a (kV k) (dJ b k):=.inl ⟨b,k,.inl e,rfl,rfl⟩
def qd.k    {k:Key}  (e:H a=some (.dK d))(b:d.length<sizeLine):qd H a (kV k) v (upd H a (.dK (putK d k v))):=.inl ⟨d,k,e,rfl,b,rfl⟩
def Inv.big{σ:St}(I:Inv X b σ H s):sysModules<s.heap.objs.size:=by
 have h:mainGlobals<s.heap.objs.size:=(I.mod.glob.keeps I.bk).lt;exact Nat.lt_trans (by decide) h
def T3{σ:St}  (O:A.units+1<cLine)(I:Inv X T σ H s)(g:jx H a y (some v))(G:RelV y u)(h:∀f F,Inv X T σ H F->RelV v f->Q f F):
  wpAny (model X.prog X.w) A (getItem (.ref a) u) Q E s:=by
 rcases g with⟨x,k,e,m,l⟩ | ⟨x,k,b,e,m,R,l⟩
 ·subst m;obtain⟨z,hd,L,rel,q⟩:=sV I.hok e;obtain⟨f,j,d⟩:=dH.some_of (v:=v) (o:=valueAt L k) (by rw[l];exact rel.val k);exact wpAny_getItem_of (nR G) q.mapOf j (h f _ (I.tok _) d)
 ·subst m;cases(show u=Value.ref b from G);obtain⟨z,hd,J,rel,q⟩:=sX I.hok e;obtain⟨f,j,d⟩:=dH.some_of (v:=v) (o:=(atKey J k).map (·.2)) (by rw[l];exact rel.val k);obtain⟨p,P,C⟩:=jq.mp j;refine wpAny_getItem_heap (tupleKind_room_in1 O) (sW I.hok R) q P ?_;rw[C];exact h f _ (I.tok _) d
def T4{σ:St}  (C:A.units+1<cLine)(I:Inv X L σ H s)(g:jx H a y o)(x:RelV y u)(h:∀m,Inv X L σ H m->Q (.bool (!o.isSome)) m):
  wpAny (model X.prog X.w) A (compareOp .NotIn u (.ref a)) Q E s:=by
 rcases g with⟨j,k,e,d,l⟩ | ⟨j,k,b,e,d,F,l⟩
 ·subst d;obtain⟨z,hd,J,rel,f⟩:=sV I.hok e;refine wpAny_notIn_of (nR x) hd f.mapOf ?_;rw[<-(rel.val k).isSome_eq,<-l];exact h _ (I.tok _)
 ·subst d;cases(x);obtain⟨z,hd,G,rel,f⟩:=sX I.hok e;refine wpAny_notIn_heap (tupleKind_room_in1 C) (sW I.hok F) hd f ?_;have q:=(rel.val k).isSome_eq;rw[Option.isSome_map] at q;rw[<-q,<-l];exact h _ (I.tok _)
def wN{σ:St}    (I:Inv X u σ H s)(f:Mut (H a))(hs:Heap.SameBut a s.heap h')(j:∃q,h'.get? a=some q)(d:bZ X.prog X.w (upd H a ob) h' a ob):
  Inv X u σ (upd H a ob) {s with heap:=h',toks:=t'}:=
 I.write (x:=a) (e:=a) f (.inl rfl) (λb q m z=>(hs.2 b m).trans z) j d
def El       (z:d.length<=sizeLine)(hd:(a == sysModules)=false)(rel:KV d vs)(b:h'.DictOf (cO P w) a vs):
  bZ P w f h' a (.dK d):=⟨z,hd,vs,rel,b⟩
def T5{σ:St}   (Y:A.units+1<cLine)(I:Inv X pins σ H s)(g:qd H a y v H')(L:RelV y u)(O:RelV v r)(h:∀J,Inv X pins σ H' J->Q () J):
  wpAny (model X.prog X.w) A (setItem (.ref a) u r) Q E s:=by
 rcases g with⟨d,k,e,C,l,F⟩ | ⟨d,k,b,e,C,T,l,F⟩
 ·subst C F;obtain⟨z,hd,W,rel,G⟩:=TV I.hok e
  have m:W.length<=sizeLine:=by rw[<-rel.length];exact z
  have x:(putK d k v).length<=sizeLine:=by have:=sS d k v;omega
  refine wpAny_setItem_pairs (hsz:=m) (nR L) G λP f hs=>h _ ?_
  have Z:∃q,P.get? a=some q:=let ⟨q,_,_,j,_⟩:=f;⟨q,j⟩;exact wN I (by rw[e];exact True.intro) hs Z (El x hd (rel.put k O) f)
 ·subst C F;cases(show u=Value.ref b from L);obtain⟨z,hd,U,rel,G⟩:=TY I.hok e
  have m:U.length<=sizeLine:=by rw[<-Paired.length rel];exact z
  have x:(putK d k v).length<=sizeLine:=by have:=sS d k v;omega
  refine wpAny_setItem_heap (hsz:=m) (tupleKind_room_in1 Y) (sW I.hok T) G λP f hs=>h _ ?_
  obtain⟨q,es,ep,j,h2,h3,h4,_,h5⟩:=f;refine wN I (by rw[e];exact True.intro) hs ⟨q,j⟩ ⟨x,hd,_,(rel.put k T O).keeps λc ys R=>?_,q,es,ep,j,h2,h3,h4,h5⟩;rw[aG (ne_of R e (λz=>nomatch z))];exact R
def wO(i:Expr):Prop:=∀b d,subscripted i false b d=operate [b,d] (getItem b d)
def Em         {u:String}
  (y:typeLookup (.type T) "__getitem__" = pure (some (.builtin u))) (hs:wO F)
  (h:wpAny (model prog w) A (eval G env) (λo j=>wpAny (model prog w) A (eval F env) (λi b=>b.TypeIs o T/\wpAny (model prog w) A (getItem o i) Q E b) E j) E s):
  wpAny (model prog w) A (eval (.Subscript G F I) env) Q E s:=by
 refine Subscript_ (zT h (λo j q=>zT q (λi b d=>?_) λ_ _ x=>x) λ_ _ x=>x);obtain⟨C,d⟩:=d;refine za ?_;refine za (wpAny_specialOf C y ?_)
 have fin:wpAny (model prog w) A (subscripted F false o i) (λr f=>wpAny (model prog w) A (letTemporaryGo G o r >>= λ_=>pure r) Q E f) E b:=by
  rw[hs ];exact wpAny_operating (zT d (λr f m=>za (wpAny_letTemporaryGo (zb m))) λ_ _ x=>x)
 first
  | exact zb (za fin)
  | exact za
  | exact za
def T6   {σ:St}      (I:Inv X q σ H s)(g:jx H a y o):s.TypeIs (.ref a) "dict":=by
 rcases g with⟨f,k,e,_⟩ | ⟨f,k,b,e,_⟩
 ·obtain⟨_,_,m,_,d⟩:=sV I.hok e;exact d.typeIs
 ·obtain⟨_,_,j,_,d⟩:=sX I.hok e;exact d.typeIs
def T7(d ty:TE):TE:=λσ H Q=>d σ H λx f=>ty σ f λy b=>∃a v,x=.ref a/\jx b a y (some v)/\Q v b
def En(ty d:TE):TE:=λσ H Q=>ty σ H λy f=>d σ f λx b=>∃a o,x=.ref a/\jx b a y o/\Q (.bl (!o.isSome)) b
def T8(f ty d:TE):TS:=λD σ H=>d σ H λv q=>f σ q λx m=>ty σ m λy j=>∃a b,x=.ref a/\qd j a y v b/\D.nx σ b
def T9(d:X.A.units+1<cLine)(f:PE X o E)(j:PE X i ty)(hs:wO i):PE X (.Subscript o i G) (T7 E ty):=by
 intro pins s σ H Q I h;refine Em PySem.F.slot_dict_getitem.lookup hs (thn (f _ s σ H _ I h) λu s1 ⟨x,H1,I1,rx,q1⟩=>thn (j _ s1 σ H1 _ I1 q1) λiv s2 ⟨y,H2,I2,ry,a,v,ex,g,q2⟩=>?_);subst ex;obtain rfl :=rx;exact⟨T6 I2 g,T3 d I2 g ry λq C m b=>⟨v,H2,m,b,q2⟩⟩
def Ua(b:X.A.units+1<cLine)(f:PE X i ty)(d:PE X o q):PC X .NotIn i o (En ty q):=by
 intro pins s σ H Q I h
 refine thn (f _ s σ H _ I h) λiv s1 ⟨y,H1,I1,ry,q1⟩=>thn (d _ s1 σ H1 _ I1 q1) λu s2 ⟨x,H2,I2,rx,a,ov,ex,g,q2⟩=>?_
 subst ex;obtain rfl :=rx
 exact T4 b I2 g ry λm j=>⟨.bl _,H2,j,rfl,q2⟩
def Ub(b:X.A.units+1<cLine)(d:PE X o G)(f:PE X i ty)(hv:PE X q F)(hs:swapsWith q (some (.Subscript o i C)) E.line X.env=pure false):
  PS X (.Assign [.Subscript o i C] q E) (T8 G ty F):=by
 intro pins s σ H D I h;refine wpAny_Assign_Subscript (thn (hv _ s σ H _ I h) λr s1 ⟨v,H1,I1,rv,q1⟩=>thn (d _ s1 σ H1 _ I1 q1) λu s2 ⟨x,H2,I2,rx,q2⟩=>thn (f _ s2 σ H2 _ I2 q2) λiv s3 ⟨y,H3,I3,ry,a,H4,ex,g,q3⟩=>?_) hs;subst ex;obtain rfl :=rx
 exact T5 b I3 g ry rv λm j=>⟨σ,H4,j,q3⟩
def Uc    (h:Heap)(hb:sysModules<h.objs.size):bZ P w H (h.push {cls:=.type "dict",data:=.dict #[]}) h.objs.size (.dK []):=
 ⟨Nat.zero_le _,beq_eq_false_iff_ne.mpr (Ne.symm (zq hb)),[],.nil,Heap.DictOf.new h⟩
def Ud:TE:=λ_ H Q=>∀p,H p=none->Q (.ref p) (upd H p (.dK []))
def Ue:PE X (.Dict [] [] b) Ud:=λpins s σ H Q I h =>
 wpAny_Dict_empty ⟨.ref _,_,I.laid (λ_ _ q=>zo _ q) (zc _) (Uc _ I.big),rfl,h _ (I.hok.fresh (zc _))⟩
def wQ:List (TE×TE)->St->Hp->(List (V×V)->Hp->Prop)->Prop
 | [],_,H,Q=>Q [] H
 | (tk,tv)::r,σ,H,Q=>tk σ H λx j=>tv σ j λy f=>wQ r σ f λb d=>Q ((x,y)::b) d
abbrev VV:List (V×V)->List (Value×Value)->Prop:=Paired λp q=>RelV p.1 q.1/\RelV p.2 q.2
def PPs(X:Cx)(d:Pos)(keys:List (Option Expr))(values:List Expr)(b:List (TE×TE)):Prop :=
 ∀(pins:List (Addr×Obj)) (s:Shared) (σ:St) (H:Hp) (Q:List (V×V)->Hp->Prop),Inv X pins σ H s->wQ b σ H Q ->
  wpAny (model X.prog X.w) X.A (evalPairs (pairTrees keys values X.env d)) (λm q=>∃f j,Inv X pins σ j q/\VV f m/\Q f j) X.xe s
def j7(b more:List (Key×V)):List (Key×V):=more.foldl (λd f=>putK d f.1 f.2) b
def KV.merge:∀{more:List (Key×V)}{d:List (Key×Value)}{b:List (Key×V)}{vs:List (Key×Value)},KV more d->KV b vs->KV (j7 b more) (merged vs d):=by
 intro more d b vs r;unfold KV at r
 induction r generalizing b vs with
 |nil=>intro q;exact q
 | @cons p q ps qs h t ih =>
  intro f
  have e:KV (putK b p.1 p.2) (stored vs q.1 q.2):=by
   have:=f.put p.1 h.2
   rw[<-h.1];exact this
  exact ih e
theorem Eo:∀(more b:List (Key×V)),(j7 b more).length<=b.length+more.length
 | [],b=>by show b.length<=b.length+0;omega
 |p::r,b=>by
  have h1:=Eo r (putK b p.1 p.2);have h2:=sS b p.1 p.2;show(j7 (putK _ _ _) r).length<=_;rw[zA];omega
structure M1(X:Cx)(o:Expr)(m:Str)(apos:Pos)(e:Expr)(cpos:Pos):Prop where
 base:attributeBase o m X.env (eval o X.env)=eval o X.env
 few:((backTo cpos (starEach [e] X.env)).all (λx=>!x.1)&&(backToKw cpos (keywordEach [] X.env)).all (λx=>x.1.isSome)
  && decide (([e]:List Expr).length+([]:List Keyword).length+(if([]:List Keyword).isEmpty then 0 else 1)<30))=true
 line:(apos.endLine == cpos.line)=true
 trees:backTo cpos (starEach [e] X.env)=[(false,eval e X.env)]
structure M2(X:Cx)(o:Expr)(m:Str)(apos:Pos)(e f:Expr)(cpos:Pos):Prop where
 base:attributeBase o m X.env (eval o X.env)=eval o X.env
 few:((backTo cpos (starEach [e,f] X.env)).all (λx=>!x.1)&&(backToKw cpos (keywordEach [] X.env)).all (λx=>x.1.isSome)
  && decide (([e,f]:List Expr).length+([]:List Keyword).length+(if([]:List Keyword).isEmpty then 0 else 1)<30))=true
 line:(apos.endLine == cpos.line)=true
 trees:backTo cpos (starEach [e,f] X.env)=[(false,eval e X.env),(false,eval f X.env)]
noncomputable def jy(cells:List (Str×Addr)):List (Str×NameKind)->List (Str×Addr)->List (Str×Addr)
 | [],acc=>acc
 | (n,k)::r,acc=>if k == .free then jy cells r ((n,(cells.lookup n).getD 0)::acc) else jy cells r acc
def j8(scope:Scope)(env:Env):List (Str×Addr):=jy env.cells scope.names []
def Ep   (b:∀y∈scope.names,y.2=.free->∃c,env.cells.lookup y.1=some c):closureFor scope env=pure (j8 scope env):=by
 simp only[closureFor,j8]
 generalize []=d
 generalize scope.names=names at b
 induction names generalizing d with
 |nil=>rfl
 |cons y r ih =>
  obtain⟨n,k⟩:=y
  have f:=λa=>ih a λz m=>b z (zp _ m)
  by_cases j:k=.free
  ·obtain⟨c,q⟩:=b _ zd j;have hc' :=q;subst j;simp only[List.forIn_cons,cellOf,hc',jy];exact f _
  ·have u:(k == NameKind.free)=false:=by simpa
   simp only[List.forIn_cons,u,jy];exact f _
theorem wR   :∀{names:List (Str×NameKind)}{b:List (Str×Addr)},(jy cells names b).lookup x=some c->b.lookup x=some c\/(∃k,(x,k)∈names/\k=.free/\(cells.lookup x).getD 0=c)
 | [],b,h=>.inl h
 | (n,k)::r,b,h=>by
  unfold jy at h
  by_cases j:k=.free
  ·subst j
   rcases wR h with z | ⟨k,d,q⟩
   ·rw[List.lookup_cons] at z
    by_cases hx:x=n
    ·subst hx;simp at z;exact .inr ⟨.free,zd,rfl,z⟩
    ·have f:(x == n)=false:=by simpa
     rw[f] at z;exact .inl z
   ·exact .inr ⟨k,zp _ d,q⟩
  ·have f :=by simpa
   simp  [f] at h
   rcases wR h with z | ⟨k,d,q⟩
   ·exact .inl z
   ·exact .inr ⟨k,zp _ d,q⟩
theorem sY  :∀{names:List (Str×NameKind)}{b:List (Str×Addr)},((∃c,b.lookup x=some c)\/(x,NameKind.free)∈names)->∃c,(jy cells names b).lookup x=some c
 | [],b,h=>by
  rcases h with h | h
  ·exact h
  ·cases h
 | (n,k)::r,b,h=>by
  unfold jy
  by_cases f:k=.free
  ·subst f;refine sY ?_
   by_cases hx:x=n
   ·subst hx;exact .inl ⟨(cells.lookup x).getD 0,by simp ⟩
   ·have d:(x == n)=false:=by simpa
    rcases h with⟨c,h⟩ | h
    ·exact .inl ⟨c,by rw[List.lookup_cons,d];exact h⟩
    ·rcases zk.mp h with e | h
     ·cases e;exact absurd rfl hx
     ·exact .inr h
  ·have d :=by simpa
   simp  [d]
   refine sY ?_
   rcases h with h | h
   ·exact .inl h
   ·rcases zk.mp h with e | h
    ·cases e;exact absurd rfl f
    ·exact .inr h
def jz(scope b:Scope):List (Str×NameKind):=
 scope.names.map λ(n,k)=>if(k == .free&&b.kind == .function&&b.names.lookup n == some .cell) then(n,.cell) else(n,k)
def Er  (m:∀y∈scope.names,y.2≠.cell)   (h:(jz scope q).lookup x=some k)(j:k=.cell\/k=.free):(x,NameKind.free)∈scope.names:=by
 have f:=PySem.mem_of_lookup h;obtain⟨⟨n,d⟩,h1,h2⟩:=zw.mp f
 dsimp  at h2
 by_cases b:(d == NameKind.free&&q.kind == .function&&q.names.lookup n == some .cell)=true
 ·rw[if_pos b] at h2
  have e :=by
   simp   at b
   exact b.1.1
  cases h2;rw[<-e];exact h1
 ·rw[if_neg b] at h2;cases h2
  rcases j with e | e
  ·exact absurd e (m _ h1)
  ·rw[<-e];exact h1
def bH(b own:List Str)(cap:List Nat):List Str:=own++cap.map λj=>b.getD j (Str.ofString "")
noncomputable def compSt(own:List Str)(cap:List Nat)(σ:St):St:=own.map (λ_=>none)++cap.map λj=>(σ[j]?).join
def j9(b:Scope)(d:List Str)(scope:Scope)(own:List Str)(cap:List Nat):Bool :=
 (scope.kind == .function)&&scope.names.all (λy=>y.2 != .cell)&&scope.names.all (λy=>y.2 != .local || scope.names.lookup y.1 == some .local) &&
 scope.names.all (λy=>y.2 != .free || b.names.lookup y.1 == some .cell || b.names.lookup y.1 == some .free) &&
 cap.all λj=>decide (j<d.length)&&scope.names.contains (d.getD j (Str.ofString ""),NameKind.free)&&((jz scope b).lookup (d.getD j (Str.ofString "")) == some .cell || (jz scope b).lookup (d.getD j (Str.ofString "")) == some .free)
structure jA(sc0:Scope)(N0:List Str)(scope:Scope)(own:List Str)(cap:List Nat):Prop where
 kind:scope.kind=.function
 nocell:∀y∈scope.names,y.2≠.cell
 names:∀y∈scope.names,y.2=.local->scope.names.lookup y.1=some .local
 free:∀y∈scope.names,y.2=.free->sc0.names.lookup y.1=some .cell\/sc0.names.lookup y.1=some .free
 cap:∀j∈cap,j<N0.length/\(N0.getD j (Str.ofString ""),NameKind.free)∈scope.names/\((jz scope sc0).lookup (N0.getD j (Str.ofString ""))=some .cell\/(jz scope sc0).lookup (N0.getD j (Str.ofString ""))=some .free)
def jA.of     {cap:List Nat}(h:j9 q u scope own cap=true):jA q u scope own cap:=by
 unfold j9 at h;simp only[zB,je,beq_iff_eq,bne_iff_ne,ne_eq,Bool.or_eq_true,decide_eq_true_eq,List.contains_iff_mem] at h;obtain⟨⟨⟨⟨h1,h2⟩,h3⟩,h4⟩,m⟩:=h;refine⟨h1,h2,λy d e=>?_,λy d e=>?_,λj f=>?_⟩
 ·rcases h3 y d with z | z
  ·exact absurd e z
  ·exact z
 ·rcases h4 y d with(z | z) | z
  ·exact absurd e z
  ·exact .inl z
  ·exact .inr z
 ·obtain⟨⟨a,b⟩,c⟩:=m j f;exact⟨a,b,c⟩
def bK(X:Cx)(scope:Scope)(C:Addr)(N':List Str)(s:Shared)(H:Hp)(ex:List Addr):Cx where
 prog:=X.prog
 w:=X.w
 K:=X.K
 mg:=X.mg
 base:=X.base
 A:=X.A
 N:=N'
 s₀:=s
 H₀:=H
 env:=compEnvC scope (j8 scope X.env) C X.env
 outer:=X.stack
 stack:=X.stack
 ex:=ex
 fn:=λ_=>false
 calm:=X.calm
 pn:=[]
 xe:=λ_ _=>False
def kh(X:Cx)(b:List Expr)(t:TT):Prop :=
 ∀(pins:List (Addr×Obj)) (s:Shared) (σ:St) (H:Hp) (Q:Bool->Hp->Prop),Inv X pins σ H s->t σ H Q ->
  wpAny (model X.prog X.w) X.A (forIn b true λc r=>if r=true then do let ok <-isTrue c X.env (eval c X.env);pure (ForInStep.yield ok) else pure (ForInStep.yield r)) (TP X pins σ Q) X.xe s
def Ug:TT:=λ_ H Q=>Q true H
def Uh:kh X [] Ug:=λ_ _ _ H _ I h=>wpAny_tests_nil ⟨H,I,h⟩
def Ui   (h:PT X c t):kh X [c] t:=λpins s σ H Q I q=>wpAny_tests_one (h _ s σ H Q I q)
def Es(J:It)(g:TG)(E:TT)(te:TE)(Q:List V->Hp->Prop)(u:St)(I:Hp):Prop :=
 ∃W:Nat->Nat->List V->St->Hp->Prop,(∃m,W 0 m [] u I)/\∀i m f σ H,W i m f σ H ->
  (J.stop i H/\Q f H)\/(J.go i H/\f.length<sizeLine/\∃N:List V->St->Hp->Prop,(∀f q j,N f q j->∃C,C<m/\W (i+1) C f q j)/\∀x j,J.yld i H x j->g x σ j λd G=>E d G λb H3 =>
   if b=true then te d H3 λy F=>N (f++[y]) d F else N f d H3)
def sZ(f:TI)(own:List Str)(cap:List Nat)(g:TG)(j:TT)(te:TE):TE:=λσ H Q =>
 f σ H λJ m=>Es J g j te (λb d=>b.length<=sizeLine/\∀p,d p=none->Q (.ref p) (upd d p (.lst b))) (compSt own cap σ) m
theorem Uj       (I:Nat->Shared->Prop)
  (turn:∀n s,I n s->wpAny (model prog w) A (pyNext it) (λr f=>match r with
   |none=>R (.ok .next) f
   |some v=>wpAny (model prog w) A (letOwnedTupleGo target it v) (λ_ j=>wpAny (model prog w) A (assign target env v) (λ_ y =>
     wpAny (model prog w) A (forIn ifs true λc r=>if r=true then do let ok <-isTrue c env (eval c env);pure (ForInStep.yield ok) else pure (ForInStep.yield r)) (λok d =>
      if ok=true then wpAny (model prog w) A (eval elt env) (λx u =>
       wpAny (model prog w) A (call (.builtin "list.append") [acc,x]) (λ_ q=>∃m,m<n/\I m q) (λ_ _=>False) u) (λ_ _=>False) d
      else ∃m,m<n/\I m d) (λ_ _=>False) y) (λ_ _=>False) j) (λ_ _=>False) f) (λ_ _=>False) s)
  (n:Nat) (h:I n s):
  codeAny (model prog w) A (.compLoop (.ListComp elt [⟨target,iter,ifs,0⟩] scope pos) 0 it acc env) R s:=by
 refine codeAny_loop rfl I (λn s hI=>?_) n h;refine wpAny_noted ?_;rw[compTurn_list];refine za (wpAny_standAt (za (zT (turn n s hI) (λr f E=>?_) λ_ _ b=>b.elim)))
 cases r with
 |none=>exact zb E
 |some v =>
  refine za (zT E (λ_ j F=>?_) λ_ _ b=>b.elim);refine za (zT F (λ_ y L=>za (zT L (λok d C=>?_) λ_ _ b=>b.elim)) λ_ _ b=>b.elim)
  cases ok with
  |false=>exact zb ⟨rfl,C⟩
  |true =>
   exact za (za (zT C (λx u J=>za (zT J (λ_ q G=>zb (zb ⟨rfl,G⟩)) λ_ _ b=>b.elim)) λ_ _ b=>b.elim))
def wU{pins:List (Addr×Obj)}{σ:St}{f:Shared}{x:Hp}{scope b:Scope}{m own:List Str}{cap:List Nat}(u:Inv X pins σ x f)(d:X.env.scope=b)(ok:jA b m scope own cap):∀y∈scope.names,y.2=.free->∃c,X.env.cells.lookup y.1=some c:=λy j e=>by
 refine u.ok.has _ ?_;have q:=ok.free y j e;rw[<-d] at q;exact q
def kj{σ:St}(j:Inv X y σ F C)(b:X.env.scope=u)(ok:jA u E scope own cap)   (h:(j8 scope X.env).lookup x=some c):X.env.cells.lookup x=some c:=by
 rcases wR h with z | ⟨k,d,f,q⟩
 ·simp at z
 ·obtain⟨m,e⟩:=wU j b ok _ d f;have e' :=e;rw[e'] at q;rw[e',<-q];rfl
def Uk{σ:St}(d:Inv X L σ P O)(j:X.env.scope=I)(ok:jA I R scope own cap)(T:Turn X.prog X.w X.K U J fp it Q)(u:Q 0 O.heap)(m:∀b∈fp,eY X L P b)
  (C:Addr) (E:O.heap.objs.size<=C):(bK X scope C (bH R own cap) O P fp).Ok:=by
 have lt:∀b∈fp,b<O.heap.objs.size:=λb f=>by
  obtain⟨o,e,_⟩:=T.obj 0 _ u b f;exact zm e
 have rel:(relabel scope X.env).names=jz scope I:=by rw[<-j];rfl
 refine⟨d.ok.mod,ok.kind,d.ok.glob,d.ok.blt,E,λx y c h1 h2=>?_,λx hx=>?_,λx c hf _=>absurd hf (by simp[bK]),d.ok.hd,d.ok.frames,.inl rfl,λb f=>⟨?_,λx c h=>?_⟩,d.bs,zI d.ok.bsz d.sz,
  λb o e f=>?_,λb f F=>?_,d.stack,d.stkFree⟩
 ·exact d.ok.inj x y c (kj d j ok h1) (kj d j ok h2)
 ·have hx':(jz scope I).lookup x=some .cell\/(jz scope I).lookup x=some .free:=by rw[<-rel];exact hx
  have G:(x,NameKind.free)∈scope.names:=by
   rcases hx' with q | q
   ·exact Er ok.nocell q (.inl rfl)
   ·exact Er ok.nocell q (.inr rfl)
  exact sY (.inr G)
 ·exact zq (zH (lt b f) E)
 ·exact(m b f).2.2.2.2.1 x c (kj d j ok h)
 ·rcases(m b f).2.2.2.1 with z | z
  ·exact d.ok.noex b o e z
  ·exact absurd (zH (zm e) (zI d.ok.bsz z)) (zU _)
 ·rcases zk.mp (d.stkSub b F) with z | z
  ·exact(m b f).2.1 z
  ·exact(m b f).2.2.1 z
def Ul{σ:St}(f:Inv X pins σ H2 s2)(d:X.env.scope=sc0)(Q:X.N=N0)(ok:jA sc0 N0 scope own cap)(T:Turn X.prog X.w X.K tg J fp it tn)(O:tn 0 s2.heap)(f2:∀b∈fp,eY X pins H2 b)
  (C:Addr) (Z:s2.heap.objs.size<=C)    (E:∀b o,s2.heap.get? b=some o->h₁.get? b=some o) (P:h₁.Ns C m):
  Inv (bK X scope C (bH N0 own cap) s2 H2 fp) [] (compSt own cap σ) H2 {s2 with heap:=h₁,toks:=tk}:=by
 have rel:(relabel scope X.env).names=jz scope sc0:=by rw[<-d];rfl
 refine⟨Uk f d ok T O f2 C Z,rfl,f.bare,Un.kept E,⟨m,P,λi x v e1 e2 _=>?_⟩,λx c h=>?_,f.hok.fresh Z,λx c h=>?_,λp hp=>absurd (show p∈[] from hp) (by simp),f.hok.kept E,?_⟩
 ·have e1':(bH N0 _ _)[i]?=some x:=e1;unfold bH at e1';unfold compSt at e2
  by_cases Y:i<own.length
  ·rw[zE (by simpa ),zF] at e2
   cases q:own[i]? with
   | none
   |some z=>rw[q] at e2;cases e2
  ·rw[zK (by simpa using Y),zF] at e2;rw[zK (by simpa using Y),zF] at e1';rw[zf] at e2
   cases q:cap[i - own.length]? with
   |none=>rw[q] at e2;cases e2
   |some j =>
    rw[q] at e1' e2;have ex:N0.getD j _=x:=zC e1';have G:σ[j]?.join=some v:=zC e2;obtain⟨W,L,U⟩:=ok.cap j (zL q);rw[ex] at L U
    have eN:X.N[j]?=some x:=by
     rw[Q,zy W];rw[jr,zy W] at ex;exact congrArg _ ex
    have R:σ[j]?=some (some v):=by
     cases z:σ[j]? with
     |none=>rw[z] at G;cases G
     |some o=>rw[z] at G;cases o with
      | none
      |some y=>exact congrArg _ G
    have kf:X.env.kindOf x=some .cell\/X.env.kindOf x=some .free:=by
     have z:=ok.free _ L rfl;rw[<-d] at z;exact z
    obtain⟨m0,hn0,hl⟩:=f.loc;obtain⟨u,r,l⟩:=hl j x v eN R (kf.elim (λz=>.inr (.inl z)) λz=>.inr (.inr z));refine⟨u,r,.inr ⟨?_,?_⟩⟩
    ·show(relabel _ _).names.lookup x=_\/(relabel _ _).names.lookup x=_;rw[rel];exact U
    ·rcases l with⟨l,_⟩ | ⟨_,c,hc,⟨o,I,hd⟩⟩
     ·rcases kf with z | z<;>(rw[z] at l;cases l)
     ·obtain⟨c',F⟩:=sY (.inr L);have z:=kj f d ok F;rw[hc] at z;cases z;exact⟨c,F,o,E _ _ I,hd⟩
 ·obtain⟨v,o,I,hd⟩:=f.cell x c (kj f d ok h);exact⟨v,o,E _ _ I,hd⟩
 ·exact f.freeC x c (kj f d ok h)
 ·show(compSt _ _ σ).length=(bH N0 _ _).length;unfold compSt bH;simp
def Et{σ:St}  {RR:Value->Addr->Result->Shared->Prop}  (hc:X.calm=true)(I2:Inv X pins σ H2 f)(hsc:X.env.scope=sc0)(hN0:X.N=N0)(ok:jA sc0 N0 scope own cap)
  (hg:∀C s H ex,PG (bK X scope C (bH N0 own cap) s H ex) tg g) (ht:∀C s H ex,kh (bK X scope C (bH N0 own cap) s H ex) ifs tt) (he:∀C s H ex,PE (bK X scope C (bH N0 own cap) s H ex) elt te)
  (T:Turn X.prog X.w X.K tg J fp it tn) (st2:tn 0 f.heap) (f2:∀b∈fp,eY X pins H2 b) (hW:Es J g tt te Q (compSt own cap σ) H2)
  (hRR:∀D C oC ys O Z,Inv X (pins++[(C,oC)]) σ (upd O D (.lst ys)) Z->(∀h:Heap,h.get? C=some oC->∃m,h.Ns C m)->eY X pins (upd O D (.lst ys)) C->O D=none->Q ys O->RR (.ref D) C (.ok .next) Z)
  (hQsz:∀ys O,Q ys O->ys.length<=sizeLine):
  wpAny (model X.prog X.w) X.A (newList []) (λacc U=>wpAny (model X.prog X.w) X.A (newFunctionEnv scope X.env.globals (j8 scope X.env) [] X.env.qual none .none (some X.env)) (λcenv s₄ =>
   codeAny (model X.prog X.w) X.A (.compStart (.ListComp elt [⟨tg,iter,ifs,0⟩] scope pos) 0 (.ref it) acc {cenv with scope:=relabel scope X.env}) (RR acc cenv.locals) s₄) E U) E f:=by
 refine wpAny_newObj_type (wpAny_newFunctionEnv ok.nocell (by intro y hy;simp at hy) (λh₁ R G=>?_) ok.kind);dsimp only at R G ⊢
 generalize hP2:f.heap.push {cls:=.type "list",dict:=none,data:=.seq ([]:List Value).toArray}=L at R G ⊢
 have hC:L.objs.size=f.heap.objs.size+1:=by rw[<-hP2,Heap.size_push]
 have hDC:f.heap.objs.size≠L.objs.size:=by rw[hC];exact zq (jd _)
 have hCle:f.heap.objs.size<=L.objs.size:=by rw[hC];exact Nat.le_succ _
 have below:∀b,b<f.heap.objs.size->b≠L.objs.size/\b≠f.heap.objs.size:=λb F=>⟨by rw[hC];exact zq (jg F),zq F⟩
 have ltf:∀b∈fp,b<f.heap.objs.size:=λb F=>by
  obtain⟨o,e,_⟩:=T.obj 0 _ st2 b F;exact zm e
 have old:∀b o,f.heap.get? b=some o->h₁.get? b=some o:=λb o e=>G.extBut b o (below b (zm e)).1 (zo _ (hP2 ▸ zo _ e))
 have hacc:h₁.PlainList f.heap.objs.size #[]:=⟨_,G.extBut _ _ hDC (zo _ (hP2 ▸ zz _ rfl))⟩
 have st₁:tn 0 h₁:=T.keep _ _ _ st2 λb _ o e=>old b o e
 have hDno:∀b∈fp,f.heap.objs.size≠b:=λb F=>(below b (ltf b F)).2.symm
 generalize hXe:bK X scope L.objs.size (bH N0 own cap) f H2 fp=X'
 have loop:∀U:Shared,U = {f with heap:=h₁,toks:=f.toks+([]:List (Str×Value)).length} ->
   codeAny (model X.prog X.w) X.A (.compLoop (.ListComp elt [⟨tg,iter,ifs,0⟩] scope pos) 0 (.ref it) (.ref f.heap.objs.size) (compEnvC scope (j8 scope X.env) L.objs.size X.env))
    (RR (.ref f.heap.objs.size) L.objs.size) U:=by
  rintro U rfl;obtain⟨W,⟨m0,w0⟩,turn⟩:=hW;subst hXe
  have stat:∀{O:Hp}{oD:Obj},(∀b∈fp,O b=none)->∀b∈fp,eY (bK X scope L.objs.size (bH N0 own cap) f H2 fp) [(f.heap.objs.size,oD)] O b:=λ{O oD} hn b F =>
   ⟨hn b F,(below b (ltf b F)).1,λz=>by
    rcases zk.mp (I2.stkSub b z) with z | z
    ·exact(f2 b F).2.1 z
    ·exact(f2 b F).2.2.1 z,.inl F,λx c h=>(f2 b F).2.2.2.2.1 x c (kj I2 hsc ok h),λp hp=>by
    have e:p=(f.heap.objs.size,oD):=by simpa [bK] using hp
    rw[e];exact hDno b F⟩
  have notcell:∀x c,(j8 scope X.env).lookup x=some c->c≠f.heap.objs.size:=λx c h z=>by
   obtain⟨v,o,ho,hd⟩:=I2.cell x c (kj I2 hsc ok h);exact absurd (zm ho) (by rw[z];exact zU _)
  have nofs:f.heap.objs.size∉frs X.stack:=λz=>by
   rcases zk.mp (I2.stkSub _ z) with z | z
   ·exact absurd I2.lt (by rw[z];exact zU _)
   ·exact I2.nofs (zc _) z
  have pinD:∀{P:St}{O:Hp}{Z:Shared}{j:Array Value}{k:Nat},Inv (bK X scope L.objs.size (bH N0 own cap) f H2 fp) [] P O Z->O f.heap.objs.size=none ->
    Z.heap.get? f.heap.objs.size=some {cls:=.type "list",data:=.seq j k}->Inv (bK X scope L.objs.size (bH N0 own cap) f H2 fp) [(f.heap.objs.size,{cls:=.type "list",data:=.seq j k})] P O Z :=
   λ{P O Z j k} I hn hd=>I.pins_of λp hp=>by
    have e:p=(f.heap.objs.size,{cls:=.type "list",data:=.seq j k}):=by simpa using hp
    subst e;exact⟨hd,hn,hDC,nofs,λv z=>by cases z⟩
  obtain⟨k0,hk0⟩:=hacc;refine Uj (env:=compEnvC scope (j8 scope X.env) L.objs.size X.env)
   (λn Z=>∃i ys j k P O,Inv (bK X scope L.objs.size (bH N0 own cap) f H2 fp) [(f.heap.objs.size,{cls:=.type "list",data:=.seq j k})] P O Z/\tn i Z.heap/\(∀b∈fp,O b=none)/\aH ys j.toList/\W i n ys P O) ?_ m0
   ⟨0,[],#[],k0,_,H2,pinD (Ul I2 hsc hN0 ok T st2 f2 _ hCle old R) (I2.hok.fresh (zc _)) hk0,st₁,λb F=>(f2 b F).1,.nil,w0⟩
  rintro n s3 ⟨i,ys,j,k,σ3,H3,I3,st3,fr3,hv,w3⟩
  rcases turn i n ys σ3 H3 w3 with⟨stop,qn⟩ | ⟨go,hsz,N,hN,step⟩
  ·refine thn (T.done (bK X scope L.objs.size (bH N0 own cap) f H2 fp) rfl rfl rfl hc i _ s3 σ3 H3 _ I3 (stat fr3) st3 stop) λr s4 ⟨hr,I4⟩=>?_
   subst hr;show RR _ _ (.ok .next) s4;obtain⟨hd4,Y,_⟩:=I4.pin (f.heap.objs.size,{cls:=.type "list",data:=.seq j k}) (by simp[bK]);dsimp only at hd4 Y;obtain⟨m4,hns4,_⟩:=id I4.loc;have hns4':s4.heap.Ns L.objs.size m4:=hns4;obtain⟨oC,es,ep,hoC,rC⟩:=id hns4';have cne:L.objs.size≠f.heap.objs.size:=hDC.symm;have freeC:H3 L.objs.size=none:=I4.free;have hchC:eY X pins (upd H3 f.heap.objs.size (.lst ys)) L.objs.size:=I2.fpOk hCle (by rw[aG cne];exact freeC)
   have hlen:ys.length=j.size:=by have e:=hv.length;simpa using e
   have I5:Inv X pins σ (upd H3 f.heap.objs.size (.lst ys)) s4:=by
    refine I2.call' (ch:=fp) I4.os ⟨I4.base.keep,I4.base.slot,λb o e n hx=>?_,I4.base.there,λb xs e=>?_,λb o u e=>?_,λb ps e=>?_⟩ (λb u e=>?_) I4.bare λb F=>?_
    ·rw[aG (zq (zm e))];exact I4.base.free b o e n hx
    ·have q:=I4.base.tups b xs e;rw[aG (bV q Y)];exact q
    ·have q:=I4.base.frzs b o u e;rw[aG (bV q Y)];exact q
    ·obtain⟨more,q⟩:=I4.base.tbls b ps e;exact⟨more,by rw[aG (bV q Y)];exact q⟩
    ·by_cases F:b=f.heap.objs.size
     ·subst F;rw[bC] at e;cases e;exact⟨hQsz ys H3 qn,j.toList,k,hv,by simpa using hd4⟩
     ·rw[aG F] at e
      exact(I4.hok b u e).stay (λ_ _ _ q=>q) (λc q=>by rw[aG (bV q Y)];exact q) λc xs q=>by rw[aG (bV q Y)];exact q
    ·obtain⟨_,a2,_,a4,a5,a6⟩:=f2 b F;exact⟨a4,a2,a5,a6⟩
   refine hRR f.heap.objs.size L.objs.size oC ys H3 s4 (I5.pins_of λp hp=>?_) (λh e=>⟨m4,oC,es,ep,e,rC⟩) hchC Y qn
   rcases zt.mp hp with z | z
   ·exact I5.pin p (zN _ z)
   ·have e:p=(L.objs.size,oC):=by simpa using z
    subst e
    exact⟨hoC,hchC.1,hchC.2.1,hchC.2.2.1,λv z=>by
     have:=rC.1
     rw[this] at z;cases z⟩
  ·refine thn (T.item (bK X scope L.objs.size (bH N0 own cap) f H2 fp) rfl rfl rfl hc i _ s3 σ3 H3 _ I3 (stat fr3) st3 go) λr s4 ⟨u,hr,h4⟩=>?_
   subst hr
   refine thn h4 λ_ s5 ⟨x,H5,I5,r5,y5,st5,fr5⟩=>?_
   have I5':=I5.pinned (stat fr5) (T.obj _ _ st5)
   refine thn (hg _ _ _ _ _ s5 σ3 H5 x u _ I5' r5 (step x H5 y5)) λ_ s6 ⟨σ6,H6,I6,q6⟩=>?_
   refine thn (ht _ _ _ _ _ s6 σ6 H6 _ I6 q6) λb s7 ⟨H7,I7,q7⟩=>?_
   have keepT:∀{P:St}{O:Hp}{Z:Shared},Inv (bK X scope L.objs.size (bH N0 own cap) f H2 fp) ([(f.heap.objs.size,{cls:=.type "list",data:=.seq j k})]++pX fp s5.heap) P O Z->tn (i+1) Z.heap/\∀b∈fp,O b=none:=λ{P O Z} I'=>by
    refine⟨T.keep _ _ _ st5 λb F o e=>(I'.pin (b,o) (zN _ (zN _ (sy F e)))).1,λb F=>?_⟩;obtain⟨o,e,d⟩:=T.obj _ _ st5 b F;exact(I'.pin (b,o) (zN _ (zN _ (sy F e)))).2.1
   cases b with
   |false =>
    rw[if_neg zx] at q7 ⊢;obtain⟨m',hm,w7⟩:=hN _ _ _ q7;obtain⟨a,b⟩:=keepT I7;exact⟨m',hm,i+1,ys,j,k,σ6,H7,I7.unpinned,a,b,hv,w7⟩
   |true =>
    rw[if_pos rfl] at q7 ⊢
    refine thn (he _ _ _ _ _ s7 σ6 H7 _ I7 q7) λv s8 ⟨y,H8,I8,r8,q8⟩=>?_
    obtain⟨m',hm,w8⟩:=hN _ _ _ q8;obtain⟨a,b⟩:=keepT I8;obtain⟨hd8,hn8,_⟩:=I8.pin (f.heap.objs.size,{cls:=.type "list",data:=.seq j k}) (by simp[bK]);dsimp only at hd8 hn8
    have hl:j.size<=sizeLine:=by
     have e:=hv.length;simp at e;omega
    refine wpAny_list_append_plain (hsz:=hl) ⟨k,hd8⟩ λh9 hl9 hs9=>?_
    obtain⟨k9,hd9⟩:=hl9
    have I8':Inv (bK X scope L.objs.size (bH N0 own cap) f H2 fp) [] σ6 H8 s8:=I8.pins_of λp hp=>absurd hp (by simp)
    have I9:Inv (bK X scope L.objs.size (bH N0 own cap) f H2 fp) [] σ6 H8 {s8 with heap:=h9}:=
     I8'.turned (t':=s8.toks) (it:=f.heap.objs.size) (λb o F e=>hs9.extBut b o F e) hn8 hDC (.inr (zc _)) notcell (λp hp=>absurd (show p∈([]:List (Addr×Obj)) from hp) (by simp))
    refine⟨m',hm,i+1,ys++[y],j.push v,k9,σ6,H8,pinD I9 hn8 hd9,T.keep _ _ _ a λb F o e=>hs9.extBut b o (hDno b F).symm e,b,?_,w8⟩;rw[Array.toList_push];exact hv.append (.cons r8 .nil)
 exact codeAny_compStart_list (loop _ rfl) (T.self _ 0 _ _ _ st₁ (loop _ rfl))
def Eu{y:Pos}  (f:Scope)(d own:List Str)(cap:List Nat)(hc:X.calm=true)(Z:PI X tg iter wi)
  (hg:∀C s H ex,PG (bK X scope C (bH d own cap) s H ex) tg g) (W:∀C s H ex,kh (bK X scope C (bH d own cap) s H ex) ifs tt) (he:∀C s H ex,PE (bK X scope C (bH d own cap) s H ex) elt te)
  (j:X.env.scope=f:=by rfl) (G:X.N=d:=by rfl) (ok:j9 f d scope own cap=true:=by decide +kernel) (hs:∀x,foldedSetIterable iter X.env x=pure x:=by intro _;rfl):
  PE X (.ListComp elt [⟨tg,iter,ifs,0⟩] scope y) (sZ wi own cap g tt te):=by
 intro pins s σ H Q I h;have ok:=jA.of ok;refine wpAny_comprehension_free rfl hs (Ep (wU I j ok)) ok.kind ok.names (thn (Z _ s σ H _ I h) λxv s1 h1=>thn h1 λitv s2 h2=>?_);obtain⟨it,fp,tn,J,H2,e,I2,T,u,f2,hW⟩:=h2;subst e
 refine Et hc I2 j G ok hg W he T u f2 hW (λD C U R P s' O F L hD q=>?_) λR P q=>q.1
 obtain⟨hC⟩:=O.pin (C,U) (by simp);obtain⟨m,Y⟩:=F _ hC;refine⟨m,Y,λh' E=>⟨.ref D,upd P D _,?_,rfl,q.2 D hD⟩⟩;obtain⟨f0,f1,f2',f3,f4,f5⟩:=L;exact O.unpinned.turned (λb o hb e=>E.extBut b o hb e) f0 f1 f3 f4 f5
def Ew    {d:Pos}(y:Scope)(j own:List Str)(cap:List Nat)(hN:X.N.Nodup)(hx:X.N[i]?=some x)(hl:Loc X.env.scope x)(hc:X.calm=true)(hi:PI X tg iter wi)
  (hg:∀C s H ex,PG (bK X scope C (bH j own cap) s H ex) tg g) (ht:∀C s H ex,kh (bK X scope C (bH j own cap) s H ex) ifs tt) (he:∀C s H ex,PE (bK X scope C (bH j own cap) s H ex) elt te)
  (O:swapsWith (.ListComp elt [⟨tg,iter,ifs,0⟩] scope pos) (some (.Name x pos')) d.line X.env=pure true:=by rfl)
  (hf:X.fn x=true\/X.env.scope.names.lookup x=some .local:=by first | exact .inl rfl | exact .inr rfl | assumption)
  (E:X.env.scope=y:=by rfl) (U:X.N=j:=by rfl) (ok:j9 y j scope own cap=true:=by decide +kernel) (hs:∀x,foldedSetIterable iter X.env x=pure x:=by intro _;rfl):
  PS X (.Assign [.Name x pos'] (.ListComp elt [⟨tg,iter,ifs,0⟩] scope pos) d) (pU (sZ wi own cap g tt te) (pR i)):=by
 intro pins s σ H D I h;have ok:=jA.of ok;rw[exec_Assign_Name_used _ _ _ _ O];refine za (wpAny_standAt (za ?_));show wpAny _ X.A (do let _ <-comprehension (.ListComp elt [⟨tg,iter,ifs,0⟩] scope pos) scope X.env _ (newList []) false (eval iter X.env) (some (assign (.Name x pos') X.env))) _ _ s
 refine za (zT (wpAny_comprehension_free (use:=some (assign (.Name x pos') X.env)) (Q:=λ_ f=>SP X pins D .next f) rfl hs (Ep (wU I E ok)) ok.kind ok.names
  (thn (hi pins s σ H _ I h) λxv s1 h1=>thn h1 λitv s2 h2=>?_)) (λ_ f hq=>zb (zb hq)) λ_ _ e=>e)
 obtain⟨it,fp,tn,J,H2,e,I2,T,G,f2,hW⟩:=h2;subst e
 refine Et (RR:=λY C=>compPost (model X.prog X.w) X.A X.xe (some (assign (.Name x pos') X.env)) (λ_ f=>SP X pins D .next f) Y C) hc I2 E U ok hg ht he T G f2 hW (λu C oC Z H' f I' R W hD q=>?_) λZ H' q=>q.1
 show wpAny _ X.A (assign (.Name x pos') X.env (.ref u)) _ _ _;refine wpAny_assign_Name (vZ (v:=.ref u) I' hN hx hl rfl (λL F=>?_) hf);obtain⟨hC,hCn,_⟩:=F.pin (C,oC) (by simp);obtain⟨m,hm⟩:=R _ hC;refine⟨m,hm,λh' P=>⟨σ.set i (some (.ref u)),upd H' u (.lst Z),?_,q.2 u hD⟩⟩;obtain⟨f0,f1,f2',f3,f4,f5⟩:=W;exact F.unpinned.turned (t':=L.toks) (it:=C) (λb o hb e=>P.extBut b o hb e) f0 f1 f3 f4 f5
inductive Can (P:Program) (w:World) (K:PySem.W.Frag) (mg:Str->Option Value) (base:Heap) (x:Str) (ps:List Str) (k:Nat) (sp:Sp):Prop
 | mk:∀f fd,mg x=some (.ref f)->PySem.W.keepIn K (.ref f)=true->Binds K fd ps []->cz P w K mg base CX0 k f fd ps sp->(∃oc od osl,K.lookup f=some ⟨oc,od,.func fd,osl⟩)->Can P w K mg base x ps k sp
def Def(K:PySem.W.Frag)(mg:Str->Option Value)(x:Str)(st:Stmt):Prop:=∃f fd,mg x=some (.ref f)/\Fun K x x st f fd
def Def.can{K:PySem.W.Frag}  {st:Stmt}    (D:Def K mg x st)(S:fK N ps (bf st))
  (hb:∀(kV m pm:Value) (G:Option Addr) (b ct:Value) (us:List Value),us.length=ps.length->bindArgs (PySem.W.fnOf x x (dI st) (cM st) (bf st) .none kV m pm G b ct) ⟨us,[]⟩=pure (ps.zip us))
  (len:∀vs H Q E,sp vs H Q E->vs.length=ps.length)
  (d:∀(f:Addr) (b:Value) (A:Around) (outer:List Env) (s:Shared) (H:Hp) (vs:List V) (Q:VK) (E:XK),aZ k (A.deeper (envOfC x (bf st) s.heap.objs.size f b))->sp vs H Q E ->
   ∃t,PSs (gk CX0 P w K mg base N x (bf st) f b A outer s H E).nox (cM st) t/\t {nx:=λ_ I=>Q .non I,rt:=Q} (start N vs) H):Can P w K mg base x ps (k+1) sp:=by
 obtain⟨f,fd,C,F⟩:=D;obtain⟨u,q,_,_,_,_,_,_,j,_,lk,_⟩:=F.ex;exact⟨f,fd,C,F.kp,F.binds hb,F.ok S len λb A outer s H vs Q E y h=>d f b A outer s H vs Q E y h,u,q,j,lk⟩
def Um{p b:Pos}(C:Can X.prog X.w X.K X.mg X.base x ps k sp)(m:aZ k X.A)(I:PA X (e::es) t)(y:Gl X x:=by rfl)(j:(x == ("__debug__":Str))=false:=by decide)
  (E:starEach (e::es) X.env=(false,eval e X.env)::starEach es X.env:=by rfl) (d:(backTo b (starEach es X.env)).any (·.1)=false:=by rfl):
  PE X (.Call (.Name x p) (e::es) [] b) (p7 sp [] E0 t):=by
 obtain⟨f,fd,q,u,G,F,_⟩:=C;exact R8 F m y q u G .nil lX I j E d
def Uo{p b:Pos}(C:Can X.prog X.w X.K X.mg X.base x ps k sp)(j:aZ k X.A)(u:Gl X x:=by rfl)(d:(x == ("__debug__":Str))=false:=by decide):
  PE X (.Call (.Name x p) [] [] b) (p7 sp [] E0 p6):=by
 obtain⟨f,fd,m,q,y,F,_⟩:=C;exact R9 F j u m q y .nil lX d
def Same.seqT{K:PySem.W.Frag}    (e:Same H b)(h:SqT K H a xs):SqT K b a xs:=by
 rcases h with(h | ⟨o,h⟩) | h
 ·exact .inl (.inl (e _ _ h))
 ·exact .inl (.inr ⟨o,e _ _ h⟩)
 ·exact .inr h
mutual
def Rep(K:PySem.W.Frag)(H:Hp):V->PyData->Prop
 |v,.none=>v=.non
 |v,.bool b=>v=.bl b
 |v,.int i=>v=.int i
 |v,.str x=>v=.str x
 |v,.list ds=>∃a d,v=.ref a/\SqL K H a d/\b7 K H d ds
 |v,.tuple ds=>∃a d,v=.ref a/\SqT K H a d/\b7 K H d ds
 | _,.dict _=>False
def b7(K:PySem.W.Frag)(H:Hp):List V->List PyData->Prop
 |xs,[]=>xs=[]
 |xs,d::ds=>∃x r,xs=x::r/\Rep K H x d/\b7 K H r ds
end
mutual
theorem Rep.mono{K:PySem.W.Frag}  (e:Same H H'):∀(d:PyData) {v:V},Rep K H v d->Rep K H' v d
 | .none,v,h=>by rw[Rep] at h ⊢;exact h
 | .bool b,v,h=>by rw[Rep] at h ⊢;exact h
 | .int i,v,h=>by rw[Rep] at h ⊢;exact h
 | .str x,v,h=>by rw[Rep] at h ⊢;exact h
 | .list ds,v,h=>by
  rw[Rep] at h ⊢;obtain⟨a,f,h1,h2,h3⟩:=h;exact⟨a,f,h1,e.seq h2,b7.mono e ds h3⟩
 | .tuple ds,v,h=>by
  rw[Rep] at h ⊢;obtain⟨a,f,h1,h2,h3⟩:=h;exact⟨a,f,h1,e.seqT h2,b7.mono e ds h3⟩
 | .dict _,v,h=>by rw[Rep] at h;exact h.elim
theorem b7.mono{K:PySem.W.Frag}{H b:Hp}(e:Same H b):∀(ds:List PyData) {xs:List V},b7 K H xs ds->b7 K b xs ds
 | [],xs,h=>by rw[b7] at h ⊢;exact h
 |d::ds,xs,h=>by
  rw[b7] at h ⊢;obtain⟨x,r,h1,h2,h3⟩:=h;exact⟨x,r,h1,Rep.mono e d h2,b7.mono e ds h3⟩
end
def b7.nil{K:PySem.W.Frag} :b7 K H [] []:=by rw[b7]
def b7.cons{K:PySem.W.Frag}{H:Hp}{x:V}{xs:List V}{d:PyData}{ds:List PyData}(h:Rep K H x d)(hs:b7 K H xs ds):b7 K H (x::xs) (d::ds):=by
 rw[b7];exact⟨x,xs,rfl,h,hs⟩
mutual
theorem Rep.reads{pins:List (Addr×Obj)}{σ:St}{H:Hp}{s:Shared}(I:Inv X pins σ H s):∀(d:PyData) {v:V}{u:Value},Rep X.K H v d->RelV v u->∃C,Reads s.heap u d C
 | .none,v,u,h,r=>by rw[Rep] at h;subst h;cases(show u=.none from r);exact⟨_,.none⟩
 | .bool b,v,u,h,r=>by rw[Rep] at h;subst h;cases(show u=.bool b from r);exact⟨_,.bool b⟩
 | .int i,v,u,h,r=>by rw[Rep] at h;subst h;obtain⟨t,rfl⟩:=(show ∃t,u=.int i t from r);exact⟨_,.int i t⟩
 | .str x,v,u,h,r=>by rw[Rep] at h;subst h;obtain⟨t,rfl⟩:=(show ∃t,u=.str x t from r);exact⟨_,.str x t⟩
 | .list ds,v,u,h,r=>by
  rw[Rep] at h;obtain⟨a,F,rfl,h2,h3⟩:=h;cases(show u=.ref a from r);obtain⟨E,f,j,_⟩:=I.list h2;obtain⟨C,q⟩:=b7.reads I ds h3 f;obtain⟨o,m,y,n,hd⟩:=j.isList;exact⟨_,.list m y hd (by simpa using q)⟩
 | .tuple ds,v,u,h,r=>by
  rw[Rep] at h;obtain⟨a,F,rfl,h2,h3⟩:=h;cases(show u=.ref a from r);obtain⟨E,f,j,_⟩:=I.tuple h2;obtain⟨C,q⟩:=b7.reads I ds h3 f;obtain⟨o,m,y,n,hd⟩:=j;exact⟨_,.tuple m y hd (by simpa using q)⟩
 | .dict _,v,u,h,r=>by rw[Rep] at h;exact h.elim
theorem b7.reads(I:Inv X pins σ H s):∀(ds:List PyData) {xs:List V}{us:List Value},b7 X.K H xs ds->aH xs us->∃b,ReadsAll s.heap us ds b
 | [],xs,us,h,r=>by rw[b7] at h;subst h;cases r;exact⟨_,.nil⟩
 |d::ds,xs,us,h,r=>by
  rw[b7] at h;obtain⟨x,rest,rfl,h2,h3⟩:=h
  cases r with
  |cons r1 r2 =>
   obtain⟨b,q⟩:=Rep.reads I d h2 r1;obtain⟨bs,f⟩:=b7.reads I ds h3 r2;exact⟨_,.cons q f⟩
end
def okD(d:PyData):Bool:=d.canLay0&&decide (d.depth<=60)
def Ex(K:PySem.W.Frag)(b:Bool):R2:=λx y H Q=>∃d e,Rep K H x d/\Rep K H y e/\okD d=true/\okD e=true/\Q (.bl (if b then !PyData.eqv d e else PyData.eqv d e)) H
def Up  (F:aZ k X.A):OpR X (compareOp .Eq) (Ex X.K false):=by
 intro pins s σ H x y v u Q I m j h;obtain⟨d,e,h1,h2,f,b,q⟩:=h;obtain⟨G,E⟩:=Rep.reads I d h1 m;obtain⟨bs,C⟩:=Rep.reads I e h2 j;unfold okD at f b;simp   at f b;exact SeqAt.compareEq_reads E C f.1 b.1 (by have:=F.units;omega) ⟨.bl _,H,I,rfl,q⟩
def Uq  (F:aZ k X.A):OpR X (compareOp .NotEq) (Ex X.K true):=by
 intro pins s σ H x y v u Q I m j h;obtain⟨d,e,h1,h2,f,b,q⟩:=h;obtain⟨G,E⟩:=Rep.reads I d h1 m;obtain⟨bs,C⟩:=Rep.reads I e h2 j;unfold okD at f b;simp   at f b;exact SeqAt.compareNe_reads E C f.1 b.1 (by have:=F.units;omega) ⟨.bl _,H,I,rfl,q⟩
def S(l:List Nat):Str:=⟨l.toArray⟩
def km(l:List Nat):(S l).cps.toList=l:=by simp[S]
def gH(l:List Nat):(S l).length=l.length:=by simp[S,Str.length]
def Ur(x:Str):S x.cps.toList=x:=by simp[S]
def Us(a b:List Nat):S a++S b=S (a++b):=by
 show Str.mk _=Str.mk _;simp[S]
def qe  (h:S a=S b):a=b:=by have:=congrArg (λx =>x.cps.toList) h;simpa [km]
section
variable {X:Cx}
def Ut:OpR X (compareOp .LtE) (λx y H Q=>∃i j,x=.str i/\y=.str j/\Q (.bl (!decide (j.cps.toList<i.cps.toList))) H):=by
 intro pins s σ H x y v u Q I d b h;obtain⟨i,j,rfl,rfl,q⟩:=h;obtain⟨t,rfl⟩:=d;obtain⟨f,rfl⟩:=b;exact P.le_str ⟨.bl _,H,I,rfl,q⟩
def Uu:OpR X (compareOp .In) (λx y H Q=>∃c l,x=.str (S [c])/\y=.str (S l)/\Q (.bl (decide (c∈l))) H):=by
 intro pins s σ H x y v u Q I d b h;obtain⟨c,l,rfl,rfl,q⟩:=h;refine Rq pins s σ H _ _ v u Q I d b ⟨S [c],S l,rfl,rfl,?_⟩;have e:=PySem.StrLaws.found_one (S l) c;rw[km] at e;show Q (.bl (!(Builtin.Str.occurrences (S l) (S [c]) 0 (S l).length 1).isEmpty)) H;rw[show S [c]=⟨#[c]⟩ from rfl,e];exact q
def Uv:OpR X (compareOp .NotIn) (λx y H Q=>∃c l,x=.str (S [c])/\y=.str (S l)/\Q (.bl (!decide (c∈l))) H):=by
 intro pins s σ H x y v u Q I d b h;obtain⟨c,l,rfl,rfl,q⟩:=h;refine Rr pins s σ H _ _ v u Q I d b ⟨S [c],S l,rfl,rfl,?_⟩;have e:=PySem.StrLaws.found_one (S l) c;rw[km] at e;show Q (.bl (!(!(Builtin.Str.occurrences (S l) (S [c]) 0 (S l).length 1).isEmpty))) H;rw[show S [c]=⟨#[c]⟩ from rfl,e];exact q
def Its(l:List Nat):It:=⟨λi _=>i<l.length,λi H x b=>b=H/\∃c,l[i]?=some c/\x=.str (S [c]),λi _=>l.length<=i⟩
def Uw   {K:PySem.W.Frag}  (l:List Nat)(it:Addr)(t:Tok):Turn P w K tg (Its l) [it] it (λi h=>h.IsStrIter it "str_ascii_iterator" (S l) t i) where
 mem:=by simp
 obj:=λi h st b hb=>by
  have e:b=it:=by simpa using hb
  subst e;obtain⟨o,e,c,d⟩:=st;exact⟨o,e,λv z=>by rw[d] at z;cases z⟩
 keep:=λi h h' st k=>let ⟨o,ho,r⟩:=st;⟨o,k it (by simp) o ho,r⟩
 item:=by
  intro X hP hw hK hc i pins s σ H E I hf st hg;subst hP hw hK;obtain⟨f0,f1,f2,f3,f4,f5⟩:=hf it (by simp);have hg':i<l.length:=hg
  refine wpAny_pyNext_ascii_item st (c:=l[i]) (by simp[S,hg']) λh' st' sb=>?_
  have I1:Inv X pins σ H {s with heap:=h',toks:=s.toks+1}:=I.turned (λb o hb e=>(sb.2 b hb).trans e) f0 f1 f3 f4 f5;obtain⟨o,e,c,d⟩:=id st';exact⟨_,rfl,nJ (s:={s with heap:=h',toks:=s.toks+1}) e c d (by decide) ⟨.str (S [l[i]]),H,I1,⟨_,rfl⟩,⟨rfl,l[i],by simp[hg'],rfl⟩,st',λb hb=>(hf b hb).1⟩⟩
 done:=by
  intro X hP hw hK hc i pins s σ H E I hf st hg;subst hP hw hK;obtain⟨f0,f1,f2,f3,f4,f5⟩:=hf it (by simp);have hg':l.length<=i:=hg
  exact wpAny_pyNext_ascii_end (I.ok.hd hc) st (by simp[S,hg']) λh' eb=>⟨rfl,I.turned (t':=s.toks) (λb o hb e=>eb b o hb e) f0 f1 f3 f4 f5⟩
 self:=λ_ _ _ _ _ st h=>wpAny_pyIter_striter_ascii st h
def ascii(l:List Nat):Bool:=l.all (· < 128)
def Ux(tl:TE):TI:=λσ H R=>tl σ H λx b=>∃l,x=.str (S l)/\ascii l=true/\R (Its l) b
def Uy   (d:PE X e tl):PI X m e (Ux tl):=by
 intro pins s σ H R I h
 refine thn (d _ s σ H _ I h) λv s1 ⟨x,H1,I1,r1,q1⟩=>?_
 obtain⟨l,e,j,q⟩:=q1;subst e;obtain⟨t,rfl⟩:=r1;refine wpAny_pyIter_ascii (by simpa [S,ascii] using j) ?_;refine⟨s1.heap.objs.size,[s1.heap.objs.size],_,_,H1,rfl,I1.kept λb o e=>zo _ e,Uw l _ t,⟨_,zz _ rfl,rfl,rfl⟩,λb f=>?_,q⟩
 have e :=by simpa using f
 subst e;exact I1.fpOk (zc _) (I1.hok.fresh (zc _))
def Uz(L:X.calm=true):fH X (.builtin "all") (λxs H Q=>∃(a:Addr) (bs:List Bool),xs=[.ref a]/\SqL X.K H a (bs.map V.bl)/\Q (.bl (bs.all id)) H):=by
 intro pins s σ H xs R Q I r h;obtain⟨a,bs,rfl,P,q⟩:=h;obtain⟨u,rfl,m⟩:=vals1 r;cases m;obtain⟨d,j,p,U⟩:=I.list P;refine call_all_walk (wpAny_pyIter_list p.isList ?_);have C:a≠s.heap.objs.size:=zq (zm p.isList.choose_spec.1)
 refine⟨s.heap.objs.size,_,_,d.toArray.size,_,_,λi=>bs.getD i true,rfl,Walks.list (A:=X.A.in1) (I.ok.hd L) s.heap.objs.size a C d.toArray,
  ⟨⟨_,zz _ rfl,rfl,rfl⟩,p.isList.at λo e=>zo _ e⟩,λi v T Y Z E G=>?_,λW tk J=>?_⟩
 ·have O:(bs.map V.bl)[i]?=some (V.bl (bs.getD i true)):=by
   have f:i<d.length:=by
    have z:=Array.getElem?_eq_some_iff.mp E;simpa using z.1
   have y:=j.length;rw[zf] at y;rw[zF,zy (by omega),jr,zy (by omega)];rfl
  obtain⟨u,F,m⟩:=j.get O
  have hv':d[i]?=some v:=by simpa using E
  rw[hv'] at F;cases F;cases(show v=.bool _ from m);exact wpAny_truthy_bool G
 ·refine⟨.bl (bs.all id),H,I.kept λb o e=>J b o (λz=>?_) (zo _ e),?_,q⟩
  ·have z':b=s.heap.objs.size:=by simpa using z
   exact absurd (zm e) (by rw[z'];exact zU _)
  ·have y:d.length=bs.length:=by have:=j.length;rw[zf] at this;exact this.symm
   have e:(List.range d.toArray.size).all (λi=>bs.getD i true)=bs.all id:=by
    rw[zG,y];rw[Bool.eq_iff_iff,je,je];constructor
    ·intro h x hx;obtain⟨i,f,rfl⟩:=List.mem_iff_getElem.mp hx
     have:=h i (List.mem_range.mpr f)
     rw[jr,zy f] at this;exact this
    ·intro h i f;have hi':=List.mem_range.mp f;rw[jr,zy hi'];exact h _ (jh hi')
   show Value.bool _=Value.bool _;rw[e]
end
structure Blt(mg:Str->Option Value):Prop where
 len_:mg "len" = none
 isinstance_:mg "isinstance" = none
 all_:mg "all" = none
 sum_:mg "sum" = none
 max_:mg "max" = none
 min_:mg "min" = none
 int_:mg "int" = none
 str_:mg "str" = none
 bool_:mg "bool" = none
 list_:mg "list" = none
 tuple_:mg "tuple" = none
 dict_:mg "dict" = none
 range_:mg "range" = none
 enumerate_:mg "enumerate" = none
 zip_:mg "zip" = none
def Ey   {b:Pos}(h:∃u,X.mg x=some u/\RelV v u)(f:Gl X x:=by rfl)(hd:(x == ("__debug__":Str))=false:=by decide):PE X (.Name x b) (tC v):=by
 obtain⟨u,d,r⟩:=h;exact PL f d r hd
def cA{α:Type}(l:List α)(lo b:Option Int):List α:=(l.drop (HT.sIx l.length 0 lo)).take (HT.sIx l.length l.length b - HT.sIx l.length 0 lo)
def UG(l:List Nat)(lo b:Option Int):Txt.slice (S l) lo b=S (cA l lo b):=by
 obtain⟨h1,h2,h3⟩:=Eb lo b _
 have e:Builtin.Str.strSliceIndices lo b 1 (S l).length=(List.range (HT.sIx l.length l.length b - HT.sIx l.length 0 lo)).map (HT.sIx l.length 0 lo + ·):=by
  show sliceRange (sliceBounds lo b none l.length).1 (sliceBounds lo b none l.length).2.1 (sliceBounds lo b none l.length).2.2=_;rw[h1,h2,h3,sliceRange_one]
 unfold Txt.slice;rw[e,pick_run]
 split
 ·rename_i h
  have j :=by simpa [gH] using h
  have f:HT.sIx _ _ b<=l.length:=HT.sIx_le _ _ (zc _) b;have d:HT.sIx _ 0 lo<=l.length:=HT.sIx_le _ _ (Nat.zero_le _) lo
  have h0:HT.sIx l.length 0 lo=0:=by omega
  have h1:HT.sIx l.length l.length b=l.length:=by omega
  unfold cA;rw[h0,h1];simp
 ·rfl
def UJ:V->Option Int->Option Int->Hp->VK->Prop:=λx lo b H Q=>∃l,x=.str (S l)/\l.length<=sizeLine/\Q (.str (S (cA l lo b))) H
def part_of   (p:IsPart v o):∃q:Option (Int×Tok),v=partValue q/\q.map (·.1)=o:=by
 cases p with
 |none=>exact⟨none,rfl,rfl⟩
 |int i t=>exact⟨some (i,t),rfl,rfl⟩
def UL:SlR X UJ:=by
 intro pins s σ H x v vl G lo d sl Q I j hs u m h;obtain⟨l,rfl,y,q⟩:=h;obtain⟨t,rfl⟩:=j;obtain⟨L,rfl,E⟩:=part_of u;obtain⟨J,rfl,C⟩:=part_of m;refine⟨"str",_,F.slot_str_getitem.lookup,typeIs_str _ _ _,?_⟩;refine wpAny_getItem_str_slice (st:=none) hs rfl ?_;unfold sliceMade slicePicked;rw[E,C];refine post_val_or_str ⟨?_,λb k=>?_⟩
 ·exact zI (Txt.slice_le _ _ _) (by exact y)
 ·have f:=UG;unfold Txt.slice at f;show EP X _ σ Q (.str (if(1 == 1&&(Builtin.Str.strSliceIndices lo d 1 _).length == (S l).length)=true then S l else⟨((Builtin.Str.strSliceIndices lo d 1 _).filterMap _).toArray⟩) b) _;rw[f];exact⟨.str _,H,I.tok k,⟨b,rfl⟩,q⟩
namespace HT2
def getItem_tuple_whole         {lo:Option Int}  (b:IsTup s.heap t items)(hs:s.heap.IsSliceOf sl vl G .none)(pl:IsPart vl lo)(y:IsPart G F)
  (u:HT.sIx items.size 0 lo=0/\HT.sIx items.size items.size F=items.size) (h:Q (.ref t) s):wpAny (model prog w) A (getItem (.ref t) (.ref sl)) Q E s:=by
 obtain⟨os,f,m,C⟩:=id hs;have q:s.TypeIs (.ref sl) "slice":=⟨os,f,m⟩;unfold getItem
 try with_reducible refine zP ?_
 refine za (wpAny_sequenceKey b.typeIs (by decide) ?_)
 refine za (wpAny_callSpecial?_slot b.typeIs PyProof.Rows.slot_tuple_getitem
  (wpAny_call_entry PyProof.Rows.slot_tuple_getitem b.typeIs entry_tuple_getitem ?_))
 show wpAny _ _ (Builtin.Tuple.tupleItemsOf (.ref t) >>= _) _ _ s;refine za (tupleItemsOf_ b ?_);refine za (wpAny_typeOf q ?_);refine za (HT.sliceApplied_gen hs pl y ?_)
 have d:(((HT.sIx items.size 0 lo:Nat):Int) == 0&&(1:Int) == 1&&(HT.sIx items.size items.size F - HT.sIx items.size 0 lo) == items.size)=true:=by
  rw[u.1,u.2];simp
 show wpAny _ _ (if(((HT.sIx _ 0 lo:Nat):Int) == 0&&(1:Int) == 1&&(HT.sIx _ _ F - HT.sIx _ 0 lo) == items.size)=true then _ else _) _ _ s;rw[if_pos d]
 have j:∀{x:Around}{E'}{Q'},Q' true s->wpAny (model prog w) x (Builtin.Tuple.tupleIsExact (.ref t)) Q' E' s:=λ{x E' Q'} hq=>by
  exact za (wpAny_typeOf b.typeIs (zb hq))
 refine za (j ?_);exact za (zX (zb ⟨_,rfl,zb h⟩))
end HT2
def UT(K:PySem.W.Frag):V->Option Int->Option Int->Hp->VK->Prop:=λx lo d H Q=>∃a b,x=.ref a/\SqT K H a b /\
 ((HT.sIx b.length 0 lo=0/\HT.sIx b.length b.length d=b.length)->Q (.ref a) H)/\(¬(HT.sIx b.length 0 lo=0/\HT.sIx b.length b.length d=b.length)->∀p,H p=none->Q (.ref p) (upd H p (.tup (lV b lo d))))
def UV(K:PySem.W.Frag)(G:X.K=K:=by rfl):SlR X (UT K):=by
 subst G;intro pins s σ H x v vl C lo y sl Q I j hs q m h;obtain⟨a,b,rfl,hx,F,E⟩:=h
 by_cases d:HT.sIx b.length 0 lo=0/\HT.sIx b.length b.length y=b.length
 ·cases j;obtain⟨f,r,u,J⟩:=I.tuple hx
  have hlen:f.toArray.size=b.length:=by exact r.length.symm
  exact⟨"tuple",_,PyProof.Rows.slot_tuple_getitem.lookup,u.typeIs,HT2.getItem_tuple_whole u hs q m (by rw[hlen];exact d) ⟨.ref a,H,I,rfl,F d⟩⟩
 ·exact SX _ s σ H _ v vl C lo y sl Q I j hs q m ⟨a,b,rfl,hx,d,E d⟩
inductive TyQ (K:PySem.W.Frag) (H:Hp):V->String->Prop where
 | non:TyQ K H .non "NoneType"
 | bl (x:Bool):TyQ K H (.bl x) "bool"
 | int (i:Int):TyQ K H (.int i) "int"
 | str (x:Str):TyQ K H (.str x) "str"
 | lst {a:Addr}{xs:List V} (e:SqL K H a xs):TyQ K H (.ref a) "list"
 | tup {a:Addr}{xs:List V} (e:SqT K H a xs):TyQ K H (.ref a) "tuple"
 | dK {a:Addr}{kvs:List (Key×V)} (e:H a=some (.dK kvs)):TyQ K H (.ref a) "dict"
def UW(K:PySem.W.Frag):List V->Hp->VK->Prop:=λd H Q=>∃x n t b,d=[x,.ty n]/\TyQ K H x t/\PySem.W.kitOne K (.type t) (.type n)=some b/\Q (.bl b) H
def U0(K:PySem.W.Frag)(F:X.K=K:=by rfl):fH X (.builtin "isinstance") (UW K):=by
 subst F;intro pins s σ H C G Q I r h;obtain⟨x,n,t,b,rfl,ty,e,q⟩:=h;obtain⟨u,c,rfl,d,E⟩:=vals2 r;cases(E)
 have fin:∀tk,EP X _ σ Q _ _:=λtk=>⟨.bl b,H,I.tok tk,rfl,q⟩
 cases ty with
 |non=>exact pZ I d .non e fin
 |bl y=>exact pZ I d (.bl y) e fin
 |int i=>exact pZ I d (.int i) e fin
 |str y=>exact pZ I d (.str y) e fin
 | @lst a C ea =>
  cases(d);obtain⟨m,_,p,_⟩:=I.list ea;obtain⟨o,f,j,_⟩:=p.isList;exact PySem.W.kia_one PySem.W.kitx_list I.kIn ⟨o,f,j⟩ e (λz=>nomatch z) fin
 | @tup a C ea =>
  cases(d);obtain⟨m,_,p,_⟩:=I.tuple ea;obtain⟨o,f,j,_⟩:=p;exact PySem.W.kia_one PySem.W.kitx_tuple I.kIn ⟨o,f,j⟩ e (λz=>nomatch z) fin
 | @dK a kvs ea=>exact pZ I d (.dK ea) e fin
def U3(K:PySem.W.Frag)(n:String):PySem.W.kitOne K (.type n) (.type n)=some true:=by
 unfold PySem.W.kitOne;rw[if_pos (beq_self_eq_true _)]
theorem tD:∀{ds:List PyData},(∀d∈ds,d.canLay0=true)->PyData.canLayAll0 ds=true
 | [],_=>rfl
 |d::ds,h=>by rw[PyData.canLayAll0,h d zd,tD λx hx=>h x (zp _ hx)];rfl
theorem tE :∀{ds:List PyData},(∀d∈ds,d.depth<=n)->PyData.depthAll ds<=n
 | [],_=>by exact Nat.zero_le _
 |d::ds,h=>by
  exact Nat.max_le.mpr ⟨h d zd,tE λx hx=>h x (zp _ hx)⟩
def U4  (b:n<60)  (h:∀d∈ds,d.canLay0=true/\d.depth<=n):okD (.list ds)=true:=by
 unfold okD;rw[zB];refine⟨?_,zv ?_⟩
 ·exact tD λd hd=>(h d hd).1
 ·show PyData.depthAll ds+1<=60
  have:=tE λd hd=>(h d hd).2
  omega
theorem Ez:∀{ls:List (List Nat)}{us:List Value},aH (ls.map λl=>V.str (S l)) us->StrsAre us (ls.map S)
 | [],us,r=>by rw[zV] at r;cases r;exact .nil
 |l::ls,us,r=>by
  rw[zg] at r
  cases r with
  |cons r1 r2 =>
   obtain⟨t,e⟩:=r1;subst e;exact .cons _ t (Ez r2)
theorem EY:∀(ls:List (List Nat)) (a:Array Nat),(ls.map S).foldl (λb p=>b++(S []).cps++p.cps) a=a++ls.flatten.toArray
 | [],a=>by simp
 |l::ls,a=>by
  rw[zg,List.foldl_cons,EY ls];simp[S]
def U5(ls:List (List Nat)):Txt.join (S []) (ls.map S)=S ls.flatten:=by
 show Builtin.Str.glued (S []) (ls.map S)=_;unfold Builtin.Str.glued
 cases ls with
 |nil=>rfl
 |cons l ls =>
  show Str.mk ((ls.map S).foldl (λb p=>b++(S []).cps++p.cps) (S l).cps)=_;rw[EY];simp[S]
def rJoin(K:PySem.W.Frag):V->List V->Hp->VK->Prop:=λx b H Q=>∃(p:Addr) (ls:List (List Nat)),x=.str (S [])/\b=[.ref p]/\SqL K H p (ls.map λl=>V.str (S l))/\(ls.map List.length).sum<=1000000/\Q (.str (S ls.flatten)) H
def U6(K:PySem.W.Frag)(E:X.K=K:=by rfl):MtR X "str.join" (rJoin K):=by
 subst E;intro pins s σ H x G v J Q I d m h;obtain⟨p,ls,rfl,rfl,C,L,q⟩:=h;obtain⟨t,rfl⟩:=d;obtain⟨u,rfl,j⟩:=vals1 m;cases j;obtain⟨F,f,y,_⟩:=I.list C
 refine join_list y.isList (ys:=ls.map S) (by simpa using Ez f) ?_ λb k=>⟨.str (S ls.flatten),H,I.tok k,⟨b,?_⟩,q⟩
 ·have e:((ls.map S).map (·.length)).sum=(ls.map List.length).sum:=by
   rw[zQ];exact congrArg List.sum (jj λl _=>gH l)
  rw[e,gH];simp only[jb,Nat.mul_zero];omega
 ·rw[U5]
def U7:V->List V->Hp->VK->Prop:=λx b H Q=>∃l m,x=.str (S l)/\b=[.str (S m)]/\Q (.bl (decide (l.take m.length=m))) H
def U8(l m:List Nat):Txt.startswith (S l) (S m)=decide (l.take m.length=m):=by
 unfold Txt.startswith;rw[StrLaws.subAt_eq,km,km,gH,gH,List.drop_zero,Bool.eq_iff_iff,zB,decide_eq_true_eq,decide_eq_true_eq,beq_iff_eq];constructor
 ·exact λh=>h.2
 ·intro h;refine⟨?_,h⟩
  have:=congrArg List.length h
  rw[List.length_take] at this;omega
def U9:R2:=λx y H Q=>∃(l:List Nat) (n:Int),x=.str (S l)/\y=.int n/\-1000000<n/\n<1000000/\l.length * n.toNat<=16777216/\Q (.str (S (List.replicate n.toNat l).flatten)) H
theorem Fb(l:List Nat):∀(n:Nat) (a:Array Nat),(List.replicate n (S l).cps).foldl (· ++ ·) a=a++(List.replicate n l).flatten.toArray
 | 0,a=>by simp
 |n+1,a=>by
  rw[List.replicate_succ,List.foldl_cons,Fb l n,List.replicate_succ,List.flatten_cons];simp[S]
def Va:OpR X (binaryOp .Mult) U9:=by
 intro pins s σ H x y v u Q I f d h;obtain⟨l,n,rfl,rfl,h1,h2,h3,q⟩:=h;obtain⟨t,rfl⟩:=f;obtain⟨F,rfl⟩:=d;have hs:sizeLine=16777216:=sizeLine_eq
 by_cases m:n<1
 ·have E:n.toNat=0:=by omega
  rw[E] at q;exact P.mul_str_none m (by omega) ⟨.str (S []),H,I.tok _,⟨s.toks,rfl⟩,q⟩
 refine P.mul_str ?_ (λ_ _=>?_) (λ_ _=>?_) ?_
 ·rw[zl (by omega),zl (by omega)];rfl
 ·rw[gH];intro j
  have h4:(l.length:Int) * n<=16777216:=by
   have:((l.length * n.toNat:Nat):Int)<=16777216:=by omega
   rw[Int.natCast_mul,Int.toNat_of_nonneg (by omega)] at this;exact this
  have C:(2 ^ 63 - 1) / n<(l.length:Int):=j;have G:=(Int.ediv_lt_iff_lt_mul (show 0<n by omega)).mp C;omega
 ·rw[gH];unfold Builtin.Str.tooLong;exact zl (by omega)
 ·rw[if_neg (by omega)]
  by_cases b:(n == 1 || (S l).length == 0)=true
  ·rw[if_pos b]
   have e:(List.replicate n.toNat l).flatten=l:=by
    rw[Bool.or_eq_true,beq_iff_eq,beq_iff_eq,gH] at b
    rcases b with z | z
    ·rw[z];show(List.replicate 1 l).flatten=l;simp
    ·have z':=List.eq_nil_of_length_eq_zero z;subst z';rw[List.flatten_eq_nil_iff];intro x hx;exact(List.mem_replicate.mp hx).2
   rw[e] at q;exact⟨.str (S l),H,I,⟨t,rfl⟩,q⟩
  ·rw[if_neg b,Fb];refine⟨?_,.str (S (List.replicate n.toNat l).flatten),H,I.tok _,⟨s.toks,?_⟩,q⟩
   ·show(#[]++(List.replicate n.toNat l).flatten.toArray).size<=sizeLine;simp only[Array.size_append,zG,List.length_flatten,List.map_replicate,List.sum_replicate_nat];simp;rw[Nat.mul_comm];omega
   ·congr 1;simp[S]
def Vb:MtR X "str.startswith" U7:=by
 intro pins s σ H x j v y Q I b f h;obtain⟨l,m,rfl,rfl,q⟩:=h;obtain⟨t,rfl⟩:=b;obtain⟨u,rfl,d⟩:=vals1 f;obtain⟨C,rfl⟩:=d;exact SC.startswith ⟨.bl _,H,I,rfl,by rw[U8];exact q⟩
inductive D where
 | non | bl (b:Bool) | int (i:Int) | str (l:List Nat) | lst (ds:List D) | tup (ds:List D) | dic (ks vs:List D) | ob (n:Nat)
inductive Ob where
 | ins (c:Str) (fs:List (Str×D))
 | ml (ds:List D)
 | dt (kvs:List (List Key×D))
 | df (kvs:List (List Key×D))
 | dk (kvs:List (Key×D))
 | kf (kvs:List (Key×D))
 | xc (c:Str) (fs:List (Str×D))
 | gone
 | dn (kvs:List (NK×D))
 | nf (kvs:List (NK×D))
abbrev au:=List Ob
abbrev aR:=List (Option D)
structure Xc where
 cls:Str
 fs:List (Str×D)
inductive Res (α:Type) where
 | ok (a:α) (O:au) | ex (x:Xc) (O:au) | no
inductive Fl where
 | nx (ρ:aR) (O:au) | rt (d:D) (O:au) | bk (ρ:aR) (O:au) | ct (ρ:aR) (O:au) | ex (x:Xc) (O:au) | no
abbrev M(α:Type):=aR->au->Res α
abbrev MS:=aR->au->Fl
noncomputable def Res.bind  (r:Res α)(f:α->au->Res β):Res β:=match r with
 | .ok a O=>f a O
 | .ex x O=>.ex x O
 | .no=>.no
def Res.bind_ok  {r:Res α}{f:α->au->Res β}{b:β}  (h:r.bind f=.ok b O'):∃a O,r=.ok a O/\f a O=.ok b O':=by
 cases r with
 |ok a O=>exact⟨a,O,rfl,h⟩
 |ex x O=>cases h
 |no=>cases h
def wV:Expr->Bool
 | .Starred _ _=>false
 | _=>true
def bY    (h:wV e=true):starEach (e::es) env=(false,eval e env)::starEach es env:=by
 cases e<;>first | rfl | cases h
theorem cP  :∀{es:List Expr},es.all wV=true->(backTo pos (starEach es env)).any (·.1)=false
 | [],_=>by simp[starEach,backTo]
 |e::es,h=>by
  rw[List.all_cons,zB] at h;rw[bY h.1];show(false || (backTo _ _).any _)=false;rw[cP h.2];rfl
def nU   (h:wV e=true):starEach [e] env=[(false,eval e env)]:=by rw[bY h];simp[starEach]
abbrev Frag:=PySem.W.Frag
def tG:Key->D
 | .inl i=>.int i
 | .inr x=>.str x.cps.toList
def RdK(K:Frag)(H:Hp)(a:Addr)(xs:List V):Prop:=Rd H a (.lst xs)\/∃(b:List Value) (n:Nat),K.lookup a=some {cls:=.type "list",data:=.seq b.toArray n}/\b.length<=sizeLine/\aH xs b
def RdK.sq{K:Frag}    (h:RdK K H a xs):SqL K H a xs:=by
 rcases h with h | ⟨b,n,h1,h2,h3⟩
 ·exact .inl h
 ·exact .inr ⟨_,b.toArray,n,h1,rfl,rfl,rfl,by simpa ,by simpa ⟩
def RdK.ok   {σ:St}     (h:RdK X.K H a xs)(I:Inv X d σ H s):xs.length<=sizeLine/\∃(b:List Value) (n:Nat),aH xs b/\s.heap.get? a=some {cls:=.type "list",data:=.seq b.toArray n}:=by
 rcases h with h | ⟨b,n,h1,h2,h3⟩
 ·exact h.ok I.hok
 ·exact⟨by rw[h3.length];exact h2,b,n,h3,I.kIn a _ h1⟩
def TqT(K:Frag)(F:Hp)(a:Addr)(xs:List V):Prop :=
 F a=some (.tup xs)\/∃(o:Obj) (b:Array Value) (n:Nat),K.lookup a=some o/\o.cls=.type "tuple"/\o.data=.seq b n/\b.size<=sizeLine/\aH xs b.toList
def TqT.sq{K:Frag}    (h:TqT K F a xs):SqT K F a xs:=h.imp .inl id
mutual
def Rp(K:Frag)(F:Hp)(j:List Addr):V->D->Prop
 |v,.non=>v=.non
 |v,.bl b=>v=.bl b
 |v,.int i=>v=.int i
 |v,.str l=>v=.str (S l)
 |v,.lst ds=>∃a f,v=.ref a/\RdK K F a f/\Rps K F j f ds
 |v,.tup ds=>∃a f,v=.ref a/\TqT K F a f/\Rps K F j f ds
 |v,.dic ks vs=>∃(a:Addr) (d:List (Key×V)),v=.ref a/\F a=some (.dK d)/\ks=d.map (λp=>tG p.1)/\Rps K F j (d.map (·.2)) vs
 |v,.ob n=>∃a,v=.ref a/\j[n]?=some a
def Rps(K:Frag)(F:Hp)(b:List Addr):List V->List D->Prop
 |xs,[]=>xs=[]
 |xs,d::ds=>∃x r,xs=x::r/\Rp K F b x d/\Rps K F b r ds
end
section
variable {K:Frag}{F F':Hp}{as as':List Addr}
def Rd.mono    (e:Same H b)(h:Rd H a u):Rd b a u:=by
 rcases h with h | ⟨o,h⟩
 ·exact .inl (e _ _ h)
 ·exact .inr ⟨o,e _ _ h⟩
def RdK.mono{K:Frag}    (e:Same H b)(h:RdK K H a xs):RdK K b a xs:=h.imp (λz=>z.mono e) id
mutual
theorem Rp.mono(e:Same F F')(f:∀(n:Nat) (a:Addr),as[n]?=some a->as'[n]?=some a):∀(d:D) {v:V},Rp K F as v d->Rp K F' as' v d
 | .non,v,h=>by rw[Rp] at h ⊢;exact h
 | .bl b,v,h=>by rw[Rp] at h ⊢;exact h
 | .int i,v,h=>by rw[Rp] at h ⊢;exact h
 | .str x,v,h=>by rw[Rp] at h ⊢;exact h
 | .lst ds,v,h=>by
  rw[Rp] at h ⊢;obtain⟨a,j,h1,h2,h3⟩:=h;exact⟨a,j,h1,h2.mono e,Rps.mono e f ds h3⟩
 | .tup ds,v,h=>by
  rw[Rp] at h ⊢;obtain⟨a,j,h1,h2,h3⟩:=h;exact⟨a,j,h1,h2.imp (e _ _) id,Rps.mono e f ds h3⟩
 | .dic ks vs,v,h=>by
  rw[Rp] at h ⊢;obtain⟨a,m,h1,h2,h3,h4⟩:=h;exact⟨a,m,h1,e _ _ h2,h3,Rps.mono e f vs h4⟩
 | .ob n,v,h=>by
  rw[Rp] at h ⊢;obtain⟨a,h1,h2⟩:=h;exact⟨a,h1,f _ _ h2⟩
theorem Rps.mono(e:Same F F')(b:∀(n:Nat) (a:Addr),as[n]?=some a->as'[n]?=some a):∀(ds:List D) {xs:List V},Rps K F as xs ds->Rps K F' as' xs ds
 | [],xs,h=>by rw[Rps] at h ⊢;exact h
 |d::ds,xs,h=>by
  rw[Rps] at h ⊢;obtain⟨x,r,h1,h2,h3⟩:=h;exact⟨x,r,h1,Rp.mono e b d h2,Rps.mono e b ds h3⟩
end
def Rp.non{K:Frag}:Rp K F as .non .non:=by rw[Rp]
def Rp.bl{K:Frag} :Rp K F as (.bl b) (.bl b):=by rw[Rp]
def Rp.int{K:Frag} :Rp K F as (.int i) (.int i):=by rw[Rp]
def Rp.str{K:Frag} :Rp K F as (.str (S l)) (.str l):=by rw[Rp]
def Rp.unN{K:Frag}  (h:Rp K F as v .non):v=.non:=by rw[Rp] at h;exact h
def Rp.unB{K:Frag}   (h:Rp K F as v (.bl b)):v=.bl b:=by rw[Rp] at h;exact h
def Rp.unI{K:Frag}   (h:Rp K F as v (.int i)):v=.int i:=by exact h
def Rp.unS{K:Frag}   (h:Rp K F as v (.str l)):v=.str (S l):=by rw[Rp] at h;exact h
def Rp.unL{K:Frag}   (h:Rp K F as v (.lst ds)):∃a xs,v=.ref a/\RdK K F a xs/\Rps K F as xs ds:=by rw[Rp] at h;exact h
def Rp.unT'{K:Frag}   (h:Rp K F as v (.tup ds)):∃a xs,v=.ref a/\TqT K F a xs/\Rps K F as xs ds:=by rw[Rp] at h;exact h
def Rp.unT{K:Frag}   (h:Rp K F as v (.tup ds)):∃a xs,v=.ref a/\SqT K F a xs/\Rps K F as xs ds:=let ⟨a,xs,e,h1,h2⟩:=h.unT';⟨a,xs,e,h1.sq,h2⟩
def Rp.unO{K:Frag}   (h:Rp K F as v (.ob n)):∃a,v=.ref a/\as[n]?=some a:=by rw[Rp] at h;exact h
def Rp.unD{K:Frag}   (h:Rp K F as v (.dic ks vs)):∃(a:Addr) (b:List (Key×V)),v=.ref a/\F a=some (.dK b)/\ks=b.map (λp=>tG p.1)/\Rps K F as (b.map (·.2)) vs:=by rw[Rp] at h;exact h
def Rp.mkL{K:Frag}    (h:RdK K F a xs)(hs:Rps K F as xs ds):Rp K F as (.ref a) (.lst ds):=by rw[Rp];exact⟨a,xs,rfl,h,hs⟩
def Rp.mkT{K:Frag}    (h:TqT K F a xs)(hs:Rps K F as xs ds):Rp K F as (.ref a) (.tup ds):=by rw[Rp];exact⟨a,xs,rfl,h,hs⟩
def Rp.mkO{K:Frag}   (h:as[n]?=some a):Rp K F as (.ref a) (.ob n):=by exact⟨a,rfl,h⟩
def Rps.nil{K:Frag}:Rps K F as [] []:=by rw[Rps]
def Rps.cons{K:Frag}{F:Hp}{as:List Addr}{x:V}{xs:List V}{d:D}{ds:List D}(h:Rp K F as x d)(hs:Rps K F as xs ds):Rps K F as (x::xs) (d::ds):=by
 rw[Rps];exact⟨x,xs,rfl,h,hs⟩
def Rps.un{K:Frag}    (h:Rps K F as xs (d::ds)):∃x r,xs=x::r/\Rp K F as x d/\Rps K F as r ds:=by rw[Rps] at h;exact h
def Rps.un0{K:Frag}  (h:Rps K F as xs []):xs=[]:=by rw[Rps] at h;exact h
theorem Rps.length{K:Frag}:∀{ds:List D}{xs:List V},Rps K F as xs ds->xs.length=ds.length
 | [],xs,h=>by rw[h.un0];rfl
 |d::ds,xs,h=>by
  obtain⟨x,r,rfl,_,h3⟩:=h.un;simp[Rps.length h3]
theorem Rps.get{K:Frag}{F:Hp}{as:List Addr}:∀{ds:List D}{xs:List V}{i:Nat}{x:V},Rps K F as xs ds->xs[i]?=some x->∃d,ds[i]?=some d/\Rp K F as x d
 | [],xs,i,x,h,e=>by rw[h.un0] at e;simp at e
 |d::ds,xs,i,x,h,e=>by
  obtain⟨y,r,rfl,h2,h3⟩:=h.un
  cases i with
  |zero=>simp at e;subst e;exact⟨d,rfl,h2⟩
  |succ i =>
   obtain⟨f,b,q⟩:=Rps.get (i:=i) (x:=x) h3 (by simpa using e);exact⟨f,by simpa using b,q⟩
def Rps.get'{K:Frag}{F:Hp}{as:List Addr}:∀{ds:List D}{xs:List V}{i:Nat}{d:D},Rps K F as xs ds->ds[i]?=some d->∃x,xs[i]?=some x/\Rp K F as x d:=by
 intro ds xs i d h e;have j:=h.length
 have b:i<xs.length:=by rw[j];exact(zu.mp e).1
 obtain⟨m,f,q⟩:=h.get (zy b);rw[e] at f;cases f;exact⟨_,zy b,q⟩
theorem Rps.append{K:Frag}   (b:Rps K F as ys es):∀{ds:List D}{xs:List V},Rps K F as xs ds->Rps K F as (xs++ys) (ds++es)
 | [],xs,h=>by rw[h.un0];exact b
 |e::ds,xs,h=>by
  obtain⟨y,r,rfl,h2,h3⟩:=h.un;exact Rps.cons h2 (Rps.append b h3)
def Rps.snoc{K:Frag}     (h:Rps K F as xs ds)(hx:Rp K F as x d):Rps K F as (xs++[x]) (ds++[d]):=Rps.append (Rps.cons hx Rps.nil) h
theorem Rps.take{K:Frag}:∀{ds:List D}{xs:List V} (n:Nat),Rps K F as xs ds->Rps K F as (xs.take n) (ds.take n)
 | _,_,0,_=>by simpa using Rps.nil
 | [],xs,n+1,h=>by rw[h.un0];simpa using Rps.nil
 |d::ds,xs,n+1,h=>by
  obtain⟨y,r,rfl,h2,h3⟩:=h.un;exact Rps.cons h2 (Rps.take n h3)
theorem Rps.drop{K:Frag}:∀{ds:List D}{xs:List V} (n:Nat),Rps K F as xs ds->Rps K F as (xs.drop n) (ds.drop n)
 | _,_,0,h=>by simpa using h
 | [],xs,n+1,h=>by rw[h.un0];simpa using Rps.nil
 |d::ds,xs,n+1,h=>by
  obtain⟨y,r,rfl,h2,h3⟩:=h.un;exact Rps.drop n h3
theorem Rps.set{K:Frag}{F:Hp}{as:List Addr}:∀{ds:List D}{xs:List V}{x:V}{d:D} (n:Nat),Rps K F as xs ds->Rp K F as x d->Rps K F as (xs.set n x) (ds.set n d)
 | [],xs,x,d,n,h,_=>by rw[h.un0];simpa using Rps.nil
 |e::ds,xs,x,d,0,h,hx=>by
  obtain⟨y,r,rfl,h2,h3⟩:=h.un;exact Rps.cons hx h3
 |e::ds,xs,x,d,n+1,h,hx=>by
  obtain⟨y,r,rfl,h2,h3⟩:=h.un;exact Rps.cons h2 (Rps.set n h3 hx)
theorem Rps.rep{K:Frag}   (h:Rps K F as xs ds):∀n:Nat,Rps K F as (List.replicate n xs).flatten (List.replicate n ds).flatten
 | 0=>by simpa using Rps.nil
 |n+1=>by
  rw[List.replicate_succ,List.replicate_succ,List.flatten_cons,List.flatten_cons];exact Rps.append (Rps.rep h n) h
end
def isD:HO->Bool
 | .ins _ _ _=>false
 | .own _=>false
 | .xd _=>false
 | _=>true
def isL:HO->Bool
 | .lst _=>true
 | .dK _=>true
 | _=>false
def Fd  (h:isL o=true):isD o=true:=by
 cases o<;>first | rfl | cases h
structure Gr(H F:Hp)(as:List Addr)(H' F':Hp)(as':List Addr):Prop where
 fz:∀a o,H a=some o->a∉as->isL o=true->F' a=F a
 ff:Same F F'
 nw:∃new,as'=as++new/\∀a∈new,H a=none
 fr:∀a o,H a=some o->a∉as->isD o=true->H' a=some o
 dm:∀a,H' a=none->H a=none
 kz:∀a o u,H a=some (.frz o u)->H' a=some (.frz o u)
structure Pt where
 p:Addr->Prop
 ss:List (Nat×V×D)
instance:CoeFun Pt (λ_=>Addr->Prop):=⟨Pt.p⟩
def Pt.all(H:Hp):Pt:=⟨λa=>H a≠none,[]⟩
structure GrS(P:Pt)(H F:Hp)(as:List Addr)(H' F':Hp)(as':List Addr):Prop where
 fz:∀a o,P a->H a=some o->a∉as->isL o=true->F' a=F a
 ff:Same F F'
 nw:∃new,as'=as++new/\∀a∈new,H a=none
 fr:∀a o,P a->H a=some o->a∉as->isD o=true->H' a=some o
 dm:∀a,H' a=none->H a=none
 kz:∀a o u,H a=some (.frz o u)->H' a=some (.frz o u)
def Gr.refl:Gr H F b H F b:=⟨λ_ _ _ _ _=>rfl,Same.refl F,⟨[],by simp,λ_ h=>nomatch h⟩,λ_ _ h _ _=>h,λ_ h=>h,λ_ _ _ h=>h⟩
def Gr.trans(a:Gr H F G J O E)(b:Gr J O E I L C):Gr H F G I L C:=by
 obtain⟨x,j,h1⟩:=a.nw;obtain⟨m,y,h2⟩:=b.nw;refine⟨λc o f d hd=>?_,a.ff.trans b.ff,⟨x++m,by rw[y,j,zD],λc f=>?_⟩,λc o e d hd=>?_,λc h=>a.dm c (b.dm c h),λc o u h=>b.kz c o u (a.kz c o u h)⟩
 ·have q:=a.fr c o f d (Fd hd);refine(b.fz c o q ?_ hd).trans (a.fz c o f d hd);rw[j];intro z
  rcases zt.mp z with z | z
  ·exact d z
  ·rw[h1 c z] at f;cases f
 ·rcases zt.mp f with z | z
  ·exact h1 c z
  ·exact a.dm c (h2 c z)
 ·have q:=a.fr c o e d hd;refine b.fr c o q ?_ hd;rw[j];intro z
  rcases zt.mp z with z | z
  ·exact d z
  ·rw[h1 c z] at e;cases e
def Gr.toS(a:Gr H F f j m d):GrS P H F f j m d:=⟨λc o _=>a.fz c o,a.ff,a.nw,λc o _ e b hd=>a.fr c o e b hd,a.dm,a.kz⟩
def GrS.refl:GrS P H F b H F b:=Gr.refl.toS
def GrS.trans(a:GrS P H F G J O E)(b:GrS P J O E I L C):GrS P H F G I L C:=by
 obtain⟨x,j,h1⟩:=a.nw;obtain⟨m,y,h2⟩:=b.nw;refine⟨λc o p f d hd=>?_,a.ff.trans b.ff,⟨x++m,by rw[y,j,zD],λc f=>?_⟩,λc o p e d hd=>?_,λc h=>a.dm c (b.dm c h),λc o u h=>b.kz c o u (a.kz c o u h)⟩
 ·have q:=a.fr c o p f d (Fd hd);refine(b.fz c o p q ?_ hd).trans (a.fz c o p f d hd);rw[j];intro z
  rcases zt.mp z with z | z
  ·exact d z
  ·rw[h1 c z] at f;cases f
 ·rcases zt.mp f with z | z
  ·exact h1 c z
  ·exact a.dm c (h2 c z)
 ·have q:=a.fr c o p e d hd;refine b.fr c o p q ?_ hd;rw[j];intro z
  rcases zt.mp z with z | z
  ·exact d z
  ·rw[h1 c z] at e;cases e
def GrS.gr(a:GrS (Pt.all H) H F d f j b):Gr H F d f j b:=⟨λc o e=>a.fz c o (show H c≠none by rw[e];exact λz=>nomatch z) e,a.ff,a.nw,λc o e=>a.fr c o (show H c≠none by rw[e];exact λz=>nomatch z) e,a.dm,a.kz⟩
def Gr.at_(a:Gr H F f j m d):∀(n:Nat) (c:Addr),f[n]?=some c->d[n]?=some c:=λn c h=>by
 obtain⟨b,e,_⟩:=a.nw;rw[e,zE (zu.mp h).1];exact h
def GrS.at_(a:GrS P H F f j m d):∀(n:Nat) (c:Addr),f[n]?=some c->d[n]?=some c:=λn c h=>by
 obtain⟨b,e,_⟩:=a.nw;rw[e,zE (zu.mp h).1];exact h
def Gr.out(a:Gr H F j m q f)  (h:c∉j)(e:H c≠none):c∉f:=by
 obtain⟨d,b,h1⟩:=a.nw;rw[b];intro z
 rcases zt.mp z with z | z
 ·exact h z
 ·exact e (h1 c z)
def Rp.gr{K:Frag}   (h:Rp K F f v d)(a:Gr H F f m j b):Rp K j b v d:=Rp.mono a.ff a.at_ d h
def Rps.gr{K:Frag}   (h:Rps K F f v d)(a:Gr H F f m j b):Rps K j b v d:=Rps.mono a.ff a.at_ d h
def Rp.grS{K:Frag}   (h:Rp K F f v d)(a:GrS P H F f m j b):Rp K j b v d:=Rp.mono a.ff a.at_ d h
structure FsR(K:Frag)(F:Hp)(as:List Addr)(gs:List (Str×V))(fs:List (Str×D)):Prop where
 nm:gs.map (·.1)=fs.map (·.1)
 vl:Rps K F as (gs.map (·.2)) (fs.map (·.2))
def XF(K:Frag)(F:Hp)(j:List Addr)(b:Option Addr)(fs:List (Str×D)):Prop:=fs=[]\/∃d f gs,b=some d/\F d=some (.frz f (.xd gs))/\FsR K F j gs fs
def XF.mono{K:Frag}     (h:XF K F q j fs)(e:Same F u)(d:∀(n:Nat) (a:Addr),q[n]?=some a->m[n]?=some a):XF K u m j fs:=by
 rcases h with h | ⟨f,b,gs,h1,h2,h3,h4⟩
 ·exact .inl h
 ·exact .inr ⟨f,b,gs,h1,e _ _ h2,h3,Rps.mono e d _ h4⟩
def ObR(K:Frag)(mg:Str->Option Value)(H F:Hp)(d:List Addr)(a:Addr):Ob->Prop
 | .ins c fs=>∃C m gs,mg c=some (.ref C)/\H a=some (.ins C m gs)/\FsR K F d gs fs
 | .ml ds=>∃b,H a=some (.lst b)/\Rps K F d b ds
 | .dt kvs=>∃b:List (List Key×V),H a=some (.dT b)/\b.map (·.1)=kvs.map (·.1)/\Rps K F d (b.map (·.2)) (kvs.map (·.2))
 | .df kvs=>∃(o:Obj) (b:List (List Key×V)),H a=some (.frz o (.dT b))/\b.map (·.1)=kvs.map (·.1)/\Rps K F d (b.map (·.2)) (kvs.map (·.2))
 | .dk kvs=>∃b:List (Key×V),H a=some (.dK b)/\b.map (·.1)=kvs.map (·.1)/\Rps K F d (b.map (·.2)) (kvs.map (·.2))
 | .kf kvs=>∃(o:Obj) (b:List (Key×V)),H a=some (.frz o (.dK b))/\b.map (·.1)=kvs.map (·.1)/\Rps K F d (b.map (·.2)) (kvs.map (·.2))
 | .xc c fs=>∃(C:Addr) (f:Obj) (u:HO),mg c=some (.ref C)/\H a=some (.frz f u)/\f.cls=.ref C/\(∃j,f.data=.fields j)/\XF K F d f.dict fs
 | .gone=>∃φ,H a=some (.ext φ)
 | .dn kvs=>∃b:List (NK×V),H a=some (.dN K b)/\b.map (·.1)=kvs.map (·.1)/\Rps K F d (b.map (·.2)) (kvs.map (·.2))
 | .nf kvs=>∃(o:Obj) (b:List (NK×V)),H a=some (.frz o (.dN K b))/\b.map (·.1)=kvs.map (·.1)/\Rps K F d (b.map (·.2)) (kvs.map (·.2))
structure RlO(K:Frag)(mg:Str->Option Value)(O:au)(H F:Hp)(as:List Addr):Prop where
 fh:Same F H
 fd:∀a o,F a=some o->isD o=true
 nd:as.Nodup
 len:as.length=O.length
 fa:∀a∈as,F a=none
 ob:∀(n:Nat) (a:Addr) (o:Ob),as[n]?=some a->O[n]?=some o->ObR K mg H F as a o
inductive Md where
 | v | s | o
 deriving DecidableEq
def iy:D->Bool
 | .lst _=>false
 | _=>true
def gJ(P:Pt)(K:Frag)(H F:Hp)(b:List Addr):Md->V->D->Prop
 | .v,v,d=>Rp K F b v d
 | .s,v,d=>Rp K F b v d\/∃a f j,v=.ref a/\d=.lst j/\H a=some (.lst f)/\a∉b/\P a/\Rps K F b f j
 | .o,v,d=>(iy d=true/\Rp K F b v d)\/∃a f j,v=.ref a/\d=.lst j/\H a=some (.lst f)/\F a=none/\a∉b/\¬P a/\Rps K F b f j
structure SlO(K:Frag)(md:List Md)(P:Pt)(ρ:aR)(σ:St)(H F:Hp)(as:List Addr):Prop where
 len:σ.length=md.length
 len':ρ.length=md.length
 pd:∀a,P a->H a≠none
 sl:∀(i:Nat) (m:Md) (d:D),md[i]?=some m->ρ[i]?=some (some d)->∃v,σ[i]?=some (some v)/\gJ P K H F as m v d
 inj:∀(i j:Nat) (a:Addr) (ds es:List D),md[i]?=some .o->md[j]?=some .o->ρ[i]?=some (some (.lst ds))->ρ[j]?=some (some (.lst es))->σ[i]?=some (some (.ref a))->σ[j]?=some (some (.ref a))->i=j
 pin:∀x∈P.ss,md[x.1]?=some .s/\ρ[x.1]?=some (some x.2.2)/\σ[x.1]?=some (some x.2.1)
def gJ.step{K:Frag}    (h:gJ P K H F as m v d)(g:Gr H F as H' F' as'):gJ P K H' F' as' m v d:=by
 cases m with
 |v=>exact Rp.gr (show Rp K F as v d from h) g
 |s =>
  rcases h with h | ⟨a,j,C,y,x,f,b,u,q⟩
  ·exact .inl (h.gr g)
  ·exact .inr ⟨a,j,C,y,x,g.fr _ _ f b rfl,g.out b (by rw[f];exact λz=>nomatch z),u,q.gr g⟩
 |o =>
  rcases h with⟨h1,h⟩ | ⟨a,j,C,y,x,f,G,b,u,q⟩
  ·exact .inl ⟨h1,h.gr g⟩
  ·have E:H a≠none:=by rw[f];exact λz=>nomatch z
   exact .inr ⟨a,j,C,y,x,g.fr _ _ f b rfl,by rw[g.fz a _ f b rfl];exact G,g.out b E,u,q.gr g⟩
def SlO.step{K:Frag}(h:SlO K md P ρ σ H F u)(g:Gr H F u x y j):SlO K md P ρ σ x y j :=
 ⟨h.len,h.len',λa p z=>h.pd a p (g.dm a z),λi m d f b=>let ⟨v,q,r⟩:=h.sl i m d f b;⟨v,q,r.step g⟩,h.inj,h.pin⟩
def Sv(K:Frag)(H F:Hp)(b:List Addr)(v:V)(d:D):Prop :=
 Rp K F b v d\/∃a f j,v=.ref a/\d=.lst j/\H a=some (.lst f)/\a∉b/\Rps K F b f j
def Lk(K:Frag)(H F:Hp)(j:List Addr)(v:V)(d:D):Prop :=
 Rp K F j v d\/∃a b f,v=.ref a/\d=.lst f/\H a=some (.lst b)/\Rps K F j b f
def Ow(K:Frag)(N:Addr->Prop)(H F:Hp)(b:List Addr)(v:V)(d:D):Prop :=
 (iy d=true/\Rp K F b v d)\/∃a f j,v=.ref a/\d=.lst j/\H a=some (.lst f)/\F a=none/\a∉b/\N a/\Rps K F b f j
noncomputable def aY(O:au)(d:D):D:=match d with
 | .ob n=>match O[n]? with
  |some (.ml ds)=>.lst ds
  | _=>.ob n
 |d=>d
def Sv.gr{K:Frag}(h:Sv K H F C v d)(g:Gr H F C E G y):Sv K E G y v d:=by
 rcases h with h | ⟨a,j,x,u,q,f,b,m⟩
 ·exact .inl (h.gr g)
 ·exact .inr ⟨a,j,x,u,q,g.fr _ _ f b rfl,g.out b (by rw[f];exact λz=>nomatch z),m.gr g⟩
def Sv.lk{K:Frag}(h:Sv K H F C v d)(r:RlO K mg O H F C):Lk K H F C v (aY O d):=by
 rcases h with h | ⟨a,b,f,rfl,rfl,q,y,m⟩
 ·cases d with
  |ob n =>
   obtain⟨a,rfl,j⟩:=h.unO;unfold aY
   dsimp
   split
   ·rename_i f e;obtain⟨b,x,u⟩:=r.ob n a _ j e;exact .inr ⟨a,b,f,rfl,rfl,x,u⟩
   ·exact .inl (Rp.mkO j)
  | _=>exact .inl h
 ·exact .inr ⟨a,b,f,rfl,rfl,q,m⟩
def Lk.list{K:Frag}  (h:Lk K H F q v (.lst ds))(fh:Same F H):∃a xs,v=.ref a/\RdK K H a xs/\Rps K F q xs ds:=by
 rcases h with h | ⟨a,xs,m,j,f,d,b⟩
 ·obtain⟨a,xs,e,h1,h2⟩:=h.unL;exact⟨a,xs,e,h1.mono fh,h2⟩
 ·cases f;exact⟨a,xs,j,.inl (.inl d),b⟩
def Lk.rp{K:Frag}(h:Lk K H F x v d)(b:iy d=true):Rp K F x v d:=by
 rcases h with h | ⟨a,j,f,u,rfl,q,m⟩
 ·exact h
 ·cases b
def Sv.rp{K:Frag}(h:Sv K H F x v d)(b:iy d=true):Rp K F x v d:=by
 rcases h with h | ⟨a,j,f,u,rfl,q,m⟩
 ·exact h
 ·cases b
def Gr.lay   (b:H p=none):Gr H F f (upd H p o) F f :=
 ⟨λ_ _ _ _ _=>rfl,Same.refl F,⟨[],by simp,λ_ h=>nomatch h⟩,λa d e _ _=>by rw[aG (bV e b)];exact e,λa e=>by
  by_cases h:a=p
  ·subst h;exact b
  ·rwa [aG h] at e,λa d u e=>by rw[aG (bV e b)];exact e⟩
def ObR.keep{K:Frag}   (h:ObR K mg H F as a o)(d:H' a=H a)(e:Same F F')(f:∀(n:Nat) (a:Addr),as[n]?=some a->as'[n]?=some a):ObR K mg H' F' as' a o:=by
 cases o with
 |ins c fs =>
  obtain⟨C,q,gs,h1,h2,h3,h4⟩:=h;exact⟨C,q,gs,h1,by rw[d];exact h2,h3,Rps.mono e f _ h4⟩
 |ml ds =>
  obtain⟨b,h1,h2⟩:=h;exact⟨b,by rw[d];exact h1,Rps.mono e f _ h2⟩
 |dt kvs =>
  obtain⟨b,h1,h2,h3⟩:=h;exact⟨b,by rw[d];exact h1,h2,Rps.mono e f _ h3⟩
 |df kvs =>
  obtain⟨o,b,h1,h2,h3⟩:=h;exact⟨o,b,by rw[d];exact h1,h2,Rps.mono e f _ h3⟩
 |dk kvs =>
  obtain⟨b,h1,h2,h3⟩:=h;exact⟨b,by rw[d];exact h1,h2,Rps.mono e f _ h3⟩
 |kf kvs =>
  obtain⟨o,b,h1,h2,h3⟩:=h;exact⟨o,b,by rw[d];exact h1,h2,Rps.mono e f _ h3⟩
 |xc c fs =>
  obtain⟨C,j,u,h1,h2,h3,h4,m⟩:=h;exact⟨C,j,u,h1,by rw[d];exact h2,h3,h4,m.mono e f⟩
 |gone =>
  obtain⟨φ,h1⟩:=h;exact⟨φ,by rw[d];exact h1⟩
 |dn kvs =>
  obtain⟨b,h1,h2,h3⟩:=h;exact⟨b,by rw[d];exact h1,h2,Rps.mono e f _ h3⟩
 |nf kvs =>
  obtain⟨o,b,h1,h2,h3⟩:=h;exact⟨o,b,by rw[d];exact h1,h2,Rps.mono e f _ h3⟩
def RlO.at{K:Frag}{n:Nat}   (r:RlO K mg O H F as)(j:as[n]?=some a)(f:O[n]?=some o):H a≠none:=by
 have q:=r.ob n a o j f
 cases o with
 |ins c fs=>obtain⟨C,x,gs,h1,h2,_⟩:=q;rw[h2];exact λz=>nomatch z
 |ml y=>obtain⟨d,h1,_⟩:=q;rw[h1];exact λz=>nomatch z
 |dt b=>obtain⟨d,h1,_⟩:=q;rw[h1];exact λz=>nomatch z
 |df b=>obtain⟨o,d,h1,_⟩:=q;rw[h1];exact λz=>nomatch z
 |dk b=>obtain⟨d,h1,_⟩:=q;rw[h1];exact λz=>nomatch z
 |kf b=>obtain⟨o,d,h1,_⟩:=q;rw[h1];exact λz=>nomatch z
 |xc c fs=>obtain⟨C,m,u,_,h1,_⟩:=q;rw[h1];exact λz=>nomatch z
 |gone=>obtain⟨φ,h1⟩:=q;rw[h1];exact λz=>nomatch z
 |dn b=>obtain⟨d,h1,_⟩:=q;rw[h1];exact λz=>nomatch z
 |nf b=>obtain⟨o,d,h1,_⟩:=q;rw[h1];exact λz=>nomatch z
def RlO.all{K:Frag}  (r:RlO K mg O H F j)(d:a∈j):H a≠none:=by
 obtain⟨n,b,e⟩:=List.mem_iff_getElem.mp d
 have f:n<O.length:=by rw[<-r.len];exact b
 exact r.at (n:=n) (by rw[zy b,e]) (zy f)
def RlO.lay{K:Frag}   (r:RlO K mg O H F j)(d:H p=none):RlO K mg O (upd H p o) F j:=by
 refine⟨λa u e=>?_,r.fd,r.nd,r.len,r.fa,λn a u f b=>(r.ob n a u f b).keep (aG ?_) (Same.refl F) λ_ _ h=>h⟩
 ·have q:=r.fh a u e;rw[aG (bV q d)];exact q
 ·intro z;subst z;exact r.at f b d
def Gr.frz{H F m f:Hp}{j b:List Addr}{p:Addr}{o:HO}(y:H p=none)(g:Gr H F j m f b)(E:f p=none):Gr H F j m (upd f p o) b :=
 ⟨λa x d C hd=>by rw[aG (λz=>by subst z;rw[y] at d;cases d)];exact g.fz a x d C hd,λa u e=>by
  have q:=g.ff a u e
  rw[aG (bV q E)];exact q,g.nw,g.fr,g.dm,g.kz⟩
def RlO.frz{K:Frag}{mg:Str->Option Value}{H F:Hp}{b:List Addr}{O:au}{p:Addr}{o:HO}(r:RlO K mg O H F b)(d:H p=some o)(f:F p=none)(j:p∉b)(hd:isD o=true):RlO K mg O H (upd F p o) b:=by
 have ff:Same F (upd F p o):=λa u e=>by rw[aG (bV e f)];exact e
 refine⟨λa u e=>?_,λa u e=>?_,r.nd,r.len,λa h=>?_,λn a u h1 h2=>(r.ob n a u h1 h2).keep rfl ff λ_ _ h=>h⟩
 ·by_cases h:a=p
  ·subst h;rw[bC] at e;cases e;exact d
  ·rw[aG h] at e;exact r.fh a u e
 ·by_cases h:a=p
  ·subst h;rw[bC] at e;cases e;exact hd
  ·rw[aG h] at e;exact r.fd a u e
 ·rw[aG (λz=>by subst z;exact j h)];exact r.fa a h
abbrev RR:=(Addr->Prop)->Hp->Hp->List Addr->V->D->Prop
def rV(K:Frag):RR:=λ_ _ F b v d=>Rp K F b v d
def rS(K:Frag):RR:=λ_ H F b v d=>Sv K H F b v d
def rO(K:Frag):RR:=λN H F b v d=>Ow K N H F b v d
def rA(K:Frag):Md->RR
 | .v=>rV K
 | _=>rS K
def dZ(R:RR):Prop:=∀(N f:Addr->Prop) (H F:Hp) (b:List Addr) (v:V) (d:D),(∀a,N a->f a)->R N H F b v d->R f H F b v d
def kE{K:Frag}:dZ (rV K):=λ_ _ _ _ _ _ _ _ h=>h
def iz{K:Frag}:dZ (rO K):=λN I H F G v d f h=>by
 rcases h with h | ⟨a,b,E,C,y,x,u,q,m,j⟩
 ·exact .inl h
 ·exact .inr ⟨a,b,E,C,y,x,u,q,f a m,j⟩
inductive tM (K:Frag) (mg:Str->Option Value) (md:List Md) (P:Pt) (R:RR) (m:M D) (σ:St) (H:Hp) (Q:VK):Prop
 | mk (ρ:aR) (O:au) (F:Hp) (as:List Addr) (d:D) (O':au):RlO K mg O H F as->SlO K md P ρ σ H F as->m ρ O=.ok d O' ->
  (∀v H' F' as',Gr H F as H' F' as'->RlO K mg O' H' F' as'->R (λa=>H a=none) H' F' as' v d->Q v H')->tM K mg md P R m σ H Q
inductive tMT (K:Frag) (mg:Str->Option Value) (md:List Md) (P:Pt) (m:M Bool) (σ:St) (H:Hp) (Q:Bool->Hp->Prop):Prop
 | mk (ρ:aR) (O:au) (F:Hp) (as:List Addr) (b:Bool) (O':au):RlO K mg O H F as->SlO K md P ρ σ H F as->m ρ O=.ok b O' ->
  (∀H' F' as',Gr H F as H' F' as'->RlO K mg O' H' F' as'->Q b H')->tMT K mg md P m σ H Q
def bQ(K:Frag)(H F:Hp)(b:List Addr):List Md->List V->List D->Prop
 | [],[],[]=>True
 |m::ms,v::vs,d::ds=>rA K m (λ_=>True) H F b v d/\bQ K H F b ms vs ds
 | _,_,_=>False
inductive tMA (K:Frag) (mg:Str->Option Value) (md:List Md) (P:Pt) (ms:List Md) (m:M (List D)) (σ:St) (H:Hp) (Q:List V->Hp->Prop):Prop
 | mk (ρ:aR) (O:au) (F:Hp) (as:List Addr) (ds:List D) (O':au):RlO K mg O H F as->SlO K md P ρ σ H F as->m ρ O=.ok ds O' ->
  (∀vs H' F' as',Gr H F as H' F' as'->RlO K mg O' H' F' as'->bQ K H' F' as' ms vs ds->Q vs H')->tMA K mg md P ms m σ H Q
def XE(X:Cx)(md:List Md)(P:Pt)(R:RR)(e:Expr)(m:M D):Prop:=PE X e (tM X.K X.mg md P R m)
def VE(X:Cx)(md:List Md)(P:Pt)(e:Expr)(m:M D):Prop:=PE X e (tM X.K X.mg md P (rV X.K) m)
def SE(X:Cx)(md:List Md)(P:Pt)(e:Expr)(m:M D):Prop:=PE X e (tM X.K X.mg md P (rS X.K) m)
def OE(X:Cx)(md:List Md)(P:Pt)(e:Expr)(m:M D):Prop:=PE X e (tM X.K X.mg md P (rO X.K) m)
def TsE(X:Cx)(md:List Md)(P:Pt)(e:Expr)(m:M Bool):Prop:=PT X e (tMT X.K X.mg md P m)
def TwE(X:Cx)(md:List Md)(P:Pt)(e:Expr)(m:M Bool):Prop:=PW X e (tMT X.K X.mg md P m)
def AE(X:Cx)(md:List Md)(P:Pt)(ms:List Md)(es:List Expr)(m:M (List D)):Prop:=PA X es (tMA X.K X.mg md P ms m)
def jB(K:Frag)(mg:Str->Option Value)(md:List Md)(P:Pt)(R:RR)(D:Ends)(H F:Hp)(q:List Addr):Fl->Prop
 | .nx ρ' O'=>∀j f m b,GrS P H F q f m b->RlO K mg O' f m b->SlO K md P ρ' j f m b->D.nx j f
 | .bk ρ' O'=>∀j f m b,GrS P H F q f m b->RlO K mg O' f m b->SlO K md P ρ' j f m b->D.bk j f
 | .ct ρ' O'=>∀j f m b,GrS P H F q f m b->RlO K mg O' f m b->SlO K md P ρ' j f m b->D.ct j f
 | .rt d O'=>∀v f m b,GrS P H F q f m b->RlO K mg O' f m b->R (λa=>¬P a) f m b v d->D.rt v f
 | .ex _ _=>False
 | .no=>False
inductive tMS (K:Frag) (mg:Str->Option Value) (md:List Md) (P:Pt) (R:RR) (m:MS) (D:Ends) (σ:St) (H:Hp):Prop
 | mk (ρ:aR) (O:au) (F:Hp) (as:List Addr):RlO K mg O H F as->SlO K md P ρ σ H F as->jB K mg md P R D H F as (m ρ O)->tMS K mg md P R m D σ H
def VS(X:Cx)(md:List Md)(P:Pt)(R:RR)(st:Stmt)(m:MS):Prop:=PS X st (tMS X.K X.mg md P R m)
def VSs(X:Cx)(md:List Md)(P:Pt)(R:RR)(st:List Stmt)(m:MS):Prop:=PSs X st (tMS X.K X.mg md P R m)
section
variable {X:Cx}{md:List Md}{P:Pt}{R:RR}
def PE.imp   (h:PE X e t)(k:∀σ H Q,t' σ H Q->t σ H Q):PE X e t':=λpins s σ H Q I q=>h pins s σ H Q I (k σ H Q q)
def PT.imp   (h:PT X e t)(k:∀σ H Q,t' σ H Q->t σ H Q):PT X e t':=λpins s σ H Q I q=>h pins s σ H Q I (k σ H Q q)
def PW.imp   (h:PW X e t)(k:∀σ H Q,t' σ H Q->t σ H Q):PW X e t':=λw pins s σ H Q I q=>h w pins s σ H Q I (k σ H Q q)
def PA.imp   (h:PA X e t)(k:∀σ H Q,t' σ H Q->t σ H Q):PA X e t':=λb pins s σ H Q I q=>h b pins s σ H Q I (k σ H Q q)
def PS.imp   (h:PS X e t)(k:∀D σ H,t' D σ H->t D σ H):PS X e t':=λpins s σ H D I q=>h pins s σ H D I (k D σ H q)
def PSs.imp   (h:PSs X e t)(k:∀D σ H,t' D σ H->t D σ H):PSs X e t':=λpins s σ H D I q=>h pins s σ H D I (k D σ H q)
noncomputable def aa(i:Nat):M D:=λρ O=>match ρ[i]? with
 |some (some d)=>.ok d O
 | _=>.no
noncomputable def mC(d:D):M D:=λ_ O=>.ok d O
def mG(m:M D):M D:=λρ O=>match m ρ O with
 | .ok d O'=>if iy d=true then .ok d O' else .no
 |r=>r
def tH     (h:aa i ρ O=.ok d O'):ρ[i]?=some (some d)/\O'=O:=by
 unfold aa at h;split at h
 ·rename_i b e;cases h;exact⟨e,rfl⟩
 ·cases h
def Fe     (h:mG m ρ O=.ok d O'):m ρ O=.ok d O'/\iy d=true:=by
 unfold mG at h;split at h
 ·rename_i j q e;split at h
  ·rename_i f;cases h;exact⟨e,f⟩
  ·cases h
 ·rename_i b;exact absurd h (b _ _)
def SlO.get{md:List Md}{P:Pt}{K:Frag}{ρ:aR}{σ:St}{H F:Hp}{f:List Addr}{i:Nat}{d:D}(s:SlO K md P ρ σ H F f)(h:ρ[i]?=some (some d)):∃m v,md[i]?=some m/\σ[i]?=some (some v)/\gJ P K H F f m v d:=by
 have b:i<md.length:=by rw[<-s.len'];exact(zu.mp h).1
 obtain⟨v,h1,h2⟩:=s.sl i md[i] d (zy b) h;exact⟨_,v,zy b,h1,h2⟩
def gJ.sv{K:Frag}      (h:gJ P K H F as m v d):Sv K H F as v d:=by
 cases m with
 |v=>exact .inl h
 |s =>
  rcases h with h | ⟨a,b,y,x,u,q,j,C,f⟩
  ·exact .inl h
  ·exact .inr ⟨a,b,y,x,u,q,j,f⟩
 |o =>
  rcases h with⟨_,h⟩ | ⟨a,b,y,x,u,q,E,j,C,f⟩
  ·exact .inl h
  ·exact .inr ⟨a,b,y,x,u,q,j,f⟩
def Vc{X:Cx}{md:List Md}{P:Pt}(i:Nat)  {b:Pos}(hN:X.N[i]?=some x:=by rfl)(j:Vis X.env.scope x:=by first | exact Or.inl rfl | exact Or.inr (Or.inl rfl) | exact Or.inr (Or.inr rfl))
  (hd:(x == ("__debug__":Str))=false:=by decide) (f:(x == ("__classdict__":Str))=false:=by decide):SE X md P (.Name x b) (aa i):=by
 refine(iu hN j hd f).imp λσ H Q h=>?_
 obtain⟨ρ,O,F,u,d,y,r,s,e,k⟩:=h;obtain⟨q,rfl⟩:=tH e;obtain⟨m,v,h1,h2,h3⟩:=s.get q;exact⟨v,h2,k v H F u Gr.refl r h3.sv⟩
def Vd{X:Cx}{P:Pt}(i:Nat){x:Str}{b:Pos}(m:md[i]?=some .v:=by rfl)(hN:X.N[i]?=some x:=by rfl)(j:Vis X.env.scope x:=by first | exact Or.inl rfl | exact Or.inr (Or.inl rfl) | exact Or.inr (Or.inr rfl))
  (hd:(x == ("__debug__":Str))=false:=by decide) (f:(x == ("__classdict__":Str))=false:=by decide):VE X md P (.Name x b) (aa i):=by
 refine(iu hN j hd f).imp λσ H Q h=>?_
 obtain⟨ρ,O,F,u,d,y,r,s,e,k⟩:=h;obtain⟨q,rfl⟩:=tH e;obtain⟨v,h2,h3⟩:=s.sl i .v d m q;exact⟨v,h2,k v H F u Gr.refl r h3⟩
def Ve   (h:VE X md P e m):SE X md P e m:=h.imp λσ H Q q=>by
 obtain⟨ρ,O,F,j,d,C,r,s,e,k⟩:=q;exact⟨ρ,_,F,j,_,_,r,s,e,λv u x y g b f=>k v u x _ g b (.inl f)⟩
def wW   (h:SE X md P e m):VE X md P e (mG m):=h.imp λσ H Q q=>by
 obtain⟨ρ,O,F,u,d,E,r,s,e,k⟩:=q;obtain⟨e,j⟩:=Fe e;exact⟨ρ,_,F,u,_,_,r,s,e,λv x y C g b f=>k v x y _ g b (Sv.rp f j)⟩
def Vf   (h:VE X md P e m):OE X md P e (mG m):=h.imp λσ H Q q=>by
 obtain⟨ρ,O,F,x,d,E,r,s,e,k⟩:=q;obtain⟨e,u⟩:=Fe e;exact⟨ρ,_,F,x,_,_,r,s,e,λv y C b g f j=>k v y C b g f (.inl ⟨u,j⟩)⟩
def Vg   (h:OE X md P e m):VE X md P e m:=h.imp λσ H Q q=>by
 obtain⟨ρ,O,F,U,d,Y,r,s,e,k⟩:=q;refine⟨ρ,_,F,U,_,_,r,s,e,λv G j f g E x=>?_⟩
 rcases x with⟨_,x⟩ | ⟨a,C,W,rfl,rfl,T,y,L,J,I⟩
 ·exact k v G j f g E x
 ·have ff:Same j (upd j a (.lst C)):=λb u q=>by rw[aG (bV q y)];exact q
  refine k _ G (upd j a (.lst C)) f (g.frz J y) (E.frz T y L rfl) (Rp.mkL (.inl (.inl bC)) (Rps.mono ff (λ_ _ z=>z) _ I))
def qg    (h:PE X e (tC v))(hd:∀K F b,Rp K F b v d):VE X md P e (mC d):=h.imp λσ H Q q=>by
 obtain⟨ρ,O,F,b,d,f,r,s,e,k⟩:=q;cases e;exact k v H F b Gr.refl r (hd _ _ _)
def Vh  :VE X md P (.Constant (.int i) j b) (mC (.int i)):=qg PB λ_ _ _=>Rp.int
def Vi  :VE X md P (.Constant (.bool b) j d) (mC (.bl b)):=qg PJ λ_ _ _=>Rp.bl
def Vj :VE X md P (.Constant .none j b) (mC .non):=qg PK λ_ _ _=>Rp.non
def Vk   (l:List Nat)(hx:x=S l:=by decide +kernel):VE X md P (.Constant (.str x) j pos) (mC (.str l)):=qg CQ λ_ _ _=>by rw[hx];exact Rp.str
def Ff{md:List Md}{P:Pt}    {b:Pos}(h:∃u,X.mg x=some u/\RelV v u)(hd:∀K F m,Rp K F m v d)(j:Gl X x:=by rfl)(f:(x == ("__debug__":Str))=false:=by decide):VE X md P (.Name x b) (mC d):=qg (Ey h j f) hd
noncomputable def ao:M (List D):=λ_ O=>.ok [] O
noncomputable def aj(m:M D)(r:M (List D)):M (List D):=λρ O=>(m ρ O).bind λd j=>(r ρ j).bind λb f=>.ok (d::b) f
def Fg:AE X md P [] [] ao:=gj.imp λσ H Q q=>by
 obtain⟨ρ,O,F,b,d,f,r,s,e,k⟩:=q;cases e;exact k [] H F b Gr.refl r trivial
def rA.gr{K:Frag}       (h:rA K m N H F as v d)(g:Gr H F as H' F' as'):rA K m (λ_=>True) H' F' as' v d:=by
 cases m with
 |v=>exact Rp.gr (show Rp K F as v d from h) g
 |s=>exact Sv.gr (show Sv K H F as v d from h) g
 |o=>exact Sv.gr (show Sv K H F as v d from h) g
theorem bQ.gr{K:Frag}   (g:Gr H F as H' F' as'):∀{ms:List Md}{vs:List V}{ds:List D},bQ K H F as ms vs ds->bQ K H' F' as' ms vs ds
 | [],[],[],_=>trivial
 |m::ms,v::vs,d::ds,h=>⟨rA.gr h.1 g,bQ.gr g h.2⟩
 | [],[],_::_,h=>h.elim
 | [],_::_,[],h=>h.elim
 | [],_::_,_::_,h=>h.elim
 | _::_,[],[],h=>h.elim
 | _::_,[],_::_,h=>h.elim
 | _::_,_::_,[],h=>h.elim
def Fi(b:Md)      (h:XE X md P (rA X.K b) e m)(I:AE X md P ms es r)
  (hs:starEach (e::es) X.env=(false,eval e X.env)::starEach es X.env:=by exact bY rfl):AE X md P (b::ms) (e::es) (aj m r):=(fJ h I hs).imp λσ H Q q=>by
 obtain⟨ρ,O,F,T,d,O',E,s,e,k⟩:=q;obtain⟨d,O1,L,e⟩:=Res.bind_ok e;obtain⟨Z,O2,J,e⟩:=Res.bind_ok e;cases e;refine⟨ρ,_,F,T,_,_,E,s,L,λv H1 Y j x C G=>?_⟩;refine⟨ρ,_,Y,j,_,_,C,s.step x,J,λvs U W as2 u y f=>?_⟩;exact k _ U W _ (x.trans u) y ⟨rA.gr G u,f⟩
def Vl      (h:VE X md P e m)(b:AE X md P ms es r)
  (hs:starEach (e::es) X.env=(false,eval e X.env)::starEach es X.env:=by exact bY rfl):AE X md P (.v::ms) (e::es) (aj m r):=Fi .v h b hs
def Fj      (h:SE X md P e m)(b:AE X md P ms es r)
  (hs:starEach (e::es) X.env=(false,eval e X.env)::starEach es X.env:=by exact bY rfl):AE X md P (.s::ms) (e::es) (aj m r):=Fi .s h b hs
theorem bQ.rps{K:Frag}  :∀{n:Nat}{vs:List V}{ds:List D},bQ K H F as (List.replicate n .v) vs ds->Rps K F as vs ds
 | 0,[],[],_=>Rps.nil
 |n+1,v::vs,d::ds,h=>by
  rw[List.replicate_succ] at h;exact Rps.cons h.1 (bQ.rps h.2)
 | 0,[],_::_,h=>h.elim
 | 0,_::_,[],h=>h.elim
 | 0,_::_,_::_,h=>h.elim
 |n+1,[],[],h=>h.elim
 |n+1,[],_::_,h=>h.elim
 |n+1,_::_,[],h=>h.elim
noncomputable def aV(r:M (List D)):M D:=λρ O=>(r ρ O).bind λb d=>if b.length<=1000000 then .ok (.lst b) d else .no
noncomputable def aX(r:M (List D)):M D:=λρ O=>(r ρ O).bind λb d=>if b.length<=1000000 then .ok (.tup b) d else .no
def d7  (h:n<=1000000):n<=sizeLine:=zI h (by decide)
def Vm    (n:Nat)(h:AE X md P (List.replicate n .v) es r):OE X md P (.List es J) (aV r):=(R7 h).imp λσ H Q q=>by
 obtain⟨ρ,O,F,E,d,O',x,s,e,k⟩:=q;obtain⟨ds,O1,C,e⟩:=Res.bind_ok e;split at e
 ·rename_i hz;cases e;refine⟨ρ,_,F,E,_,_,x,s,C,λvs I j G u f hv=>?_⟩;have m:=hv.rps;refine⟨by rw[m.length];exact d7 hz,λp b=>?_⟩
  have y:j p=none:=by
   cases q:j p with
   |none=>rfl
   |some o=>rw[f.fh p o q] at b;cases b
  refine k _ _ j _ (u.trans (Gr.lay b)) (f.lay b) (.inr ⟨p,vs,ds,rfl,rfl,bC,y,λz=>f.all z b,u.dm p b,m⟩)
 ·cases e
def Vn     (n:Nat)(h:AE X md P (List.replicate n .v) es r):VE X md P (.Tuple es U T) (aX r):=(R6 h).imp λσ H Q q=>by
 obtain⟨ρ,O,F,I,d,O',E,s,e,k⟩:=q;obtain⟨ds,O1,G,e⟩:=Res.bind_ok e;split at e
 ·rename_i hz;cases e;refine⟨ρ,_,F,I,_,_,E,s,G,λvs L j J C m hv=>?_⟩;have y:=hv.rps;refine⟨by rw[y.length];exact d7 hz,λp f=>?_⟩
  have x:j p=none:=by
   cases q:j p with
   |none=>rfl
   |some o=>rw[m.fh p o q] at f;cases f
  have ff:Same j (upd j p (.tup vs)):=λb u q=>by rw[aG (bV q x)];exact q
  refine k _ _ _ _ ((C.trans (Gr.lay f)).frz (C.dm p f) x) ((m.lay f).frz bC x (λz=>m.all z f) rfl) (Rp.mkT (.inl bC) (Rps.mono ff (λ_ _ z=>z) _ y))
 ·cases e
inductive rD (K:Frag) (mg:Str->Option Value) (g:D->D->Option D) (x:V) (y:V) (H:Hp) (Q:VK):Prop
 |mk:∀O F as dx dy d,RlO K mg O H F as->Lk K H F as x dx->Lk K H F as y dy->g dx dy=some d->(∀v' H' F',Gr H F as H' F' as->RlO K mg O H' F' as->Ow K (λa=>H a=none) H' F' as v' d->Q v' H')->rD K mg g x y H Q
abbrev OpD(X:Cx)(f:Value->Value->Sem Value)(g:D->D->Option D):Prop:=OpR X f (rD X.K X.mg g)
def ak(g:D->D->Option D)(ma mb:M D):M D:=λρ O=>(ma ρ O).bind λx f=>(mb ρ f).bind λy b=>match g (aY b x) (aY b y) with
 |some d=>.ok d b
 |none=>.no
def wX{K:Frag}       (h:tM K mg md P (rO K) (ak g ma mb) σ H Q):tOp (rD K mg g) (tM K mg md P (rS K) ma) (tM K mg md P (rS K) mb) σ H Q:=by
 obtain⟨ρ,O,F,as,d,O',r,sl,e,k⟩:=h;obtain⟨x,O1,Z,e⟩:=Res.bind_ok e;obtain⟨y,O2,Y,e⟩:=Res.bind_ok e;split at e
 ·rename_i d' T;cases e;refine⟨ρ,_,F,as,_,_,r,sl,Z,λv H1 F1 q j E J=>?_⟩;refine⟨ρ,_,F1,q,_,_,E,sl.step j,Y,λu H2 F2 m f b L=>?_⟩;refine⟨_,F2,m,_,_,_,b,Sv.lk (Sv.gr J f) b,Sv.lk L b,T,λC H' F' W G I=>?_⟩;exact k C H' F' _ ((j.trans f).trans W) G (iz _ _ _ _ _ _ _ (λa U=>(j.trans f).dm a U) I)
 ·cases e
def nW      (b:OpD X (binaryOp op) g)(d:SE X md P j ma)(hb:SE X md P f mb):OE X md P (.BinOp j op f m) (ak g ma mb):=
 (Q6 b d hb).imp λ_ _ _=>wX
def wY      (b:OpD X (compareOp op) g)(f:SE X md P m ma)(hb:SE X md P j mb)(d:behindInMarks op j=false):OE X md P (.Compare m [op] [j] q) (ak g ma mb):=
 (Rt b f hb d).imp λ_ _ _=>wX
noncomputable def az(m:M D):M Bool:=λρ O=>(m ρ O).bind λd f=>match d with
 | .bl b=>.ok b f
 | _=>.no
def qi{K:Frag}      (h:tMT K mg md P (az m) σ H Q):sE (tM K mg md P (rO K) m) σ H Q:=by
 obtain⟨ρ,O,F,x,d,L,r,sl,e,k⟩:=h;obtain⟨d,J,u,e⟩:=Res.bind_ok e
 cases d with
 |bl c =>
  cases e;refine⟨ρ,_,F,x,_,_,r,sl,u,λv y C E j f b=>?_⟩
  rcases b with⟨_,b⟩ | ⟨a,G,I,_,q,_⟩
  ·exact⟨_,b.unB,k y C _ j f⟩
  ·cases q
 | _=>cases e
def nY      (b:OpD X (compareOp op) g)(f:SE X md P m ma)(hb:SE X md P j mb)(d:behindInMarks op j=false):TsE X md P (.Compare m [op] [j] u) (az (ak g ma mb)):=
 (Ru b f hb d).imp λσ H Q h=>by
  have q:=qi h;exact wX q
def fO(g g':D->D->Option D)(ma mb j:M D):M D:=λρ O=>(ma ρ O).bind λx m=>(mb ρ m).bind λy b=>match g (aY b x) (aY b y) with
 |some (.bl true)=>(j ρ b).bind λz f=>match g' (aY f y) (aY f z) with
  |some d=>.ok d f
  |none=>.no
 |some (.bl false)=>.ok (.bl false) b
 | _=>.no
def Fo{K:Frag}       (h:tM K mg md P (rO K) (fO g m ma mb mc) σ H Q):
  wy (rD K mg g) (rD K mg m) (tM K mg md P (rS K) ma) (tM K mg md P (rS K) mb) (tM K mg md P (rS K) mc) σ H Q:=by
 obtain⟨ρ,O,F,as,d,O',r,sl,e,k⟩:=h;obtain⟨x,O1,e1,e⟩:=Res.bind_ok e;obtain⟨y,O2,e2,e⟩:=Res.bind_ok e;refine⟨ρ,_,F,as,_,_,r,sl,e1,λv H1 F1 as1 T r1 hv=>?_⟩;refine⟨ρ,_,F1,as1,_,_,r1,sl.step T,e2,λu H2 F2 f q j G=>?_⟩;split at e
 ·rename_i I;obtain⟨z,O3,e3,e⟩:=Res.bind_ok e;refine⟨_,F2,f,_,_,_,j,Sv.lk (Sv.gr hv q) j,Sv.lk G j,I,λv' H' U m E b=>?_⟩
  rcases b with⟨_,b⟩ | ⟨a,xs,ds,_,z,_⟩
  ·refine⟨true,b.unB,?_⟩;split at e
   ·rename_i d' Y;cases e;have L:=(T.trans q).trans m;refine⟨ρ,_,U,f,_,_,E,sl.step L,e3,λw H4 F4 Z J C hz=>?_⟩;refine⟨_,F4,Z,_,_,_,C,Sv.lk (Sv.gr (Sv.gr G m) J) C,Sv.lk hz C,Y,λv5 H5 F5 g5 r5 W=>?_⟩;exact k v5 H5 F5 _ ((L.trans J).trans g5) r5 (iz _ _ _ _ _ _ _ (λa ha=>(L.trans J).dm a ha) W)
   ·cases e
  ·cases z
 ·rename_i I;cases e;refine⟨_,F2,f,_,_,_,j,Sv.lk (Sv.gr hv q) j,Sv.lk G j,I,λv' H' U m E b=>?_⟩
  rcases b with⟨_,b⟩ | ⟨a,xs,ds,_,z,_⟩
  ·refine⟨false,b.unB,?_⟩;exact k _ H' U _ ((T.trans q).trans m) E (.inl ⟨rfl,Rp.bl⟩)
  ·cases z
 ·cases e
def Vo      (f:OpD X (compareOp op) g)(d:OpD X (compareOp u) g')(q:SE X md P a ma)(hb:SE X md P b mb)(m:SE X md P c x)
  (j:lastMarks [op,u] [b,c]=false:=by with_unfolding_all rfl):OE X md P (.Compare a [op,u] [b,c] pos) (fO g g' ma mb x):=(Rv f d q hb m j).imp λ_ _ _=>Fo
def Vp      (f:OpD X (compareOp op) g)(d:OpD X (compareOp u) g')(q:SE X md P a ma)(hb:SE X md P b mb)(m:SE X md P c x)
  (j:lastMarks [op,u] [b,c]=false:=by with_unfolding_all rfl):TsE X md P (.Compare a [op,u] [b,c] pos) (az (fO g g' ma mb x)):=(Rw f d q hb m j).imp λ_ _ _ h=>Fo (qi h)
def isNon:D->Bool
 | .non=>true
 | _=>false
def kI(m:M D):M D:=λρ O=>(m ρ O).bind λd b=>.ok (.bl (isNon d)) b
def kJ(m:M D):M D:=λρ O=>(m ρ O).bind λd b=>.ok (.bl (!isNon d)) b
def Sv.isN{K:Frag}     (h:Sv K H F m v d):decide (v=.non)=isNon d:=by
 rcases h with h | ⟨a,f,j,rfl,rfl,_⟩
 ·cases d with
  |non=>rw[h.unN];rfl
  |bl b=>rw[h.unB];rfl
  |int b=>rw[h.unI];rfl
  |str b=>rw[h.unS];rfl
  |lst b=>obtain⟨a,f,rfl,_⟩:=h.unL;rfl
  |tup b=>obtain⟨a,f,rfl,_⟩:=h.unT;rfl
  |dic k b=>obtain⟨a,f,rfl,_⟩:=h.unD;rfl
  |ob b=>obtain⟨a,rfl,_⟩:=h.unO;rfl
 ·rfl
def Vq{K:Frag}      (h:tM K mg md P (rO K) (kI m) σ H Q):CT (tM K mg md P (rS K) m) σ H Q:=by
 obtain⟨ρ,O,F,u,d,I,r,sl,e,k⟩:=h;obtain⟨x,G,q,e⟩:=Res.bind_ok e;cases e;refine⟨ρ,_,F,u,_,_,r,sl,q,λv y C E j b f=>?_⟩;rw[Sv.isN f];exact k _ y C _ j b (.inl ⟨rfl,Rp.bl⟩)
def Vr{K:Frag}      (h:tM K mg md P (rO K) (kJ m) σ H Q):CV (tM K mg md P (rS K) m) σ H Q:=by
 obtain⟨ρ,O,F,u,d,I,r,sl,e,k⟩:=h;obtain⟨x,G,q,e⟩:=Res.bind_ok e;cases e;refine⟨ρ,_,F,u,_,_,r,sl,q,λv y C E j b f=>?_⟩;rw[Sv.isN f];exact k _ y C _ j b (.inl ⟨rfl,Rp.bl⟩)
def Fp     (h:∀b,t σ H b->t' σ H b)(q:sE t σ H Q):tB t' σ H Q:=h _ q
def Vs     (h:SE X md P a m):TsE X md P (.Compare a [.Is] [.Constant .none j b] d) (az (kI m)):=(v7 (PQ h)).imp λ_ _ _ q=>Fp (λ_=>Vq) (qi q)
def Vt     (h:SE X md P a m):TsE X md P (.Compare a [.IsNot] [.Constant .none j b] d) (az (kJ m)):=(v7 (PX h)).imp λ_ _ _ q=>Fp (λ_=>Vr) (qi q)
def nZ:D->Option Bool
 | .non=>some false
 | .bl b=>some b
 | .int i=>some (i != 0)
 | .str l=>if l.length<=1000000 then some (!l.isEmpty) else none
 | .lst ds=>some (!ds.isEmpty)
 | .tup ds=>some (!ds.isEmpty)
 | .dic ks _=>some (!ks.isEmpty)
 | .ob _=>none
def bx(m:M D):M Bool:=λρ O=>(m ρ O).bind λd f=>match nZ (aY f d) with
 |some b=>.ok b f
 |none=>.no
def Fq{α β:Type}{xs:List α}{ys:List β}(h:xs.length=ys.length):(!xs.isEmpty) = !ys.isEmpty:=by
 cases xs<;>cases ys<;>simp_all
def Lk.tru{K:Frag}      (h:Lk K H F as v d)(fh:Same F H)(e:nZ d=some b):wz K v H b:=by
 cases d with
 |non=>rw[(h.rp rfl).unN];cases e;rfl
 |bl b=>rw[(h.rp rfl).unB];cases e;rfl
 |int b=>rw[(h.rp rfl).unI];cases e;rfl
 |str l =>
  rw[(h.rp rfl).unS];simp only[nZ] at e;split at e
  ·rename_i m;cases e;refine⟨by rw[gH];exact d7 m,?_⟩;rw[gH]
   cases l with
   |nil=>rfl
   |cons c l =>
    have:((((c::l).length:Nat):Int) != 0)=true:=by
     rw[bne_iff_ne,zA];omega
    rw[this];rfl
  ·cases e
 |lst ds =>
  obtain⟨a,j,rfl,h1,h2⟩:=h.list fh;cases e;exact .inl ⟨j,h1.sq,(Fq h2.length).symm⟩
 |tup ds =>
  obtain⟨a,j,rfl,h1,h2⟩:=(h.rp rfl).unT;cases e;exact .inr (.inl ⟨j,Same.seqT fh h1,(Fq h2.length).symm⟩)
 |dic ks vs =>
  obtain⟨a,f,rfl,h1,rfl,h2⟩:=(h.rp rfl).unD;cases e;exact .inr (.inr ⟨f,fh _ _ h1,by cases f<;>rfl⟩)
 |ob n=>cases e
def Vu   (h:SE X md P a m)(j:∀whole,isTrue a X.env whole=(do let v <-whole;standAt a.pos;holding [v] (truthy v)):=by intro _;rfl):TsE X md P a (bx m):=(Ry h j).imp λσ H Q q=>by
 obtain⟨ρ,O,F,C,d,L,r,sl,e,k⟩:=q;obtain⟨d,J,y,e⟩:=Res.bind_ok e;split at e
 ·rename_i c u;cases e;exact⟨ρ,_,F,C,_,_,r,sl,y,λv E G I x b f=>⟨_,Lk.tru (Sv.lk f b) b.fh u,k E G _ x b⟩⟩
 ·cases e
noncomputable def bR(a b:M Bool):M Bool:=λρ O=>(a ρ O).bind λc d=>if c=true then b ρ d else .ok false d
noncomputable def cI(a b:M Bool):M Bool:=λρ O=>(a ρ O).bind λc d=>if c=true then .ok true d else b ρ d
noncomputable def cN(a:M Bool):M Bool:=λρ O=>(a ρ O).bind λc b=>.ok (!c) b
def Vv{K:Frag}      (h:tMT K mg md P (bR ma mb) σ H Q):CW (tMT K mg md P ma) (tMT K mg md P mb) σ H Q:=by
 obtain⟨ρ,O,F,y,d,L,r,sl,e,k⟩:=h;obtain⟨c,J,x,e⟩:=Res.bind_ok e;refine⟨ρ,_,F,y,_,_,r,sl,x,λE m f b j=>?_⟩
 cases c with
 |true =>
  exact⟨ρ,_,m,f,_,_,j,sl.step b,e,λC G I u q=>k C G _ (b.trans u) q⟩
 |false =>
  cases e;exact k E m _ b j
def Vw{K:Frag}      (h:tMT K mg md P (cI ma mb) σ H Q):tOr (tMT K mg md P ma) (tMT K mg md P mb) σ H Q:=by
 obtain⟨ρ,O,F,y,d,L,r,sl,e,k⟩:=h;obtain⟨c,J,x,e⟩:=Res.bind_ok e;refine⟨ρ,_,F,y,_,_,r,sl,x,λE m f b j=>?_⟩
 cases c with
 |true =>
  cases e;exact k E m _ b j
 |false =>
  exact⟨ρ,_,m,f,_,_,j,sl.step b,e,λC G I u q=>k C G _ (b.trans u) q⟩
def Vx    (h:TsE X md P a m):TwE X md P (.BoolOp .And [a] b) m:=Qa h
def Vy    (h:TsE X md P a m):TwE X md P (.BoolOp .Or [a] b) m:=Qc h
def Vz  {rest:List Expr}   (d:TsE X md P a ma)(hb:TwE X md P (.BoolOp .And (b::rest) f) mb):TwE X md P (.BoolOp .And (a::b::rest) f) (bR ma mb):=(Qd d hb).imp λ_ _ _=>Vv
def VB  {rest:List Expr}   (d:TsE X md P a ma)(hb:TwE X md P (.BoolOp .Or (b::rest) f) mb):TwE X md P (.BoolOp .Or (a::b::rest) f) (cI ma mb):=(Qe d hb).imp λ_ _ _=>Vw
def VD   (h:TwE X md P e m):TsE X md P e m:=PW.pt h
def VF    (h:TsE X md P a m):TsE X md P (.UnaryOp .Not a x) (cN m):=(Qf h).imp λσ H Q q=>by
 obtain⟨ρ,O,F,f,d,u,r,sl,e,k⟩:=q;obtain⟨c,j,b,e⟩:=Res.bind_ok e;cases e;exact⟨ρ,_,F,f,_,_,r,sl,b,k⟩
noncomputable def c7(ma mb:M D):M D:=λρ O=>(ma ρ O).bind λd b=>match d with
 | .bl true=>mb ρ b
 | .bl false=>.ok (.bl false) b
 | _=>.no
noncomputable def VH(ma mb:M D):M D:=λρ O=>(ma ρ O).bind λd b=>match d with
 | .bl true=>.ok (.bl true) b
 | .bl false=>mb ρ b
 | _=>.no
noncomputable def wZ(ma:M D):M D:=λρ O=>(ma ρ O).bind λd f=>match d with
 | .bl b=>.ok (.bl (!b)) f
 | _=>.no
def VJ     (h:VE X md P a m):VE X md P (.BoolOp op [a] b) m:=Qi h
theorem VL  {rest:List Expr}   (I:VE X md P a ma)(hb:VE X md P (.BoolOp .And (b::rest) pos) mb):VE X md P (.BoolOp .And (a::b::rest) pos) (c7 ma mb):=(Qj I hb).imp λσ H Q q=>by
 obtain⟨ρ,O,F,T,d,O',r,sl,e,k⟩:=q;obtain⟨x,O1,L,e⟩:=Res.bind_ok e;refine⟨ρ,_,F,T,_,_,r,sl,L,λv W y m f u G=>?_⟩
 cases x with
 |bl c =>
  refine⟨c,Rp.unB G,?_⟩
  cases c with
  |true =>
   exact⟨ρ,_,y,m,_,_,u,sl.step f,e,λC U Y Z J E j=>k C U Y _ (f.trans J) E j⟩
  |false =>
   cases e;exact k _ W y _ f u Rp.bl
 | _=>cases e
theorem VM    (h:VE X md P a m):VE X md P (.UnaryOp .Not a pos) (wZ m):=(Qk h).imp λσ H Q q=>by
 obtain⟨ρ,O,F,y,d,J,r,sl,e,k⟩:=q;obtain⟨x,I,u,e⟩:=Res.bind_ok e;refine⟨ρ,_,F,y,_,_,r,sl,u,λv C E G j b f=>?_⟩
 cases x with
 |bl c =>
  cases e;exact⟨c,Rp.unB f,k _ C E _ j b Rp.bl⟩
 | _=>cases e
noncomputable def mIf(t:M Bool)(a b:M D):M D:=λρ O=>(t ρ O).bind λc d=>if c=true then a ρ d else b ρ d
theorem VN(I:dZ R)     (G:TsE X md P c mc)(f:PE X a (tM X.K X.mg md P R ma))(hb:PE X b (tM X.K X.mg md P R mb)):PE X (.IfExp c a b pos) (tM X.K X.mg md P R (mIf mc ma mb)):=(Ql G f hb).imp λσ H Q q=>by
 obtain⟨ρ,O,F,T,d,O',r,sl,e,k⟩:=q;obtain⟨x,O1,L,e⟩:=Res.bind_ok e;refine⟨ρ,_,F,T,_,_,r,sl,L,λH1 Y u j E=>?_⟩
 cases x with
 | true
 |false =>
  exact⟨ρ,_,Y,u,_,_,E,sl.step j,e,λy U W Z J C m=>k y U W _ (j.trans J) C (I _ _ _ _ _ _ _ (λa f=>j.dm a f) m)⟩
def VP     (d:TsE X md P c j)(f:VE X md P a ma)(hb:VE X md P b mb):VE X md P (.IfExp c a b m) (mIf j ma mb):=VN kE d f hb
end
def SlO.set{K:Frag}     (s:SlO K md P ρ σ H F W)(C:md[i]?=some m)(L:m≠.s)(hv:gJ P K H F W m v d)
  (O:∀(a:Addr) (ds:List D) (j:Nat) (es:List D),m=.o->v=.ref a->d=.lst ds->i≠j->md[j]?=some .o->ρ[j]?=some (some (.lst es))->σ[j]?≠some (some (.ref a))):SlO K md P (ρ.set i (some d)) (σ.set i (some v)) H F W:=by
 have q:i<md.length:=(zu.mp C).1;refine⟨by rw[zY];exact s.len,by rw[zY];exact s.len',s.pd,λj T U J G=>?_,λj k a ds es h1 h2 h3 h4 y u=>?_,λx hx=>?_⟩
 ·by_cases h:i=j
  ·subst h;rw[C] at J;cases J;rw[zS (by rw[s.len'];exact q)] at G;cases G;exact⟨v,zS (by rw[s.len];exact q),hv⟩
  ·rw[zh h] at G;rw[zh h];exact s.sl j T U J G
 ·by_cases f:i=j
  ·by_cases b:i=k
   ·rw[<-f,<-b]
   ·exfalso
    subst f;rw[C] at h1;cases h1;rw[zS (by rw[s.len'];exact q)] at h3;rw[zS (by rw[s.len];exact q)] at y;rw[zh b] at h4 u;cases h3;cases y;exact O a ds k es rfl rfl rfl b h2 h4 u
  ·by_cases b:i=k
   ·exfalso
    subst b;rw[C] at h2;cases h2;rw[zS (by rw[s.len'];exact q)] at h4;rw[zS (by rw[s.len];exact q)] at u;rw[zh f] at h3 y;cases h4;cases u;exact O a es j ds rfl rfl rfl f h1 h3 y
   ·rw[zh f] at h3 y;rw[zh b] at h4 u;exact s.inj j k a ds es h1 h2 h3 h4 y u
 ·obtain⟨I,R,Q⟩:=s.pin x hx
  have E:i≠x.1:=λz=>by
   rw[<-z,C] at I;exact L (zC I)
  exact⟨I,by rw[zh E];exact R,by rw[zh E];exact Q⟩
def SlO.setV{K:Frag}    (s:SlO K md P ρ σ H F f)(b:md[i]?=some .v)(hv:Rp K F f v d):SlO K md P (ρ.set i (some d)) (σ.set i (some v)) H F f :=
 s.set b (by decide) hv λ_ _ _ _ z=>nomatch z
def SlO.setN{K:Frag}    (s:SlO K md P ρ σ H F j)(f:md[i]?=some .o)(b:iy d=true)(hv:Rp K F j v d):SlO K md P (ρ.set i (some d)) (σ.set i (some v)) H F j :=
 s.set f (by decide) (.inl ⟨b,hv⟩) λ_ _ _ _ _ _ z=>by subst z;cases b
def SlO.setO{K:Frag}     (s:SlO K md P ρ σ Z F as)(g:Gr Z F as H' F' Y)(m:md[i]?=some .o)(hv:Ow K (λa=>Z a=none) H' F' Y v d):SlO K md P (ρ.set i (some d)) (σ.set i (some v)) H' F' Y:=by
 have s':=s.step g
 rcases hv with⟨y,hv⟩ | ⟨a,x,Q,rfl,rfl,O,L,J,q,I⟩
 ·exact s'.setN m y hv
 ·refine s'.set m (by decide) (.inr ⟨a,x,Q,rfl,rfl,O,L,J,λp=>s.pd a p q,I⟩) λb U j W _ G hd T C E hs=>?_
  cases G;obtain⟨v,h1,h2⟩:=s.sl j .o _ C E;rw[hs] at h1;cases h1
  rcases h2 with⟨h2,_⟩ | ⟨X,R,_,u,_,f,_⟩
  ·cases h2
  ·cases u;rw[q] at f;cases f
section
variable {X:Cx}{md:List Md}{P:Pt}{R:RR}
noncomputable def aK:MS:=λρ O=>.nx ρ O
noncomputable def aq(a b:MS):MS:=λρ O=>match a ρ O with
 | .nx ρ' O'=>b ρ' O'
 |r=>r
def VR:VSs X md P R [] aK:=Qp.imp λD σ H q=>by
 obtain⟨ρ,O,F,b,r,s,k⟩:=q;exact k σ H F b GrS.refl r s
def lY{K:Frag}  {D:Ends}   (g:GrS P H F as H1 F1 as1)  (k:jB K mg md P R D H F as f):jB K mg md P R D H1 F1 as1 f:=by
 cases f with
 | nx
 | bk
 | ct
 |rt =>exact λm d j q b=>k _ d j _ (g.trans b)
 | ex
 |no=>exact k
theorem V0{st:Stmt}{rest:List Stmt}  (h1:VS X md P R st a)(h2:VSs X md P R rest b):VSs X md P R (st::rest) (aq a b):=(Qq h1 h2).imp λD σ H q=>by
 obtain⟨ρ,O,F,m,r,s,k⟩:=q;refine⟨ρ,O,F,m,r,s,?_⟩;unfold aq at k
 cases e:a ρ O with
 |nx ρ' O' =>
  rw[e] at k
  exact λx y u d g j f=>⟨ρ',O',u,d,j,f,lY g k⟩
 | bk
 | ct
 | rt
 | ex
 |no=>rw[e] at k;exact k
def V1{st:Stmt}  (h1:VS X md P R st a):VSs X md P R [st] a:=Qs h1
noncomputable def w5:MS:=λρ O=>.bk ρ O
def V2{b:Pos}:VS X md P R (.Break b) w5:=Qu.imp λD σ H q=>by
 obtain⟨ρ,O,F,d,r,s,k⟩:=q;exact k σ H F d GrS.refl r s
noncomputable def gm:MS:=λ_ _=>.no
def V3{st:Stmt}:VS X md P R st gm:=QB.imp λD σ H q=>by
 obtain⟨ρ,O,F,b,r,s,k⟩:=q;exact False.elim k
noncomputable def eZ(m:M D):MS:=λρ O=>match m ρ O with
 | .ok _ O'=>.nx ρ O'
 | .ex x O'=>.ex x O'
 | .no=>.no
def V4    (h:SE X md P e m)(hs:swapsWith e none pos.line X.env=pure false:=by rfl):VS X md P R (.Expr e pos) (eZ m):=(j6 h hs).imp λD σ H q=>by
 obtain⟨ρ,O,F,b,r,s,k⟩:=q;unfold eZ at k
 cases e:m ρ O with
 |ok  =>
  rw[e] at k;exact⟨ρ,_,F,b,_,_,r,s,e,λv H' F' as' g r' _=>k σ H' F' _ g.toS r' (s.step g)⟩
 | ex
 |no=>rw[e] at k;exact False.elim k
noncomputable def aC(m:M D):MS:=λρ O=>match m ρ O with
 | .ok d O'=>.rt d O'
 | .ex x O'=>.ex x O'
 | .no=>.no
theorem Ft(j:dZ R)    (h:PE X e (tM X.K X.mg md P R m)):VS X md P R (.Return (some e) pos) (aC m):=(CZ h).imp λD σ H q=>by
 obtain⟨ρ,O,F,u,r,s,k⟩:=q;unfold aC at k
 cases e:m ρ O with
 |ok  =>
  rw[e] at k;exact⟨ρ,_,F,u,_,_,r,s,e,λv x y C g b d=>k v x y _ g.toS b (j _ _ _ _ _ _ _ (λa f p=>s.pd a p f) d)⟩
 | ex
 |no=>rw[e] at k;exact False.elim k
def V5    (h:VE X md P e m):VS X md P (rV X.K) (.Return (some e) b) (aC m):=Ft kE h
def V6    (h:OE X md P e m):VS X md P (rO X.K) (.Return (some e) b) (aC m):=Ft iz h
def V7{X:Cx}{P:Pt}(i:Nat){x:Str}{p f:Pos}(y:md[i]?=some .o:=by rfl)(hN:X.N[i]?=some x:=by rfl)(u:Vis X.env.scope x:=by first | exact Or.inl rfl | exact Or.inr (Or.inl rfl) | exact Or.inr (Or.inr rfl))
  (hd:(x == ("__debug__":Str))=false:=by decide) (j:(x == ("__classdict__":Str))=false:=by decide):VS X md P (rO X.K) (.Return (some (.Name x p)) f) (aC (aa i)):=(CZ (iu (i:=i) hN u hd j)).imp λD σ H q=>by
 obtain⟨ρ,O,F,T,r,s,k⟩:=q;unfold aC at k
 cases e:aa i ρ O with
 |ok d U =>
  rw[e] at k;obtain⟨b,rfl⟩:=tH e;obtain⟨v,h1,h2⟩:=s.sl i .o d y b;refine⟨v,h1,k v H F T GrS.refl r ?_⟩
  rcases h2 with h2 | ⟨a,m,Q,b,J,I,L,G,E,C⟩
  ·exact .inl h2
  ·exact .inr ⟨a,m,Q,b,J,I,L,G,E,C⟩
 |ex x U=>rw[e] at k;exact False.elim k
 |no=>rw[e] at k;exact False.elim k
noncomputable def aD(t:M Bool)(a b:MS):MS:=λρ O=>match t ρ O with
 | .ok c O'=>if c=true then a ρ O' else b ρ O'
 | .ex x O'=>.ex x O'
 | .no=>.no
theorem V8      (j:TsE X md P c t)(m:VSs X md P R a ma)(hb:VSs X md P R b mb):VS X md P R (.If c a b pos) (aD t ma mb):=(Qy j m hb).imp λD σ H q=>by
 obtain⟨ρ,O,F,u,r,s,k⟩:=q;unfold aD at k
 cases e:t ρ O with
 |ok c O' =>
  rw[e] at k;refine⟨ρ,_,F,u,_,_,r,s,e,λy x d g f=>?_⟩
  cases c with
  | true
  |false =>
   exact⟨ρ,O',x,d,f,s.step g,lY g.toS k⟩
 | ex
 |no=>rw[e] at k;exact False.elim k
noncomputable def aA(i:Nat)(m:M D):MS:=λρ O=>match m ρ O with
 | .ok d O'=>.nx (ρ.set i (some d)) O'
 | .ex x O'=>.ex x O'
 | .no=>.no
def Fv{K:Frag}     (j:md[i]?=some .v)(f:∀σ H Q,tM K mg md P (rV K) m σ H Q->t σ H Q){D:Ends}   (q:tMS K mg md P R (aA i m) D σ H):pU t (pR i) D σ H:=by
 obtain⟨ρ,O,F,u,r,s,k⟩:=q;unfold aA at k
 cases e:m ρ O with
 |ok  =>
  rw[e] at k;exact f _ _ _ ⟨ρ,_,F,u,_,_,r,s,e,λv x y C g b d=>k _ x y _ g.toS b ((s.step g).setV j d)⟩
 | ex
 |no=>rw[e] at k;exact False.elim k
def Fw{K:Frag}     (j:md[i]?=some .o)(f:∀σ H Q,tM K mg md P (rO K) m σ H Q->t σ H Q){D:Ends}   (q:tMS K mg md P R (aA i m) D σ H):pU t (pR i) D σ H:=by
 obtain⟨ρ,O,F,u,r,s,k⟩:=q;unfold aA at k
 cases e:m ρ O with
 |ok  =>
  rw[e] at k;exact f _ _ _ ⟨ρ,_,F,u,_,_,r,s,e,λv x y C g b d=>k _ x y _ g.toS b (s.setO g j d)⟩
 | ex
 |no=>rw[e] at k;exact False.elim k
def V9{R:RR}    {b pos':Pos}  (hN:X.N.Nodup)(f:X.N[i]?=some x)(hx:Loc X.env.scope x)(h:VE X md P e m)(d:md[i]?=some .v:=by rfl)(hs:swapsWith e (some (.Name x pos')) b.line X.env=pure false:=by rfl)
  (j:X.fn x=true\/X.env.scope.names.lookup x=some .local:=by first | exact .inl rfl | exact .inr rfl | assumption):VS X md P R (.Assign [.Name x pos'] e b) (aA i m):=(Dg hN f hx h hs).imp λD σ H q=>Fv d (λ_ _ _ z=>z) q
def Wa{R:RR}    {b pos':Pos}  (hN:X.N.Nodup)(f:X.N[i]?=some x)(hx:Loc X.env.scope x)(h:OE X md P e m)(d:md[i]?=some .o:=by rfl)(hs:swapsWith e (some (.Name x pos')) b.line X.env=pure false:=by rfl)
  (j:X.fn x=true\/X.env.scope.names.lookup x=some .local:=by first | exact .inl rfl | exact .inr rfl | assumption):VS X md P R (.Assign [.Name x pos'] e b) (aA i m):=(Dg hN f hx h hs).imp λD σ H q=>Fw d (λ_ _ _ z=>z) q
abbrev MG:=D->aR->Option aR
inductive tMG (K:Frag) (mg:Str->Option Value) (md:List Md) (P:Pt) (g:MG) (v:V) (σ:St) (H:Hp) (Q:(St->Hp->Prop)):Prop
 | mk:∀ρ O F as d ρ',RlO K mg O H F as->SlO K md P ρ σ H F as->Rp K F as v d->g d ρ=some ρ'->(∀σ',SlO K md P ρ' σ' H F as->Q σ' H)->tMG K mg md P g v σ H Q
inductive Fx (K:Frag) (mg:Str->Option Value) (md:List Md) (P:Pt) (g:List D->aR->Option aR) (vs:List V) (σ:St) (H:Hp) (Q:(St->Hp->Prop)):Prop
 | mk:∀ρ O F as ds ρ',RlO K mg O H F as->SlO K md P ρ σ H F as->Rps K F as vs ds->g ds ρ=some ρ'->(∀σ',SlO K md P ρ' σ' H F as->Q σ' H)->Fx K mg md P g vs σ H Q
def VG(X:Cx)(md:List Md)(P:Pt)(b:Expr)(g:MG):Prop:=PG X b (tMG X.K X.mg md P g)
def VGs(X:Cx)(md:List Md)(P:Pt)(b:List Expr)(g:List D->aR->Option aR):Prop:=PGs X b (Fx X.K X.mg md P g)
def PG.imp   (h:PG X e t)(k:∀v σ H Q,t' v σ H Q->t v σ H Q):PG X e t':=λpins s σ H v u Q I r q=>h pins s σ H v u Q I r (k v σ H Q q)
def PGs.imp   (h:PGs X e t)(k:∀v σ H Q,t' v σ H Q->t v σ H Q):PGs X e t':=λpins s σ H v u Q I r q=>h pins s σ H v u Q I r (k v σ H Q q)
noncomputable def mgN(i:Nat):MG:=λd ρ=>some (ρ.set i (some d))
def Wb{X:Cx}{P:Pt}   {b:Pos}(hN:X.N.Nodup)(m:X.N[i]?=some x)(hx:Loc X.env.scope x)(j:md[i]?=some .v:=by rfl)(y:X.fn x=true\/X.env.scope.names.lookup x=some .local:=by first | exact .inl rfl | exact .inr rfl | assumption):VG X md P (.Name x b) (mgN i):=
 (QC hN m hx).imp λv σ H Q q=>by
  obtain⟨ρ,O,F,C,d,u,r,s,f,e,k⟩:=q;cases e;exact k _ (s.setV j f)
noncomputable def dC:List D->aR->Option aR:=λb ρ=>match b with
 | []=>some ρ
 | _=>none
noncomputable def bF(g:MG)(r:List D->aR->Option aR):List D->aR->Option aR:=λb ρ=>match b with
 |d::b=>(g d ρ).bind λf=>r b f
 | []=>none
theorem Wc:VGs X md P [] dC:=QG.imp λv σ H Q q=>by
 obtain⟨ρ,O,F,j,d,f,r,s,b,e,k⟩:=q
 cases d with
 |nil=>cases e;exact⟨b.un0,k _ s⟩
 |cons =>cases e
def We     (h1:VG X md P e g)(h2:VGs X md P es r)(hs:(assignEach (e::es) X.env).map (·.2)=assign e X.env::(assignEach es X.env).map (·.2):=by rfl):VGs X md P (e::es) (bF g r):=
 (QH h1 h2 hs).imp λv σ H Q q=>by
  obtain⟨ρ,O,F,m,b,f,j,s,C,e,k⟩:=q
  cases b with
  |nil=>cases e
  |cons d b =>
   obtain⟨x,y,rfl,hx,E⟩:=C.un;unfold bF at e
   dsimp  at e
   cases e1:g d ρ with
   |none=>rw[e1] at e;cases e
   |some ρ1 =>
    rw[e1] at e;exact⟨x,y,rfl,ρ,O,F,m,d,ρ1,j,s,hx,e1,λG u=>⟨ρ1,O,F,m,b,f,j,u,E,e,k⟩⟩
noncomputable def dg(n:Nat)(r:List D->aR->Option aR):MG:=λd ρ=>match d with
 | .tup ds=>if ds.length=n then r ds ρ else none
 | _=>none
def Wf  {f:Pos}{k:Nat}  (n:Nat)(E:X.calm=true)(h:VGs X md P es r)(y:(assignEach es X.env).length=n:=by rfl)(j:(assignEach es X.env).findIdx? (·.1)=none:=by rfl):VG X md P (.Tuple es k f) (dg n r):=
 (QK E h y j).imp λv σ H Q q=>by
  obtain⟨ρ,O,F,G,d,b,m,s,x,e,k⟩:=q
  cases d with
  |tup ds =>
   obtain⟨a,u,rfl,h1,h2⟩:=x.unT;unfold dg at e
   dsimp  at e
   split at e
   ·rename_i C;exact⟨a,u,rfl,Same.seqT m.fh h1,by rw[h2.length];exact C,ρ,O,F,G,ds,b,m,s,h2,e,k⟩
   ·cases e
  | _=>cases e
noncomputable def jC(m:M D)(g:MG):MS:=λρ O=>match m ρ O with
 | .ok d O'=>match g d ρ with
  |some b=>.nx b O'
  |none=>.no
 | .ex x O'=>.ex x O'
 | .no=>.no
def Wg{R:RR}  {b:Pos}   (h:VE X md P e m)(G:VG X md P tg g)(hs:swapsWithSole [tg] e b.line X.env=pure false:=by rfl)(C:swappedStores [tg] e X.env=pure none:=by rfl)
  (h1:(assignEach [tg] X.env).map (·.2)=[assign tg X.env]:=by rfl):VS X md P R (.Assign [tg] e b) (jC m g):=(De h G hs C h1).imp λD σ H q=>by
 obtain⟨ρ,O,F,I,r,s,k⟩:=q;unfold jC at k
 cases e:m ρ O with
 |ok d O' =>
  rw[e] at k
  dsimp  at k
  cases e2:g d ρ with
  |none=>rw[e2] at k;exact False.elim k
  |some ρ' =>
   rw[e2] at k;refine⟨ρ,_,F,I,_,_,r,s,e,λv J x f u j E=>?_⟩;exact⟨ρ,O',x,f,d,ρ',j,s.step u,E,e2,λL y=>k _ J x _ u.toS j y⟩
 | ex
 |no=>rw[e] at k;exact False.elim k
end
structure lZ(K:Frag)(mg:Str->Option Value)(P:Pt)(J:It)(ds:List D)(H F:Hp)(as:List Addr):Prop where
 turn:∀(i:Nat) (d:D) (H2 F2:Hp) (as2:List Addr),GrS P H F as H2 F2 as2->(∃O,RlO K mg O H2 F2 as2)->ds[i]?=some d->J.go i H2/\∀x H3,J.yld i H2 x H3->∃F3,Gr H2 F2 as2 H3 F3 as2/\(∀O,RlO K mg O H2 F2 as2->RlO K mg O H3 F3 as2)/\Rp K F3 as2 x d
 stop:∀(H2 F2:Hp) (as2:List Addr),GrS P H F as H2 F2 as2->(∃O,RlO K mg O H2 F2 as2)->J.stop ds.length H2
structure Fy(K:Frag)(mg:Str->Option Value)(J:It)(ds:List D)(H F:Hp)(as:List Addr):Prop where
 turn:∀(i:Nat) (d:D) (H2 F2:Hp) (as2:List Addr),Gr H F as H2 F2 as2->(∃O,RlO K mg O H2 F2 as2)->ds[i]?=some d->J.go i H2/\∀x H3,J.yld i H2 x H3->∃F3,Gr H2 F2 as2 H3 F3 as2/\(∀O,RlO K mg O H2 F2 as2->RlO K mg O H3 F3 as2)/\Rp K F3 as2 x d
 stop:∀(H2 F2:Hp) (as2:List Addr),Gr H F as H2 F2 as2->(∃O,RlO K mg O H2 F2 as2)->J.stop ds.length H2
def lZ.e{K:Frag}       (h:lZ K mg P J ds H F m):Fy K mg J ds H F m:=⟨λi d f j b g=>h.turn i d f j b g.toS,λf j b g=>h.stop f j b g.toS⟩
inductive xf (K:Frag) (mg:Str->Option Value) (md:List Md) (P:Pt) (m:M (List D)) (σ:St) (H:Hp) (Q:(It->Hp->Prop)):Prop
 | mk:∀ρ O F as ds O',RlO K mg O H F as->SlO K md P ρ σ H F as->m ρ O=.ok ds O'->(∀J H' F' as',Gr H F as H' F' as'->RlO K mg O' H' F' as'->Fy K mg J ds H' F' as'->Q J H')->xf K mg md P m σ H Q
def VIc(X:Cx)(md:List Md)(P:Pt)(b iter:Expr)(m:M (List D)):Prop:=PI X b iter (xf X.K X.mg md P m)
inductive tMI (K:Frag) (mg:Str->Option Value) (md:List Md) (P:Pt) (m:M (List D)) (σ:St) (H:Hp) (Q:(It->Hp->Prop)):Prop
 | mk:∀ρ O F as ds O',RlO K mg O H F as->SlO K md P ρ σ H F as->m ρ O=.ok ds O'->(∀J H' F' as',Gr H F as H' F' as'->RlO K mg O' H' F' as'->lZ K mg P J ds H' F' as'->Q J H')->tMI K mg md P m σ H Q
def VI(X:Cx)(md:List Md)(P:Pt)(b iter:Expr)(m:M (List D)):Prop:=PI X b iter (tMI X.K X.mg md P m)
def PI.imp   (h:PI X b e t)(k:∀σ H Q,t' σ H Q->t σ H Q):PI X b e t':=λpins s σ H Q I q=>h pins s σ H Q I (k σ H Q q)
def xg   (h:VI X md P E e m):VIc X md P E e m:=h.imp λσ H Q q=>by
 obtain⟨ρ,O,F,j,f,u,r,s,e,k⟩:=q;exact⟨ρ,O,F,j,f,u,r,s,e,λJ x y C g b d=>k J x y _ g b d.e⟩
noncomputable def bB(g:MG)(b:MS):List D->MS
 | [],ρ,O=>.nx ρ O
 |d::ds,ρ,O=>match g d ρ with
  |none=>.no
  |some f=>match b f O with
   | .nx ρ2 O2=>bB g b ds ρ2 O2
   | .ct ρ2 O2=>bB g b ds ρ2 O2
   | .bk ρ2 O2=>.nx ρ2 O2
   |r=>r
def cF(m:M (List D))(g:MG)(b:MS):MS:=λρ O=>match m ρ O with
 | .ok ds O'=>bB g b ds ρ O'
 | .ex x O'=>.ex x O'
 | .no=>.no
def Wh{K:Frag}     {D:Ends}   (q:tMS K mg md P R (cF m g b) D σ H):Dj (tMI K mg md P m) (tMG K mg md P g) (tMS K mg md P R b) D σ H:=by
 obtain⟨ρ,O,F,as,r,s,k⟩:=q;unfold cF at k
 cases e:m ρ O with
 | ex
 |no=>rw[e] at k;exact False.elim k
 |ok ds O1 =>
  rw[e] at k;refine⟨ρ,_,F,as,_,_,r,s,e,λJ H1 F1 as1 g1 r1 hJ=>?_⟩;have k1:=lY g1.toS k;refine⟨λi m W E=>m=ds.length - i/\i<=ds.length/\∃u j I d,GrS P H1 F1 _ E I d/\RlO K mg j E I d/\SlO K md P u W E I d/\jB K mg md P R D E I d (bB g b (ds.drop i) u j),⟨ds.length,by simp,Nat.zero_le _,ρ,O1,F1,as1,GrS.refl,r1,s.step g1,by exact k1⟩,?_⟩;rintro i n W E ⟨rfl,hi,u,j,I,d,g',r',s',k'⟩
  by_cases Q:i<ds.length
  ·have hd:=zy Q;obtain⟨go,yl⟩:=hJ.turn i _ E I _ g' ⟨j,r'⟩ hd;rw[List.drop_eq_getElem_cons Q] at k';refine .inr ⟨go,λU C=>∃L Z G T,GrS P H1 F1 _ C G _/\RlO K mg Z C G _/\SlO K md P _ _ C G _/\jB K mg md P R D C G _ _,λU C h2=>⟨ds.length - (i+1),by omega,rfl,Q,h2⟩,λx H3 y=>?_⟩;obtain⟨F3,X,r3,hx⟩:=yl x H3 y;have r3':=r3 j r';unfold bB at k'
   cases eg:g _ _ with
   |none=>rw[eg] at k';exact False.elim k'
   |some ρ1 =>
    rw[eg] at k'
    dsimp  at k'
    refine⟨u,j,F3,d,ds[i],ρ1,r3',s'.step X,hx,eg,λσ4 s4=>?_⟩;refine⟨ρ1,j,F3,d,r3',s4,?_⟩;have g4 :=g'.trans X.toS
    have keep:=λ{f}=>lY (K:=K) (mg:=mg) (md:=md) (R:=R) (D:=D) (f:=f) X.toS (P:=P)
    cases eb:b _ j with
    | nx L Z
    |ct L Z =>
     rw[eb] at k'
     exact λU C G T Y r2 s2=>⟨L,Z,G,T,g4.trans Y,r2,s2,lY Y (keep k')⟩
    | bk
    |rt  =>
     rw[eb] at k'
     exact λv C G T Y r2 s2=>k' v C G _ (X.toS.trans Y) r2 s2
    | ex
    |no=>rw[eb] at k';exact False.elim k'
  ·have hi':i=ds.length:=by omega
   subst hi';refine .inl ⟨hJ.stop E I _ g' ⟨j,r'⟩,?_⟩;rw[List.drop_length] at k';exact k' _ E I _ GrS.refl r' s'
def Wi   {d:Pos}    (y:X.calm=true)(j:VI X md P E C m)(u:VG X md P E g)(hb:VSs X md P R body b)(f:PassesOwn (model X.prog X.w) X.A X.env X.xe:=by exact PassesOwn.never)
  (hs:∀x,foldedSetIterable C X.env x=pure x:=by intro _;rfl):VS X md P R (.For E C body [] d) (cF m g b):=(Q4 f y j u hb hs).imp λ_ _ _ q=>Wh q
noncomputable def dh(t:M Bool)(b:MS):Nat->MS
 | 0,_,_=>.no
 |n+1,ρ,O=>match t ρ O with
  | .ok true O1=>match b ρ O1 with
   | .nx ρ2 O2=>dh t b n ρ2 O2
   | .ct ρ2 O2=>dh t b n ρ2 O2
   | .bk ρ2 O2=>.nx ρ2 O2
   |r=>r
  | .ok false O1=>.nx ρ O1
  | .ex x O'=>.ex x O'
  | .no=>.no
def jD(n:Nat)(t:M Bool)(b:MS):MS:=dh t b n
def Wj{K:Frag}     {D:Ends}   (q:tMS K mg md P R (jD n t b) D σ H):Dh (tMT K mg md P t) (tMS K mg md P R b) D σ H:=by
 refine⟨λn d x=>tMS K mg md P R (dh t b n) D d x,⟨n,q⟩,?_⟩;rintro m σ1 H1 ⟨ρ,O,F,as,r,s,k⟩
 cases m with
 |zero=>exact False.elim k
 |succ m =>
  unfold dh at k
  cases e:t ρ O with
  | ex
  |no=>rw[e] at k;exact False.elim k
  |ok c O1 =>
   rw[e] at k;refine⟨ρ,_,F,as,_,_,r,s,e,λW T J j L=>?_⟩
   cases c with
   |false =>
    exact k _ W T _ j.toS L (s.step j)
   |true =>
    refine⟨λd x=>tMS K mg md P R _ D _ x,λd x U=>⟨m,jd m,U⟩,ρ,O1,T,J,L,s.step j,?_⟩
    dsimp  at k
    have keep:=λ{f}=>lY (K:=K) (mg:=mg) (md:=md) (R:=R) (D:=D) (f:=f) j.toS (P:=P)
    cases eb:b ρ O1 with
    | nx ρ2 O2
    |ct ρ2 O2 =>
     rw[eb] at k
     exact λI Q G u E C y=>⟨ρ2,O2,G,u,C,y,lY E (keep k)⟩
    | bk
    |rt  =>
     rw[eb] at k
     exact λI Q G u E C y=>k _ Q G _ (j.toS.trans E) C y
    | ex
    |no=>rw[eb] at k;exact False.elim k
def Fz(n:Nat)      (f:TsE X md P c t)(hb:VSs X md P R body b)(d:PassesOwn (model X.prog X.w) X.A X.env X.xe:=by exact PassesOwn.never):VS X md P R (.While c body [] pos) (jD n t b):=
 (QQ d f hb).imp λ_ _ _ q=>Wj q
noncomputable def cG(g:MG)(t:M Bool)(m:M D):List D->aR->au->List D->Res (List D)
 | [],ρ,O,acc=>.ok acc O
 |d::ds,ρ,O,acc=>match g d ρ with
  |none=>.no
  |some b=>match t b O with
   | .ok true O1=>match m b O1 with
    | .ok y O2=>cG g t m ds b O2 (acc++[y])
    | .ex x O'=>.ex x O'
    | .no=>.no
   | .ok false O1=>cG g t m ds b O1 acc
   | .ex x O'=>.ex x O'
   | .no=>.no
def d8(own:Nat)(cap:List Nat)(ρ:aR):aR:=List.replicate own none++cap.map λj=>(ρ[j]?).join
def bW(m:M (List D))(own:Nat)(cap:List Nat)(g:MG)(t:M Bool)(e:M D):M D:=λρ O=>(m ρ O).bind λb j=>if b.length<=1000000 then(cG g t e b (d8 own cap ρ) j []).bind λd f=>.ok (.lst d) f else .no
noncomputable def b8:M Bool:=λ_ O=>.ok true O
def cMd(own:Nat)(cap:List Nat)(md:List Md):List Md:=List.replicate own .v++cap.map λj=>match md[j]? with
 |some .v=>.v
 | _=>.s
def FJ{K:Frag}       (s:SlO K md P ρ σ H F R)(I:∀j∈cap,j<md.length):SlO K (cMd own.length cap md) (Pt.all H) (d8 own.length cap ρ) (compSt own cap σ) H F R:=by
 refine⟨by simp[compSt,cMd],by simp[d8,cMd],λa h=>h,λi m d f b=>?_,λi j a y O h1=>?_,λ_ z=>nomatch z⟩
 ·unfold d8 at b;unfold cMd at f;unfold compSt
  by_cases u:i<own.length
  ·rw[zE (by simpa using u),List.getElem?_replicate_of_lt u] at b;cases b
  ·have hi':own.length<=i:=Nat.le_of_not_lt u;rw[zK (by simpa using hi'),List.length_replicate,zF] at b f;rw[zK (by simpa using hi'),zf,zF]
   cases q:cap[i - own.length]? with
   |none=>rw[q] at b;cases b
   |some j =>
    rw[q] at f b;simp only[Option.map_some,Option.some.injEq] at f b ⊢
    cases q2:ρ[j]? with
    |none=>rw[q2] at b;cases b
    |some o =>
     rw[q2] at b;have e2':o=some d:=b;subst e2';obtain⟨J,v,h1,h2,h3⟩:=s.get q2;rw[h1] at f;refine⟨v,by rw[h2];rfl,?_⟩
     cases J with
     |v=>dsimp only at f;subst f;exact h3
     |s =>
      dsimp only at f;subst f
      rcases h3 with h3 | ⟨a,C,y,f,b,x,G,L,E⟩
      ·exact .inl h3
      ·exact .inr ⟨a,C,y,f,b,x,G,(show H a≠none by rw[x];exact λz=>nomatch z),E⟩
     |o =>
      dsimp only at f;subst f
      rcases h3 with⟨_,h3⟩ | ⟨a,C,y,f,b,x,Q,G,L,E⟩
      ·exact .inl h3
      ·exact .inr ⟨a,C,y,f,b,x,G,(show H a≠none by rw[x];exact λz=>nomatch z),E⟩
 ·exfalso
  unfold cMd at h1
  by_cases u:i<own.length
  ·rw[zE (by simpa using u),List.getElem?_replicate_of_lt u] at h1;cases h1
  ·have hi':own.length<=i:=Nat.le_of_not_lt u;rw[zK (by simpa using hi'),List.length_replicate,zF] at h1
   cases q:cap[i - own.length]? with
   |none=>rw[q] at h1;cases h1
   |some j =>
    rw[q] at h1;simp only[Option.map_some,Option.some.injEq] at h1
    split at h1<;>cases h1
def xM(K:Frag)(mg:Str->Option Value)(md:List Md)(R:RR)(m:M D):TE:=λσ H Q=>∃P,tM K mg md P R m σ H Q
def xMT(K:Frag)(mg:Str->Option Value)(md:List Md)(m:M Bool):TT:=λσ H Q=>∃P,tMT K mg md P m σ H Q
def xMG(K:Frag)(mg:Str->Option Value)(md:List Md)(g:MG):TG:=λv σ H Q=>∃P,tMG K mg md P g v σ H Q
def xm   (h:∀P,PE X e (tM X.K X.mg md P R m)):PE X e (xM X.K X.mg md R m):=λpins s σ H Q I ⟨P,q⟩=>h P _ s σ H Q I q
def xmg   (h:∀P,VG X md P e g):PG X e (xMG X.K X.mg md g):=λpins s σ H v u Q I r ⟨P,q⟩=>h P _ s σ H v u Q I r q
def xmt   (h:∀P,kh X e (tMT X.K X.mg md P m)):kh X e (xMT X.K X.mg md m):=λpins s σ H Q I ⟨P,q⟩=>h P _ s σ H Q I q
def VIf(X:Cx)(md:List Md)(P:Pt)(e:List Expr)(m:M Bool):Prop:=kh X e (tMT X.K X.mg md P m)
def Wk:VIf X md P [] b8:=λpins s σ H Q I q=>by
 obtain⟨ρ,O,F,b,d,f,r,s,e,k⟩:=q;cases e;exact Uh _ _ σ H Q I (k H F b Gr.refl r)
def Wl   (h:TsE X md P c m):VIf X md P [c] m:=Ui h
def xj{K:Frag}        (hcap:∀j∈cap,j<md.length)    (q:tM K mg md P (rO K) (bW m own.length cap g t e) σ H Q):
  sZ (xf K mg md P m) own cap (xMG K mg (cMd own.length cap md) g) (xMT K mg (cMd own.length cap md) t) (xM K mg (cMd own.length cap md) (rV K) e) σ H Q:=by
 obtain⟨ρ,O,F,as,d,OZ,r,s,R,k⟩:=q;obtain⟨E,O1,e1,R⟩:=Res.bind_ok R;split at R
 ·rename_i hz;obtain⟨yf,O2,e2,R⟩:=Res.bind_ok R;cases R;refine⟨ρ,_,F,as,_,_,r,s,e1,λJ H1 F1 W g1 r1 hJ=>?_⟩;have sb:=FJ (own:=own) (s.step g1) hcap
  refine⟨λi n Z σ' Y=>n=E.length - i/\i<=E.length/\∃u G C b f,Gr H1 F1 W Y C b/\RlO K mg G Y C b/\SlO K _ _ u σ' Y C b/\Rps K C b Z f/\f.length<=i /\
   cG g t e (E.drop i) u G f=.ok yf OZ,⟨E.length,by simp,Nat.zero_le _,d8 _ cap ρ,O1,F1,W,[],Gr.refl,r1,sb,Rps.nil,zc _,by exact e2⟩,?_⟩
  rintro i n Z σ' Y ⟨rfl,hi,u,G,C,b,f,g',r',s',hy,hl,ec⟩
  by_cases T:i<E.length
  ·obtain⟨go,yl⟩:=hJ.turn i _ Y C b g' ⟨G,r'⟩ (zy T)
   refine .inr ⟨go,?_,λZ σ2 H2=>∃ρ2 O3 F2 U I,Gr H1 F1 W H2 F2 U/\RlO K mg O3 H2 F2 _/\SlO K _ _ ρ2 σ2 H2 F2 U/\Rps K F2 U Z I/\I.length<=i+1 /\
    cG g t e _ ρ2 O3 _=.ok yf OZ,λys2 σ2 H2 h2=>⟨E.length - (i+1),by omega,rfl,T,h2⟩,λx H3 y=>?_⟩
   ·rw[hy.length]
    have:=d7 hz
    omega
   obtain⟨F3,g3,r3,hx⟩:=yl x H3 y;have r3':=r3 G r';have g13:=g'.trans g3;rw[List.drop_eq_getElem_cons T] at ec;unfold cG at ec
   cases eg:g _ u with
   |none=>rw[eg] at ec;cases ec
   |some ρ1 =>
    rw[eg] at ec
    dsimp  at ec
    refine⟨_,u,G,F3,b,E[i],ρ1,r3',s'.step g3,hx,eg,λσ4 s4=>?_⟩
    cases et:t ρ1 G with
    | ex
    |no=>rw[et] at ec;cases ec
    |ok c O4 =>
     rw[et] at ec;refine⟨_,ρ1,G,F3,b,c,O4,r3',s4,et,λH5 F5 as5 L r5=>?_⟩
     cases c with
     |false =>
      exact⟨ρ1,O4,F5,as5,f,g13.trans L,r5,s4.step L,(hy.gr g3).gr L,by omega,ec⟩
     |true =>
      dsimp  at ec
      cases em:e _ O4 with
      | ex
      |no=>rw[em] at ec;cases ec
      |ok yd O6 =>
       rw[em] at ec;refine⟨_,ρ1,O4,F5,as5,yd,O6,r5,s4.step L,em,λvy H7 F7 as7 g7 r7 hvy=>?_⟩;exact⟨ρ1,O6,F7,as7,f++[yd],(g13.trans L).trans g7,r7,(s4.step L).step g7,(((hy.gr g3).gr L).gr g7).snoc hvy,by rw[ze];show f.length+1<=i+1;omega,ec⟩
  ·have hi':i=E.length:=by omega
   subst hi';rw[List.drop_length] at ec;cases ec;refine .inl ⟨hJ.stop Y C b g' ⟨_,r'⟩,?_,λp X=>?_⟩
   ·rw[hy.length];exact zI hl (d7 hz)
   ·have hF:C p=none:=by
     cases q:C p with
     |none=>rfl
     |some o=>rw[r'.fh p o q] at X;cases X
    exact k _ _ C b ((g1.trans g').trans (Gr.lay X)) (r'.lay X) (.inr ⟨p,Z,yf,rfl,rfl,bC,hF,λz=>r'.all z X,(g1.trans g').dm p X,hy⟩)
 ·cases R
def gK{m:Pos}(d:Scope)(b own:List Str)(cap:List Nat)(J:X.calm=true)(F:VIc X md P R L mi)
  (G:∀C s H ex P,VG (bK X scope C (bH b own cap) s H ex) (cMd own.length cap md) P R g) (E:∀C s H ex P,VIf (bK X scope C (bH b own cap) s H ex) (cMd own.length cap md) P O t)
  (I:∀C s H ex P,VE (bK X scope C (bH b own cap) s H ex) (cMd own.length cap md) P Q e)
  (f:∀j∈cap,j<md.length:=by decide) (u:X.env.scope=d:=by rfl) (y:X.N=b:=by rfl) (ok:j9 d b scope own cap=true:=by decide +kernel) (hs:∀x,foldedSetIterable L X.env x=pure x:=by intro _;rfl):
  OE X md P (.ListComp Q [⟨R,L,O,0⟩] scope m) (bW mi own.length cap g t e):=
 (Eu _ b _ _ J F (λC s H ex=>xmg (G C s H ex)) (λC s H ex=>xmt (E C s H ex)) (λC s H ex=>xm (I C s H ex)) u y ok hs).imp λ_ _ _ q=>xj f q
def FN{R:RR}{E:Pos}   {pos' f:Pos}(m:Scope)(y own:List Str)(cap:List Nat)(hN:X.N.Nodup)(hx:X.N[i]?=some x)(hl:Loc X.env.scope x)(hc:X.calm=true)(hi:VIc X md P tg iter mi)
  (hg:∀C s H ex P,VG (bK X scope C (bH y own cap) s H ex) (cMd own.length cap md) P tg g) (ht:∀C s H ex P,VIf (bK X scope C (bH y own cap) s H ex) (cMd own.length cap md) P ifs t)
  (he:∀C s H ex P,VE (bK X scope C (bH y own cap) s H ex) (cMd own.length cap md) P elt e)
  (hm:md[i]?=some .v:=by rfl) (I:∀j∈cap,j<md.length:=by decide) (U:swapsWith (.ListComp elt [⟨tg,iter,ifs,0⟩] scope E) (some (.Name x pos')) f.line X.env=pure true:=by rfl)
  (hf:X.fn x=true\/X.env.scope.names.lookup x=some .local:=by first | exact .inl rfl | exact .inr rfl | assumption)
  (W:X.env.scope=m:=by rfl) (Y:X.N=y:=by rfl) (ok:j9 m y scope own cap=true:=by decide +kernel) (hs:∀x,foldedSetIterable iter X.env x=pure x:=by intro _;rfl):
  VS X md P R (.Assign [.Name x pos'] (.ListComp elt [⟨tg,iter,ifs,0⟩] scope E) f) (aA i (bW mi own.length cap g t e)):=
 (Ew (i:=i) m y own cap hN hx hl hc hi (λC s H ex=>xmg (hg C s H ex)) (λC s H ex=>xmt (ht C s H ex)) (λC s H ex=>xm (he C s H ex)) U hf W Y ok hs).imp λD σ H q =>
  Fv hm (λσ H Q z=>xj I (by
   obtain⟨ρ,O,F,as,d,O',r,s,e,k⟩:=z;refine⟨ρ,_,F,as,_,_,r,s,e,λv H' J G g r' L=>?_⟩
   rcases L with⟨_,L⟩ | ⟨a,Z,ds,rfl,rfl,e3,T,e5,e6,e7⟩
   ·exact k v H' J G g r' L
   ·have ff:Same J (upd J a (.lst Z)):=λb u q=>by rw[aG (bV q T)];exact q
    exact k _ H' (upd J a (.lst Z)) G (g.frz e6 T) (r'.frz e3 T e5 rfl) (Rp.mkL (.inl (.inl bC)) (Rps.mono ff (λ_ _ z=>z) _ e7)))) q
def FP{R:RR}{m:Pos}   {pos' b:Pos}(f:Scope)(d own:List Str)(cap:List Nat)(hN:X.N.Nodup)(hx:X.N[i]?=some x)(J:Loc X.env.scope x)(W:X.calm=true)(L:VIc X md P tg Y mi)
  (O:∀C s H ex P,VG (bK X scope C (bH d own cap) s H ex) (cMd own.length cap md) P tg g) (G:∀C s H ex P,VIf (bK X scope C (bH d own cap) s H ex) (cMd own.length cap md) P Z t)
  (U:∀C s H ex P,VE (bK X scope C (bH d own cap) s H ex) (cMd own.length cap md) P elt e)
  (I:md[i]?=some .o:=by rfl) (u:∀j∈cap,j<md.length:=by decide) (y:swapsWith (.ListComp elt [⟨tg,Y,Z,0⟩] scope m) (some (.Name x pos')) b.line X.env=pure true:=by rfl)
  (T:X.fn x=true\/X.env.scope.names.lookup x=some .local:=by first | exact .inl rfl | exact .inr rfl | assumption)
  (E:X.env.scope=f:=by rfl) (F:X.N=d:=by rfl) (ok:j9 f d scope own cap=true:=by decide +kernel) (hs:∀x,foldedSetIterable Y X.env x=pure x:=by intro _;rfl):
  VS X md P R (.Assign [.Name x pos'] (.ListComp elt [⟨tg,Y,Z,0⟩] scope m) b) (aA i (bW mi own.length cap g t e)):=
 (Ew _ d _ _ hN hx J W L (λC s H ex=>xmg (O C s H ex)) (λC s H ex=>xmt (G C s H ex)) (λC s H ex=>xm (U C s H ex)) y T E F ok hs).imp λD σ H q =>
  Fw I (λσ H Q z=>xj u z) q
inductive vSp (K:Frag) (mg:Str->Option Value) (pm:List Md) (R:RR) (c:List D->au->Res D) (vs:List V) (H:Hp) (Q:VK) (x3_:XK):Prop
 |mk:∀ds O F as d O',RlO K mg O H F as->bQ K H F as pm vs ds->c ds O=.ok d O'->(∀v H' F' as',Gr H F as H' F' as'->RlO K mg O' H' F' as'->R (λa=>H a=none) H' F' as' v d->Q v H')->vSp K mg pm R c vs H Q x3_
noncomputable def aL(n:Nat)(b:MS):List D->au->Res D:=λf O=>match b (f.map some++List.replicate (n - f.length) none) O with
 | .rt d O'=>.ok d O'
 | .nx _ O'=>.ok .non O'
 | .ex x O'=>.ex x O'
 | _=>.no
theorem bQ.len{K:Frag}  :∀{ms:List Md}{vs:List V}{ds:List D},bQ K H F as ms vs ds->vs.length=ms.length/\ds.length=ms.length
 | [],[],[],_=>⟨rfl,rfl⟩
 |m::ms,v::vs,d::ds,h=>by
  have:=bQ.len h.2
  simp[this.1,this.2]
 | [],[],_::_,h=>h.elim
 | [],_::_,[],h=>h.elim
 | [],_::_,_::_,h=>h.elim
 | _::_,[],[],h=>h.elim
 | _::_,[],_::_,h=>h.elim
 | _::_,_::_,[],h=>h.elim
theorem bQ.get{K:Frag}{H F:Hp}{b:List Addr}:∀{ms:List Md}{vs:List V}{ds:List D}{i:Nat}{m:Md}{d:D},bQ K H F b ms vs ds->ms[i]?=some m->ds[i]?=some d->∃v,vs[i]?=some v/\rA K m (λ_=>True) H F b v d
 |m::ms,v::vs,d::ds,0,m',d',h,e1,e2=>by
  simp at e1 e2
  subst e1 e2;exact⟨v,rfl,h.1⟩
 |m::ms,v::vs,d::ds,i+1,m',d',h,e1,e2=>by
  obtain⟨f,h1,h2⟩:=bQ.get (i:=i) (m:=m') (d:=d') h.2 (by simpa using e1) (by simpa using e2);exact⟨f,by simpa using h1,h2⟩
 | [],[],[],_,_,_,_,e1,_=>by simp at e1
 | [],[],_::_,_,_,_,h,_,_=>h.elim
 | [],_::_,[],_,_,_,h,_,_=>h.elim
 | [],_::_,_::_,_,_,_,h,_,_=>h.elim
 | _::_,[],[],_,_,_,h,_,_=>h.elim
 | _::_,[],_::_,_,_,_,h,_,_=>h.elim
 | _::_,_::_,[],_,_,_,h,_,_=>h.elim
def xn{K:Frag}       (h:bQ K H F R pm vs ds)(O:(pm++Q).length=N.length)(y:∀m∈pm,m≠.o):
  SlO K (pm++Q) (Pt.all H) (ds.map some++List.replicate (N.length - ds.length) none) (start N vs) H F R:=by
 obtain :=h.len;rw[ze] at O
 have no:∀i a,(ds.map some++List.replicate (N.length - ds.length) none)[i]?=some (some a)->i<ds.length:=λi a e=>by
  by_cases u:i<ds.length
  ·exact u
  ·rw[zK (by simpa using u),List.getElem?_replicate] at e
   split at e<;>cases e
 refine⟨by unfold start;simp;omega,by simp;omega,λa z=>z,λi m d f b=>?_,λi j a C fs f b P=>?_,λ_ z=>nomatch z⟩
 ·have u:=no i d b;rw[zE (by simpa ),zF] at b;rw[zE (by omega)] at f
  cases q:ds[i]? with
  |none=>rw[q] at b;cases b
  |some  =>
   rw[q] at b;cases b;obtain⟨v,h3,h4⟩:=h.get f q;refine⟨v,?_,?_⟩
   ·unfold start;rw[zE (by simp;omega),zF,h3];rfl
   ·cases m with
    |v=>exact h4
    |s =>
     rcases h4 with h4 | ⟨a,L,C,J,I,x,G,E⟩
     ·exact .inl h4
     ·exact .inr ⟨a,L,C,J,I,x,G,(show H a≠none by rw[x];exact λz=>nomatch z),E⟩
    |o=>exact absurd rfl (y .o (zL f))
 ·have u:=no i _ P;rw[zE (by omega)] at f;exact absurd rfl (y .o (zL f))
def Wm{Y:Program}{w:World}{K:Frag}{base:Heap}  {st:Stmt}  {k:Nat}(Df:Def K mg x st)(S:fK N ps (bf st))
  (hb:∀(kV U pm:Value) (an:Option Addr) (j ct:Value) (us:List Value),us.length=ps.length->bindArgs (PySem.W.fnOf x x (dI st) (cM st) (bf st) .none kV U pm an j ct) ⟨us,[]⟩=pure (ps.zip us))
  (pm X:List Md)  {b:MS} (hR:dZ R) (T:∀N H F y,R N H F y .non .non) (L:pm.length=ps.length:=by rfl) (hl:(pm++X).length=N.length:=by rfl) (hp:∀m∈pm,m≠.o:=by decide)
  (body:∀(f:Addr) (j:Value) (A:Around) (outer:List Env) (s:Shared) (H:Hp) (E:XK),aZ k (A.deeper (envOfC x (bf st) s.heap.objs.size f j))->∀P,VSs ((gk CX0 Y w K mg base N x (bf st) f j A outer s H E).nox) (pm++X) P R (cM st) b):
  Can Y w K mg base x ps (k+1) (vSp K mg pm R (aL N.length b)):=by
 refine Df.can (k:=k) S hb (λZ H Q E h=>?_) (λf j A outer s H Z Q E hr h=>?_)
 ·obtain⟨G,O,F,y,d,O',r,a,_⟩:=h;rw[a.len.1,L]
 ·obtain⟨G,O,F,y,d,O',r,a,e,q⟩:=h;refine⟨_,body f j A outer s H E hr (Pt.all H),?_⟩;refine⟨_,O,F,y,r,xn a hl hp,?_⟩;unfold aL at e
  cases eb:b (G.map some++List.replicate (N.length - G.length) none) O with
  |rt d' O2 =>
   rw[eb] at e;cases e
   exact λv I J u g C hv=>q v I J u g.gr C (hR _ _ _ _ _ _ _ (λc hc=>Classical.not_not.mp hc) hv)
  |nx ρ O2 =>
   rw[eb] at e;cases e
   exact λσ' I J u g C _=>q _ I J u g.gr C (T _ _ _ _)
  |bk _ _=>rw[eb] at e;cases e
  |ct _ _=>rw[eb] at e;cases e
  |ex _ _=>rw[eb] at e;cases e
  |no=>rw[eb] at e;cases e
noncomputable def aB(c:List D->au->Res D)(ma:M (List D)):M D:=λρ O=>(ma ρ O).bind λb d=>c b d
def FQ{K:Frag}  (C:dZ R)     (q:tM K mg md P R (aB c ma) σ H Q):p7 (vSp K mg pm R c) [] E (tMA K mg md P pm ma) σ H Q:=by
 obtain⟨ρ,O,F,L,d,U,r,s,e,k⟩:=q;obtain⟨J,T,I,e⟩:=Res.bind_ok e;refine⟨ρ,_,F,L,_,_,r,s,I,λvs H1 X b f j x=>?_⟩;rw[zJ];exact⟨J,T,X,b,d,U,j,x,e,λv W Y Z G m u=>k v W Y _ (f.trans G) m (C _ _ _ _ _ _ _ (λa y=>f.dm a y) u)⟩
def FT{p b:Pos}(E:dZ R)(C:Can X.prog X.w X.K X.mg X.base x ps k (vSp X.K X.mg pm R c))(j:aZ k X.A)(y:AE X md P pm (e::es) ma)(m:Gl X x:=by rfl)(f:(x == ("__debug__":Str))=false:=by decide)
  (u:starEach (e::es) X.env=(false,eval e X.env)::starEach es X.env:=by exact bY rfl) (d:(backTo b (starEach es X.env)).any (·.1)=false:=by exact cP rfl):PE X (.Call (.Name x p) (e::es) [] b) (tM X.K X.mg md P R (aB c ma)):=
 (Um C j y m f u d).imp λ_ _ _ q=>FQ E q
def Wn{md:List Md}{P:Pt}{p b:Pos}(u:dZ R)(C:Can X.prog X.w X.K X.mg X.base x ps k (vSp X.K X.mg [] R c))(j:aZ k X.A)(m:Gl X x:=by rfl)(f:(x == ("__debug__":Str))=false:=by decide):PE X (.Call (.Name x p) [] [] b) (tM X.K X.mg md P R (aB c ao)):=
 (Uo C j m f).imp λσ H Q q=>by
  have:=FQ (pm:=[]) (E:=E0) u q
  obtain⟨ρ,O,F,G,d,I,r,s,y,k⟩:=this;cases y;exact k [] H F G Gr.refl r trivial
def bO{K:Frag}{Q:VK}  (r:RlO K mg O H F q)(k:∀j b f,Gr H F q b f q->RlO K mg O b f q->Ow K (λa=>H a=none) b f q j d->Q j b)(m:iy d=true)(hv:Rp K F q v d):Q v H:=k v H F Gr.refl r (.inl ⟨m,hv⟩)
def RlO.frF{K:Frag}(r:RlO K mg O H F as)(b:H p=none):F p=none:=by
 cases q:F p with
 |none=>rfl
 |some o=>rw[r.fh p o q] at b;cases b
def n8{K:Frag}{Q:VK}(r:RlO K mg O H F m)(k:∀j d f,Gr H F m d f m->RlO K mg O d f m->Ow K (λa=>H a=none) d f m j (.lst ds)->Q j d)(b:H p=none)(hs:Rps K F m xs ds):Q (.ref p) (upd H p (.lst xs)):=
 k _ _ F (Gr.lay b) (r.lay b) (.inr ⟨p,xs,ds,rfl,rfl,bC,r.frF b,λz=>r.all z b,b,hs⟩)
def FW{K:Frag}{Q:VK}(r:RlO K mg O H F y)(k:∀x f m,Gr H F y f m y->RlO K mg O f m y->Ow K (λa=>H a=none) f m y x (.tup ds)->Q x f)(d:H p=none)(hs:Rps K F y xs ds):Q (.ref p) (upd H p (.tup xs)):=by
 have j:=r.frF d
 have ff:Same F (upd F p (.tup xs)):=λb u q=>by rw[aG (bV q j)];exact q
 exact k _ _ _ ((Gr.lay d).frz d j) ((r.lay d).frz bC j (λz=>r.all z d) rfl) (.inl ⟨rfl,Rp.mkT (.inl bC) (Rps.mono ff (λ_ _ z=>z) _ hs)⟩)
section
variable {X:Cx}
def Wo(K:Frag):R2:=λx y H Q=>∃l b f d,x=.ref l/\y=.ref b/\RdK K H l f/\RdK K H b d/\f.length+d.length<=sizeLine/\∀p,H p=none->Q (.ref p) (upd H p (.lst (f++d)))
def Wq:OpR X (binaryOp .Add) (Wo X.K):=by
 intro pins s σ H x y v u Q I C m h;obtain⟨l,b,T,O,rfl,rfl,E,F,W,q⟩:=h;cases C;cases m;obtain⟨z,f,n,r,e⟩:=E.ok I;obtain⟨R,d,U,j,J⟩:=F.ok I;have Y:=r.length;have L:=j.length;refine PySem.P.add_list e J ?_
 have G:f.toArray++d.toArray=(f++d).toArray:=by simp
 rw[G];exact⟨.ref _,_,I.lnew (r.append j) (by rw[ze];omega),rfl,q _ I.fresh⟩
def Wr(K:Frag):R2:=λx y H Q=>∃l k b,x=.ref l/\y=.int k/\RdK K H l b/\-(2 ^ 63)<=k/\k<2 ^ 63/\b.length * k.toNat<=sizeLine /\
 ∀p,H p=none->Q (.ref p) (upd H p (.lst (List.replicate k.toNat b).flatten))
def Ws:OpR X (binaryOp .Mult) (Wr X.K):=by
 intro pins s σ H x y v u Q I P O h;obtain⟨l,k,U,rfl,rfl,T,h1,h2,E,q⟩:=h;cases P;obtain⟨t,rfl⟩:=O;obtain⟨z,b,n,r,e⟩:=T.ok I;have R:=r.length
 have hlen:b.toArray.size * k.toNat<=sizeLine:=by rw[zG,<-R];exact E
 have C:¬b.toArray.size * k.toNat>(2 ^ 63 - 1) / 8:=by
  have:sizeLine<=(2 ^ 63 - 1) / 8:=by decide
  omega
 have j:¬(!Builtin.List.listFitsIndex k)=true:=by
  rw[fitsIndex_both h1 h2];exact zx
 have d:¬Builtin.List.listTooLong (b.toArray.size * k.toNat)=true:=by
  rw[Eg hlen];exact zx
 have f:List.foldl (λJ G=>J++G) #[] (List.replicate (if b.toArray.isEmpty=true then 0 else k.toNat) b.toArray)=(List.replicate k.toNat b).flatten.toArray:=by
  have f0 :=λm=>by
   have:=foldl_rep b m []
   rw[zO] at this;exact this
  rw[f0]
  cases b with
  |nil=>simp
  |cons =>rw[if_neg (by simp)]
 refine wpAny_binaryOp_repeat_ref (by decide) ⟨_,e,rfl⟩ (λL=>typeIs_int L k t) noFill_list_mul F.fills_int_mul F.slot_int_rmul repeat_list F.slot_int_index.lookup
  (call_meets F.slot_int_rmul (typeIs_int s k t) F.entry_int_rmul (F.args_int_rmul_2 _ _) (int___rmul___int_list k t l _ n)
   ⟨e,rfl,⟨_,e,rfl⟩,call_meets F.slot_list_mul ⟨_,e,rfl⟩ F.entry_list_mul (F.args_list_mul_2 _ _) (AutoListH.list___mul___list_int_3 l _ n k t j C d) ⟨e,?_⟩⟩)
 rw[f];exact⟨.ref _,_,I.lnew (r.rep _) (by rw[len_rep,Nat.mul_comm];exact E),rfl,q _ I.fresh⟩
def aF:D->D->Option D
 | .int i,.int j=>some (.int (i+j))
 | .int i,.bl k=>some (.int (i+b2i k))
 | .str a,.str b=>if a.length+b.length<=1000000 then some (.str (a++b)) else none
 | .lst a,.lst b=>if a.length+b.length<=1000000 then some (.lst (a++b)) else none
 | .tup a,.tup b=>if a.length+b.length<=1000000/\a≠[] then some (.tup (a++b)) else none
 | _,_=>none
instance (a:List D):Decidable (a≠[]):=match a with
 | []=>isFalse λh=>h rfl
 | _::_=>isTrue λh=>nomatch h
def Wt:OpD X (binaryOp .Add) aF:=by
 intro pins s σ H x y v u Q I C m h;obtain⟨O,F,Y,W,J,d,r,hx,E,e,k⟩:=h
 cases W with
 |int i =>
  cases(hx.rp rfl).unI
  cases J with
  |int j =>
   cases(E.rp rfl).unI;cases e;exact Ra _ s σ H _ _ v u Q I C m ⟨i,j,rfl,rfl,bO r k rfl Rp.int⟩
  |bl j =>
   cases(E.rp rfl).unB;cases e;exact Rk _ s σ H _ _ v u Q I C m ⟨i,j,rfl,rfl,bO r k rfl Rp.int⟩
  | _=>cases e
 |str a =>
  cases(hx.rp rfl).unS
  cases J with
  |str b =>
   cases(E.rp rfl).unS;simp only[aF] at e;split at e
   ·rename_i f;cases e;refine Rz _ s σ H _ _ v u Q I C m ⟨S a,S b,rfl,rfl,by exact d7 f,?_⟩;rw[Us];exact bO r k rfl Rp.str
   ·cases e
  | _=>cases e
 |lst a =>
  obtain⟨p,G,rfl,h1,h2⟩:=hx.list r.fh
  cases J with
  |lst b =>
   obtain⟨P,L,rfl,h3,h4⟩:=E.list r.fh;simp only[aF] at e;split at e
   ·rename_i f;cases e;exact Wq _ s σ H _ _ v u Q I C m ⟨p,P,G,L,rfl,rfl,h1,h3,by rw[h2.length,h4.length];exact d7 f,λq R=>n8 r k R (Rps.append h4 h2)⟩
   ·cases e
  | _=>cases e
 |tup a =>
  obtain⟨p,G,rfl,h1,h2⟩:=(hx.rp rfl).unT
  cases J with
  |tup b =>
   obtain⟨P,L,rfl,h3,h4⟩:=(E.rp rfl).unT;simp only[aF] at e;split at e
   ·rename_i f;cases e
    have T:G≠[]:=λz=>f.2 (List.eq_nil_of_length_eq_zero (by rw[<-h2.length,z];rfl))
    refine S6 _ s σ H _ _ v u Q I C m ⟨p,P,G,L,rfl,rfl,Same.seqT r.fh h1,Same.seqT r.fh h3,T,by rw[h2.length,h4.length];exact d7 f.1,λz=>?_,λ_ q R=>FW r k R (Rps.append h4 h2)⟩;have U :=List.eq_nil_of_length_eq_zero (by rw[<-h4.length,z];rfl);subst U;rw[zJ] at k;exact bO r k rfl (hx.rp rfl)
   ·cases e
  | _=>cases e
 | _=>cases e
def gI(C:Int->Int->Bool)(f:Int->Int->Int):D->D->Option D
 | .int i,.int j=>if C i j=true then some (.int (f i j)) else none
 | _,_=>none
def xq     (h:OpR X f (rI Cp λi j=>.int (g i j)))(E:∀i j,C i j=true->Cp i j):OpD X f (gI C g):=by
 intro pins s σ H x y v u Q I m b J;obtain⟨O,F,R,P,L,d,r,hx,q,e,k⟩:=J
 cases P with
 |int i =>
  cases(hx.rp rfl).unI
  cases L with
  |int j =>
   cases(q.rp rfl).unI;simp only[gI] at e;split at e
   ·rename_i G;cases e;exact h _ s σ H _ _ v u Q I m b ⟨i,j,rfl,rfl,E i j G,bO r k rfl Rp.int⟩
   ·cases e
  | _=>cases e
 | _=>cases e
def gn:D->D->Option D:=gI (λ_ _=>true) λi j=>i - j
def Wu:OpD X (binaryOp .Sub) gn:=by
 intro pins s σ H x y v u Q I f b q;obtain⟨O,F,G,E,C,d,r,hx,m,e,k⟩:=q
 cases E with
 |int i =>
  cases(hx.rp rfl).unI
  cases C with
  |int j =>
   cases(m.rp rfl).unI;cases e;exact Rb _ s σ H _ _ v u Q I f b ⟨i,j,rfl,rfl,bO r k rfl Rp.int⟩
  | _=>cases e
 | _=>cases e
def oh(i:Int):Bool:=decide (-(2 ^ 64)<i)&&decide (i<2 ^ 64)
def xu  (h:oh i=true):-(2 ^ 64)<i/\i<2 ^ 64:=by
 unfold oh at h;rw[zB,decide_eq_true_eq,decide_eq_true_eq] at h;exact h
def dD:D->D->Option D
 | .int i,.int j=>if(oh i || oh j)=true then some (.int (i * j)) else none
 | .str l,.int n=>if -1000000<n/\n<1000000/\l.length * n.toNat<=16777216 then some (.str (List.replicate n.toNat l).flatten) else none
 | .lst l,.int n=>if -1000000<n/\n<1000000/\l.length * n.toNat<=1000000 then some (.lst (List.replicate n.toNat l).flatten) else none
 | _,_=>none
def Wv:OpD X (binaryOp .Mult) dD:=by
 intro pins s σ H x y v u Q I m f h;obtain⟨O,F,P,L,E,d,r,hx,C,e,k⟩:=h
 cases L with
 |int i =>
  cases(hx.rp rfl).unI
  cases E with
  |int j =>
   cases(C.rp rfl).unI;simp only[dD] at e;split at e
   ·rename_i b;cases e;refine Rc _ s σ H _ _ v u Q I m f ⟨i,j,rfl,rfl,?_,bO r k rfl Rp.int⟩;rw[Bool.or_eq_true] at b
    rcases b with z | z
    ·exact .inl (xu z)
    ·exact .inr (xu z)
   ·cases e
  | _=>cases e
 |str l =>
  cases(hx.rp rfl).unS
  cases E with
  |int n =>
   cases(C.rp rfl).unI;simp only[dD] at e;split at e
   ·rename_i b;cases e;exact Va _ s σ H _ _ v u Q I m f ⟨l,n,rfl,rfl,b.1,b.2.1,b.2.2,bO r k rfl Rp.str⟩
   ·cases e
  | _=>cases e
 |lst l =>
  obtain⟨p,G,rfl,h1,h2⟩:=hx.list r.fh
  cases E with
  |int n =>
   cases(C.rp rfl).unI;simp only[dD] at e;split at e
   ·rename_i b;cases e;exact Ws _ s σ H _ _ v u Q I m f ⟨p,n,G,rfl,rfl,h1,by omega,by omega,by rw[h2.length];exact d7 b.2.2,λq J=>n8 r k J (h2.rep _)⟩
   ·cases e
  | _=>cases e
 | _=>cases e
def bj:D->D->Option D:=gI (λ_ j=>decide (0<j)) λi j=>i % j
def Ww:OpD X (binaryOp .Mod) bj:=xq Rh λ_ _ h=>zW h
def kO:D->D->Option D:=gI (λ_ j=>decide (0<j)&&decide (j<1073741824)) λi j=>i / j
def Wx:OpD X (binaryOp .FloorDiv) kO:=xq Rf λi j h=>by
 rw[zB,decide_eq_true_eq,decide_eq_true_eq] at h;exact h
def iB:D->D->Option D:=gI (λi j=>decide (0<=j)&&(decide (j<=1000000)&&oh i)) λi j=>i ^ j.toNat
def Wz:OpD X (binaryOp .Pow) iB:=xq Ri λi j h=>by
 rw[zB,zB,decide_eq_true_eq,decide_eq_true_eq] at h
 have:=xu h.2.2
 exact⟨h.1,h.2.1,by omega⟩
def mUn(g:D->Option D)(m:M D):M D:=λρ O=>(m ρ O).bind λd b=>match g (aY b d) with
 |some y=>.ok y b
 |none=>.no
def kY:D->Option D
 | .int i=>some (.int (-i))
 | _=>none
theorem WD      (h:SE X md P a m):OE X md P (.UnaryOp .USub a pos) (mUn kY m):=(Q7 Rj h).imp λσ H Q q=>by
 obtain⟨ρ,O,F,y,d,J,r,s,e,k⟩:=q;obtain⟨x,C,u,e⟩:=Res.bind_ok e;refine⟨ρ,_,F,y,_,_,r,s,u,λv E G I j b f=>?_⟩
 cases ed:aY C x with
 |int i =>
  rw[ed] at e;cases e
  have:=Sv.lk f b
  rw[ed] at this;exact⟨i,(this.rp rfl).unI,k _ E G _ j b (.inl ⟨rfl,Rp.int⟩)⟩
 | _=>rw[ed] at e;cases e
def gCI(f:Int->Int->Bool):D->D->Option D
 | .int i,.int j=>some (.bl (f i j))
 | _,_=>none
def FZ   (h:OpR X f (rI0 λi j=>.bl (g i j))):OpD X f (gCI g):=by
 intro pins s σ H x y v u Q I m b C;obtain⟨O,F,J,G,E,d,r,hx,q,e,k⟩:=C
 cases G with
 |int i =>
  cases(hx.rp rfl).unI
  cases E with
  |int j =>
   cases(q.rp rfl).unI;cases e;exact h _ s σ H _ _ v u Q I m b ⟨i,j,rfl,rfl,bO r k rfl Rp.bl⟩
  | _=>cases e
 | _=>cases e
def gLt:D->D->Option D:=gCI λi j=>decide (i<j)
def gGt:D->D->Option D:=gCI λi j=>decide (j<i)
def gGe:D->D->Option D:=gCI λi j=>decide (j<=i)
def gLe:D->D->Option D
 | .int i,.int j=>some (.bl (decide (i<=j)))
 | .str a,.str b=>some (.bl (!decide (b<a)))
 | _,_=>none
def tK:OpD X (compareOp .LtE) gLe:=by
 intro pins s σ H x y v u Q I m f E;obtain⟨O,F,J,G,C,d,r,hx,q,e,k⟩:=E
 cases G with
 |int i =>
  cases(hx.rp rfl).unI
  cases C with
  |int j =>
   cases(q.rp rfl).unI;cases e;exact Rn _ s σ H _ _ v u Q I m f ⟨i,j,rfl,rfl,bO r k rfl Rp.bl⟩
  | _=>cases e
 |str a =>
  cases(hx.rp rfl).unS
  cases C with
  |str b =>
   cases(q.rp rfl).unS;cases e;refine Ut _ s σ H _ _ v u Q I m f ⟨S a,S b,rfl,rfl,?_⟩;exact bO r k rfl Rp.bl
  | _=>cases e
 | _=>cases e
def WK:OpD X (compareOp .Lt) gLt:=FZ Rm
def Ga:OpD X (compareOp .Gt) gGt:=FZ Ro
mutual
def toP:D->PyData
 | .non=>.none
 | .bl b=>.bool b
 | .int i=>.int i
 | .str l=>.str (S l)
 | .lst ds=>.list (iC ds)
 | .tup ds=>.tuple (iC ds)
 | .dic _ _=>.none
 | .ob _=>.none
def iC:List D->List PyData
 | []=>[]
 |d::ds=>toP d::iC ds
end
mutual
def fQ:D->Bool
 | .lst ds=>mj ds
 | .tup ds=>mj ds
 | .dic _ _=>false
 | .ob _=>false
 | _=>true
def mj:List D->Bool
 | []=>true
 |d::ds=>fQ d&&mj ds
end
section
variable {K:Frag}{F:Hp}{as:List Addr}
mutual
theorem Rp.rep:∀(d:D) {v:V},fQ d=true->Rp K F as v d->Rep K F v (toP d)
 | .non,v,_,h=>by rw[toP,Rep];exact h.unN
 | .bl b,v,_,h=>by rw[toP,Rep];exact h.unB
 | .int i,v,_,h=>by rw[toP,Rep];exact h.unI
 | .str x,v,_,h=>by rw[toP,Rep];exact h.unS
 | .lst ds,v,hp,h=>by
  obtain⟨a,f,h1,h2,h3⟩:=h.unL;rw[toP,Rep];rw[fQ] at hp;exact⟨a,f,h1,h2.sq,Rps.rep' ds hp h3⟩
 | .tup ds,v,hp,h=>by
  obtain⟨a,f,h1,h2,h3⟩:=h.unT;rw[toP,Rep];rw[fQ] at hp;exact⟨a,f,h1,h2,Rps.rep' ds hp h3⟩
 | .dic _ _,v,hp,h=>by rw[fQ] at hp;cases hp
 | .ob _,v,hp,h=>by rw[fQ] at hp;cases hp
theorem Rps.rep':∀(ds:List D) {xs:List V},mj ds=true->Rps K F as xs ds->b7 K F xs (iC ds)
 | [],xs,_,h=>by rw[h.un0,iC];exact b7.nil
 |d::ds,xs,hp,h=>by
  obtain⟨x,r,rfl,h2,h3⟩:=h.un;rw[mj,zB] at hp;rw[iC];exact b7.cons (Rp.rep d hp.1 h2) (Rps.rep' ds hp.2 h3)
end
def Lk.rep{K:Frag}    (h:Lk K H F as v d)(fh:Same F H)(b:fQ d=true):Rep K H v (toP d):=by
 rcases h with h | ⟨a,f,j,rfl,rfl,h1,h2⟩
 ·exact Rep.mono fh _ (Rp.rep d b h)
 ·rw[fQ] at b;rw[toP,Rep];exact⟨a,f,rfl,.inl (.inl h1),b7.mono fh _ (Rps.rep' j b h2)⟩
end
def okE(d:D):Bool:=fQ d&&okD (toP d)
def kZ(a b:D):Bool:=PyData.eqv (toP a) (toP b)
def gEq:D->D->Option D
 | .int i,.int j=>some (.bl (decide (i=j)))
 | .str a,.str b=>some (.bl (decide (a=b)))
 | .bl a,.bl b=>some (.bl (decide (a=b)))
 |a,b=>if(okE a&&okE b)=true then some (.bl (kZ a b)) else none
def gNe:D->D->Option D
 | .int i,.int j=>some (.bl (!decide (i=j)))
 | .str a,.str b=>some (.bl (!decide (a=b)))
 | .bl a,.bl b=>some (.bl (!decide (a=b)))
 |a,b=>if(okE a&&okE b)=true then some (.bl (!kZ a b)) else none
def Gb(a b:List Nat):decide (V.str (S a)=V.str (S b))=decide (a=b):=by
 by_cases h:a=b
 ·subst h;simp
 ·rw[zl h,zl];intro z;exact h (qe (V.str.inj z))
def Gd(a b:Int):decide (V.int a=V.int b)=decide (a=b):=by
 by_cases h:a=b
 ·simp
 ·rw[zl h,zl];intro z;exact h (V.int.inj z)
def Ge(a b:Bool):decide (V.bl a=V.bl b)=decide (a=b):=by
 cases a<;>cases b<;>rfl
def WL  (h:gEq a b=some d):(∃i j,a=.int i/\b=.int j/\d=.bl (decide (i=j)))\/(∃i j,a=.str i/\b=.str j/\d=.bl (decide (i=j)))\/(∃i j,a=.bl i/\b=.bl j/\d=.bl (decide (i=j))) \/
  (okE a=true/\okE b=true/\d=.bl (kZ a b)):=by
 unfold gEq at h;split at h
 ·cases h;exact .inl ⟨_,_,rfl,rfl,rfl⟩
 ·cases h;exact .inr (.inl ⟨_,_,rfl,rfl,rfl⟩)
 ·cases h;exact .inr (.inr (.inl ⟨_,_,rfl,rfl,rfl⟩))
 ·split at h
  ·rename_i f;rw[zB] at f;cases h;exact .inr (.inr (.inr ⟨f.1,f.2,rfl⟩))
  ·cases h
def WM  (h:gNe a b=some d):(∃i j,a=.int i/\b=.int j/\d=.bl (!decide (i=j)))\/(∃i j,a=.str i/\b=.str j/\d=.bl (!decide (i=j)))\/(∃i j,a=.bl i/\b=.bl j/\d=.bl (!decide (i=j))) \/
  (okE a=true/\okE b=true/\d=.bl (!kZ a b)):=by
 unfold gNe at h;split at h
 ·cases h;exact .inl ⟨_,_,rfl,rfl,rfl⟩
 ·cases h;exact .inr (.inl ⟨_,_,rfl,rfl,rfl⟩)
 ·cases h;exact .inr (.inr (.inl ⟨_,_,rfl,rfl,rfl⟩))
 ·split at h
  ·rename_i f;rw[zB] at f;cases h;exact .inr (.inr (.inr ⟨f.1,f.2,rfl⟩))
  ·cases h
def Gf  (q:aZ k X.A):OpD X (compareOp .Eq) gEq:=by
 intro pins s σ H x y v u Q I f b C;obtain⟨O,F,J,G,E,d,r,hx,m,e,k⟩:=C
 rcases WL e with⟨i,j,rfl,rfl,rfl⟩ | ⟨i,j,rfl,rfl,rfl⟩ | ⟨i,j,rfl,rfl,rfl⟩ | ⟨h1,h2,rfl⟩
 ·cases(hx.rp rfl).unI;cases(m.rp rfl).unI;refine wk _ s σ H _ _ v u Q I f b ⟨rfl,?_⟩;rw[Gd];exact bO r k rfl Rp.bl
 ·cases(hx.rp rfl).unS;cases(m.rp rfl).unS;refine wk _ s σ H _ _ v u Q I f b ⟨rfl,?_⟩;rw[Gb];exact bO r k rfl Rp.bl
 ·cases(hx.rp rfl).unB;cases(m.rp rfl).unB;refine wk _ s σ H _ _ v u Q I f b ⟨rfl,?_⟩;rw[Ge];exact bO r k rfl Rp.bl
 ·unfold okE at h1 h2;rw[zB] at h1 h2;exact Up q _ s σ H _ _ v u Q I f b ⟨toP G,toP E,hx.rep r.fh h1.1,m.rep r.fh h2.1,h1.2,h2.2,bO r k rfl Rp.bl⟩
def WN  (q:aZ k X.A):OpD X (compareOp .NotEq) gNe:=by
 intro pins s σ H x y v u Q I f b C;obtain⟨O,F,J,G,E,d,r,hx,m,e,k⟩:=C
 rcases WM e with⟨i,j,rfl,rfl,rfl⟩ | ⟨i,j,rfl,rfl,rfl⟩ | ⟨i,j,rfl,rfl,rfl⟩ | ⟨h1,h2,rfl⟩
 ·cases(hx.rp rfl).unI;cases(m.rp rfl).unI;refine wu _ s σ H _ _ v u Q I f b ⟨rfl,?_⟩;rw[Gd];exact bO r k rfl Rp.bl
 ·cases(hx.rp rfl).unS;cases(m.rp rfl).unS;refine wu _ s σ H _ _ v u Q I f b ⟨rfl,?_⟩;rw[Gb];exact bO r k rfl Rp.bl
 ·cases(hx.rp rfl).unB;cases(m.rp rfl).unB;refine wu _ s σ H _ _ v u Q I f b ⟨rfl,?_⟩;rw[Ge];exact bO r k rfl Rp.bl
 ·unfold okE at h1 h2;rw[zB] at h1 h2;exact Uq q _ s σ H _ _ v u Q I f b ⟨toP G,toP E,hx.rep r.fh h1.1,m.rep r.fh h2.1,h1.2,h2.2,bO r k rfl Rp.bl⟩
def toV:D->V
 | .bl b=>.bl b
 | .int i=>.int i
 | .str l=>.str (S l)
 | _=>.non
def fU:D->Bool
 | .non=>true
 | .bl _=>true
 | .int _=>true
 | .str _=>true
 | _=>false
def eqF(x y:D):Bool:=eqV (toV x) (toV y)
def Rp.flat{K:Frag}     (h:Rp K F as v d)(f:fU d=true):v=toV d/\iw v=true:=by
 cases d with
 |non=>rw[h.unN];exact⟨rfl,rfl⟩
 |bl b=>rw[h.unB];exact⟨rfl,rfl⟩
 |int b=>rw[h.unI];exact⟨rfl,rfl⟩
 |str b=>rw[h.unS];exact⟨rfl,rfl⟩
 | _=>cases f
theorem Rps.flat{K:Frag}{F:Hp}{q:List Addr}:∀{ds:List D}{xs:List V},Rps K F q xs ds->ds.all fU=true->xs=ds.map toV/\xs.all iw=true
 | [],xs,h,_=>by rw[h.un0];exact⟨rfl,rfl⟩
 |d::ds,xs,h,hf=>by
  obtain⟨x,r,rfl,h2,h3⟩:=h.un;rw[List.all_cons,zB] at hf;obtain⟨m,j⟩:=h2.flat hf.1;obtain⟨f,b⟩:=Rps.flat h3 hf.2;exact⟨by rw[zg,<-m,<-f],by rw[List.all_cons,j,b];rfl⟩
def gIn(b:Bool):D->D->Option D
 | .str [c],.str l=>some (.bl (b ^^ decide (c∈l)))
 |x,.lst ds=>if(fU x&&ds.all fU)=true then some (.bl (b ^^ ds.any λy=>eqF y x)) else none
 |x,.tup ds=>if(fU x&&ds.all fU)=true then some (.bl (b ^^ ds.any λy=>eqF y x)) else none
 | _,_=>none
def Gg   (h:gIn j a b=some d):(∃c l,a=.str [c]/\b=.str l/\d=.bl (j ^^ decide (c∈l)))\/(∃ds,(b=.lst ds\/b=.tup ds)/\fU a=true/\ds.all fU=true/\d=.bl (j ^^ ds.any λy=>eqF y a)):=by
 unfold gIn at h;split at h
 ·cases h;exact .inl ⟨_,_,rfl,rfl,rfl⟩
 ·split at h
  ·rename_i f;rw[zB] at f;cases h;exact .inr ⟨_,.inl rfl,f.1,f.2,rfl⟩
  ·cases h
 ·split at h
  ·rename_i f;rw[zB] at f;cases h;exact .inr ⟨_,.inr rfl,f.1,f.2,rfl⟩
  ·cases h
 ·cases h
def Gh  {ds:List D}:inV (toV x) (ds.map toV)=ds.any λy=>eqF y x:=by
 unfold inV;rw[List.any_map];rfl
def Gi{K:Frag}        (r:RlO K mg O H F f)(d:Lk K H F f v b)(hb:b=.lst ds\/b=.tup ds):∃p xs,v=.ref p/\(SqL K H p xs\/SqT K H p xs)/\Rps K F f xs ds:=by
 rcases hb with rfl | rfl
 ·obtain⟨p,xs,e,h1,h2⟩:=d.list r.fh;exact⟨p,xs,e,.inl h1.sq,h2⟩
 ·obtain⟨p,xs,e,h1,h2⟩:=(d.rp rfl).unT;exact⟨p,xs,e,.inr (Same.seqT r.fh h1),h2⟩
def Gj  (h:fU d=true):iy d=true:=by cases d<;>first | rfl | cases h
def Gk:OpD X (compareOp .In) (gIn false):=by
 intro pins s σ H x y v u Q I f b C;obtain⟨O,F,U,R,P,d,r,hx,j,e,k⟩:=C
 rcases Gg e with⟨c,l,rfl,rfl,rfl⟩ | ⟨T,q,h1,h2,rfl⟩
 ·cases(hx.rp rfl).unS;cases(j.rp rfl).unS;refine Uu _ s σ H _ _ v u Q I f b ⟨c,l,rfl,rfl,?_⟩;rw[Bool.false_xor] at k;exact bO r k rfl Rp.bl
 ·obtain⟨p,m,rfl,h3,h4⟩:=Gi r j q;obtain⟨L,J⟩:=(hx.rp (Gj h1)).flat h1;obtain⟨G,E⟩:=h4.flat h2;refine Tq _ s σ H _ _ v u Q I f b ⟨p,m,rfl,h3,J,E,?_⟩;rw[L,G,Gh];rw[Bool.false_xor] at k;exact bO r k rfl Rp.bl
def WQ:OpD X (compareOp .NotIn) (gIn true):=by
 intro pins s σ H x y v u Q I f b C;obtain⟨O,F,U,R,P,d,r,hx,j,e,k⟩:=C
 rcases Gg e with⟨c,l,rfl,rfl,rfl⟩ | ⟨T,q,h1,h2,rfl⟩
 ·cases(hx.rp rfl).unS;cases(j.rp rfl).unS;refine Uv pins s σ H _ _ v u Q I f b ⟨c,l,rfl,rfl,?_⟩;rw[Bool.true_xor] at k;exact bO r k rfl Rp.bl
 ·obtain⟨p,m,rfl,h3,h4⟩:=Gi r j q;obtain⟨L,J⟩:=(hx.rp (Gj h1)).flat h1;obtain⟨G,E⟩:=h4.flat h2;refine Tr pins s σ H _ _ v u Q I f b ⟨p,m,rfl,h3,J,E,?_⟩;rw[if_pos rfl,L,G,Gh];rw[Bool.true_xor] at k;exact bO r k rfl Rp.bl
def gIx:D->D->Option D
 | .lst ds,.int i=>atI ds i
 | .tup ds,.int i=>atI ds i
 | .str l,.int i=>if l.length<=1000000 then(atI l i).map λc=>.str [c] else none
 | _,_=>none
def Rps.atI{K:Frag}       (h:Rps K F as xs ds)(e:atI ds i=some d):∃v,L2.atI xs i=some v/\Rp K F as v d:=by
 unfold L2.atI at e ⊢;rw[h.length]
 cases q:ixN _ i with
 |none=>rw[q] at e;cases e
 |some j =>
  rw[q] at e;exact h.get' e
inductive rDv (K:Frag) (mg:Str->Option Value) (g:D->D->Option D) (x:V) (y:V) (H:Hp) (Q:VK):Prop
 | mk:∀O F as dx dy d,RlO K mg O H F as->Lk K H F as x dx->Lk K H F as y dy->g dx dy=some d->(∀v',Rp K F as v' d->Q v' H)->rDv K mg g x y H Q
def WR:IxR X (rDv X.K X.mg gIx):=by
 intro value slice pins s σ H x y v u Q I m j P b;obtain⟨O,F,T,R,J,d,r,hx,C,e,k⟩:=P
 cases R with
 |lst  =>
  obtain⟨p,f,rfl,h1,h2⟩:=hx.list r.fh
  cases J with
  |int i =>
   cases(C.rp rfl).unI;obtain⟨z,G,E⟩:=h2.atI e;exact Td _ _ _ s σ H _ _ v u Q I m j ⟨p,f,i,z,rfl,rfl,h1.sq,G,k z E⟩ b
  | _=>cases e
 |tup  =>
  obtain⟨p,f,rfl,h1,h2⟩:=(hx.rp rfl).unT
  cases J with
  |int i =>
   cases(C.rp rfl).unI;obtain⟨z,G,E⟩:=h2.atI e;exact Te _ _ _ s σ H _ _ v u Q I m j ⟨p,f,i,z,rfl,rfl,Same.seqT r.fh h1,G,k z E⟩ b
  | _=>cases e
 |str l =>
  cases(hx.rp rfl).unS
  cases J with
  |int i =>
   cases(C.rp rfl).unI;simp only[gIx] at e;split at e
   ·rename_i L
    cases q:L2.atI l i with
    |none=>rw[q] at e;cases e
    |some c =>
     rw[q] at e;cases e;exact Tf _ _ _ s σ H _ _ v u Q I m j ⟨S l,i,c,rfl,rfl,by exact d7 L,by exact q,k _ Rp.str⟩ b
   ·cases e
  | _=>cases e
 | _=>cases e
def WT      (U:SE X md P a ma)(hb:SE X md P b mb)(hs:sJ b:=by intro _ _;rfl):VE X md P (.Subscript a b pos) (ak gIx ma mb):=(S7 WR U hb hs).imp λσ H Q h=>by
 obtain⟨ρ,O,F,Z,d,O',r,sl,e,k⟩:=h;obtain⟨x,O1,Y,e⟩:=Res.bind_ok e;obtain⟨y,O2,W,e⟩:=Res.bind_ok e;split at e
 ·rename_i d' T;cases e;refine⟨ρ,_,F,Z,_,_,r,sl,Y,λv H1 F1 m C I L=>?_⟩;refine⟨ρ,_,F1,m,_,_,I,sl.step C,W,λu H2 E j q f R=>?_⟩;exact⟨_,E,j,_,_,_,f,Sv.lk (Sv.gr L q) f,Sv.lk R f,T,λG J=>k G H2 E _ (C.trans q) f J⟩
 ·cases e
inductive tMO (K:Frag) (mg:Str->Option Value) (md:List Md) (P:Pt) (m:M (Option Int)) (σ:St) (H:Hp) (Q:(Option Int->Hp->Prop)):Prop
 | mk:∀ρ O F as b O',RlO K mg O H F as->SlO K md P ρ σ H F as->m ρ O=.ok b O'->(∀H' F' as',Gr H F as H' F' as'->RlO K mg O' H' F' as'->Q b H')->tMO K mg md P m σ H Q
def VO(X:Cx)(md:List Md)(P:Pt)(e:Option Expr)(m:M (Option Int)):Prop:=PO X e (tMO X.K X.mg md P m)
def PO.imp   (h:PO X e t)(k:∀σ H Q,t' σ H Q->t σ H Q):PO X e t':=λpins s σ H Q I q=>h pins s σ H Q I (k σ H Q q)
def moN:M (Option Int):=λ_ O=>.ok none O
def moS(m:M D):M (Option Int):=λρ O=>(m ρ O).bind λd b=>match d with
 | .int i=>.ok (some i) b
 | _=>.no
def WW  :VO X md P none moN:=SJ.imp λσ H Q q=>by
 obtain⟨ρ,O,F,b,d,f,r,s,e,k⟩:=q;cases e;exact k H F b Gr.refl r
theorem WX     (h:VE X md P e m):VO X md P (some e) (moS m):=(SM h).imp λσ H Q q=>by
 obtain⟨ρ,O,F,y,d,J,r,s,e,k⟩:=q;obtain⟨x,I,u,e⟩:=Res.bind_ok e
 cases x with
 |int i =>
  cases e;exact⟨ρ,_,F,y,_,_,r,s,u,λv C E G j b f=>⟨i,Rp.unI f,k C E _ j b⟩⟩
 | _=>cases e
def gSl(d:D)(lo b:Option Int):Option D:=match d with
 | .lst ds=>some (.lst (cA ds lo b))
 | .tup ds=>some (.tup (cA ds lo b))
 | .str l=>if l.length<=16777216 then some (.str (cA l lo b)) else none
 | _=>none
inductive Gm (K:Frag) (mg:Str->Option Value) (x:V) (lo:Option Int) (hi:Option Int) (H:Hp) (Q:VK):Prop
 |mk:∀O F as dx d,RlO K mg O H F as->Lk K H F as x dx->gSl dx lo hi=some d->(∀v' H' F',Gr H F as H' F' as->RlO K mg O H' F' as->Ow K (λa=>H a=none) H' F' as v' d->Q v' H')->Gm K mg x lo hi H Q
def Rps.cut{K:Frag}     (h:Rps K F d xs ds)(lo b:Option Int):Rps K F d (lV xs lo b) (cA ds lo b):=by
 unfold lV cA;rw[h.length];exact(h.drop _).take _
def WY:SlR X (Gm X.K X.mg):=by
 intro pins s σ H x v vl j lo b sl Q I m hs y u h;obtain⟨O,F,J,G,d,r,hx,e,k⟩:=h
 cases G with
 |lst  =>
  obtain⟨p,f,rfl,h1,h2⟩:=hx.list r.fh;cases e;exact Tn _ s σ H _ v vl j lo b sl Q I m hs y u ⟨p,f,rfl,h1.sq,λq C=>n8 r k C (h2.cut lo b)⟩
 |tup ds =>
  obtain⟨p,f,rfl,h1,h2⟩:=(hx.rp rfl).unT;cases e;refine UV _ rfl _ s σ H _ v vl j lo b sl Q I m hs y u ⟨p,f,rfl,Same.seqT r.fh h1,λz=>?_,λ_ q C=>FW r k C (h2.cut lo b)⟩
  have:cA ds lo b=ds:=by
   unfold cA;rw[<-h2.length,z.1,z.2,List.drop_zero,Nat.sub_zero,h2.length,List.take_length]
  rw[this] at k;exact bO r k rfl (hx.rp rfl)
 |str l =>
  cases(hx.rp rfl).unS;simp only[gSl] at e;split at e
  ·rename_i E;cases e;exact UL _ s σ H _ v vl j lo b sl Q I m hs y u ⟨l,rfl,zI E (Nat.le_of_eq sizeLine_eq.symm),bO r k rfl Rp.str⟩
  ·cases e
 | _=>cases e
def mSl(m:M D)(lo f:M (Option Int)):M D:=λρ O=>(m ρ O).bind λd q=>(lo ρ q).bind λl j=>(f ρ j).bind λh b=>match gSl (aY b d) l h with
 |some y=>.ok y b
 |none=>.no
end
section
variable {X:Cx}{md:List Md}{P:Pt}{R:RR}
def W0  {lo:Option Expr}    (he:SE X md P e m)(hl:VO X md P lo ml)(hh:VO X md P hi mh):OE X md P (.Subscript e (.Slice lo hi none p2) pos) (mSl m ml mh):=(SN WY he hl hh).imp λσ H Q q=>by
 obtain⟨ρ,O,F,as,d,O',r,s,e,k⟩:=q;obtain⟨x,O1,e1,e⟩:=Res.bind_ok e;obtain⟨l,O2,e2,e⟩:=Res.bind_ok e;obtain⟨h,O3,e3,e⟩:=Res.bind_ok e;split at e
 ·rename_i y hg;cases e;refine⟨ρ,_,F,as,_,_,r,s,e1,λv H1 F1 C J U Z=>?_⟩;refine⟨ρ,_,F1,C,_,_,U,s.step J,e2,λH2 F2 u I T=>?_⟩;have f:=J.trans I;refine⟨ρ,_,F2,u,_,_,T,s.step f,e3,λH3 F3 j G E=>?_⟩;have b:=f.trans G;exact⟨_,F3,j,_,_,E,Sv.lk (Sv.gr (Sv.gr Z I) G) E,hg,λL H' F' g' W Y=>k L H' F' _ (b.trans g') W (iz _ _ _ _ _ _ _ (λa ha=>b.dm a ha) Y)⟩
 ·cases e
def Lks(K:Frag)(H F:Hp)(b:List Addr):List V->List D->Prop
 | [],[]=>True
 |v::vs,d::ds=>Lk K H F b v d/\Lks K H F b vs ds
 | _,_=>False
theorem bQ.lks{K:Frag}     (r:RlO K mg O H F as):∀{ms:List Md}{vs:List V}{ds:List D},bQ K H F as ms vs ds->Lks K H F as vs (ds.map (aY O))
 | [],[],[],_=>trivial
 |m::ms,v::vs,d::ds,h=>by
  refine⟨?_,bQ.lks r h.2⟩
  have h1:Sv K H F as v d:=by
   cases m with
   |v=>exact .inl h.1
   |s=>exact h.1
   |o=>exact h.1
  exact h1.lk r
 | [],[],_::_,h=>h.elim
 | [],_::_,[],h=>h.elim
 | [],_::_,_::_,h=>h.elim
 | _::_,[],[],h=>h.elim
 | _::_,[],_::_,h=>h.elim
 | _::_,_::_,[],h=>h.elim
inductive rC (K:Frag) (mg:Str->Option Value) (g:List D->Option D) (vs:List V) (H:Hp) (Q:VK):Prop
 |mk:∀O F as ds d,RlO K mg O H F as->Lks K H F as vs ds->g ds=some d->(∀v' H' F',Gr H F as H' F' as->RlO K mg O H' F' as->Ow K (λa=>H a=none) H' F' as v' d->Q v' H')->rC K mg g vs H Q
abbrev lq(X:Cx)(f:Value)(g:List D->Option D):Prop:=fH X f (rC X.K X.mg g)
def aJ(g:List D->Option D)(ma:M (List D)):M D:=λρ O=>(ma ρ O).bind λf b=>match g (f.map (aY b)) with
 |some d=>.ok d b
 |none=>.no
def xx{K:Frag}        (q:tM K mg md P (rO K) (aJ g ma) σ H Q):tCB (rC K mg g) (tMA K mg md P ms ma) σ H Q:=by
 obtain⟨ρ,O,F,L,d,O',r,s,e,k⟩:=q;obtain⟨Z,O1,J,e⟩:=Res.bind_ok e;split at e
 ·rename_i y E;cases e;refine⟨ρ,_,F,L,_,_,r,s,J,λY H1 U b j f C=>?_⟩;exact⟨_,U,b,_,_,f,C.lks f,E,λm T W I u x=>k m T W _ (j.trans I) u (iz _ _ _ _ _ _ _ (λa G=>j.dm a G) x)⟩
 ·cases e
def xA  {p b:Pos}   {j:String}    (E:lq X (.builtin j) g)(u:X.mg x=none)(F:AE X md P ms (e::es) ma)(hv:bootBuiltins x=some (.builtin j):=by decide +kernel)(y:Gl X x:=by rfl)
  (m:x≠"__name__":=by decide) (f:(x == ("__debug__":Str))=false:=by decide) (C:starEach (e::es) X.env=(false,eval e X.env)::starEach es X.env:=by exact bY rfl) (d:(backTo b (starEach es X.env)).any (·.1)=false:=by exact cP rfl):
  OE X md P (.Call (.Name x p) (e::es) [] b) (aJ g ma):=(wG E y u hv F m f C d).imp λ_ _ _ q=>xx q
def xB  {p b:Pos}       (C:lq X (.type T) g)(m:X.mg x=none)(E:AE X md P ms (e::es) ma)(hv:bootBuiltins x=some (.type T):=by decide +kernel)(u:Gl X x:=by rfl)
  (j:x≠"__name__":=by decide) (f:(x == ("__debug__":Str))=false:=by decide) (y:starEach (e::es) X.env=(false,eval e X.env)::starEach es X.env:=by exact bY rfl) (d:(backTo b (starEach es X.env)).any (·.1)=false:=by exact cP rfl):
  OE X md P (.Call (.Name x p) (e::es) [] b) (aJ g ma):=(wH C u m hv E j f y d).imp λ_ _ _ q=>xx q
def Lks.one{K:Frag}{H F:Hp}{b:List Addr}{vs:List V}{d:D}(h:Lks K H F b vs [d]):∃v,vs=[v]/\Lk K H F b v d:=by
 cases vs with
 |nil=>exact h.elim
 |cons v vs =>
  cases vs with
  |nil=>exact⟨v,rfl,h.1⟩
  |cons =>exact h.2.elim
def aP:List D->Option D
 | [.str l]=>if l.length<=1000000 then some (.int l.length) else none
 | [.lst ds]=>some (.int ds.length)
 | [.tup ds]=>some (.int ds.length)
 | _=>none
def W2:lq X (.builtin "len") aP:=by
 intro pins s σ H j m Q I q h;obtain⟨O,F,y,x,d,r,b,e,k⟩:=h;unfold aP at e;split at e
 ·obtain⟨v,rfl,f⟩:=b.one;split at e
  ·rename_i u;cases e;cases(f.rp rfl).unS;refine call_len _ s σ H _ m Q I q ⟨_,_,rfl,⟨by exact d7 u,rfl⟩,?_⟩;exact bO r k rfl Rp.int
  ·cases e
 ·obtain⟨v,rfl,f⟩:=b.one;cases e;obtain⟨p,j,rfl,h1,h2⟩:=f.list r.fh;refine call_len _ s σ H _ m Q I q ⟨_,_,rfl,.inl ⟨j,h1.sq,rfl⟩,?_⟩;rw[h2.length];exact bO r k rfl Rp.int
 ·obtain⟨v,rfl,f⟩:=b.one;cases e;obtain⟨p,j,rfl,h1,h2⟩:=(f.rp rfl).unT;refine call_len _ s σ H _ m Q I q ⟨_,_,rfl,.inr ⟨j,Same.seqT r.fh h1,rfl⟩,?_⟩;rw[h2.length];exact bO r k rfl Rp.int
 ·cases e
def W3:List D->Option D
 | [.int i,.int j]=>some (.int (if j>i then j else i))
 | _=>none
def W4:List D->Option D
 | [.int i,.int j]=>some (.int (if j<i then j else i))
 | _=>none
def fV:List D->Option D
 | [.int i]=>some (.int i)
 | [.bl b]=>some (.int (if b then 1 else 0))
 | _=>none
def W5:lq X (.type "int") fV:=by
 intro pins s σ H q j Q I m h;obtain⟨O,F,x,u,d,r,b,e,k⟩:=h;unfold fV at e;split at e
 ·obtain⟨v,rfl,f⟩:=b.one;cases e;cases(f.rp rfl).unI;exact Dr pins s σ H _ j Q I m (.inl ⟨_,rfl,bO r k rfl Rp.int⟩)
 ·obtain⟨v,rfl,f⟩:=b.one;cases e;cases(f.rp rfl).unB;exact Dr pins s σ H _ j Q I m (.inr ⟨_,rfl,bO r k rfl Rp.int⟩)
 ·cases e
def jE:List D->Option D
 | [.lst ds]=>some (.lst ds)
 | [.tup ds]=>some (.lst ds)
 | _=>none
def W6:lq X (.type "list") jE:=by
 intro pins s σ H f q Q I u h;obtain⟨O,F,y,x,d,r,b,e,k⟩:=h;unfold jE at e;split at e
 ·obtain⟨v,rfl,j⟩:=b.one;cases e;obtain⟨p,f,rfl,h1,h2⟩:=j.list r.fh;exact Ed _ s σ H _ q Q I u ⟨p,f,rfl,.inl h1.sq,λl m=>n8 r k m h2⟩
 ·obtain⟨v,rfl,j⟩:=b.one;cases e;obtain⟨p,f,rfl,h1,h2⟩:=(j.rp rfl).unT;exact Ed _ s σ H _ q Q I u ⟨p,f,rfl,.inr (Same.seqT r.fh h1),λl m=>n8 r k m h2⟩
 ·cases e
def jF:List D->Option (List Bool)
 | []=>some []
 | .bl b::ds=>(jF ds).map (b :: ·)
 | _=>none
theorem Rps.bools{K:Frag}{F:Hp}{f:List Addr}:∀{ds:List D}{xs:List V}{bs:List Bool},Rps K F f xs ds->jF ds=some bs->xs=bs.map V.bl
 | [],xs,bs,h,e=>by cases e;rw[h.un0];rfl
 |d::ds,xs,bs,h,e=>by
  obtain⟨x,r,rfl,h2,h3⟩:=h.un
  cases d with
  |bl b =>
   unfold jF at e
   cases q:jF ds with
   |none=>rw[q] at e;cases e
   |some cs =>
    rw[q] at e;cases e;rw[h2.unB,Rps.bools h3 q];rfl
  | _=>cases e
def tL:List D->Option D
 | [.lst ds]=>(jF ds).map λbs=>.bl (bs.all id)
 | _=>none
def W7(x:X.calm=true):lq X (.builtin "all") tL:=by
 intro pins s σ H f j Q I m h;obtain⟨O,F,E,C,d,r,b,e,k⟩:=h;unfold tL at e;split at e
 ·rename_i y;obtain⟨v,rfl,u⟩:=b.one;obtain⟨p,f,rfl,h1,h2⟩:=u.list r.fh
  cases q:jF y with
  |none=>rw[q] at e;cases e
  |some bs =>
   rw[q] at e;cases e;refine Uz x _ s σ H _ j Q I m ⟨p,bs,rfl,?_,bO r k rfl Rp.bl⟩;rw[<-h2.bools q];exact h1.sq
 ·cases e
def fX:List D->Option (List Int)
 | []=>some []
 | .int b::ds=>(fX ds).map (b :: ·)
 | _=>none
theorem Rps.ints{K:Frag}{F:Hp}{f:List Addr}:∀{ds:List D}{xs:List V}{bs:List Int},Rps K F f xs ds->fX ds=some bs->xs=bs.map V.int
 | [],xs,bs,h,e=>by cases e;rw[h.un0];rfl
 |d::ds,xs,bs,h,e=>by
  obtain⟨x,r,rfl,h2,h3⟩:=h.un
  cases d with
  |int b =>
   unfold fX at e
   cases q:fX ds with
   |none=>rw[q] at e;cases e
   |some cs =>
    rw[q] at e;cases e;rw[h2.unI,Rps.ints h3 q];rfl
  | _=>cases e
def W8:bootBuiltins "len" = some (.builtin "len"):=by decide
def W9:bootBuiltins "max" = some (.builtin "max"):=by decide
def Xa:bootBuiltins "all" = some (.builtin "all"):=by decide
def Gn:bootBuiltins "int" = some (.type "int"):=by decide
def Gp:bootBuiltins "str" = some (.type "str"):=by decide
def Xb:bootBuiltins "bool" = some (.type "bool"):=by decide
def Gq:bootBuiltins "list" = some (.type "list"):=by decide
def tyD:D->Option String
 | .non=>some "NoneType"
 | .bl _=>some "bool"
 | .int _=>some "int"
 | .str _=>some "str"
 | .lst _=>some "list"
 | .tup _=>some "tuple"
 | .dic _ _=>some "dict"
 | .ob _=>none
def dF(t n:String):Bool:=t == n || (t == "bool" && n == "int")
def fY(n:String)(m:M D):M D:=λρ O=>(m ρ O).bind λd b=>match tyD (aY b d) with
 |some t=>.ok (.bl (dF t n)) b
 |none=>.no
def xC:List String:=["str","int","bool","list","tuple","dict"]
def Xd(K:Frag):∀d t,tyD d=some t->∀n∈xC,PySem.W.kitOne K (.type t) (.type n)=some (dF t n):=by
 intro d t e n b;simp  [xC,or_false] at b
 cases d<;>cases e<;>rcases b with rfl | rfl | rfl | rfl | rfl | rfl<;>first | exact U3  | kernel_rfl
def Lk.ty{K:Frag}      (h:Lk K H F as v d)(fh:Same F H)(e:tyD d=some t):TyQ K H v t:=by
 cases d with
 |non=>cases e;rw[(h.rp rfl).unN];exact .non
 |bl b=>cases e;rw[(h.rp rfl).unB];exact .bl _
 |int b=>cases e;rw[(h.rp rfl).unI];exact .int _
 |str b=>cases e;rw[(h.rp rfl).unS];exact .str _
 |lst j=>cases e;obtain⟨p,f,rfl,h1,h2⟩:=h.list fh;exact .lst h1.sq
 |tup j=>cases e;obtain⟨p,f,rfl,h1,h2⟩:=(h.rp rfl).unT;exact .tup (Same.seqT fh h1)
 |dic ks m=>cases e;obtain⟨p,f,rfl,h1,h2⟩:=(h.rp rfl).unD;exact .dK (fh _ _ h1)
 |ob n=>cases e
def tO(n:String)   {p b f:Pos}  (U:X.mg "isinstance" = none)(Y:X.mg T=none)(h:SE X md P a m)(hb:bootBuiltins T=some (.type n):=by decide +kernel)(L:n∈xC:=by decide)(W:Gl X "isinstance":=by rfl)(y:Gl X T:=by rfl)
  (C:T≠"__name__":=by decide) (E:(T == ("__debug__":Str))=false:=by decide)
  (j:starEach [a,.Name T b] X.env=(false,eval a X.env)::starEach [.Name T b] X.env:=by exact bY rfl) (hs2:starEach [.Name T b] X.env=(false,eval (.Name T b) X.env)::starEach [] X.env:=by rfl) (hpl:(backTo f (starEach [.Name T b] X.env)).any (·.1)=false:=by exact cP rfl):
  OE X md P (.Call (.Name "isinstance" p) [a,.Name T b] [] f) (fY n m):=
 (wG (U0 _) W U (by decide ) (fJ h (fJ (PN (v:=.ty n) y Y hb rfl C E) gj) j) (by decide) (by decide) j).imp λσ H Q q=>by
  obtain⟨ρ,O,F,as,d,O',r,s,e,k⟩:=q;obtain⟨x,O1,e1,e⟩:=Res.bind_ok e;split at e
  ·rename_i t I;cases e;refine⟨ρ,_,F,as,_,_,r,s,e1,λv H1 F1 G Z u J=>?_⟩;exact⟨v,n,t,_,rfl,Lk.ty (Sv.lk J u) u.fh I,Xd _ _ t I n L,k _ H1 F1 G Z u (.inl ⟨rfl,Rp.bl⟩)⟩
  ·cases e
noncomputable def tQ(m:M D):M (List D):=λρ O=>(m ρ O).bind λd b=>match d with
 | .lst ds=>.ok ds b
 | _=>.no
noncomputable def xD(m:M D):M (List D):=λρ O=>(m ρ O).bind λd b=>match d with
 | .tup ds=>.ok ds b
 | _=>.no
def Xe{K:Frag}       (hs:Rps K F E xs ds)(u:∀(f j:Hp) (b:List Addr),GrS P H F E f j b->(∃O,RlO K mg O f j b)->RdK K f a xs):lZ K mg P (Itl K a) ds H F E:=by
 refine⟨λi d f j b g r e=>?_,λf j b g r=>⟨xs,(u f j _ g r).sq,by rw[hs.length];exact zc _⟩⟩;obtain⟨x,h1,h2⟩:=hs.get' e;have q:=u f j _ g r;refine⟨⟨xs,x,q.sq,h1⟩,λy C m=>?_⟩;obtain⟨rfl,m⟩:=m
 have:=m xs q.sq
 rw[h1] at this;cases this;exact⟨j,Gr.refl,λ_ r=>r,h2.grS g⟩
end
def Inv.turnL{σ:St}{ch:List Addr}   (I:Inv X O σ H s)(f:∀b∈ch,eY X O H b)(k:∀b o,b∉ch->s.heap.get? b=some o->h'.get? b=some o):Inv X O σ H {s with heap:=h',toks:=t'}:=by
 have j:∀b u,H b=some u->b∉ch:=λb u e z=>by rw[(f b z).1] at e;cases e
 refine I.step (g':=s.gens) (d':=s.drawn) (ch:=ch) (λb C=>?_) (λb o _ _ d e _=>k b o d e) (λb o _ _ d e _=>⟨o.slots,k b o d e⟩) (λ_ _ _ _ n=>n)
  (λb o d e=>⟨o,k b o d e⟩) (λ_ _ e=>e) (λ_ _ _ e=>e) (λb J e=>⟨#[],by rw[e];simp⟩) (λm y=>?_) (λb u e=>?_) I.bare
 ·obtain⟨f0,E,L,f3,f4,f5⟩:=f b C;exact⟨f3,E,f4,f5⟩
 ·obtain⟨o,F,G,x,r⟩:=y;exact⟨o,F,G,k _ o (λz=>(f _ z).2.1 rfl) x,r⟩
 ·refine(I.hok b u e).stay (λc v d q=>k c v ?_ q) (λ_ q=>q) λ_ _ q=>q
  rcases d with z | z
  ·rw[z];exact j b u e
  ·exact j c _ z
def Inv.turnT{σ:St}{ch:List Addr}   {T:Addr}   (I:Inv X U σ H s)(f:∀b∈ch,eY X U H b)(k:∀b o,b∉ch->s.heap.get? b=some o->h'.get? b=some o)
  (E:s.heap.objs.size<=T) (C:IsTup h' T us.toArray) (hv:aH vs us) (hz:vs.length<=sizeLine):Inv X U σ (upd H T (.tup vs)) {s with heap:=h',toks:=t'}:=by
 have j:H T=none:=I.hok.fresh E
 have x:∀b u,H b=some u->b∉ch:=λb u e z=>by rw[(f b z).1] at e;cases e
 have ne:∀b o,s.heap.get? b=some o->b≠T:=λb o e z=>by
  subst z;exact absurd (zm e) (Nat.not_lt_of_le E)
 refine I.step (g':=s.gens) (d':=s.drawn) (ch:=ch) (λb y=>?_) (λb o _ _ d e _=>k b o d e) (λb o _ _ d e _=>⟨o.slots,k b o d e⟩) (λb o _ e n=>by rw[aG (ne b o e)];exact n)
  (λb o d e=>⟨o,k b o d e⟩) (λb _ e=>by rw[aG (bV e j)];exact e) (λb _ _ e=>by rw[aG (bV e j)];exact e) (λb Q e=>⟨#[],by rw[aG (bV e j),e];simp⟩) (λm G=>?_) (λb u e=>?_) I.bare
 ·obtain⟨f0,J,R,f3,f4,f5⟩:=f b y;exact⟨f3,J,f4,f5⟩
 ·obtain⟨o,L,O,F,r⟩:=G;exact⟨o,L,O,k _ o (λz=>(f _ z).2.1 rfl) F,r⟩
 ·by_cases y:b=T
  ·subst y;rw[bC] at e;cases e;exact⟨hz,us,hv,C⟩
  ·rw[aG y] at e
   refine(I.hok b u e).stay (λc v d q=>k c v ?_ q) (λc q=>by rw[aG (bV q j)];exact q) λc P q=>by rw[aG (bV q j)];exact q
   rcases d with z | z
   ·rw[z];exact x b u e
   ·exact x c _ z
def Ite(K:Frag)(l:Addr):It:=⟨λi H=>∃b x,SqL K H l b/\b[i]?=some x,λi H v d=>∃T x,v=.ref T/\H T=none/\d=upd H T (.tup [.int i,x])/\∀b,SqL K H l b->b[i]?=some x,λi H=>∃b,SqL K H l b/\b.length<=i⟩
def Gs(l:List Nat):It:=⟨λi _=>i<l.length,λi H v b=>∃T c,v=.ref T/\H T=none/\b=upd H T (.tup [.int i,.str (S [c])])/\l[i]?=some c,λi _=>l.length<=i⟩
def tR{h:Heap}    (e:h.get? b=some o)(d:o.data=.fields vs):∃o,h.get? b=some o/\∀v,o.data≠.cell v:=⟨o,e,λv z=>by rw[d] at z;cases z⟩
def Xf   {K:Frag}    (e it l:Addr)(hne:e≠it):Turn P w K (.Tuple elts x1 pos) (Ite K l) [e,it] e (λi h=>(∃old,IsEnum h e it i old)/\h.IsListIter it l i) where
 mem:=by simp
 obj:=λi h st b hb=>by
  obtain⟨⟨old,he⟩,o,ho,hc,hd⟩:=st
  rcases zk.mp hb with rfl | hb
  ·exact tR he rfl
  ·rw[zj.mp hb];exact tR ho hd
 keep:=λi h h' st k=>by
  obtain⟨⟨old,he⟩,o,ho,r⟩:=st;exact⟨⟨old,k e (by simp) _ he⟩,o,k it (by simp) o ho,r⟩
 item:=by
  intro X hP hw hK hc i pins s σ H E I hf st hg;subst hP hw hK;obtain⟨⟨old,he⟩,hit⟩:=st;obtain⟨xs,x,hq,hx⟩:=hg;obtain⟨its,rv,pl,hz⟩:=I.list hq;obtain⟨u,hu,ru⟩:=rv.get hx;have hT:H s.heap.objs.size=none:=I.hok.fresh (zc _);have elt:e<s.heap.objs.size:=zm he
  refine wpAny_pyNext_enum_item he hit pl.isList (x:=u) (by simpa using hu) hne λh' ho hit' hTup hsz hk=>⟨_,rfl,?_⟩
  refine wpAny_letOwnedTupleGo_enum ho λh'' he'' hs''=>⟨.ref s.heap.objs.size,_,?_,rfl,⟨s.heap.objs.size,x,rfl,hT,rfl,λys hy=>by rw[I.list_inj hy hq];exact hx⟩,⟨⟨_,by simpa using he''⟩,hit'.extBut hs''.extBut (Ne.symm hne)⟩,λb hb=>?_⟩
  ·show Inv X pins σ _ {s with heap:=h'',toks:=s.toks+1};refine I.turnT (ch:=[e,it]) (us:=[.int i s.toks,u]) hf (λb o hb q=>?_) (zc _) ⟨_,hs''.extBut _ _ (Nat.ne_of_gt elt) hTup,rfl,_,rfl⟩ (.cons ⟨_,rfl⟩ (.cons ru .nil)) (by show 2<=sizeLine;decide)
   have h1:b≠e:=λz=>hb (by simp[z])
   have h2:b≠it:=λz=>hb (by simp[z])
   exact hs''.extBut _ _ h1 (hk b o h1 h2 q)
  ·have q:=hf b hb;rw[aG (λz=>?_)]
   ·exact q.1
   ·obtain⟨o,ho⟩:∃o,s.heap.get? b=some o:=by
     rcases zk.mp hb with rfl | hb
     ·exact⟨_,he⟩
     ·rw[zj.mp hb];obtain⟨o,ho,_⟩:=hit;exact⟨o,ho⟩
    exact absurd (zm ho) (by rw[z];exact zU _)
 done:=by
  intro X hP hw hK hc i pins s σ H E I hf st hg;subst hP hw hK;obtain⟨⟨old,he⟩,hit⟩:=st;obtain⟨xs,hq,hl⟩:=hg;obtain⟨its,rv,pl,hz⟩:=I.list hq
  refine wpAny_pyNext_enum_end (I.ok.hd hc) he hit pl.isList (by have:=rv.length;simp;omega) λh' hx=>⟨rfl,?_⟩
  exact I.turnL (t':=s.toks) (ch:=[e,it]) hf λb o hb q=>hx b o (λz=>hb (by simp[z])) q
 self:=λA i s Q E st h=>by
  obtain⟨⟨old,he⟩,_⟩:=st;exact wpAny_pyIter_enum he h
def Xg   {K:Frag}    (e it:Addr)(l:List Nat)(t:Tok)(hne:e≠it):Turn P w K (.Tuple elts x1 pos) (Gs l) [e,it] e (λi h=>(∃old,IsEnum h e it i old)/\h.IsStrIter it "str_ascii_iterator" (S l) t i) where
 mem:=by simp
 obj:=λi h st b hb=>by
  obtain⟨⟨old,he⟩,o,ho,hc,hd⟩:=st
  rcases zk.mp hb with rfl | hb
  ·exact tR he rfl
  ·rw[zj.mp hb];exact tR ho hd
 keep:=λi h h' st k=>by
  obtain⟨⟨old,he⟩,o,ho,r⟩:=st;exact⟨⟨old,k e (by simp) _ he⟩,o,k it (by simp) o ho,r⟩
 item:=by
  intro X hP hw hK hc i pins s σ H E I hf st hg;subst hP hw hK;obtain⟨⟨old,he⟩,hit⟩:=st;have hg':i<l.length:=hg;have hT:H s.heap.objs.size=none:=I.hok.fresh (zc _);have elt:e<s.heap.objs.size:=zm he;have hd:X.A.in1.handled=none:=I.ok.hd hc
  refine wpAny_pyNext_enum_itemD (Draws.strAscii hd it (S l) t) he hit (by simpa [S] using hg') hne (λz=>hne (by simpa using z)) λu h' tk hP ho hit' hTup hsz hk=>⟨_,rfl,?_⟩
  obtain⟨c,tc,hcx,rfl⟩:=hP
  have hcl:l[i]?=some c:=by
   rw[<-hcx];simp[S]
  refine wpAny_letOwnedTupleGo_enum ho λh'' he'' hs''=>⟨.ref s.heap.objs.size,_,?_,rfl,⟨s.heap.objs.size,c,rfl,hT,rfl,hcl⟩,⟨⟨_,by simpa using he''⟩,?_⟩,λb hb=>?_⟩
  ·show Inv X pins σ _ {s with heap:=h'',toks:=tk+1};refine I.turnT (ch:=[e,it]) (us:=[.int i tk,.str ⟨#[c]⟩ tc]) hf (λb o hb q=>?_) (zc _) ⟨_,hs''.extBut _ _ (Nat.ne_of_gt elt) hTup,rfl,_,rfl⟩ (.cons ⟨_,rfl⟩ (.cons ⟨_,rfl⟩ .nil)) (by show 2<=sizeLine;decide)
   have h1:b≠e:=λz=>hb (by simp[z])
   have h2:b≠it:=λz=>hb (by simp[z])
   exact hs''.extBut _ _ h1 (hk b o h1 h2 q)
  ·obtain⟨o,ho',r⟩:=hit';exact⟨o,hs''.extBut _ _ (Ne.symm hne) ho',r⟩
  ·have q:=hf b hb;rw[aG (λz=>?_)]
   ·exact q.1
   ·obtain⟨o,ho⟩:∃o,s.heap.get? b=some o:=by
     rcases zk.mp hb with rfl | hb
     ·exact⟨_,he⟩
     ·rw[zj.mp hb];obtain⟨o,ho,_⟩:=hit;exact⟨o,ho⟩
    exact absurd (zm ho) (by rw[z];exact zU _)
 done:=by
  intro X hP hw hK hc i pins s σ H E I hf st hg;subst hP hw hK;obtain⟨⟨old,he⟩,hit⟩:=st;have hd:X.A.in1.handled=none:=I.ok.hd hc;have hg':l.length<=i:=hg;have hT:s.TypeIs (.ref e) "enumerate":=⟨_,he,rfl⟩;unfold pyNext
  refine za (wpAny_attempt (wpAny_callSpecial?_slot (name:=Str.ofString "__next__") hT F.slot_enumerate_next
   (wpAny_call_entry F.slot_enumerate_next hT F.entry_enumerate_next ?_ (F.args_enumerate_next_1 _))))
  show wpAny _ _ (field (.ref e) 2 >>= _) _ _ _;refine za (wpAny_field he rfl (x:=.ref it) rfl ?_);refine za (wpAny_nextOf_ascii_end hd hit (by simp[S];exact hg') λh' x he' hx'=>?_);obtain⟨o,ho,hc⟩:=hx';refine za (wpAny_isInstance (T:="StopIteration") (b:=true) ⟨o,ho,hc⟩ isSubtype_stop ?_);exact zb ⟨rfl,I.turnL (t':=s.toks) (ch:=[e,it]) hf λb o hb q=>he' b o (λz=>hb (by simp[z])) q⟩
 self:=λA i s Q E st h=>by
  obtain⟨⟨old,he⟩,_⟩:=st;exact wpAny_pyIter_enum he h
def Xh(K:Frag)(j:TA):TI:=λσ H R=>j σ H λf b=>∃a,f=[.ref a]/\(∃d,SqL K b a d)/\R (Ite K a) b
def Xi(d:TA):TI:=λσ H R=>d σ H λb f=>∃l,b=[.str (S l)]/\ascii l=true/\R (Gs l) f
def Xj  (h:ascii l=true):strIterType (S l) = "str_ascii_iterator":=by
 unfold strIterType;rw[if_pos];unfold ascii at h;rw[je] at h;simp[S];intro i b;simpa using h i b
def Xk    (F:Gl X "enumerate")(C:X.mg "enumerate" = none)(G:PA X [a] U)(hs:starEach [a] X.env=[(false,eval a X.env)]:=by exact nU rfl):PI X (.Tuple elts x1 tpos) (.Call (.Name "enumerate" p) [a] [] pos) (Xh X.K U):=by
 intro pins s σ H R I h;refine Call_ (j5 I F C boot_enumerate (PyProof.Rows.callWith_type1 (thn (G _ _ s σ H _ I h) λus s1 ⟨vs,H1,I1,r1,q1⟩=>?_) hs));obtain⟨l,e,⟨O,y⟩,q⟩:=q1;subst e;obtain⟨u,rfl,m⟩:=vals1 r1;cases m;obtain⟨J,P,x,Q⟩:=I1.list y
 refine call_enumerate_list x.isList λT j f L E=>wpAny_pyIter_enum j ?_
 refine⟨s1.heap.objs.size+1,[s1.heap.objs.size+1,s1.heap.objs.size],_,_,H1,rfl,I1.kept E,Xf _ _ l (Nat.succ_ne_self _),⟨⟨_,j⟩,f⟩,λb d=>?_,q⟩
 have hb':s1.heap.objs.size<=b:=by
  rcases zk.mp d with rfl | d
  ·exact Nat.le_succ _
  ·rw[zj.mp d];exact zc _
 exact I1.fpOk hb' (I1.hok.fresh hb')
def Xl    (C:Gl X "enumerate")(m:X.mg "enumerate" = none)(E:PA X [a] J)(hs:starEach [a] X.env=[(false,eval a X.env)]:=by exact nU rfl):PI X (.Tuple elts x1 tpos) (.Call (.Name "enumerate" p) [a] [] pos) (Xi J):=by
 intro pins s σ H R I h;refine Call_ (j5 I C m boot_enumerate (PyProof.Rows.callWith_type1 (thn (E _ _ s σ H _ I h) λus s1 ⟨vs,H1,I1,r1,q1⟩=>?_) hs));obtain⟨l,e,x,q⟩:=q1;subst e;obtain⟨u,rfl,t,rfl⟩:=vals1 r1
 refine call_enumerate_str λG j d F y=>wpAny_pyIter_enum j ?_
 rw[Xj x] at d;refine⟨s1.heap.objs.size+1,[s1.heap.objs.size+1,s1.heap.objs.size],_,_,H1,rfl,I1.kept y,Xg _ _ l t (Nat.succ_ne_self _),⟨⟨_,j⟩,d⟩,λb f=>?_,q⟩
 have hb':s1.heap.objs.size<=b:=by
  rcases zk.mp f with rfl | f
  ·exact Nat.le_succ _
  ·rw[zj.mp f];exact zc _
 exact I1.fpOk hb' (I1.hok.fresh hb')
def rW(K:Frag)(P:Pt):RR:=λ_ H F b v d=>Rp K F b v d\/∃a f j,v=.ref a/\d=.lst j/\H a=some (.lst f)/\a∉b/\P a/\Rps K F b f j
def WE(X:Cx)(md:List Md)(P:Pt)(e:Expr)(m:M D):Prop:=PE X e (tM X.K X.mg md P (rW X.K P) m)
def Xm   (h:VE X md P e m):WE X md P e m:=h.imp λσ H Q q=>by
 obtain⟨ρ,O,F,j,d,u,r,s,e,k⟩:=q;exact⟨ρ,O,F,j,d,u,r,s,e,λv x y C g b f=>k v x y _ g b (.inl f)⟩
def Xn{X:Cx}{P:Pt}(i:Nat){x:Str}{b:Pos}(m:md[i]?=some .s:=by rfl)(hN:X.N[i]?=some x:=by rfl)(j:Vis X.env.scope x:=by first | exact Or.inl rfl | exact Or.inr (Or.inl rfl) | exact Or.inr (Or.inr rfl))
  (hd:(x == ("__debug__":Str))=false:=by decide) (f:(x == ("__classdict__":Str))=false:=by decide):WE X md P (.Name x b) (aa i):=by
 refine(iu hN j hd f).imp λσ H Q h=>?_
 obtain⟨ρ,O,F,u,d,y,r,s,e,k⟩:=h;obtain⟨q,rfl⟩:=tH e;obtain⟨v,h2,h3⟩:=s.sl i .s d m q;exact⟨v,h2,k v H F u Gr.refl r h3⟩
def Gu{K:Frag}       (hv:rW K P N H F y v (.lst ds)):
  ∃a xs,v=.ref a/\Rps K F y xs ds/\∀(d f:Hp) (b:List Addr),GrS P H F y d f b->(∃O,RlO K mg O d f b)->RdK K d a xs:=by
 rcases hv with hv | ⟨a,xs,x,rfl,e,u,q,m,j⟩
 ·obtain⟨a,xs,rfl,h1,h2⟩:=hv.unL;exact⟨a,xs,rfl,h2,λd f b g ⟨O,r⟩=>(h1.mono g.ff).mono r.fh⟩
 ·cases e;exact⟨a,xs,rfl,j,λd f b g _=>.inl (.inl (g.fr _ _ m u q rfl))⟩
theorem Xo   (h:WE X md P e m):VI X md P tg e (tQ m):=(v8 h).imp λσ H Q q=>by
 obtain⟨ρ,O,F,E,I,L,r,s,e,k⟩:=q;obtain⟨d,J,C,e⟩:=Res.bind_ok e
 cases d with
 |lst  =>
  cases e;refine⟨ρ,_,F,E,_,_,r,s,C,λv f j G y b x=>?_⟩;obtain⟨a,u,rfl,h1,h2⟩:=Gu x;exact⟨a,rfl,⟨u,(h2 f j _ GrS.refl ⟨_,b⟩).sq⟩,k _ f j _ y b (Xe h1 h2)⟩
 | _=>cases e
theorem Gv   (h:VE X md P e m):VI X md P tg e (xD m):=(QW h).imp λσ H Q q=>by
 obtain⟨ρ,O,F,W,Y,O',r,s,e,k⟩:=q;obtain⟨d,Z,U,e⟩:=Res.bind_ok e
 cases d with
 |tup  =>
  cases e;refine⟨ρ,_,F,W,_,_,r,s,U,λv G I J T L R=>?_⟩;obtain⟨a,u,rfl,h1,h2⟩:=Rp.unT R
  have E:∀(f j ) (b ),GrS P G I J f j b->(∃O,RlO X.K X.mg O f j b)->SqT _ f a u:=λf j b g ⟨O,r⟩=>Same.seqT r.fh (Same.seqT g.ff h1)
  refine⟨a,rfl,⟨u,E G I _ GrS.refl ⟨_,L⟩⟩,k _ G I _ T L ⟨λi d f j b g r e=>?_,λf j b g r=>⟨u,E f j _ g r,by rw[h2.length];exact zc _⟩⟩⟩;obtain⟨x,h3,h4⟩:=h2.get' e;have q:=E f j _ g r;refine⟨⟨u,x,q,h3⟩,λy H3 C=>?_⟩;obtain⟨rfl,C⟩:=C
  have:=C u q
  rw[h3] at this;cases this;exact⟨j,Gr.refl,λ_ r=>r,h4.grS g⟩
 | _=>cases e
def cB(l:List Nat):List D:=l.map λc=>.str [c]
def xE(m:M D):M (List D):=λρ O=>(m ρ O).bind λd b=>match d with
 | .str l=>if ascii l=true then .ok (cB l) b else .no
 | _=>.no
def xF{K:Frag}      (h1:∀(i:Nat) (d:D) (b:Hp),ds[i]?=some d->J.go i b/\∀x f,J.yld i b x f->f=b/\∀K F j,Rp K F j x d)(h2:∀b,J.stop ds.length b):lZ K mg P J ds H F j :=
 ⟨λi d b m q _ _ e=>⟨(h1 i d b e).1,λx f y=>by
  obtain⟨rfl,hx⟩:=(h1 i d b e).2 x f y
  exact⟨m,Gr.refl,λ_ r=>r,hx _ _ _⟩⟩,λb _ _ _ _=>h2 b⟩
theorem Gw   (h:SE X md P e m):VI X md P tg e (xE m):=(Uy h).imp λσ H Q q=>by
 obtain⟨ρ,O,F,G,T,Y,r,s,e,k⟩:=q;obtain⟨d,W,b,e⟩:=Res.bind_ok e
 cases d with
 |str l =>
  dsimp  at e
  split at e
  ·rename_i C;cases e;refine⟨ρ,_,F,G,_,_,r,s,b,λv J L R E j u=>?_⟩;refine⟨l,(Sv.rp u rfl).unS,C,k _ J L _ E j (xF (λi d I e=>?_) λI=>by simp[cB,Its])⟩;unfold cB at e;rw[zF] at e
   cases q:l[i]? with
   |none=>rw[q] at e;cases e
   |some c =>
    rw[q] at e;cases e;refine⟨(zu.mp q).1,λx Z y=>?_⟩;obtain⟨b,U,f,rfl⟩:=y;rw[q] at f;cases f;exact⟨b,λ_ _ _=>Rp.str⟩
  ·cases e
 | _=>cases e
def gq(lo:Int)(n:Nat):List D:=(List.range n).map λ(k:Nat)=>.int (lo+(k:Int))
def fZ(m:M (List D)):M (List D):=λρ O=>(m ρ O).bind λb d=>match b with
 | [.int j]=>if j<=1000000000/\-1000000000<=j then .ok (gq 0 j.toNat) d else .no
 | _=>.no
def Xp{K:Frag}  {lo:Int}   :lZ K mg P (Itr lo n) (gq lo n) H F q:=xF (λi d j e=>by
 unfold gq at e;rw[zF] at e
 by_cases b:i<n
 ·rw[List.getElem?_range b] at e;cases e;refine⟨b,λx m y=>?_⟩;obtain⟨f,rfl⟩:=y;exact⟨f,λ_ _ _=>Rp.int⟩
 ·rw[jp (by simpa using b)] at e
  cases e) λj=>by simp[gq,Itr]
def bQ.one{K:Frag}{H F:Hp}{b:List Addr}{m:Md}{vs:List V}{d:D}(h:bQ K H F b [m] vs [d]):∃v,vs=[v]/\rA K m (λ_=>True) H F b v d:=by
 cases vs with
 |nil=>exact h.elim
 |cons v vs =>
  cases vs with
  |nil=>exact⟨v,rfl,h.1⟩
  |cons =>exact h.2.elim
def bQ.two{K:Frag}{H F:Hp}{b:List Addr}{m n:Md}{vs:List V}{d e:D}(h:bQ K H F b [m,n] vs [d,e]):∃v u,vs=[v,u]/\rA K m (λ_=>True) H F b v d/\rA K n (λ_=>True) H F b u e:=by
 cases vs with
 |nil=>exact h.elim
 |cons v vs =>
  cases vs with
  |nil=>exact h.2.elim
  |cons u us =>
   cases us with
   |nil=>exact⟨v,u,rfl,h.1,h.2.1⟩
   |cons w f=>exact h.2.2.elim
def Xq{f:Expr}{p b:Pos}  (y:X.mg "range" = none)(E:AE X md P [.s] [a] m)(C:Gl X "range":=by rfl)(hs:starEach [a] X.env=[(false,eval a X.env)]:=by exact nU rfl):VI X md P f (.Call (.Name "range" p) [a] [] b) (fZ m):=(Q0 C y E hs).imp λσ H Q q=>by
 obtain⟨ρ,O,F,J,Y,O',r,s,e,k⟩:=q;obtain⟨W,Z,I,e⟩:=Res.bind_ok e;split at e
 ·rename_i j;split at e
  ·cases e;refine⟨ρ,_,F,J,_,_,r,s,I,λU L R T G u x=>?_⟩;obtain⟨v,rfl,d⟩:=x.one
   have:=(Sv.rp d rfl).unI
   subst this;exact⟨j,rfl,by omega,by omega,k _ L R _ G u Xp⟩
  ·cases e
 ·cases e
def cV:Nat->List D->List D
 | _,[]=>[]
 |k,d::ds=>.tup [.int k,d]::cV (k+1) ds
theorem tU:∀(k:Nat) (ds:List D),(cV k ds).length=ds.length
 | _,[]=>rfl
 |k,d::ds=>by simp[cV,tU ]
theorem tV:∀(k:Nat) (ds:List D) (i:Nat),(cV k ds)[i]?=(ds[i]?).map λd=>.tup [.int ((k+i:Nat):Int),d]
 |k,[],i=>by simp[cV]
 |k,d::ds,0=>by simp[cV]
 |k,d::ds,i+1=>by
  rw[cV,jf,tV ];congr 1
  funext d
  congr 3;omega
def Gx{K:Frag}       (x:∃O,RlO K mg O F E C)(d:F T=none)(hx:Rps K E C xs ds):
  ∃j,Gr F E C (upd F T (.tup xs)) j C/\(∀O,RlO K mg O F E C->RlO K mg O (upd F T (.tup xs)) j C)/\Rp K j C (.ref T) (.tup ds):=by
 obtain⟨O,r⟩:=x;have f:=r.frF d
 have ff:Same E (upd E T (.tup xs)):=λb u q=>by rw[aG (bV q f)];exact q
 exact⟨upd E T _,(Gr.lay d).frz d f,λy m=>(m.lay d).frz bC f (λz=>m.all z d) rfl,Rp.mkT (.inl bC) (Rps.mono ff (λ_ _ z=>z) _ hx)⟩
def Gy(m:M D):M (List D):=λρ O=>(m ρ O).bind λd b=>match d with
 | .lst ds=>.ok (cV 0 ds) b
 | _=>.no
def Gz(m:M D):M (List D):=λρ O=>(m ρ O).bind λd b=>match d with
 | .str l=>if ascii l=true then .ok (cV 0 (cB l)) b else .no
 | _=>.no
def Xr{elts:List Expr}{W:Nat}{b:Pos}  {p C:Pos}  (hm:X.mg "enumerate" = none)(h:WE X md P a m)(hg:Gl X "enumerate":=by rfl)(hs:starEach [a] X.env=[(false,eval a X.env)]:=by exact nU rfl)(G:starEach [a] X.env=(false,eval a X.env)::starEach [] X.env:=by exact bY rfl):
  VI X md P (.Tuple elts W b) (.Call (.Name "enumerate" p) [a] [] C) (Gy m):=(Xk hg hm (fJ h gj G) hs).imp λσ H Q q=>by
 obtain⟨ρ,O,F,as,ds,O',r,s,e,k⟩:=q;obtain⟨d,O1,e1,e⟩:=Res.bind_ok e
 cases d with
 |lst es =>
  cases e;refine⟨ρ,_,F,as,_,_,r,s,e1,λv R U as1 g1 J Z=>?_⟩;obtain⟨a,f,rfl,h1,h2⟩:=Gu Z;refine⟨a,rfl,⟨f,(h2 R U _ GrS.refl ⟨_,J⟩).sq⟩,k _ R U _ g1 J ⟨λi d j u I g r e=>?_,λj u I g r=>⟨f,(h2 j u _ g r).sq,by rw[tU,h1.length];exact zc _⟩⟩⟩;rw[tV] at e
  cases q:es[i]? with
  |none=>rw[q] at e;cases e
  |some y =>
   rw[q] at e;cases e;obtain⟨x,h3,h4⟩:=h1.get' q;have L:=h2 j u _ g r;refine⟨⟨f,x,L.sq,h3⟩,λz H3 Y=>?_⟩;obtain⟨T,x',rfl,hT,rfl,E⟩:=Y
   have:=E f L.sq
   rw[h3] at this;cases this;rw[jk];exact Gx r hT (Rps.cons Rp.int (Rps.cons (h4.grS g) Rps.nil))
 | _=>cases e
def Xu{elts:List Expr}{y:Nat}{f:Pos}  {p j:Pos}  (I:X.mg "enumerate" = none)(h:SE X md P a m)(L:Gl X "enumerate":=by rfl)(hs:starEach [a] X.env=[(false,eval a X.env)]:=by exact nU rfl)(u:starEach [a] X.env=(false,eval a X.env)::starEach [] X.env:=by exact bY rfl):
  VI X md P (.Tuple elts y f) (.Call (.Name "enumerate" p) [a] [] j) (Gz m):=(Xl L I (fJ h gj u) hs).imp λσ H Q q=>by
 obtain⟨ρ,O,F,Y,ds,O',r,s,e,k⟩:=q;obtain⟨d,O1,W,e⟩:=Res.bind_ok e
 cases d with
 |str l =>
  dsimp  at e
  split at e
  ·rename_i J;cases e;refine⟨ρ,_,F,Y,_,_,r,s,W,λv H1 F1 as1 U C G=>?_⟩;refine⟨l,by rw[(Sv.rp G rfl).unS],J,k _ H1 F1 _ U C ⟨λi d Z F2 x g r e=>?_,λZ F2 x g r=>?_⟩⟩
   ·rw[tV] at e;unfold cB at e;rw[zF] at e
    cases q:l[i]? with
    |none=>rw[q] at e;cases e
    |some c =>
     rw[q] at e;cases e;refine⟨(zu.mp q).1,λz H3 E=>?_⟩;obtain⟨T,c',rfl,R,rfl,b⟩:=E;rw[q] at b;cases b;rw[jk];exact Gx r R (Rps.cons Rp.int (Rps.cons Rp.str Rps.nil))
   ·show l.length<=_;rw[tU];simp[cB]
  ·cases e
 | _=>cases e
def gw:List D->Option (List (List Nat))
 | []=>some []
 | .str l::ds=>(gw ds).map (l :: ·)
 | _=>none
theorem Rps.strs{K:Frag}{F:Hp}{f:List Addr}:∀{ds:List D}{xs:List V}{ls:List (List Nat)},Rps K F f xs ds->gw ds=some ls->xs=ls.map λl=>V.str (S l)
 | [],xs,bs,h,e=>by cases e;rw[h.un0];rfl
 |d::ds,xs,bs,h,e=>by
  obtain⟨x,r,rfl,h2,h3⟩:=h.un
  cases d with
  |str b =>
   unfold gw at e
   cases q:gw ds with
   |none=>rw[q] at e;cases e
   |some cs =>
    rw[q] at e;cases e;rw[h2.unS,Rps.strs h3 q];rfl
  | _=>cases e
def mq(m:M D):M D:=λρ O=>(m ρ O).bind λd b=>match aY b d with
 | .lst ds=>match gw ds with
  |some ls=>if(ls.map List.length).sum<=1000000 then .ok (.str ls.flatten) b else .no
  |none=>.no
 | _=>.no
def Xv  {j:Nat}{p apos b:Pos}  (h:SE X md P e m)  (hx:x=S []:=by decide +kernel)
  (C:((backTo b (starEach [e] X.env)).all (λx=>!x.1)&&(backToKw b (keywordEach [] X.env)).all (λx=>x.1.isSome)&&decide ([e].length+([]:List Keyword).length+(if([]:List Keyword).isEmpty then 0 else 1)<30))=true:=by rfl)
  (f:(apos.endLine == b.line)=true:=by rfl) (hs:starEach [e] X.env=(false,eval e X.env)::starEach [] X.env:=by exact bY rfl) (u:attributeBase (.Constant (.str x) j p) "join" X.env (eval (.Constant (.str x) j p) X.env)=eval (.Constant (.str x) j p) X.env:=by rfl) (E:(backTo b (starEach [] X.env)).any (·.1)=false:=by exact cP rfl):
  OE X md P (.Call (.Attribute (.Constant (.str x) j p) "join" apos) [e] [] b) (mq m):=
 (lW PySem.F.plainAttrs_str PySem.F.slot_str_join PySem.F.type_str_join (U6 _) CQ (fJ h gj hs) u C f hs).imp λσ H Q q=>by
  obtain⟨ρ,O,F,T,d,O',r,s,e,k⟩:=q;obtain⟨y,U,R,e⟩:=Res.bind_ok e
  cases ed:aY U y with
  |lst ds =>
   rw[ed] at e
   dsimp  at e
   cases es:gw ds with
   |none=>rw[es] at e;cases e
   |some ls =>
    rw[es] at e
    dsimp  at e
    split at e
    ·rename_i I;cases e;refine⟨rfl,ρ,_,F,T,_,_,r,s,R,λv W Y Z L G J=>?_⟩;have q:=Sv.lk J G;rw[ed] at q;obtain⟨a,xs,rfl,h1,h2⟩:=q.list G.fh;refine⟨a,ls,by rw[hx],rfl,?_,I,k _ W Y _ L G (.inl ⟨rfl,Rp.str⟩)⟩;rw[<-h2.strs es];exact h1.sq
    ·cases e
  | _=>rw[ed] at e;cases e
noncomputable def tW(mo m:M D):M D:=λρ O=>(mo ρ O).bind λa f=>(m ρ f).bind λb d=>match a,b with
 | .str l,.str n=>.ok (.bl (decide (l.take n.length=n))) d
 | _,_=>.no
def Xw  {apos f:Pos}  (U:VE X md P o mo)(h:VE X md P e m)
  (y:attributeBase o "startswith" X.env (eval o X.env)=eval o X.env:=by rfl)
  (C:((backTo f (starEach [e] X.env)).all (λx=>!x.1)&&(backToKw f (keywordEach [] X.env)).all (λx=>x.1.isSome)&&decide ([e].length+([]:List Keyword).length+(if([]:List Keyword).isEmpty then 0 else 1)<30))=true:=by rfl)
  (j:(apos.endLine == f.line)=true:=by rfl) (hs:starEach [e] X.env=(false,eval e X.env)::starEach [] X.env:=by exact bY rfl) (E:(backTo f (starEach [] X.env)).any (·.1)=false:=by exact cP rfl):
  OE X md P (.Call (.Attribute o "startswith" apos) [e] [] f) (tW mo m):=
 (lW PySem.F.plainAttrs_str PySem.F.slot_str_startswith PySem.F.type_str_startswith Vb U (fJ h gj hs) y C j hs).imp λσ H Q q=>by
  obtain⟨ρ,O,F,as,d,O',r,s,e,k⟩:=q;obtain⟨a,O1,Z,e⟩:=Res.bind_ok e;obtain⟨b,O2,Y,e⟩:=Res.bind_ok e;split at e
  ·cases e;refine⟨ρ,_,F,as,_,_,r,s,Z,λv H1 F1 G I L R=>?_⟩;cases Rp.unS R;refine⟨rfl,ρ,_,F1,G,_,_,L,s.step I,Y,λu H2 F2 as2 W J T=>?_⟩;cases Rp.unS T;exact⟨_,_,rfl,rfl,k _ H2 F2 _ (I.trans W) J (.inl ⟨rfl,Rp.bl⟩)⟩
  ·cases e
def SlO.own{K:Frag}{i:Nat}(s:SlO K md P ρ σ H F C)(d:md[i]?=some .o)(b:ρ[i]?=some (some (.lst ds))):∃a xs,σ[i]?=some (some (.ref a))/\H a=some (.lst xs)/\F a=none/\a∉C/\¬P a/\Rps K F C xs ds:=by
 obtain⟨v,h1,h2⟩:=s.sl i .o _ d b
 rcases h2 with⟨h2,_⟩ | ⟨a,xs,y,rfl,u,q,x,m,j,f⟩
 ·cases h2
 ·cases u;exact⟨a,xs,h1,q,x,m,j,f⟩
def SlO.mut{K:Frag}(s:SlO K md P ρ σ H F as)(O:md[i]?=some .o)(G:ρ[i]?=some (some (.lst ds)))(E:σ[i]?=some (some (.ref a)))(hF:F a=none)(ha:a∉as)(hP:¬P a)(r:Rps K F as xs' ds'):SlO K md P (ρ.set i (some (.lst ds'))) σ (upd H a (.lst xs')) F as:=by
 have hi:i<md.length:=(zu.mp O).1;refine⟨s.len,by rw[zY];exact s.len',λc p=>?_,λj m d Q C=>?_,λj k c b fs h1 h2 h3 h4 h5 h6=>?_,λx hx=>?_⟩
 ·have:=s.pd c p
  unfold upd
  split
  ·exact λz=>nomatch z
  ·exact this
 ·by_cases h:i=j
  ·subst h;rw[O] at Q;cases Q;rw[zS (by rw[s.len'];exact hi)] at C;cases C;exact⟨_,E,.inr ⟨a,xs',ds',rfl,rfl,bC,hF,ha,hP,r⟩⟩
  ·rw[zh h] at C;obtain⟨v,q1,u⟩:=s.sl j m d Q C;refine⟨v,q1,?_⟩
   cases m with
   |v=>exact u
   |s =>
    rcases u with u | ⟨c,W,b,L,J,U,T,I,R⟩
    ·exact .inl u
    ·exact .inr ⟨c,W,b,L,J,by rw[aG (λz=>hP (by rw[<-z];exact I))];exact U,T,I,R⟩
   |o =>
    rcases u with u | ⟨c,W,b,L,J,U,z0,T,I,R⟩
    ·exact .inl u
    ·refine .inr ⟨c,W,b,L,J,?_,z0,T,I,R⟩;rw[aG]
     ·exact U
     ·intro z;subst z L J;exact h (s.inj i j c ds b O Q G C E q1)
 ·have f:∀k b,(ρ.set i (some (.lst ds')))[k]?=some (some (D.lst b))->∃y,ρ[k]?=some (some (D.lst y)):=λk b q=>by
   by_cases h:i=k
   ·subst h;exact⟨ds,G⟩
   ·rw[zh h] at q;exact⟨b,q⟩
  obtain⟨y,q3⟩:=f j b h3;obtain⟨Z,q4⟩:=f k fs h4;exact s.inj j k c y Z h1 h2 q3 q4 h5 h6
 ·obtain⟨X,p2,p3⟩:=s.pin x hx
  have Y:i≠x.1:=λz=>by rw[<-z,O] at X;cases X
  exact⟨X,by rw[zh Y];exact p2,p3⟩
def qj  (d:H a=some (.lst xs))(b:¬P a) :GrS P H F j (upd H a o) F j :=
 ⟨λ_ _ _ _ _ _=>rfl,Same.refl F,⟨[],by simp⟩,λc u p e _ _=>by rw[aG λz=>b (by rw[<-z];exact p)];exact e,λc e=>by
  by_cases h:c=a
  ·subst h;rw[bC] at e;cases e
  ·rwa [aG h] at e,λc f u e=>by rw[aG λz=>by rw[z,d] at e;cases e];exact e⟩
def RlO.mut{K:Frag}(r:RlO K mg O H F m)(j:F a=none)(f:a∉m) :RlO K mg O (upd H a o) F m:=by
 refine⟨λc u e=>?_,r.fd,r.nd,r.len,r.fa,λn c u b d=>(r.ob n c u b d).keep (aG ?_) (Same.refl F) λ_ _ h=>h⟩
 ·rw[aG (bV e j)];exact r.fh c u e
 ·intro z;subst z;exact f (zL b)
section
variable {X:Cx}{md:List Md}{P:Pt}{R:RR}
noncomputable def cW(i:Nat)(m:M D):MS:=λρ O=>match m ρ O with
 | .ok d O'=>match ρ[i]? with
  |some (some (.lst ds))=>if ds.length<1000000 then .nx (ρ.set i (some (.lst (ds++[d])))) O' else .no
  | _=>.no
 | .ex x O'=>.ex x O'
 | .no=>.no
def Xx     (K:Frag)(mg:Str->Option Value){D:Ends}   (k:jB K mg md P R D H F j (cW i m ρ O)):
  ∃d O' ds,m ρ O=.ok d O'/\ρ[i]?=some (some (.lst ds))/\ds.length<1000000/\jB K mg md P R D H F j (.nx (ρ.set i (some (.lst (ds++[d])))) O'):=by
 unfold cW at k;split at k
 ·rename_i d O' e;split at k
  ·rename_i ds f;split at k
   ·rename_i b;exact⟨d,O',ds,e,f,b,k⟩
   ·exact False.elim k
  ·exact False.elim k
 ·exact False.elim k
 ·exact False.elim k
def Xy{R:RR}(i:Nat){x:Str}{p apos b C:Pos}   (h:VE X md P e m)(U:md[i]?=some .o:=by rfl)(hN:X.N[i]?=some x:=by rfl)(hv:Vis X.env.scope x:=by first | exact Or.inl rfl | exact Or.inr (Or.inl rfl) | exact Or.inr (Or.inr rfl))
  (hd:(x == ("__debug__":Str))=false:=by decide) (I:(x == ("__classdict__":Str))=false:=by decide)
  (j:attributeBase (.Name x p) "append" X.env (eval (.Name x p) X.env)=eval (.Name x p) X.env:=by rfl)
  (E:((backTo b (starEach [e] X.env)).all (λx=>!x.1)&&(backToKw b (keywordEach [] X.env)).all (λx=>x.1.isSome)&&decide ([e].length+([]:List Keyword).length+(if([]:List Keyword).isEmpty then 0 else 1)<30))=true:=by rfl)
  (f:(apos.endLine == b.line)=true:=by rfl) (hs:starEach [e] X.env=(false,eval e X.env)::starEach [] X.env:=by exact bY rfl) (G:(backTo b (starEach [] X.env)).any (·.1)=false:=by exact cP rfl)
  (hsw:swapsWith (.Call (.Attribute (.Name x p) "append" apos) [e] [] b) none C.line X.env=pure false:=by rfl):
  VS X md P R (.Expr (.Call (.Attribute (.Name x p) "append" apos) [e] [] b) C) (cW i m):=
 (j6 (lW PySem.F.plainAttrs_list PySem.F.slot_list_append PySem.F.type_list_append Eh (iu hN hv hd I) (fJ h gj hs) j E f hs)).imp λD σ H q=>by
  obtain⟨ρ,O,F,as,r,s,k⟩:=q;obtain⟨d,O',ds,e,Z,hz,k⟩:=Xx _ _ k;obtain⟨a,J,h1,h2,h3,h4,Y,W⟩:=s.own U Z;refine⟨_,h1,.inl ⟨rfl,J,.inl (.inl h2)⟩,ρ,O,F,as,d,O',r,s,e,λy H1 F1 as1 u r1 hy=>?_⟩;have s1:=s.step u
  have hn:H a≠none:=by rw[h2];exact λz=>nomatch z
  have T:=u.fr _ _ h2 h4 rfl
  have Q:F1 a=none:=by rw[u.fz a _ h2 h4 rfl];exact h3
  have L:=u.out h4 hn;exact⟨a,J,y,rfl,rfl,T,by rw[W.length];exact zH hz (by decide),k σ _ F1 _ (u.toS.trans (qj T Y)) (r1.mut Q L) (s1.mut U Z h1 Q L Y ((W.gr u).snoc hy))⟩
def Xz(K:Frag):V->List V->Hp->VK->Prop:=λx j H Q=>∃l b f d,x=.ref l/\j=[.ref b]/\H l=some (.lst f)/\RdK K H b d/\f.length+d.length<=sizeLine/\Q .non (upd H l (.lst (f++d)))
def GC:MtM X "list.extend" (Xz X.K):=by
 intro pins s σ H x vs v us Q I E G h;obtain⟨l,b,Z,W,rfl,rfl,C,O,hz,q⟩:=h;cases E;obtain⟨u,rfl,J⟩:=G.one;cases J;obtain⟨z,f,n,r,hl,e⟩:=I.lstM C;obtain⟨Y,d,L,y,T⟩:=O.ok I;have U:=y.length
 have m:f.toArray.size+d.toArray.size<=sizeLine:=by rw[zG,zG];omega
 have j:¬(!f.toArray.isEmpty&&Builtin.List.listTooLong (f.toArray.size+d.toArray.size))=true:=by
  rw[Eg m,Bool.and_false];exact zx
 refine call_meets F.slot_list_extend ⟨_,e,rfl⟩ F.entry_list_extend (F.args_list_extend_2 _ _)
  (AutoSeq1.list_extend_list_list_0 l _ n b _ L j (by omega)) ⟨e,T,?_⟩
 refine⟨.non,_,I.lset C e (by simp) (r.append y) ?_,rfl,q⟩;rw[ze];omega
def gC(i:Nat)(m:M D):MS:=λρ O=>match m ρ O with
 | .ok d O'=>match ρ[i]?,aY O' d with
  |some (some (.lst ds)),.lst es=>if ds.length+es.length<=1000000 then .nx (ρ.set i (some (.lst (ds++es)))) O' else .no
  | _,_=>.no
 | .ex x O'=>.ex x O'
 | .no=>.no
def XC     (K:Frag)(mg:Str->Option Value){D:Ends}   (k:jB K mg md P R D H F q (gC i m ρ O)):
  ∃d O' ds es,m ρ O=.ok d O'/\ρ[i]?=some (some (.lst ds))/\aY O' d=.lst es/\ds.length+es.length<=1000000/\jB K mg md P R D H F q (.nx (ρ.set i (some (.lst (ds++es)))) O'):=by
 unfold gC at k;split at k
 ·rename_i d O' e;split at k
  ·rename_i ds es j f;split at k
   ·rename_i b;exact⟨d,O',ds,es,e,j,f,b,k⟩
   ·exact False.elim k
  ·exact False.elim k
 ·exact False.elim k
 ·exact False.elim k
def XD{R:RR}(i:Nat){x:Str}{p apos f E:Pos}   (h:SE X md P e m)(hm:md[i]?=some .o:=by rfl)(hN:X.N[i]?=some x:=by rfl)(hv:Vis X.env.scope x:=by first | exact Or.inl rfl | exact Or.inr (Or.inl rfl) | exact Or.inr (Or.inr rfl))
  (hd:(x == ("__debug__":Str))=false:=by decide) (L:(x == ("__classdict__":Str))=false:=by decide)
  (u:attributeBase (.Name x p) "extend" X.env (eval (.Name x p) X.env)=eval (.Name x p) X.env:=by rfl)
  (G:((backTo f (starEach [e] X.env)).all (λx=>!x.1)&&(backToKw f (keywordEach [] X.env)).all (λx=>x.1.isSome)&&decide ([e].length+([]:List Keyword).length+(if([]:List Keyword).isEmpty then 0 else 1)<30))=true:=by rfl)
  (j:(apos.endLine == f.line)=true:=by rfl) (hs:starEach [e] X.env=(false,eval e X.env)::starEach [] X.env:=by exact bY rfl) (I:(backTo f (starEach [] X.env)).any (·.1)=false:=by exact cP rfl)
  (hsw:swapsWith (.Call (.Attribute (.Name x p) "extend" apos) [e] [] f) none E.line X.env=pure false:=by rfl):
  VS X md P R (.Expr (.Call (.Attribute (.Name x p) "extend" apos) [e] [] f) E) (gC i m):=
 (j6 (lW PySem.F.plainAttrs_list PySem.F.slot_list_extend PySem.F.type_list_extend GC (iu hN hv hd L) (fJ h gj hs) u G j hs)).imp λD σ H q=>by
  obtain⟨ρ,O,F,as,r,s,k⟩:=q;obtain⟨d,O',ds,es,e,e2,e3,hz,k⟩:=XC _ _ k;obtain⟨a,Q,h1,h2,h3,h4,h5,h6⟩:=s.own hm e2;refine⟨_,h1,.inl ⟨rfl,Q,.inl (.inl h2)⟩,ρ,O,F,as,d,O',r,s,e,λy H1 F1 as1 C J hy=>?_⟩;have s1:=s.step C
  have hn:H a≠none:=by rw[h2];exact λz=>nomatch z
  have Y:=C.fr _ _ h2 h4 rfl
  have W:F1 a=none:=by rw[C.fz a _ h2 h4 rfl];exact h3
  have U:=C.out h4 hn;have Z:=Sv.lk hy J;rw[e3] at Z;obtain⟨b,zs,rfl,w1,T⟩:=Z.list J.fh;exact⟨a,b,Q,zs,rfl,rfl,Y,w1,by rw[h6.length,T.length];exact d7 hz,k σ _ F1 _ (C.toS.trans (qj Y h5)) (J.mut W U) (s1.mut hm e2 h1 W U h5 (Rps.append T (h6.gr C)))⟩
noncomputable def tX(i:Nat):MS:=λρ O=>match ρ[i]? with
 |some (some (.lst _))=>.nx (ρ.set i (some (.lst []))) O
 | _=>.no
def XH(i:Nat){x:Str}{p apos b j:Pos}(C:md[i]?=some .o:=by rfl)(hN:X.N[i]?=some x:=by rfl)(I:Vis X.env.scope x:=by first | exact Or.inl rfl | exact Or.inr (Or.inl rfl) | exact Or.inr (Or.inr rfl))
  (hd:(x == ("__debug__":Str))=false:=by decide) (u:(x == ("__classdict__":Str))=false:=by decide)
  (f:attributeBase (.Name x p) "clear" X.env (eval (.Name x p) X.env)=eval (.Name x p) X.env:=by rfl) (d:(apos.endLine == b.line)=true:=by rfl)
  (m:swapsWith (.Call (.Attribute (.Name x p) "clear" apos) [] [] b) none j.line X.env=pure false:=by rfl):
  VS X md P R (.Expr (.Call (.Attribute (.Name x p) "clear" apos) [] [] b) j) (tX i):=
 (j6 (wJ PySem.F.plainAttrs_list PySem.F.slot_list_clear PySem.F.type_list_clear Ei (iu (i:=i) hN I hd u) f d) m).imp λD σ H q=>by
  obtain⟨ρ,O,F,J,r,s,k⟩:=q;unfold tX at k;split at k
  ·rename_i T G;obtain⟨a,y,h1,h2,h3,h4,E,Q⟩:=s.own C G
   have L:H a≠none:=by rw[h2];exact λz=>nomatch z
   exact⟨_,h1,.inl ⟨rfl,y,.inl (.inl h2)⟩,a,y,rfl,rfl,h2,k σ _ F J (qj h2 E) (r.mut h3 h4) (s.mut C G h1 h3 h4 E Rps.nil)⟩
  ·exact False.elim k
def iD(i:Nat)(mi m:M D):MS:=λρ O=>match m ρ O with
 | .ok d O1=>match mi ρ O1 with
  | .ok (.int j) O2=>match ρ[i]? with
   |some (some (.lst ds))=>match ixN ds.length j with
    |some n=>.nx (ρ.set i (some (.lst (ds.set n d)))) O2
    |none=>.no
   | _=>.no
  | _=>.no
 | .ex x O'=>.ex x O'
 | .no=>.no
def XJ{R:RR}(i:Nat){x:Str}{p b apos:Pos}   (h:VE X md P e m)(hi:VE X md P ix mi)(I:md[i]?=some .o:=by rfl)(hN:X.N[i]?=some x:=by rfl)(hv:Vis X.env.scope x:=by first | exact Or.inl rfl | exact Or.inr (Or.inl rfl) | exact Or.inr (Or.inr rfl))
  (hd:(x == ("__debug__":Str))=false:=by decide) (f:(x == ("__classdict__":Str))=false:=by decide)
  (ha:∀v,assign (.Subscript (.Name x p) ix apos) X.env v=(do
   let ov <-holding [v] (eval (.Name x p) X.env)
   let iv <-holding [v,ov] (eval ix X.env)
   standAt apos
   holding [v,ov,iv] (setItem ov iv v)
   release [v,ov,iv] []):=by intro _;rfl)
  (hs:swapsWithSole [.Subscript (.Name x p) ix apos] e b.line X.env=pure false:=by rfl) (hw:swappedStores [.Subscript (.Name x p) ix apos] e X.env=pure none:=by rfl)
  (h1:(assignEach [.Subscript (.Name x p) ix apos] X.env).map (·.2)=[assign (.Subscript (.Name x p) ix apos) X.env]:=by rfl):
  VS X md P R (.Assign [.Subscript (.Name x p) ix apos] e b) (iD i mi m):=
 (De h (QM (iu hN hv hd f) hi set_list ha) hs).imp λD σ H q=>by
  obtain⟨ρ,O,F,as,r,s,k⟩:=q;unfold iD at k;split at k
  ·rename_i d W e1;split at k
   ·rename_i j O2 e2;split at k
    ·rename_i ds U;split at k
     ·rename_i n e4;obtain⟨a,Z,h1,h2,h3,h4,L,J⟩:=s.own I U;refine⟨ρ,O,F,as,d,W,r,s,e1,λy H1 F1 u T r1 hy=>?_⟩;refine⟨_,h1,ρ,W,F1,u,.int j,O2,r1,s.step T,e2,λz H2 Y as2 Q r2 hz=>?_⟩;have g:=T.trans Q
      have hn:H a≠none:=by rw[h2];exact λz=>nomatch z
      have G:=g.fr _ _ h2 h4 rfl
      have E:Y a=none:=by rw[g.fz a _ h2 h4 rfl];exact h3
      have C:=g.out h4 hn;exact⟨a,Z,j,n,rfl,Rp.unI hz,G,by rw[J.length];exact e4,k σ _ Y _ (g.toS.trans (qj G L)) (r2.mut E C) ((s.step g).mut I U h1 E C L ((J.gr g).set n (Rp.gr hy Q)))⟩
     ·exact False.elim k
    ·exact False.elim k
   ·exact False.elim k
  ·exact False.elim k
  ·exact False.elim k
end
def putD(f:Str)(v:D):List (Str×D)->List (Str×D)
 | []=>[(f,v)]
 | (g,x)::r=>if g=f then(g,v)::r else(g,x)::putD f v r
def FsR.cons_inv{K:Frag}     (h:FsR K F as gs ((f,d)::fs)):∃v gs',gs=(f,v)::gs'/\Rp K F as v d/\FsR K F as gs' fs:=by
 obtain⟨h1,h2⟩:=h
 cases gs with
 |nil=>cases h1
 |cons g gs' =>
  obtain⟨j,b⟩:=g;simp only[zg,List.cons.injEq] at h1;obtain⟨x,r,e,h3,h4⟩:=h2.un;simp only[zg,List.cons.injEq] at e;obtain⟨rfl,rfl⟩:=e;exact⟨b,gs',by rw[h1.1],h3,⟨h1.2,h4⟩⟩
def FsR.nil_inv{K:Frag}  (h:FsR K F b gs []):gs=[]:=List.map_eq_nil_iff.mp h.nm
theorem FsR.get{K:Frag}{F:Hp}{b:List Addr}:∀{fs:List (Str×D)}{gs:List (Str×V)}{f:Str}{d:D},FsR K F b gs fs->fs.lookup f=some d->∃v,gs.lookup f=some v/\Rp K F b v d
 | [],_,_,_,_,e=>by cases e
 | (g,x)::fs,gs,f,d,h,e=>by
  obtain⟨v,gs',rfl,h1,h2⟩:=h.cons_inv;rw[List.lookup_cons] at e ⊢
  cases q:f == g with
  |true =>
   rw[q] at e;cases e;exact⟨v,rfl,h1⟩
  |false =>
   rw[q] at e;exact FsR.get h2 e
theorem FsR.no{K:Frag}{F:Hp}{b:List Addr}:∀{fs:List (Str×D)}{gs:List (Str×V)}{f:Str},FsR K F b gs fs->fs.lookup f=none->gs.lookup f=none
 | [],_,_,h,e=>by rw[h.nil_inv];rfl
 | (g,x)::fs,gs,f,h,e=>by
  obtain⟨v,gs',rfl,h1,h2⟩:=h.cons_inv;rw[List.lookup_cons] at e ⊢
  cases q:f == g with
  |true=>rw[q] at e;cases e
  |false =>
   rw[q] at e;exact FsR.no h2 e
theorem FsR.put{K:Frag}    (hv:Rp K F as v d):∀{fs:List (Str×D)}{gs:List (Str×V)},FsR K F as gs fs->FsR K F as (dB f v gs) (putD f d fs)
 | [],_,h=>by
  rw[h.nil_inv];exact⟨rfl,Rps.cons hv Rps.nil⟩
 | (g,x)::fs,gs,h=>by
  obtain⟨u,gs',rfl,h1,h2⟩:=h.cons_inv;rw[dB,putD]
  by_cases q:g=f
  ·rw[if_pos q,if_pos q];exact⟨by simp[h2.nm],Rps.cons hv h2.vl⟩
  ·rw[if_neg q,if_neg q];have b:=FsR.put (f:=f) hv h2;exact⟨by simp[b.nm],Rps.cons h1 b.vl⟩
def FsR.length{K:Frag}   (h:FsR K F b gs fs):gs.length=fs.length:=by
 have:=congrArg List.length h.nm
 simpa using this
def RlO.set{K:Frag}        (r:RlO K mg O H F C)(f:C[n]?=some a)(q:ObR K mg (upd H a u) F C a o):RlO K mg (O.set n o) (upd H a u) F C:=by
 have x:=r.fa a (zL f);refine⟨λc w e=>?_,r.fd,r.nd,by rw[zY];exact r.len,r.fa,λk c w d b=>?_⟩
 ·rw[aG (bV e x)];exact r.fh c w e
 ·by_cases h:n=k
  ·subst h;rw[f] at d;cases d;rw[zS (by rw[<-r.len];exact(zu.mp f).1)] at b;cases b;exact q
  ·rw[zh h] at b
   refine(r.ob k c w d b).keep (aG ?_) (Same.refl F) λ_ _ h=>h
   intro z;subst z;obtain⟨l1,m⟩:=zu.mp f;obtain⟨y,j⟩:=zu.mp d;exact h ((List.getElem_inj r.nd).mp (m.trans j.symm))
def KC(K:Frag)(mg:Str->Option Value)(c f:Str):Prop:=∃C,mg c=some (.ref C)/\Cls K C/\lU K C f
noncomputable def bu(j:List Str)(f:Str)(m:M D):M D:=λρ O=>(m ρ O).bind λd b=>match d with
 | .ob n=>match b[n]? with
  |some (.ins c fs)=>if c∈j then match fs.lookup f with
   |some y=>.ok y b
   |none=>.no else .no
  | _=>.no
 | _=>.no
def XM      (E:∀c∈cs,KC X.K X.mg c f)(h:VE X md P o m)(hb:attributeBase o f X.env (eval o X.env)=eval o X.env:=by rfl):VE X md P (.Attribute o f pos) (bu cs f m):=(RX h hb).imp λσ H Q q=>by
 obtain⟨ρ,O,F,as,d,O',r,s,e,k⟩:=q;obtain⟨x,O1,Y,e⟩:=Res.bind_ok e
 cases x with
 |ob n =>
  dsimp  at e
  split at e
  ·rename_i c fs W;split at e
   ·rename_i b;split at e
    ·rename_i y U;cases e;refine⟨ρ,_,F,as,_,_,r,s,Y,λv H1 F1 as1 T j u=>?_⟩;obtain⟨a,rfl,G⟩:=Rp.unO u;obtain⟨C,Z,gs,h1,h2,h3⟩:=j.ob n a _ G W;obtain⟨C',h4,R,L⟩:=E c b;rw[h1] at h4;cases h4;obtain⟨w,J,I⟩:=h3.get U;exact⟨a,C,Z,gs,w,rfl,h2,R,L,J,k w H1 F1 _ T j I⟩
    ·cases e
   ·cases e
  ·cases e
 | _=>cases e
def bI(j:List Str)(f:Str)(mo b:M D):MS:=λρ O=>match b ρ O with
 | .ok d O1=>match mo ρ O1 with
  | .ok (.ob n) O2=>match O2[n]? with
   |some (.ins c fs)=>if c∈j/\fs.length<900 then .nx ρ (O2.set n (.ins c (putD f d fs))) else .no
   | _=>.no
  | _=>.no
 | .ex x O'=>.ex x O'
 | .no=>.no
def XN      (hc:∀c∈cs,KC X.K X.mg c f)(ho:VE X md P o mo)(hv:VE X md P value mv)(hs:swapsWith value (some (.Attribute o f pos')) pos.line X.env=pure false:=by rfl):VS X md P R (.Assign [.Attribute o f pos'] value pos) (bI cs f mo mv):=(RZ ho hv hs).imp λD σ H q=>by
 obtain⟨ρ,O,F,as,r,s,k⟩:=q;unfold bI at k;split at k
 ·rename_i d W e1;split at k
  ·rename_i n O2 e2;split at k
   ·rename_i c fs eo;split at k
    ·rename_i I;refine⟨ρ,O,F,as,d,W,r,s,e1,λy H1 F1 J U Z hy=>?_⟩;refine⟨ρ,W,F1,J,.ob n,O2,Z,s.step U,e2,λz Y G j T L hz=>?_⟩;have g:=U.trans T;obtain⟨a,rfl,x⟩:=Rp.unO hz;obtain⟨C,E,gs,h1,h2,h3⟩:=L.ob n a _ x eo;obtain⟨C',h4,h5,h6⟩:=hc c I.1;rw[h1] at h4;cases h4;have m:=zL x
     have Q:Gr Y G j (upd Y a (.ins C E (dB f y gs))) G j:=⟨λ_ _ _ _ _=>rfl,Same.refl _,⟨[],by simp⟩,λb u e hb _=>by rw[aG λz=>hb (by rw[z];exact m)];exact e,λb e=>by
      by_cases h:b=a
      ·subst h;rw[bC] at e;cases e
      ·rwa [aG h] at e,λb o' u e=>by rw[aG λz=>by rw[z,h2] at e;cases e];exact e⟩
     refine⟨a,C,E,gs,rfl,h2,h5,h6,by rw[h3.length];omega,?_⟩;exact k σ _ G _ (g.trans Q).toS (L.set x ⟨C,E,_,h1,bC,h3.put (Rp.gr hy T)⟩) ((s.step g).step Q)
    ·exact False.elim k
   ·exact False.elim k
  ·exact False.elim k
 ·exact False.elim k
 ·exact False.elim k
section
variable {Pr:Program}{w:World}{K:Frag}{mg:Str->Option Value}{base:Heap}
def GD{K:Frag}  {st:Stmt}     (Fn:Fun K x qual st f fd)(S:fK N ps (bf st))
  (pm T:List Md)   (hR:dZ R) (J:∀N H F u,R N H F u .non .non) (I:pm.length=ps.length) (Z:(pm++T).length=N.length) (Y:∀m∈pm,m≠.o)
  (body:∀(j:Value) (A:Around) (outer:List Env) (s:Shared) (H:Hp) (E:XK),aZ k (A.deeper (envOfC qual (bf st) s.heap.objs.size f j))->∀P,VSs ((gk CX0 Pr w K mg base N qual (bf st) f j A outer s H E).nox) (pm++T) P R (cM st) b):
  cz Pr w K mg base CX0 (k+1) f fd ps (vSp K mg pm R (aL N.length b)):=by
 refine Fn.ok S (λU H Q E h=>?_) λj A outer s H U Q E X h=>?_
 ·obtain⟨ds,O,F,u,d,O',r,a,_⟩:=h;rw[a.len.1,I]
 ·obtain⟨ds,O,F,u,d,O',r,a,e,q⟩:=h;refine⟨_,body _ A _ s H E X (Pt.all H),?_⟩;refine⟨_,O,F,u,r,xn a Z Y,?_⟩;unfold aL at e
  cases eb:b _ O with
  |rt  =>
   rw[eb] at e;cases e
   exact λv C G L g y W=>q v C G _ g.gr y (hR _ _ _ _ _ _ _ (λc hc=>Classical.not_not.mp hc) W)
  |nx  =>
   rw[eb] at e;cases e
   exact λσ' C G L g y _=>q _ C G _ g.gr y (J _ _ _ _)
  | bk
  | ct
  | ex
  |no=>rw[eb] at e;cases e
def cJ(K:Frag)(mg:Str->Option Value)(c m qual:Str)(st:Stmt):Prop:=∃C f fd,mg c=some (.ref C)/\Cls K C/\nO K C m f/\Fun K m qual st f fd
inductive iG (P:Program) (w:World) (K:Frag) (mg:Str->Option Value) (base:Heap) (c m:Str) (ps:List Str) (k:Nat) (sp:Sp):Prop
 | mk:∀C f fd,mg c=some (.ref C)->Cls K C->nO K C m f->Binds K fd ps []->cz P w K mg base CX0 k f fd ps sp->iG P w K mg base c m ps k sp
inductive ou (P:Program) (w:World) (K:Frag) (mg:Str->Option Value) (base:Heap) (c:Str) (ps:List Str) (k:Nat) (sp:Sp):Prop
 | mk:∀C f fd,mg c=some (.ref C)->Mk K C f->Binds K fd ps []->cz P w K mg base CX0 k f fd ps sp->ou P w K mg base c ps k sp
def oA(K:Frag)(mg:Str->Option Value)(c qual:Str)(st:Stmt):Prop:=∃C f fd,mg c=some (.ref C)/\Mk K C f/\Fun K "__init__" qual st f fd
def XQ{Pr:Program}{w:World}{K:Frag}{base:Heap}  {st:Stmt}  {k:Nat}(Q:cJ K mg c x T st)(S:fK N ps (bf st))
  (hb:∀(kV y pm:Value) (O:Option Addr) (d ct:Value) (us:List Value),us.length=ps.length->bindArgs (PySem.W.fnOf x T (dI st) (cM st) (bf st) .none kV y pm O d ct) ⟨us,[]⟩=pure (ps.zip us))
  (pm j:List Md)  {b:MS} (J:dZ R) (u:∀N H F L,R N H F L .non .non) (q:pm.length=ps.length:=by rfl) (I:(pm++j).length=N.length:=by rfl) (G:∀m∈pm,m≠.o:=by decide)
  (body:∀(f:Addr) (d:Value) (A:Around) (outer:List Env) (s:Shared) (H:Hp) (E:XK),aZ k (A.deeper (envOfC T (bf st) s.heap.objs.size f d))->∀P,VSs ((gk CX0 Pr w K mg base N T (bf st) f d A outer s H E).nox) (pm++j) P R (cM st) b):
  iG Pr w K mg base c x ps (k+1) (vSp K mg pm R (aL N.length b)):=by
 obtain⟨C,f,fd,h1,h2,h3,h4⟩:=Q;exact⟨C,f,fd,h1,h2,h3,h4.binds hb,GD h4 S pm j J u q I G (body f)⟩
def XR{Pr:Program}{w:World}{K:Frag}{base:Heap}  {st:Stmt}  {k:Nat}(O:oA K mg c Q st)(S:fK N ps (bf st))
  (hb:∀(kV x pm:Value) (L:Option Addr) (d ct:Value) (us:List Value),us.length=ps.length->bindArgs (PySem.W.fnOf "__init__" Q (dI st) (cM st) (bf st) .none kV x pm L d ct) ⟨us,[]⟩=pure (ps.zip us))
  (pm j:List Md)  {b:MS} (I:dZ R) (u:∀N H F J,R N H F J .non .non) (q:pm.length=ps.length:=by rfl) (G:(pm++j).length=N.length:=by rfl) (y:∀m∈pm,m≠.o:=by decide)
  (body:∀(f:Addr) (d:Value) (A:Around) (outer:List Env) (s:Shared) (H:Hp) (E:XK),aZ k (A.deeper (envOfC Q (bf st) s.heap.objs.size f d))->∀P,VSs ((gk CX0 Pr w K mg base N Q (bf st) f d A outer s H E).nox) (pm++j) P R (cM st) b):
  ou Pr w K mg base c ps (k+1) (vSp K mg pm R (aL N.length b)):=by
 obtain⟨C,f,fd,h1,h2,h4⟩:=O;exact⟨C,f,fd,h1,h2,h4.binds hb,GD h4 S pm j I u q G y (body f)⟩
end
noncomputable def aU(c m:Str)(cf:List D->au->Res D)(mo:M D)(ma:M (List D)):M D:=λρ O=>(mo ρ O).bind λd b=>match d with
 | .ob n=>match b[n]? with
  |some (.ins c' fs)=>if c'=c/\(fs.lookup m).isNone=true then(ma ρ b).bind λf j=>cf (.ob n::f) j else .no
  | _=>.no
 | _=>.no
def GF{K:Frag}   (hR:dZ R)(hC:mg c=some (.ref C))     (q:tM K mg md P R (aU c m cf mo ma) σ H Q):
  wC C m (vSp K mg (.v::pm) R cf) [] E (tM K mg md P (rV K) mo) (tMA K mg md P pm ma) σ H Q:=by
 obtain⟨ρ,O,F,as,d,O',r,s,e,k⟩:=q;obtain⟨x,W,e1,e⟩:=Res.bind_ok e
 cases x with
 |ob n =>
  dsimp  at e
  split at e
  ·rename_i c' fs eo;split at e
   ·rename_i L;obtain⟨T,U,e2,e⟩:=Res.bind_ok e;refine⟨ρ,O,F,as,.ob n,W,r,s,e1,λv H1 F1 G j I J=>?_⟩;obtain⟨a,rfl,ha⟩:=Rp.unO J;obtain⟨C',dx,gs,h1,h2,h3⟩:=I.ob n a _ ha eo;rw[L.1,hC] at h1;cases h1;refine⟨a,dx,gs,rfl,h2,h3.no (Option.isNone_iff_eq_none.mp L.2),?_⟩;refine⟨ρ,W,F1,G,T,U,I,s.step j,e2,λvs H2 F2 y f Y u=>?_⟩;rw[zJ];exact⟨.ob n::T,U,F2,y,d,O',Y,⟨Rp.gr J f,u⟩,e,λX H' F' as' g' Z hw=>k X H' F' _ ((j.trans f).trans g') Z (hR _ _ _ _ _ _ _ (λb hb=>(j.trans f).dm b hb) hw)⟩
   ·cases e
  ·cases e
 | _=>cases e
def GJ{b apos:Pos}{pl:Sem Bool}(F:dZ R)(M:iG X.prog X.w X.K X.mg X.base c m ps k (vSp X.K X.mg (.v::pm) R cf))(x:aZ k X.A)(y:VE X md P o mo)(E:AE X md P pm (e::es) ma)
  (d:starEach (e::es) X.env=(false,eval e X.env)::starEach es X.env:=by exact bY rfl) (j:(backTo b (starEach es X.env)).any (·.1)=false:=by exact cP rfl)
  (u:eval (.Call (.Attribute o m apos) (e::es) [] b) X.env=(do
   let ov <-eval o X.env
   standAt apos.atName
   let (f,first) <-holding [ov] (getMethod ov m pl)
   callWith b f first (backTo b (starEach (e::es) X.env)) (backToKw b (keywordEach [] X.env))):=by rfl):
  PE X (.Call (.Attribute o m apos) (e::es) [] b) (tM X.K X.mg md P R (aU c m cf mo ma)):=by
 obtain⟨C,f,fd,h1,h2,h3,h4,G⟩:=M
 exact(Sd y h2 h3 G x h4 .nil lX E d j u).imp λ_ _ _ q=>GF F h1 q
def GK  (L:dZ R)(M:iG X.prog X.w X.K X.mg X.base c m ps k (vSp X.K X.mg [.v] R cf))(I:aZ k X.A)(J:VE X md P o mo)
  (G:eval (.Call (.Attribute o m apos) [] [] pos) X.env=(do
   let ov <-eval o X.env
   standAt apos.atName
   let (f,first) <-holding [ov] (getMethod ov m pl)
   callWith pos f first (backTo pos (starEach [] X.env)) (backToKw pos (keywordEach [] X.env))):=by rfl):
  PE X (.Call (.Attribute o m apos) [] [] pos) (tM X.K X.mg md P R (aU c m cf mo ao)):=by
 obtain⟨C,f,fd,h1,h2,h3,h4,T⟩:=M
 refine(Sg J h2 h3 T I h4 .nil lX G).imp λσ H Q q=>?_
 obtain⟨ρ,O,F,as,d,O',r,s,e,k⟩:=GF (E:=E0) L h1 q;refine⟨ρ,O,F,as,d,O',r,s,e,λv b F' as' g u y=>?_⟩;obtain⟨a,dx,fs,Z,Y,W,t⟩:=k v b F' _ g u y;refine⟨a,dx,fs,Z,Y,W,?_⟩;obtain⟨ρ1,O1,F1,as1,ds1,O2,j,s1,U,x⟩:=t;cases U;exact x [] b F1 _ Gr.refl j trivial
noncomputable def dj(c:Str)(cf:List D->au->Res D)(ma:M (List D)):M D:=λρ O=>(ma ρ O).bind λd b=>match cf (.ob b.length::d) (b++[.ins c []]) with
 | .ok .non O2=>.ok (.ob b.length) O2
 | .ok _ _=>.no
 | .ex x O2=>.ex x O2
 | .no=>.no
def xG{K:Frag}   (hC:mg c=some (.ref C))     (q:tM K mg md P (rV K) (dj c cf ma) σ H Q):
  wD C (vSp K mg (.v::pm) (rV K) cf) [] E (tMA K mg md P pm ma) σ H Q:=by
 obtain⟨ρ,O,F,as,d,O',r,s,e,k⟩:=q;obtain⟨ds,J,e1,e⟩:=Res.bind_ok e;split at e
 ·rename_i O2 ec;cases e;refine⟨ρ,O,F,as,ds,J,r,s,e1,λvs L y f g1 u X=>?_⟩;intro x G hx U Y;rw[zJ]
  have R:upd L G (.own x) x=none:=by rw[aG Y.symm];exact hx
  have gA:Gr L y _ (upd L G (.own x)) y f:=Gr.lay U;have gB:Gr _ y _ (upd _ x (.ins C G [])) y f:=Gr.lay R;have m:=gA.trans gB;have g2:Gr L y _ _ y _:=⟨m.fz,m.ff,⟨[x],rfl,λa j=>by rw[zj.mp j];exact hx⟩,λa o e j hd=>m.fr a o e j hd,m.dm,m.kz⟩
  have nx :=λz=>u.all z hx
  have W:=(u.lay U).lay (o:=.ins C G []) R
  have at_:∀(n ) (a ),f[n]?=some a->(f++[x])[n]?=some a:=λn a h=>by
   rw[zE (zu.mp h).1];exact h
  have r2:RlO K mg (J++[.ins c []]) (upd (upd L G (.own x)) x (.ins C G [])) y (f++[x]):=by
   refine⟨W.fh,W.fd,?_,by simp[u.len],λa j=>?_,λn a o j I=>?_⟩
   ·rw[jm];refine⟨u.nd,by simp,λa j b hb=>?_⟩;rw[zj.mp hb];intro z;subst z;exact nx j
   ·rcases zt.mp j with z | z
    ·exact u.fa a z
    ·rw[zj.mp z];exact u.frF hx
   ·by_cases Z:n<J.length
    ·rw[zE (by rw[u.len];exact Z)] at j;rw[zE Z] at I;exact(W.ob n a o j I).keep rfl (Same.refl _) at_
    ·have hn':n=J.length:=by
      have:=(zu.mp I).1
      simp at this
      omega
     subst hn';rw[zK (zc _),Nat.sub_self] at I;rw[<-u.len,zK (zc _),Nat.sub_self] at j;cases I;cases j;exact⟨C,G,[],hC,bC,⟨rfl,Rps.nil⟩⟩
  have T:Rp K y (f++[x]) _ (.ob J.length):=Rp.mkO (by rw[<-u.len,zK (zc _),Nat.sub_self];rfl);refine⟨.ob _::ds,_,y,f++[x],.non,_,r2,⟨T,X.gr g2⟩,ec,λv H3 F3 as3 g3 r3 hv=>?_⟩;exact⟨Rp.unN hv,k _ H3 F3 _ ((g1.trans g2).trans g3) r3 (Rp.gr T g3)⟩
 ·cases e
 ·cases e
 ·cases e
def XS{p b:Pos}(M:ou X.prog X.w X.K X.mg X.base c ps k (vSp X.K X.mg (.v::pm) (rV X.K) cf))(m:aZ (k+1) X.A)(y:AE X md P pm (e::es) ma)(u:Gl X c:=by rfl)(j:(c == ("__debug__":Str))=false:=by decide)
  (x:starEach (e::es) X.env=(false,eval e X.env)::starEach es X.env:=by exact bY rfl) (d:(backTo b (starEach es X.env)).any (·.1)=false:=by exact cP rfl):VE X md P (.Call (.Name c p) (e::es) [] b) (dj c cf ma):=by
 obtain⟨C,f,fd,h1,h3,h4,E⟩:=M
 exact(Dz h3 E m u h1 h4 .nil lX y j x d).imp λ_ _ _ q=>xG h1 q
def XX{md:List Md}{P:Pt}{p b:Pos}(M:ou X.prog X.w X.K X.mg X.base c ps k (vSp X.K X.mg [.v] (rV X.K) cf))(j:aZ (k+1) X.A)(m:Gl X c:=by rfl)(d:(c == ("__debug__":Str))=false:=by decide):VE X md P (.Call (.Name c p) [] [] b) (dj c cf ao):=by
 obtain⟨C,f,fd,h1,h3,h4,u⟩:=M
 refine(Sh h3 u j m h1 h4 .nil lX d).imp λσ H Q q=>?_
 obtain⟨ρ,O,F,x,y,E,r,s,e,k⟩:=xG h1 q;cases e;exact k [] H F x Gr.refl r trivial
def mz:D->Option (List D)
 | .lst ds=>some ds
 | .tup ds=>some ds
 | .str l=>if ascii l=true then some (cB l) else none
 | _=>none
def bL(m:M D):M (List D):=λρ O=>(m ρ O).bind λd f=>match mz d with
 |some b=>.ok b f
 |none=>.no
def xH   (h:WE X md P e m):SE X md P e m:=h.imp λσ H Q q=>by
 obtain⟨ρ,O,F,I,d,J,r,s,e,k⟩:=q;refine⟨ρ,O,F,I,d,J,r,s,e,λv L R T g j b=>k v L R _ g j ?_⟩
 rcases b with b | ⟨a,f,G,E,C,y,x,U,u⟩
 ·exact .inl b
 ·exact .inr ⟨a,f,G,E,C,y,x,u⟩
theorem X3   (h:WE X md P e m):VI X md P tg e (bL m):=λpins s σ H Q I q=>by
 obtain⟨ρ,O,F,j,y,E,r,sl,e,k⟩:=q;obtain⟨d,C,f,e⟩:=Res.bind_ok e
 cases d with
 |lst  =>
  cases e;exact Xo h _ s σ H Q I ⟨ρ,O,F,j,_,_,r,sl,by unfold tQ;rw[f];rfl,k⟩
 |tup  =>
  cases e;exact Gv (wW (xH h)) _ s σ H Q I ⟨ρ,O,F,j,_,_,r,sl,by unfold xD mG;rw[f];rfl,k⟩
 |str l =>
  simp  [mz] at e
  split at e
  ·rename_i x b;split at b
   ·rename_i u;cases b;cases e;refine Gw (xH h) _ s σ H Q I ⟨ρ,O,F,j,cB l,_,r,sl,?_,k⟩;unfold xE;rw[f];show(if ascii l=true then _ else _)=_;rw[if_pos u]
   ·cases b
  ·cases e
 | _=>cases e
theorem X4   (h:SE X md P e m):VIc X md P tg e (tQ m):=(v8 h).imp λσ H Q q=>by
 obtain⟨ρ,O,F,Z,ds,O',r,s,e,k⟩:=q;obtain⟨d,O1,Y,e⟩:=Res.bind_ok e
 cases d with
 |lst es =>
  cases e;refine⟨ρ,_,F,Z,_,_,r,s,Y,λv J E C R L I=>?_⟩
  obtain⟨a,f,rfl,h1,h2⟩:∃a f,v=.ref a/\Rps X.K E C f ds/\∀(j u:Hp) (b:List Addr),Gr J E C j u b->(∃O,RlO X.K X.mg O j u b)->RdK X.K j a f:=by
   rcases I with I | ⟨a,f,ds',rfl,e,W,U,T⟩
   ·obtain⟨a,f,rfl,h1,h2⟩:=I.unL;exact⟨a,f,rfl,h2,λj u b g ⟨O,r⟩=>(h1.mono g.ff).mono r.fh⟩
   ·cases e;exact⟨a,f,rfl,T,λj u b g _=>.inl (.inl (g.fr _ _ W U rfl))⟩
  refine⟨a,rfl,⟨f,(h2 J E C Gr.refl ⟨_,L⟩).sq⟩,k _ J E C R L ⟨λi d j u b g r e=>?_,λj u b g r=>⟨f,(h2 j u b g r).sq,by rw[h1.length];exact zc _⟩⟩⟩;obtain⟨x,h3,h4⟩:=h1.get' e;have q:=h2 j u b g r;refine⟨⟨f,x,q.sq,h3⟩,λy H3 G=>?_⟩;obtain⟨rfl,G⟩:=G
  have:=G f q.sq
  rw[h3] at this;cases this;exact⟨u,Gr.refl,λ_ r=>r,h4.gr g⟩
 | _=>cases e
theorem X5   (h:SE X md P e m):VIc X md P tg e (bL m):=λpins s σ H Q I q=>by
 obtain⟨ρ,O,F,j,y,E,r,sl,e,k⟩:=q;obtain⟨d,C,f,e⟩:=Res.bind_ok e
 cases d with
 |lst  =>
  cases e;exact X4 h _ s σ H Q I ⟨ρ,O,F,j,_,_,r,sl,by unfold tQ;rw[f];rfl,k⟩
 |tup  =>
  cases e;exact xg (Gv (wW h)) _ s σ H Q I ⟨ρ,O,F,j,_,_,r,sl,by unfold xD mG;rw[f];rfl,k⟩
 |str l =>
  simp  [mz] at e
  split at e
  ·rename_i x b;split at b
   ·rename_i u;cases b;cases e;refine xg (Gw h) _ s σ H Q I ⟨ρ,O,F,j,cB l,_,r,sl,?_,k⟩;unfold xE;rw[f];show(if ascii l=true then _ else _)=_;rw[if_pos u]
   ·cases b
  ·cases e
 | _=>cases e
def qm(m:M D):M (List D):=λρ O=>(m ρ O).bind λd b=>match d with
 | .lst ds=>.ok (cV 0 ds) b
 | .str l=>if ascii l=true then .ok (cV 0 (cB l)) b else .no
 | _=>.no
def X6{elts:List Expr}{E:Nat}{f:Pos}  {p j:Pos}  (u:X.mg "enumerate" = none)(h:WE X md P a m)(x:Gl X "enumerate":=by rfl)(hs:starEach [a] X.env=[(false,eval a X.env)]:=by exact nU rfl)(b:starEach [a] X.env=(false,eval a X.env)::starEach [] X.env:=by exact bY rfl):
  VI X md P (.Tuple elts E f) (.Call (.Name "enumerate" p) [a] [] j) (qm m):=λpins s σ H Q I q=>by
 obtain⟨ρ,O,F,C,G,J,r,sl,e,k⟩:=q;obtain⟨d,L,y,e⟩:=Res.bind_ok e
 cases d with
 |lst  =>
  cases e;exact Xr u h x hs b _ s σ H Q I ⟨ρ,O,F,C,_,_,r,sl,by unfold Gy;rw[y];rfl,k⟩
 |str l=>exact Xu u (xH h) x hs b _ s σ H Q I ⟨ρ,O,F,C,G,J,r,sl,by unfold Gz;rw[y];exact e,k⟩
 | _=>cases e
def X7   {K:PySem.W.Frag}
  (KX:K.In s₁.heap) (I:s₁.heap.Ns mainGlobals mg) (hb:s₁.heap.Ns builtinsNs mb) (X:∀x:Str,x≠"__name__"->mb x=bootBuiltins x) (Q:s₁.heap.NoLimit) (hg:s₁.gens = #[])
  (R:s₁.heap.get? a=some {cls:=.type "list",data:=.seq vs.toArray}) (hi:IntsAre vs ns) (hl:ns.length<=sizeLine) (hr:aZ k callerA)
  (F:∀base:Heap,K.In base->base.Ns mainGlobals mg->cz P w K mg base CX k fa fd [x] sp) (C:∀(s:Shared) (u:Value),BindsTo s fd ⟨[u],[]⟩ [(x,u)])
  (U:∀H:Hp,sO H->RdK K H a (ns.map V.int)->sp [.ref a] H (λv _=>v=.bl true) λ_ _ _=>False)
  (Y:∀H e j,CX [] H s₁ (λ_ _ _=>False) e j->False):
  codeAny (model P w) callerA (.call (.ref fa) ⟨[.ref a],[]⟩) (λr j=>r=.ok (.ret (.bool true))/\OldK s₁.heap j.heap/\j.os=s₁.os/\AllBare j.gens) s₁:=by
 have Z:=Ej hi;have L:=hi.length;have core:∀H:Hp,sO H->RdK K H a (ns.map V.int)->HOk P w H s₁.heap->(∀b,H b≠none->b=a)->(H a≠none->K.lookup a=none) ->
   codeAny (model P w) callerA (.call (.ref fa) ⟨[.ref a],[]⟩) (λr j=>r=.ok (.ret (.bool true))/\OldK s₁.heap j.heap/\j.os=s₁.os/\AllBare j.gens) s₁:=by
  intro H hO hS hok hA hK
  have f:∀{b:Addr}{o:Obj},s₁.heap.get? b=some o->H b=none->(iY s₁.heap H).get? b=some o:=λe n=>Pu e n
  have T:∀{b:Addr}{o:Obj}{E:Array DictEntry}{G:Nat},s₁.heap.get? b=some o->o.data=.dict E G->H b=none:=λ{b o E G} e d=>by
   cases q:H b with
   |none=>rfl
   |some u =>
    have e':b=a:=hA b (by rw[q];simp);subst e';rw[R] at e;cases e;have d':Data.seq vs.toArray _=Data.dict E G:=d;cases d'
  have y:∀{b:Addr}{m:Str->Option Value},s₁.heap.Ns b m->(iY s₁.heap H).Ns b m:=λ{b m} ⟨o,E,G,e,d,r⟩=>⟨o,E,G,f e (T e d),d,r⟩
  have J:K.In (iY s₁.heap H):=λb o e=>f (KX b o e) (by
   cases q:H b with
   |none=>rfl
   |some u =>
    have e':b=a:=hA b (by rw[q];simp);subst e'
    rw[hK (by rw[q];simp)] at e;cases e)
  have hM:Mod K mg (iY s₁.heap H):=⟨J,y I,⟨mb,y hb,X⟩,let ⟨mc,h1,h2⟩:=Q;⟨mc,y h1,h2⟩⟩;have e0:iZ P w K mg (iY s₁.heap H) callerA [] s₁ H:=⟨rfl,hM,λb o e=>Px e,Nat.le_of_eq (Pq _ _),trivial,λb hb=>absurd (show b∈([]:List Addr) from hb) (by simp),hok,.of_eq hg⟩
  refine codeAny_mono ((F _ J (y I)).run callerA [] s₁ H ⟨[.ref a],[]⟩ [.ref a] [.ref a] _ _ hr e0 (C s₁ (.ref a)) (.cons rfl .nil) (U H hO hS)) λr j h=>?_
  cases r with
  |error e=>exact(Y H e j h).elim
  |ok fl =>
   cases fl with
   |next=>exact False.elim h
   |brk=>exact False.elim h
   |cont=>exact False.elim h
   |ret u =>
    obtain⟨v,H',os,bare,un,O,r',q⟩:=h;have q':v=.bl true:=q;subst q';obtain rfl:u=Value.bool true:=r';refine⟨rfl,OldK.of_keep λb o e=>?_,os,bare⟩
    cases q:H b with
    |none=>exact un.keep b o e q (by intro z;exact absurd (show b∈([]:List Addr) from z) (by simp)) (by simp)
    |some u =>
     rcases hO b with z | ⟨ob,xs,z⟩
     ·rw[q] at z;cases z
     ·have z2:=un.frzs b ob _ z;obtain⟨e1,_⟩:=hok b _ z;obtain⟨e2,_⟩:=O b _ z2;rw[e] at e1;cases e1;exact e2
 cases hk:K.lookup a with
 |some o =>
  have e:=KX a o hk;rw[R] at e;cases e
  refine core (λ_=>none) (λ_=>.inl rfl) (.inr ⟨vs,_,hk,by rw[L];exact hl,Z⟩) (λb u z=>by have z':(none:Option HO)=some u:=z;cases z') (λb z=>absurd rfl z) λz=>absurd rfl z
 |none =>
  refine core (λb=>if b=a then some (.frz {cls:=.type "list",data:=.seq vs.toArray} (.lst (ns.map V.int))) else none) (λb=>?_) (.inl (.inr ⟨{cls:=.type "list",data:=.seq vs.toArray},if_pos rfl⟩)) (λb u z=>?_) (λb z=>?_) λ_=>hk
  ·by_cases hb:b=a
   ·exact .inr ⟨_,_,if_pos hb⟩
   ·exact .inl (if_neg hb)
  ·by_cases hb:b=a
   ·have z':=(if_pos hb).symm.trans z;cases z';subst hb;exact⟨R,by rw[zf];exact hl,vs,_,Z,R⟩
   ·have z':=(if_neg hb).symm.trans z;cases z'
  ·by_cases hb:b=a
   ·exact hb
   ·exact absurd (if_neg hb) z
def walk_ofR{l:PySem.W.OpenLaw}       {K:Params->PySem.W.Frag}{CX:World->CXT}{sp:World->Sp}
  (hn:l.most=some n) (hn2:n<=sizeLine) (hdf:d.params.defaults=[]) (hr:aZ k callerA)
  (hY:∀(w:World) (h:Heap),YP w h->(K w.params).In h)
  (F:∀(w:World) (mg:Str->Option Value) (fa:Addr) (h:Heap),(K w.params).In h->h.Ns mainGlobals mg->mg d.name=some (.ref fa) ->
   ∃fd:FuncData,(∀(s:Shared) (u:Value),BindsTo s fd ⟨[u],[]⟩ [(x,u)]) /\
    ∀base:Heap,(K w.params).In base->base.Ns mainGlobals mg->cz l.prog w (K w.params) mg base (CX w) k fa fd [x] (sp w))
  (hsp:∀(w:World) (H:Hp) (a:Addr) (ns:List Int),ns.length<=n->sO H->RdK (K w.params) H a (ns.map V.int)->sp w [.ref a] H (λv _=>v=.bl true) λ_ _ _=>False)
  (hCX:∀(w:World) (H:Hp) (s:Shared) (e:Value) (s':Shared),CX w [] H s (λ_ _ _=>False) e s'->False):
  PySem.W.WalkO q loose XP YP l.row.toRowW d [] (λf vs=>PySem.call f vs):=by
 refine Att.attach_call hn hdf λw s₀ s₁ mg mb fa o pm cd doc a vs ns G Y ho hd hcd hmg hobj hints hlen hg=>?_
 have KX:=hY w _ Y;obtain⟨fd,hb,hF⟩:=F w mg fa _ KX G.T.g hmg
 exact X7 KX G.T.g G.T.b G.T.builtins G.T.nolimit hg hobj hints (zI hlen hn2) hr hF hb (λH hO hS=>hsp w H a ns hlen hO hS) λH e s'=>hCX w H s₁ e s'
def X8{K:Frag}  :∀c∈([]:List Str),KC K mg c f:=λ_ h=>nomatch h
def Yb{K:Frag}    (h:KC K mg c f)(j:∀c∈m,KC K mg c f):∀d∈c::m,KC K mg d f:=λd b=>by
 rcases zk.mp b with rfl | b
 ·exact h
 ·exact j d b
def wF:Nat:=1000000
def tY(K:Frag):Sp:=λvs H Q _=>∃(a:Addr) (ns:List Int),vs=[.ref a]/\RdK K H a (ns.map V.int)/\ns.length<=63/\sO H/\∀b,Q (.bl true) b
theorem Rps.ofInts{K:Frag}  :∀ns:List Int,Rps K F as (ns.map V.int) (ns.map D.int)
 | []=>Rps.nil
 |n::ns=>Rps.cons Rp.int (Rps.ofInts ns)
def Yc{K:Frag}   (h:∀ns:List Int,ns.length<=63->∃O',c [.lst (ns.map D.int)] []=.ok (.bl true) O'):∀vs H Q E,tY K vs H Q E->vSp K mg [.s] (rV K) c vs H Q E:=by
 rintro vs H Q E ⟨a,ns,rfl,hS,hl,hO,q⟩;obtain⟨O',e⟩:=h ns hl
 have r:RlO K mg [] H H []:=⟨Same.refl H,λb o e=>by
  rcases hO b with z | ⟨x,m,z⟩
  ·rw[e] at z;cases z
  ·rw[e] at z;cases z;rfl,List.nodup_nil,rfl,(λ_ z=>nomatch z),λn b o z=>by cases z⟩
 refine⟨[.lst _],[],H,[],.bl _,O',r,⟨.inl (Rp.mkL hS (Rps.ofInts ns)),trivial⟩,e,λv f y j g u d=>?_⟩;rw[Rp.unB d];exact q f
def keyOf:D->Option Key
 | .int i=>some (.inl i)
 | .str l=>some (.inr (S l))
 | _=>none
def Rp.key{K:Frag}      (h:Rp K F as v d)(e:keyOf d=some k):v=kV k:=by
 cases d with
 |int i=>cases e;exact h.unI
 |str l=>cases e;exact h.unS
 | _=>cases e
def Prs(K:Frag)(F:Hp)(b:List Addr):List (V×V)->List (D×D)->Prop
 | [],[]=>True
 |p::ps,d::ds=>Rp K F b p.1 d.1/\Rp K F b p.2 d.2/\Prs K F b ps ds
 | _,_=>False
def DPE(X:Cx)(md:List Md)(P:Pt)(u:Pos)(keys:List (Option Expr))(values:List Expr)(m:M (List (D×D))):Prop:=∃d:List (TE×TE),
 PPs X u keys values d/\∀σ H Q,(∃ρ O F f y C,RlO X.K X.mg O H F f/\SlO X.K md P ρ σ H F f/\m ρ O=.ok y C/\∀x j q b,Gr H F f j q b->RlO X.K X.mg C j q b->Prs X.K q b x y->Q x j)->wQ d σ H Q
def Yd:M (List (D×D)):=λ_ O=>.ok [] O
def Ye(mk f:M D)(r:M (List (D×D))):M (List (D×D)):=λρ O=>(mk ρ O).bind λa q=>(f ρ q).bind λb m=>(r ρ m).bind λd j=>.ok ((a,b)::d) j
def keysOf:List (D×D)->Option (List Key)
 | []=>some []
 | (a,_)::r=>(keyOf a).bind λk=>(keysOf r).map (k :: ·)
def Yg(m:M (List (D×D))):M D:=λρ O=>(m ρ O).bind λb d=>match keysOf b with
 |some ks=>if ks.Nodup/\b.length<=15 then .ok (.dic (b.map (·.1)) (b.map (·.2))) d else .no
 |none=>.no
def Yh{p b:Pos}(C:Can X.prog X.w X.K X.mg X.base x ps k (vSp X.K X.mg pm (rV X.K) cf))(j:aZ k X.A)(u:AE X md P pm (e::es) ma)(m:Gl X x:=by rfl)(f:(x == ("__debug__":Str))=false:=by decide)(q:starEach (e::es) X.env=(false,eval e X.env)::starEach es X.env:=by exact bY rfl)(d:(backTo b (starEach es X.env)).any (·.1)=false:=by exact cP rfl):
  VE X md P (.Call (.Name x p) (e::es) [] b) (aB cf ma):=FT kE C j u m f q d
def Yi{p b:Pos}(C:Can X.prog X.w X.K X.mg X.base x ps k (vSp X.K X.mg pm (rO X.K) cf))(j:aZ k X.A)(u:AE X md P pm (e::es) ma)(m:Gl X x:=by rfl)(f:(x == ("__debug__":Str))=false:=by decide)(q:starEach (e::es) X.env=(false,eval e X.env)::starEach es X.env:=by exact bY rfl)(d:(backTo b (starEach es X.env)).any (·.1)=false:=by exact cP rfl):
  OE X md P (.Call (.Name x p) (e::es) [] b) (aB cf ma):=FT iz C j u m f q d
def Yj{md:List Md}{P:Pt}{p b:Pos}(C:Can X.prog X.w X.K X.mg X.base x ps k (vSp X.K X.mg [] (rV X.K) cf))(f:aZ k X.A)(j:Gl X x:=by rfl)(d:(x == ("__debug__":Str))=false:=by decide):VE X md P (.Call (.Name x p) [] [] b) (aB cf ao):=Wn kE C f j d
def Yk{b apos:Pos}{pl:Sem Bool}(M:iG X.prog X.w X.K X.mg X.base c m ps k (vSp X.K X.mg (.v::pm) (rV X.K) cf))(u:aZ k X.A)(x:VE X md P o mo)(y:AE X md P pm (e::es) ma)(d:starEach (e::es) X.env=(false,eval e X.env)::starEach es X.env:=by exact bY rfl)(j:(backTo b (starEach es X.env)).any (·.1)=false:=by exact cP rfl)
  (q:eval (.Call (.Attribute o m apos) (e::es) [] b) X.env=(do
   let ov <-eval o X.env
   standAt apos.atName
   let (f,first) <-holding [ov] (getMethod ov m pl)
   callWith b f first (backTo b (starEach (e::es) X.env)) (backToKw b (keywordEach [] X.env))):=by rfl):VE X md P (.Call (.Attribute o m apos) (e::es) [] b) (aU c m cf mo ma):=GJ kE M u x y d j q
def Yl{b apos:Pos}{pl:Sem Bool}(M:iG X.prog X.w X.K X.mg X.base c m ps k (vSp X.K X.mg (.v::pm) (rO X.K) cf))(u:aZ k X.A)(x:VE X md P o mo)(y:AE X md P pm (e::es) ma)(d:starEach (e::es) X.env=(false,eval e X.env)::starEach es X.env:=by exact bY rfl)(j:(backTo b (starEach es X.env)).any (·.1)=false:=by exact cP rfl)
  (q:eval (.Call (.Attribute o m apos) (e::es) [] b) X.env=(do
   let ov <-eval o X.env
   standAt apos.atName
   let (f,first) <-holding [ov] (getMethod ov m pl)
   callWith b f first (backTo b (starEach (e::es) X.env)) (backToKw b (keywordEach [] X.env))):=by rfl):OE X md P (.Call (.Attribute o m apos) (e::es) [] b) (aU c m cf mo ma):=GJ iz M u x y d j q
def Ym  (M:iG X.prog X.w X.K X.mg X.base c m ps k (vSp X.K X.mg [.v] (rV X.K) cf))(d:aZ k X.A)(j:VE X md P o mo)
  (b:eval (.Call (.Attribute o m u) [] [] q) X.env=(do
   let ov <-eval o X.env
   standAt u.atName
   let (f,first) <-holding [ov] (getMethod ov m pl)
   callWith q f first (backTo q (starEach [] X.env)) (backToKw q (keywordEach [] X.env))):=by rfl):VE X md P (.Call (.Attribute o m u) [] [] q) (aU c m cf mo ao):=GK kE M d j b
def Yn  (M:iG X.prog X.w X.K X.mg X.base c m ps k (vSp X.K X.mg [.v] (rO X.K) cf))(d:aZ k X.A)(j:VE X md P o mo)
  (b:eval (.Call (.Attribute o m u) [] [] q) X.env=(do
   let ov <-eval o X.env
   standAt u.atName
   let (f,first) <-holding [ov] (getMethod ov m pl)
   callWith q f first (backTo q (starEach [] X.env)) (backToKw q (keywordEach [] X.env))):=by rfl):OE X md P (.Call (.Attribute o m u) [] [] q) (aU c m cf mo ao):=GK iz M d j b
def tZ:List D->List D->List D
 |d::ds,e::es=>.tup [d,e]::tZ ds es
 | _,_=>[]
def GP(ma mb:M D):M (List D):=λρ O=>(ma ρ O).bind λd f=>(mb ρ f).bind λe b=>match d,e with
 | .lst ds,.lst es=>.ok (tZ ds es) b
 | _,_=>.no
noncomputable def jG(m:MS):MS:=λρ O=>match m ρ O with
 | .rt d O'=>.rt d O'
 | _=>.no
def SlO.toV{K:Frag}      (s:SlO K md P ρ σ H F as)(R:md[i]?=some .o)(ff:Same F F')
  (u:∀(j:Nat) (ds:List D) (a:Addr),j≠i->md[j]?=some .o->ρ[j]?=some (some (.lst ds))->σ[j]?=some (some (.ref a))->F' a=F a)
  (hv:∀d,ρ[i]?=some (some d)->∃v,σ[i]?=some (some v)/\Rp K F' as v d):SlO K (md.set i .v) P ρ σ H F' as:=by
 have T :=(zu.mp R).1
 have back:∀(j ),(md.set i Md.v)[j]?=some Md.o->j≠i/\md[j]?=some .o:=λj e=>by
  by_cases b:j=i
  ·subst b;rw[zS T] at e;cases e
  ·rw[zh (Ne.symm b)] at e;exact⟨b,e⟩
 refine⟨by rw[zY];exact s.len,by rw[zY];exact s.len',s.pd,λj m d f O=>?_,λj k a ds Z h1 h2 h3 h4 Y X=>s.inj j k a ds Z (back j h1).2 (back k h2).2 h3 h4 Y X,λx hx=>?_⟩
 ·by_cases b:j=i
  ·subst b;rw[zS T] at f;cases f;exact hv d O
  ·rw[zh (Ne.symm b)] at f;obtain⟨v,q,t⟩:=s.sl j m d f O;refine⟨v,q,?_⟩
   cases m with
   |v=>exact Rp.mono ff (λ_ _ z=>z) _ t
   |s =>
    rcases t with t | ⟨a,y,ds,t1,t2,I,G,E,C⟩
    ·exact .inl (Rp.mono ff (λ_ _ z=>z) _ t)
    ·exact .inr ⟨a,y,ds,t1,t2,I,G,E,Rps.mono ff (λ_ _ z=>z) _ C⟩
   |o =>
    rcases t with⟨J,t⟩ | ⟨a,y,ds,rfl,rfl,I,J,G,E,C⟩
    ·exact .inl ⟨J,Rp.mono ff (λ_ _ z=>z) _ t⟩
    ·exact .inr ⟨a,y,ds,rfl,rfl,I,by rw[u j ds a b f O q];exact J,G,E,Rps.mono ff (λ_ _ z=>z) _ C⟩
 ·obtain⟨L,W,U⟩:=s.pin x hx
  have Q:i≠x.1:=λz=>by rw[<-z,R] at L;cases L
  exact⟨by rw[zh Q];exact L,W,U⟩
def Yo{K:Frag}    (x:md[i]?=some .o){D:Ends}   (q:tMS K mg md P R (jG m) D σ H):tMS K mg (md.set i .v) P R m D σ H:=by
 obtain⟨ρ,O,F,C,r,s,k⟩:=q;unfold jG at k
 cases e:m ρ O with
 |rt  =>
  rw[e] at k
  by_cases I:∃y,ρ[i]?=some (some (.lst y))
  ·obtain⟨y,f⟩:=I;obtain⟨a,E,h1,h2,h3,h4,Y,X⟩:=s.own x f
   have ff:Same F (upd F a (.lst E)):=λb u q=>by rw[aG (bV q h3)];exact q
   have Z:GrS P H F C H _ C:=⟨λc _ p _ _ _=>aG λz=>Y (by rw[<-z];exact p),ff,⟨[],by simp⟩,λ_ _ _ h _ _=>h,λ_ h=>h,λ_ _ _ h=>h⟩;refine⟨ρ,O,upd F a _,C,r.frz h2 h3 h4 rfl,s.toV x ff (λj es b W T Q G=>?_) λJ d=>?_,?_⟩
   ·refine aG λz=>W ?_
    rw[z] at G;exact s.inj j i a es y T x Q f G h1
   ·rw[f] at d;cases d;exact⟨_,h1,Rp.mkL (.inl (.inl bC)) (Rps.mono ff (λ_ _ z=>z) _ X)⟩
   ·rw[e]
    exact λv H' F' as' g L U=>k v H' F' _ (Z.trans g) L U
  ·refine⟨ρ,O,F,C,r,s.toV x (Same.refl F) (λ_ _ _ _ _ _ _=>rfl) λJ d=>?_,by rw[e];exact k⟩;obtain⟨v,h1,h2⟩:=s.sl i .o J x d
   rcases h2 with⟨_,h2⟩ | ⟨a,E,y,_,rfl,_⟩
   ·exact⟨v,h1,h2⟩
   ·exact absurd ⟨y,d⟩ I
 | _=>rw[e] at k;exact False.elim k
def xJ(i:Nat){st:Stmt}  (b:md[i]?=some .o)(h:VS X (md.set i .v) P R st m):VS X md P R st (jG m):=h.imp λ_ _ _=>Yo b
section
variable {X:Cx}{md:List Md}{P:Pt}{R:RR}
noncomputable def mMl(m:M D):M D:=λρ O=>(m ρ O).bind λd b=>match d with
 | .lst ds=>.ok (.ob b.length) (b++[.ml ds])
 |d=>.ok d b
def xK  :∀(n:Nat) (c:Addr),b[n]?=some c->(b++[a])[n]?=some c:=λn c h=>by
 rw[zE (zu.mp h).1];exact h
def RlO.snocMl{K:Frag}        (r:RlO K mg O H F x)(q:H a=some (.lst xs))(u:F a=none)(m:a∉x)(hx:Rps K F x xs ds):RlO K mg (O++[.ml ds]) H F (x++[a]):=by
 refine⟨r.fh,r.fd,jm.mpr ⟨r.nd,by simp,λc b d hd=>by rw[zj.mp hd];exact λz=>m (z ▸ b)⟩,by rw[ze,ze,r.len];rfl,λc b=>?_,λn c o b f=>?_⟩
 ·rcases zt.mp b with b | b
  ·exact r.fa c b
  ·rw[zj.mp b];exact u
 ·by_cases j:n<x.length
  ·rw[zE j] at b;rw[zE (by rw[<-r.len];exact j)] at f;exact(r.ob n c o b f).keep rfl (Same.refl F) xK
  ·have hn':n=x.length:=by
    have:=(zu.mp b).1
    rw[ze,zR] at this;omega
   subst hn';rw[zK (zc _),Nat.sub_self] at b;rw[r.len,zK (zc _),Nat.sub_self] at f;cases b;cases f;exact⟨xs,q,Rps.mono (Same.refl F) xK _ hx⟩
def Yp   (h:OE X md P e m):VE X md P e (mMl m):=h.imp λσ H Q q=>by
 obtain⟨ρ,O,F,as,d,O',r,s,e,k⟩:=q;obtain⟨x,O1,Z,e⟩:=Res.bind_ok e;refine⟨ρ,_,F,as,_,_,r,s,Z,λv E G as1 b j u=>?_⟩
 rcases u with⟨I,u⟩ | ⟨a,xs,ds,rfl,rfl,Y,W,U,T,L⟩
 ·cases x with
  |lst =>cases I
  | _=>cases e;exact k v E G _ b j u
 ·cases e;obtain⟨y,J,C⟩:=b.nw;refine k _ E G _ ⟨b.fz,b.ff,⟨y++[a],by rw[J,zD],λc f=>?_⟩,b.fr,b.dm,b.kz⟩ (j.snocMl Y W U L) (Rp.mkO ?_)
  ·rcases zt.mp f with f | f
   ·exact C c f
   ·rw[zj.mp f];exact T
  ·rw[<-j.len,zK (zc _),Nat.sub_self];rfl
def qp     (f:a∈m)(b:H a=some h)  (d:∀o u,h≠.frz o u:=by intro _ _ z;cases z):Gr H F m (upd H a o) F m :=
 ⟨λ_ _ _ _ _=>rfl,Same.refl F,⟨[],by simp⟩,λc u e hn _=>by rw[aG λz=>hn (by rw[z];exact f)];exact e,λc e=>by
  by_cases h:c=a
  ·subst h;rw[bC] at e;cases e
  ·rwa [aG h] at e,λc j u e=>by rw[aG λz=>by rw[z,b] at e;cases e;exact d _ _ rfl];exact e⟩
def RlO.mutO{K:Frag}         (r:RlO K mg O H F I)(d:I[n]?=some a)(hx:Rps K F I xs ds):RlO K mg (O.set n (.ml ds)) (upd H a (.lst xs)) F I:=by
 have C:=zL d;refine⟨λc u e=>?_,r.fd,r.nd,by rw[zY];exact r.len,r.fa,λm c o f b=>?_⟩
 ·rw[aG (λz=>by rw[z,r.fa a C] at e;cases e)];exact r.fh c u e
 ·by_cases j:m=n
  ·subst j;rw[d] at f;cases f
   have q:m<O.length:=by rw[<-r.len];exact(zu.mp d).1
   rw[zS q] at b;cases b;exact⟨xs,bC,hx⟩
  ·rw[zh (Ne.symm j)] at b
   refine(r.ob m c o f b).keep (aG λz=>j ?_) (Same.refl F) λ_ _ h=>h
   obtain⟨E,x⟩:=zu.mp f;obtain⟨G,y⟩:=zu.mp d;exact(List.getElem_inj r.nd).mp (x.trans (z.trans y.symm))
def RlO.ml{K:Frag}     {n:Nat}   (r:RlO K mg O H F f)(b:f[n]?=some a)(d:O[n]?=some (.ml ds)):∃xs,H a=some (.lst xs)/\Rps K F f xs ds:=r.ob n a _ b d
noncomputable def gM(mo m:M D):MS:=λρ O=>match mo ρ O with
 | .ok (.ob n) O1=>match O1[n]? with
  |some (.ml _)=>match m ρ O1 with
   | .ok d O2=>match O2[n]? with
    |some (.ml ds)=>if ds.length<1000000 then .nx ρ (O2.set n (.ml (ds++[d]))) else .no
    | _=>.no
   | _=>.no
  | _=>.no
 | _=>.no
def Yq{R:RR}  {apos b C:Pos}  (ho:VE X md P o mo)(h:VE X md P e m)
  (u:attributeBase o "append" X.env (eval o X.env)=eval o X.env:=by rfl)
  (E:((backTo b (starEach [e] X.env)).all (λx=>!x.1)&&(backToKw b (keywordEach [] X.env)).all (λx=>x.1.isSome)&&decide ([e].length+([]:List Keyword).length+(if([]:List Keyword).isEmpty then 0 else 1)<30))=true:=by rfl)
  (j:(apos.endLine == b.line)=true:=by rfl) (hs:starEach [e] X.env=(false,eval e X.env)::starEach [] X.env:=by exact bY rfl) (G:(backTo b (starEach [] X.env)).any (·.1)=false:=by exact cP rfl)
  (hsw:swapsWith (.Call (.Attribute o "append" apos) [e] [] b) none C.line X.env=pure false:=by rfl):
  VS X md P R (.Expr (.Call (.Attribute o "append" apos) [e] [] b) C) (gM mo m):=
 (j6 (lW PySem.F.plainAttrs_list PySem.F.slot_list_append PySem.F.type_list_append Eh ho (fJ h gj hs) u E j hs)).imp λD σ H q=>by
  obtain⟨ρ,O,F,as,r,s,k⟩:=q;unfold gM at k;split at k
  ·rename_i n O1 e1;split at k
   ·rename_i ds0 e2;split at k
    ·rename_i d O2 e3;split at k
     ·rename_i ds e4;split at k
      ·rename_i hz;refine⟨ρ,O,F,as,_,_,r,s,e1,λv H1 F1 T J r1 hv=>?_⟩;obtain⟨a,rfl,ha⟩:=Rp.unO hv;obtain⟨Q,x1,x2⟩:=r1.ml ha e2;refine⟨.inl ⟨rfl,Q,.inl (.inl x1)⟩,ρ,O1,F1,T,d,O2,r1,s.step J,e3,λy H2 L as2 I Z hy=>?_⟩;have f:=I.at_ n a ha;obtain⟨Y,W,U⟩:=Z.ml f e4;have g3:Gr H2 L _ (upd H2 a (.lst (Y++[y]))) L _:=qp (zL f) W;exact⟨a,Y,y,rfl,rfl,W,by rw[U.length];exact zH hz (by decide),k σ _ L _ ((J.trans I).trans g3).toS (Z.mutO f (U.snoc hy)) (s.step ((J.trans I).trans g3))⟩
      ·exact False.elim k
     ·exact False.elim k
    ·exact False.elim k
   ·exact False.elim k
  ·exact False.elim k
noncomputable def qt(mo:M D):MS:=λρ O=>match mo ρ O with
 | .ok (.lst _) O1=>.nx ρ O1
 | _=>.no
def Gr.mutN{H F j m:Hp}{f b:List Addr}{a:Addr}{o:HO}(g:Gr H F f j m b)(d:H a=none):Gr H F f (upd j a o) m b :=
 ⟨g.fz,g.ff,g.nw,λc u e x hd=>by rw[aG (λz=>by rw[z,d] at e;cases e)];exact g.fr c u e x hd,λc e=>by
  by_cases h:c=a
  ·rw[h];exact d
  ·rw[aG h] at e;exact g.dm c e,λc q u e=>by rw[aG (λz=>by rw[z,d] at e;cases e)];exact g.kz c q u e⟩
def Yr{o:Expr}{apos b j:Pos}{mo:M D}(I:OE X md P o mo)
  (f:attributeBase o "clear" X.env (eval o X.env)=eval o X.env:=by rfl) (d:(apos.endLine == b.line)=true:=by rfl)
  (m:swapsWith (.Call (.Attribute o "clear" apos) [] [] b) none j.line X.env=pure false:=by rfl):
  VS X md P R (.Expr (.Call (.Attribute o "clear" apos) [] [] b) j) (qt mo):=
 (j6 (wJ PySem.F.plainAttrs_list PySem.F.slot_list_clear PySem.F.type_list_clear Ei I f d) m).imp λD σ H q=>by
  obtain⟨ρ,O,F,Y,r,s,k⟩:=q;unfold qt at k;split at k
  ·rename_i ds O1 W;refine⟨ρ,O,F,Y,_,_,r,s,W,λv H1 Z u L E G=>?_⟩
   rcases G with⟨J,_⟩ | ⟨a,x,es,rfl,z,C,U,T,Q,e7⟩
   ·cases J
   ·have y:=L.mutN (o:=.lst []) Q;exact⟨.inl ⟨rfl,x,.inl (.inl C)⟩,a,x,rfl,rfl,C,k σ _ Z u y.toS (E.mut U T) (s.step y)⟩
  ·exact False.elim k
end
def t7(K:Frag)(mg:Str->Option Value)(x:Str)(ls:List (List Nat)):Prop:=∃(a:Addr) (o:Obj) (b:Array Value) (n:Nat),mg x=some (.ref a)/\K.lookup a=some o/\o.cls=.type "tuple"/\o.data=.seq b n/\b.size<=sizeLine/\aH (ls.map λl=>V.str (S l)) b.toList
theorem Rps.texts{K:Frag}  :∀ls:List (List Nat),Rps K F as (ls.map λl=>V.str (S l)) (ls.map D.str)
 | []=>Rps.nil
 |l::ls=>Rps.cons Rp.str (Rps.texts ls)
def Ys  {md:List Md}{P:Pt}   {b:Pos}(h:t7 X.K X.mg x ls)(y:Gl X x:=by rfl)(j:(x == ("__debug__":Str))=false:=by decide):VE X md P (.Name x b) (mC (.tup (ls.map D.str))):=by
 obtain⟨a,o,f,n,m,u,h1,h2,h3,h4⟩:=h
 refine(Ey (v:=.ref a) ⟨_,m,rfl⟩ y j).imp λσ H Q q=>?_
 obtain⟨ρ,O,F,C,d,E,r,s,e,k⟩:=q;cases e;exact k _ H F C Gr.refl r (Rp.mkT (.inr ⟨o,f,n,u,h1,h2,h3,h4⟩) (Rps.texts ls))
theorem xN{α:Type}{p:List α->Prop}(h:p []):∀us:List α,us.length=0->p us:=λus e=>by
 cases us with
 |nil=>exact h
 |cons a b=>cases e
theorem lr{α:Type}{p:List α->Prop}  (h:∀a,∀us:List α,us.length=n->p (a::us)):∀us:List α,us.length=n+1->p us:=λus e=>by
 cases us with
 |nil=>cases e
 |cons a b=>exact h a b (Nat.succ.inj e)
def RlO.snocO{K:Frag}   (r:RlO K mg O H F y)(x:F a=none)(q:a∉y)(m:ObR K mg H F (y++[a]) a o):RlO K mg (O++[o]) H F (y++[a]):=by
 refine⟨r.fh,r.fd,jm.mpr ⟨r.nd,by simp,λc b d hd=>by rw[zj.mp hd];exact λz=>q (z ▸ b)⟩,by rw[ze,ze,r.len];rfl,λc b=>?_,λn c u b f=>?_⟩
 ·rcases zt.mp b with b | b
  ·exact r.fa c b
  ·rw[zj.mp b];exact x
 ·by_cases j:n<y.length
  ·rw[zE j] at b;rw[zE (by rw[<-r.len];exact j)] at f;exact(r.ob n c u b f).keep rfl (Same.refl F) xK
  ·have hn':n=y.length:=by
    have:=(zu.mp b).1
    rw[ze,zR] at this;omega
   subst hn';rw[zK (zc _),Nat.sub_self] at b;rw[r.len,zK (zc _),Nat.sub_self] at f;cases b;cases f;exact m
def RlO.mutG{K:Frag}     (r:RlO K mg O H F I)(d:I[n]?=some a)(hx:ObR K mg (upd H a h) F I a o):RlO K mg (O.set n o) (upd H a h) F I:=by
 have C:=zL d;refine⟨λc u e=>?_,r.fd,r.nd,by rw[zY];exact r.len,r.fa,λm c u f b=>?_⟩
 ·rw[aG (λz=>by rw[z,r.fa a C] at e;cases e)];exact r.fh c u e
 ·by_cases j:m=n
  ·subst j;rw[d] at f;cases f
   have q:m<O.length:=by rw[<-r.len];exact(zu.mp d).1
   rw[zS q] at b;cases b;exact hx
  ·rw[zh (Ne.symm j)] at b
   refine(r.ob m c u f b).keep (aG λz=>j ?_) (Same.refl F) λ_ _ h=>h
   obtain⟨E,x⟩:=zu.mp f;obtain⟨G,y⟩:=zu.mp d;exact(List.getElem_inj r.nd).mp (x.trans (z.trans y.symm))
def RlO.unF{K:Frag}  (r:RlO K mg O H F as)(b:H p=none):F p=none:=by
 cases e:F p with
 |none=>rfl
 |some o=>rw[r.fh p o e] at b;cases b
def Gr.snoc   (b:H p=none):Gr H F f (upd H p o) F (f++[p]):=
 ⟨λ_ _ _ _ _=>rfl,Same.refl F,⟨[p],rfl,λa h=>by rw[zj.mp h];exact b⟩,λa u e _ _=>by rw[aG (bV e b)];exact e,λa e=>by
  by_cases h:a=p
  ·subst h;exact b
  ·rwa [aG h] at e,λa d u e=>by rw[aG (bV e b)];exact e⟩
end L2
namespace L2
open PySem PySem.Spec PyProof.Rows PySem.W PySem.Calls
def Keeps(s:Shared)(a:Addr)(h':Heap):Prop:=∀b o,b≠a->s.heap.get? b=some o->h'.get? b=some o
structure GQ(mg:Str->Option Value):Prop extends Blt mg where
 sorted_:mg "sorted" = none
end L2
namespace L2
open PySem PySem.Spec PyProof.Rows
abbrev Yt(h:Heap)(z TI TO T:Addr)(b:Bool):Prop :=
 h.get? z=some {cls:=.type "zip",dict:=none,data:=.fields #[rawInt T,.bool b,.bool false,.ref TI,.ref TO],slots:=#[]}
structure ZS(base:Nat)(h:Heap)(z TI TO i1 i2 l1 l2 S:Addr)(xs ys acc:Array Value)(c i:Nat):Prop where
 zi:(IsZip h z TI TO .none/\∃a b,IsPair h TO a b)\/∃T b o,Yt h z TI TO T b/\h.get? T=some o/\T∉[z,TO,i1,i2,S]
 ti:IsPair h TI (.ref i1) (.ref i2)
 it1:h.IsListIter i1 l1 i
 it2:h.IsListIter i2 l2 i
 a1:h.IsList l1 xs
 a2:h.IsList l2 ys
 ls:h.get? S=some {cls:=.type "list",dict:=none,data:=.seq acc c,slots:=#[]}
 sz:acc.size=i
 tl:TO<h.objs.size
 nd:acc.toList.Nodup
 ts:∀(j:Nat) (v:Value),acc[j]?=some v->∃(T:Addr) (x y:Value),v=Value.ref T/\xs[j]?=some x/\ys[j]?=some y/\IsPair h T x y/\T∉[z,TO,i1,i2,S]/\base<=T
end L2
namespace L2
open PySem PySem.Spec PyProof.Rows PySem.W
end L2
namespace L2
open PySem PySem.Spec PyProof.Rows
def Yu(i:Int)(h:0<=i):Str.ofString (toString i)=S ((Nat.toDigits 10 i.toNat).map Char.toNat):=by
 obtain⟨m,rfl⟩:∃m:Nat,i=(m:Int):=⟨i.toNat,(Int.toNat_of_nonneg h).symm⟩;rw[Int.toNat_natCast,<-PySem.W.KIN.signs_num m,Ur]
def mD:List D->Option D
 | [.int i]=>if 0<=i/\i<1000000000 then some (.str ((Nat.toDigits 10 i.toNat).map Char.toNat)) else none
 | _=>none
def Yv:lq X (.type "str") mD:=by
 intro pins s σ H u f Q I j h;obtain⟨O,F,y,x,d,r,b,e,k⟩:=h;unfold mD at e;split at e
 ·rename_i i;split at e
  ·rename_i q;obtain⟨v,rfl,m⟩:=b.one;cases e;cases(m.rp rfl).unI;refine RB pins s σ H _ f Q I j ⟨i,rfl,shown (N:=2 ^ 1920) (by omega) (by omega) (Int.le_refl _),?_⟩;have z:=Yu i q.1;refine bO (v:=.str (Str.ofString (toString i))) r k rfl ?_;rw[z];exact Rp.str
  ·cases e
 ·cases e
structure QEC(mg:Str->Option Value):Prop extends GQ mg where
 reversed_:mg "reversed" = none
end L2
namespace L2
open PySem PySem.Spec PyProof.Rows PySem.W
def mdI:Option Int->List Int->Option Int
 |b,[]=>b
 |none,n::r=>mdI (some n) r
 |some m,n::r=>mdI (some (if n<m then n else m)) r
def MdV(d v:Value):Option Int->Prop
 |none=>v=d
 |some m=>∃t,v=.int m t
def MdB(bs:Array Value):Option Int->Prop
 |none=>bs = #[]
 |some m=>∃t,bs = #[.int m t,.int m t]
theorem Yw{d:String}    {s:Shared}  (q:builtinKind d=none)(m:plainId d=true)(u:entryFor table d=some b)(a0:argsOk d ⟨as,kw⟩)
  (c0:wpAny (model prog w) A.in1 (b ⟨as,kw⟩) (λfin j=>match fin with
   | .done f=>(match(Except.ok f:Result) with | .ok (.ret v)=>Q v j | .ok _=>False | .error e=>E e j)
   | .again c=>c.quiet=true/\codeAny (model prog w) A c (λr j=>match r with | .ok (.ret v)=>Q v j | .ok _=>False | .error e=>E e j) j) E s):
  wpAny (model prog w) A (call (.builtin d) as kw) Q E s:=by
 refine wpAny_call (codeAny_call_builtin m u ?_);simp  [checkBuiltinCall,q]
 cases g0:Manifest.signature? d with
 |none=>exact zb c0
 |some sg =>
  simp  [argsOk,g0] at a0
  have z :=a0;show wpAny _ _ (Bind.checkArgs d sg _) _ _ s;rw[z];exact zb c0
def Yx     (q:Q (.bool (decide (n<m))) s):wpAny (model prog w) A (richCompare .Lt (.int n t) (.int m u)) Q E s :=
 CmpOf.ints_lt (λi=>if i=0 then n else m) (λ_ _ z=>z) 0 1 _ _ s Q E ⟨t,rfl⟩ ⟨u,rfl⟩ q
def Yy{w:World}{A:Around}{R:Result->Shared->Prop}{l G S:Addr}{j:List Value}{d:Value}(hh:A.in1.handled=none)(n1:l≠G)(n2:S≠G)(n3:S≠l):
  ∀(us:List Value) (ns:List Int) (pre:List Value) (b:Option Int) (bs:Array Value) (s:Shared) (c:Nat),j=pre++us->aH (ns.map V.int) us->s.heap.IsListIter G l pre.length->s.heap.IsList l j.toArray->MdB bs b ->
   s.heap.get? S=some {cls:=.type "list",dict:=none,data:=.seq bs c,slots:=#[]} ->
   (∀v h' tk,MdV d v (mdI b ns)->(∀x o,x≠G->x≠S->s.heap.get? x=some o->h'.get? x=some o)->R (.ok (.ret v)) {s with heap:=h',toks:=tk}) ->
   codeAny (model prog w) A (.builtin "min.loop" ⟨[.ref G,.none,.ref S],[("default",d)]⟩) R s:=by
 have W:=Walks.list (prog:=prog) (w:=w) hh G l n1 j.toArray
 have nm:(toString "min" ++ toString ".loop":String) = "min.loop":=by decide
 have nS:S∉[G]:=λz=>n2 (zj.mp z)
 have ni:∀x:Addr,x≠G->x∉[G]:=λx z y=>z (zj.mp y)
 intro us
 induction us with
 |nil =>
  intro ns pre b bs s c e Z it hl Q T hR
  have ens:ns=[]:=by
   cases ns with
   |nil=>rfl
   |cons=>cases Z
  subst ens
  have el:pre.length=j.toArray.size:=by rw[e];simp
  rw[el] at it;refine zZ PySem.F.entry_min_loop ?_;rw[Around.under_plainId PySem.F.plain_min_loop _];show wpAny _ A.in1 (seqItems? (.ref S) >>= _) _ _ s;refine za (wpAny_seqItems T rfl ?_);show wpAny _ A.in1 (tryCatch (pyNext (.ref G)) _ >>= _) _ _ s;refine za (wpAny_tryCatch (W.done s _ _ ⟨it,hl⟩ λh1 tk kp=>?_));have E:=kp S _ nS T
  cases b with
  |none =>
   have C:bs = #[]:=Q;subst C;show wpAny _ A.in1 (rule _ >>= _) _ _ _;refine za (zX ?_);exact zb (hR d h1 tk rfl λx o P Y q=>kp x o (ni x P) q)
  |some m =>
   obtain⟨t,C⟩:=Q;subst C;show wpAny _ A.in1 (updateSeq S (λ_=>#[]) >>= _) _ _ _;refine za ?_;refine js E rfl (za (wpAny_letGo (zb ?_)))
   exact hR (.int m t) _ tk ⟨t,rfl⟩ λx o P Y q=>(jo _ _ (Ne.symm Y)).trans (kp x o (ni x P) q)
 |cons u us ih =>
  intro ns pre b bs s c e Z it hl Q T hR
  cases ns with
  |nil=>cases Z
  |cons n ns =>
   have rv':aH (V.int n::ns.map V.int) (u::us):=Z
   obtain⟨ru,rus⟩:RelV (.int n) u/\aH (ns.map V.int) us:=by
    cases rv' with
    |cons a b=>exact⟨a,b⟩
   obtain⟨I,rfl⟩:=ru
   have el:pre.length<j.toArray.size:=by rw[e];simp
   have e':j=(pre++[Value.int n I])++us:=by rw[e];simp
   have eg:j.toArray[pre.length]?=some (Value.int n I):=by rw[e];simp
   refine zZ PySem.F.entry_min_loop ?_;rw[Around.under_plainId PySem.F.plain_min_loop _];show wpAny _ A.in1 (seqItems? (.ref S) >>= _) _ _ s;refine za (wpAny_seqItems T rfl ?_);show wpAny _ A.in1 (tryCatch (pyNext (.ref G)) _ >>= _) _ _ s;refine za (wpAny_tryCatch (W.item pre.length s _ _ el ⟨it,hl⟩ λv h1 tk hv st kp=>?_));rw[eg] at hv;cases hv;have E:=kp S _ nS T
   have O:∀(h2:Heap) (y:Addr) (o:Obj),y≠S->h2.get? y=some o->∀f,(h2.update S f).get? y=some o:=λh2 y o z q f=>(jo _ _ (Ne.symm z)).trans q
   have go:∀(b2:Option Int) (L:Array Value) (h2:Heap) (U:Nat) (c2:Nat),MdB L b2->mdI b2 ns=mdI b (n::ns)->h2.get? S=some {cls:=.type "list",dict:=none,data:=.seq L c2,slots:=#[]} ->
     (∀x o,x≠S->h1.get? x=some o->h2.get? x=some o)->codeAny (model prog w) A (.builtin "min.loop" ⟨[.ref G,.none,.ref S],[("default",d)]⟩) R {s with heap:=h2,toks:=U}:=λb2 L h2 U c2 q1 q2 q3 q4=>by
    have X:=W.frame _ h1 h2 st λx hx o q=>q4 x o (λz=>by
     rcases zk.mp hx with rfl | hx
     ·exact n2 z.symm
     ·rcases zk.mp hx with rfl | hx
      ·exact n3 z.symm
      ·cases hx) q
    refine ih ns (pre++[Value.int n I]) b2 L _ c2 e' rus (by rw[ze];exact X.1) X.2 q1 q3 λv h3 tk3 P Y=>?_
    exact hR v h3 tk3 (q2 ▸ P) λx o y1 y2 q=>Y x o y1 y2 (q4 x o y2 (kp x o (ni x y1) q))
   cases b with
   |none =>
    have C:bs = #[]:=Q;subst C;show wpAny _ A.in1 (updateSeq S (λ_=>#[Value.int n I,Value.int n I]) >>= _) _ _ _;refine za ?_;refine js E rfl ?_;rw[nm];exact zb ⟨plainId_quiet PySem.F.plain_min_loop _,go (some n) _ _ _ _ ⟨I,rfl⟩ rfl (Heap.get?_update_self _ E rfl) λx o z q=>O _ x o z q _⟩
   |some m =>
    obtain⟨t,C⟩:=Q;subst C;show wpAny _ A.in1 (tryCatch (holding [Value.int n I,Value.int n I] (richCompare .Lt (.int n I) (.int m t) >>= _)) _ >>= _) _ _ _;refine za (wpAny_tryCatch (zP (za (Yx ?_))));refine za (zP (wpAny_truthy_bool ?_));refine za (wpAny_letGo (zb ?_))
    by_cases J:n<m
    ·rw[zv J];simp only[if_true];refine za ?_;refine js E rfl (za (wpAny_letGo ?_));rw[nm];exact zb ⟨plainId_quiet PySem.F.plain_min_loop _,go (some n) _ _ _ _ ⟨I,rfl⟩ (by show _=mdI (some (if n<m then n else m)) ns;rw[if_pos J]) (Heap.get?_update_self _ E rfl) λx o z q=>O _ x o z q _⟩
    ·rw[zl J];simp only[Bool.false_eq_true,if_false];refine za (wpAny_letGo ?_);rw[nm];exact zb ⟨plainId_quiet PySem.F.plain_min_loop _,go (some m) _ _ _ _ ⟨t,rfl⟩ (by show _=mdI (some (if n<m then n else m)) ns;rw[if_neg J]) E λx o z q=>q⟩
def t8:List D->Option D
 | [.lst ds]=>(fX ds).map λns=>match mdI none ns with
  |some m=>.int m
  |none=>.non
 | _=>none
def Yz(a d:Value):argsOk "min" ⟨[a],[("default",d)]⟩:=by kernel_rfl
def YB(C:X.calm=true)   {σ:St}     (I:Inv X pins σ H s)(y:SqL X.K H a (ns.map V.int))(q:Q (match mdI none ns with | some m=>.int m | none=>.non) H):
  wpAny (model X.prog X.w) X.A (call (.builtin "min") [.ref a] [("default",.none)]) (EP X pins σ Q) X.xe s:=by
 obtain⟨E,j,u,_⟩:=I.list y;have d:=u.isList
 have la:a<s.heap.objs.size:=by obtain⟨_,z,_⟩:=d;exact zm z
 refine Yw PySem.F.kind_min PySem.F.plain_min PySem.F.entry_min (Yz _ _) ?_;refine za (wpAny_of_eq ((rfl)) ?_);refine za (zb ?_);refine za (wpAny_pyIter_list d ?_);refine za (wpAny_newObj_type ?_);have sz:(s.heap.push {cls:=.type "list_iterator",data:=.fields #[.ref a,.int 0 0]}).objs.size=s.heap.objs.size+1:=Heap.size_push ..
 refine zb ⟨plainId_quiet PySem.F.plain_min_loop _,Yy (I.ok.hd C) (zq la) (Nat.ne_of_gt (by rw[sz];exact jd _)) (Nat.ne_of_gt (by rw[sz];exact jg la)) _ ns [] none _ _ 0 rfl j
  ⟨_,zo _ (zz _ rfl),rfl,rfl⟩ ((d.push _).push _) rfl (zz _ rfl) λv h1 tk f kp=>?_⟩
 have x :=λb o z=>kp b o (zq (zm z)) (zq (by rw[sz];exact jg (zm z))) (zo _ (zo _ z))
 refine⟨_,H,I.kept x,?_,q⟩
 cases e:mdI _ ns with
 | none
 |some m =>
  rw[e] at f;exact f
def YC{p b E C:Pos}{j:Nat}   (T:X.calm=true)(J:X.mg "min" = none)(U:SE X md P e m)(L:Gl X "min":=by rfl)(hs:starEach [e] X.env=(false,eval e X.env)::starEach [] X.env:=by exact bY rfl)(x:(backTo b (starEach [e] X.env)).any (·.1)=false:=by exact cP rfl)
  (R:backTo b (starEach [e] X.env)=(false,eval e X.env)::backTo b (starEach [] X.env):=by rfl):
  OE X md P (.Call (.Name "min" p) [e] [⟨some "default",.Constant .none j E,C⟩] b) (aJ t8 (aj m ao)):=by
 intro pins s σ H Q I q;refine wpAny_Call_Name_kw (j5 I L J boot_min ?_);have q':=xx (ms:=[.s]) q;refine callWith_kw (thn (Fj U Fg hs _ _ s σ H _ I q') λus s1 ⟨vs,H1,I1,r1,q1⟩=>?_) R x;refine kws_cons (Constant_none (kws_nil ?_));obtain⟨O,F,as,Z,d,r,f,e,k⟩:=q1;unfold t8 at e;split at e
 ·rename_i W;obtain⟨v,rfl,G⟩:=f.one;obtain⟨a,Y,rfl,h1,h2⟩:=G.list r.fh;obtain⟨u,rfl,y⟩:=vals1 r1;cases y
  cases hi:fX W with
  |none=>rw[hi] at e;cases e
  |some ns =>
   rw[hi] at e;cases e;have hx:=h2.ints hi;refine YB T I1 (by rw[<-hx];exact h1.sq) ?_
   cases em:mdI _ ns with
   |none =>
    dsimp  at k
    rw[em] at k;exact bO r k rfl Rp.non
   |some m =>
    dsimp  at k
    rw[em] at k;exact bO r k rfl Rp.int
 ·cases e
noncomputable def Itd(lo:Int)(n:Nat):It:=⟨λi _=>i<n,λi H x b=>b=H/\x=.int (lo - i),λi _=>n<=i⟩
def jH(lo:Int)(n:Nat):List D:=(List.range n).map λi:Nat=>.int (lo - i)
def YD   {K:PySem.W.Frag}  (it:Addr)(lo:Int)(n:Nat):Turn P w K tg (Itd lo n) [it] it (λi h=>IsRangeIter h it (lo+(i:Nat) * (-1)) ((n:Int) - (i:Nat)) (-1)) where
 mem:=by simp
 obj:=λi h st b hb=>by
  have e:b=it:=by simpa using hb
  subst e
  exact⟨_,st,λv z=>by
   have z':Data.fields _=Data.cell v:=z
   cases z'⟩
 keep:=λi h h' st k=>k it (by simp) _ st
 item:=by
  intro X hP hw hK hc i pins s σ H E I hf st hg;subst hP hw hK;obtain⟨f0,f1,f2,f3,f4,f5⟩:=hf it (by simp);have W:=Walks.range (prog:=X.prog) (w:=X.w) (I.ok.hd hc) it lo (-1) n
  refine W.item i s _ _ hg st λv h' tk hv st' kk=>?_
  obtain⟨t,rfl⟩:=hv;have I1:Inv X pins σ H {s with heap:=h',toks:=tk}:=I.turned (λb o hb e=>kk b o (by simpa using hb) e) f0 f1 f3 f4 f5;refine⟨_,rfl,nJ (s:={s with heap:=h',toks:=tk}) (n:="range_iterator") st' rfl rfl (by decide) ⟨.int (lo - i),H,I1,⟨t,?_⟩,⟨rfl,rfl⟩,st',λb hb=>(hf b hb).1⟩⟩;rw[show lo+(i:Int) * (-1)=lo - i by omega]
 done:=by
  intro X hP hw hK hc i pins s σ H E I hf st hg;subst hP hw hK;obtain⟨f0,f1,f2,f3,f4,f5⟩:=hf it (by simp)
  exact wpAny_pyNext_range_end (I.ok.hd hc) st (by have:n<=i:=hg;omega) λh' eb=>⟨rfl,I.turned (t':=s.toks) (λb o hb e=>eb b o hb e) f0 f1 f3 f4 f5⟩
 self:=λ_ _ _ _ _ st h=>wpAny_pyIter_rangeiter st h
def GR(a b:Int):Builtin.Range.rangeSize a b (-1)=if a>b then a - b else 0:=by
 unfold Builtin.Range.rangeSize;rw[if_neg (by decide)]
 split
 ·rw[show -(-1)=1 by decide];omega
 ·rfl
def small_down  (j:-(2 ^ 62)<=a)(f:a<2 ^ 62)(hb:-(2 ^ 62)<=b)(d:b<2 ^ 62):Builtin.Range.small a b (-1)=true:=by
 unfold Builtin.Range.small;rw[GR];simp  [Builtin.Range.rangeFitsLong,if_false]
 split<;>omega
def YF(d:TA):TI:=λσ H R=>d σ H λb f=>∃i j:Int,b=[.int i,.int j,.int (-1)]/\(-(2 ^ 62)<=i/\i<2 ^ 62/\-(2 ^ 62)<=j/\j<2 ^ 62)/\R (Itd i (i - j).toNat) f
def YG{m:Expr}   {p j:Pos}(y:Gl X "range")(x:X.mg "range" = none)(E:PA X [a,b,c] ta)(hs:starEach [a,b,c] X.env=[(false,eval a X.env),(false,eval b X.env),(false,eval c X.env)]:=by rfl)(d:starEach [b,c] X.env=[(false,eval b X.env),(false,eval c X.env)]:=by rfl):
  PI X m (.Call (.Name "range" p) [a,b,c] [] j) (YF ta):=by
 intro pins s σ H R I h;refine Call_ (j5 I y x boot_range (PyProof.Rows.callWith_type1 (thn (E _ _ s σ H _ I h) λus s1 ⟨vs,H1,I1,r1,q1⟩=>?_) (by rw[hs,d]) (by rw[d];rfl)));obtain⟨lo,f,e,⟨h1,h2,h3,h4⟩,q⟩:=q1;subst e
 cases r1 with
 |cons r rr =>
  cases rr with
  |cons r' rr =>
   cases rr with
   |cons r'' rr =>
    cases rr;obtain⟨t,rfl⟩:=r;obtain⟨u,rfl⟩:=r';obtain⟨v,rfl⟩:=r'';refine call_range_3 (by decide) ?_;refine wpAny_pyIter_range (IsRange.new ..) (small_down h1 h2 h3 h4) ?_
    have J:Inv X _ σ H1 {s1 with heap:=s1.heap.push {cls:=.type "range",data:=.fields #[.int lo t,.int f u,.int (-1) v]}}:=I1.kept λb o e=>zo _ e
    refine⟨(s1.heap.push _).objs.size,[(s1.heap.push _).objs.size],_,_,H1,rfl,
     J.kept λb o e=>zo _ e,YD _ lo _,?_,λb C=>?_,q⟩
    ·have G:lo+(0:) * -1=lo:=by simp
     have F:(lo - f).toNat - (0:)=Builtin.Range.rangeSize lo f (-1):=by rw[GR];split<;>omega
     rw[G,F];exact zz _ rfl
    ·have e:b=(s1.heap.push {cls:=.type "range",data:=.fields #[.int lo t,.int f u,.int (-1) v]}).objs.size:=by simpa using C
     subst e;exact J.fpOk (zc _) (J.hok.fresh (zc _))
def YH{K:Frag}  {lo:Int}   :lZ K mg P (Itd lo n) (jH lo n) H F q:=xF (λi d j e=>by
 unfold jH at e;rw[zF] at e
 by_cases b:i<n
 ·rw[List.getElem?_range b] at e;cases e;refine⟨b,λx m y=>?_⟩;obtain⟨f,rfl⟩:=y;exact⟨f,λ_ _ _=>Rp.int⟩
 ·rw[jp (by simpa using b)] at e
  cases e) λj=>by simp[jH,Itd]
def uc(m:M (List D)):M (List D):=λρ O=>(m ρ O).bind λb d=>match b with
 | [.int i,.int j,.int c]=>if c = -1/\i<=1000000000/\-1000000000<=i/\j<=1000000000/\-1000000000<=j then .ok (jH i (i - j).toNat) d else .no
 | _=>.no
def bQ.three{K:Frag}      (h:bQ K H F as [m1,m2,m3] vs [d,e,f]):∃v u z,vs=[v,u,z]/\rA K m1 (λ_=>True) H F as v d/\rA K m2 (λ_=>True) H F as u e/\rA K m3 (λ_=>True) H F as z f:=by
 cases vs with
 |nil=>exact h.elim
 |cons v vs =>
  obtain⟨h1,h2⟩:=h;obtain⟨u,z,rfl,h3,h4⟩:=bQ.two h2;exact⟨v,u,z,rfl,h1,h3,h4⟩
def YJ{y:Expr}  {p d:Pos}  (J:X.mg "range" = none)(T:AE X md P [.s,.s,.s] [a,b,c] m)(R:Gl X "range":=by rfl)(hs:starEach [a,b,c] X.env=[(false,eval a X.env),(false,eval b X.env),(false,eval c X.env)]:=by rfl)(x:starEach [b,c] X.env=[(false,eval b X.env),(false,eval c X.env)]:=by rfl):
  VI X md P y (.Call (.Name "range" p) [a,b,c] [] d) (uc m):=(YG R J T hs x).imp λσ H Q q=>by
 obtain⟨ρ,O,F,as,ds,O',r,s,e,k⟩:=q;obtain⟨es,O1,e1,e⟩:=Res.bind_ok e;split at e
 ·rename_i i j c;split at e
  ·rename_i L;cases e;obtain⟨rfl⟩:=L;refine⟨ρ,_,F,as,_,_,r,s,e1,λvs H1 F1 as1 U C G=>?_⟩;obtain⟨v,u,z,rfl,f,I,E⟩:=G.three;have Z:=(Sv.rp f rfl).unI;have Y:=(Sv.rp I rfl).unI;have W:=(Sv.rp E rfl).unI;subst Z Y W;exact⟨i,j,rfl,⟨by omega,by omega⟩,k _ H1 F1 _ U C YH⟩
  ·cases e
 ·cases e
section
variable {X:Cx}{pins:List (Addr×Obj)}{σ:List (Option V)}{H:Hp}{s:Shared}{a:Addr}{xs:List (List Key×V)}{o:Obj}
def Inv.reword{u:HO}(I:Inv X pins σ H s)(ha:H a≠none)(hn:∀ys,H a≠some (.tup ys))(ho:∀y,H a≠some (.own y))(hb:∀ps,H a≠some (.tbl ps))(hf:∀o u,X.H₀ a≠some (.frz o u))(new:bZ X.prog X.w (upd H a u) s.heap a u):Inv X pins σ (upd H a u) s where
 ok:=I.ok
 os:=I.os
 bare:=I.bare
 base:={
  keep:=I.base.keep
  slot:=I.base.slot
  free:=λb o' q n hx=>by
   have z:=I.base.free b o' q n hx;rw[aG (by intro e;have w:=z;rw[e] at w;exact ha w)];exact z
  there:=I.base.there
  tups:=λb ys q=>by
   have z:=I.base.tups b ys q;rw[aG (by intro e;have w:=z;rw[e] at w;exact hn ys w)];exact z
  frzs:=λb o' u' q=>by
   have z:=I.base.frzs b o' u' q;rw[aG (by intro e;have w:=q;rw[e] at w;exact hf o' u' w)];exact z
  tbls:=λb ps q=>by
   obtain⟨m,z⟩:=I.base.tbls b ps q
   exact⟨m,by rw[aG (by intro e;have w:=z;rw[e] at w;exact hb _ w)];exact z⟩}
 loc:=I.loc
 cell:=I.cell
 free:=by rw[aG (by intro e;have w:=I.free;rw[e] at w;exact ha w)];exact I.free
 freeC:=λx c q=>by rw[aG (by intro e;have w:=I.freeC x c q;rw[e] at w;exact ha w)];exact I.freeC x c q
 pin:=λp hp=>by
  obtain⟨h1,h2,h3,h4,h5⟩:=I.pin p hp;exact⟨h1,by rw[aG (by intro e;have w:=h2;rw[e] at w;exact ha w)];exact h2,h3,h4,h5⟩
 hok:=λb u' q=>by
  by_cases e:b=a
  ·subst e;rw[bC] at q;cases q;exact new
  ·rw[aG e] at q
   exact(I.hok b u' q).stay (λ_ _ _ z=>z) (λc z=>by rw[aG (by intro e;have w:=z;rw[e] at w;exact ho b w)];exact z) λc ys z=>by rw[aG (by intro e;have w:=z;rw[e] at w;exact hn ys w)];exact z
 len:=I.len
end
def YK      (hd:(d == sysModules)=false)(f:s.heap.get? d=some o)(hx:o.ExactDict)(b:o.data=.dict es ep)
  (m:Q (.ref s.heap.objs.size) {s with heap:=s.heap.push {cls:=.type "dict_keyiterator",data:=.fields #[.ref d,.int 0 0,.int es.size 0,.int ep 0]}}):
  wpAny (model prog w) A (pyIter (.ref d)) Q E s:=by
 have j:s.TypeIs (.ref d) _:=⟨o,f,hx.1⟩;refine wpAny_pyIter_slot j PySem.F.slot_dict_iter (wpAny_call_entry PySem.F.slot_dict_iter j PySem.F.entry_dict_iter ?_);refine za ?_;refine za (wpAny_notOrdered_dict j ?_);refine zb ?_;show wpAny _ _ (Builtin.Dict.showsAll d >>= _) _ _ s;unfold Builtin.Dict.showsAll;rw[if_neg (by rw[hd];exact zx)];refine za (zb ?_);refine za (wpAny_dictEntries f b ?_);refine za (wpAny_dictEpoch f b ?_);refine za (wpAny_newObj_type (zb ⟨_,rfl,"dict_keyiterator",_,⟨_,zz _ rfl,rfl⟩,PySem.F.slot_dict_keyiterator_next.lookup,?_⟩));simpa
def YL  {n:Nat}  {es:Array DictEntry}  (b:s.heap.IsKeyIter it d i n ep)(f:s.heap.get? d=some C)(j:C.data=.dict es ep)(hsz:es.size=n)(q:i<n)
  (y:∀h',h'.IsKeyIter it d (i+1) n ep->Heap.SameBut it s.heap h'->Q (some (es[i]'(by omega)).key) {s with heap:=h'}):
  wpAny (model prog w) A (pyNext (.ref it)) Q E s:=by
 obtain⟨o,m,x,hd⟩:=id b;unfold pyNext
 refine za (wpAny_attempt (wpAny_callSpecial?_slot b.typeIs PySem.F.slot_dict_keyiterator_next
  (wpAny_call_entry PySem.F.slot_dict_keyiterator_next b.typeIs PySem.F.entry_dict_keyiterator_next ?_)))
 refine za (zb ?_);refine za ?_;refine za ?_
 first | refine za (wpAny_typeNameOfWhole_keyiter b.typeIs (zb ?_)) | refine za
 refine za (wpAny_fieldsOf m hd ?_)
 have u:Builtin.Dict_items.ownsTuple "dict_keyiterator" = false:=by decide
 refine za (zb ?_);refine za (wpAny_dictEntries f j ?_);rw[if_neg (by rw[hsz];simp)];refine za (zb ?_);refine za (wpAny_dictEpoch f j ?_);rw[if_neg (by simp)];refine zb ?_
 have hlt':i<es.size:=by rw[hsz];exact q
 simp only[if_false,Int.toNat_natCast,Array.getElem?_eq_getElem hlt'];refine za ?_
 first | refine za (wpAny_typeNameOfWhole_keyiter b.typeIs (zb ?_)) | refine za
 refine za (wpAny_isOneOf_keyiter b.typeIs ?_);show wpAny _ _ (setField (.ref it) 1 (rawInt ((i:Int)+1)) >>= _) _ _ s;refine za (wpAny_setField m hd (by simp) ?_);have hit':(s.heap.update it (Obj.mapFields (·.setIfInBounds 1 (rawInt ((i:Int)+1))))).IsKeyIter it d (i+1) n ep :=
  ⟨_,Heap.get?_update_self _ m (Obj.isFreed_of_fields (Obj.data_mapFields hd _)),(Obj.cls_mapFields ..).trans x,by rw[Obj.data_mapFields hd];simp[rawInt]⟩
 refine za (zP ?_);refine za (wpAny_isOneOf_keyiter hit'.typeIs ?_);exact zb (zb ⟨_,rfl,zb (y _ hit' (Heap.SameBut.update ..))⟩)
def YM      (C:A.handled=none)(f:s.heap.IsKeyIter it d i n ep)(j:s.heap.get? d=some J)(q:J.data=.dict es ep)(hsz:es.size=n)(u:n<=i)
  (G:∀h',Heap.ExtBut it s.heap h'->Q none {s with heap:=h'}):wpAny (model prog w) A (pyNext (.ref it)) Q E s:=by
 obtain⟨o,x,I,hd⟩:=id f;unfold pyNext
 refine za (wpAny_attempt (wpAny_callSpecial?_slot f.typeIs PySem.F.slot_dict_keyiterator_next
  (wpAny_call_entry PySem.F.slot_dict_keyiterator_next f.typeIs PySem.F.entry_dict_keyiterator_next ?_)))
 refine za (zb ?_);refine za ?_;refine za ?_
 first | refine za (wpAny_typeNameOfWhole_keyiter f.typeIs (zb ?_)) | refine za
 refine za (wpAny_fieldsOf x hd ?_)
 have y:Builtin.Dict_items.ownsTuple "dict_keyiterator" = false:=by decide
 refine za (zb ?_);refine za (wpAny_dictEntries j q ?_);rw[if_neg (by rw[hsz];simp)];refine za (zb ?_);refine za (wpAny_dictEpoch j q ?_);rw[if_neg (by simp)];refine zb ?_
 have hge':es.size<=i:=by rw[hsz];exact u
 simp only[if_false,Int.toNat_natCast,Array.getElem?_eq_none hge'];refine za ?_
 first | refine za (wpAny_typeNameOfWhole_keyiter f.typeIs (zb ?_)) | refine za
 show wpAny _ _ (setField (.ref it) 0 .none >>= _) _ _ s;refine za (wpAny_setField x hd (by simp) ?_);refine za ?_;refine za (m:=firstArgMember _ _) (wpAny_of_eq (a:=Value.none) (by first | rfl | (rfl)) ?_);refine wpAny_newObj_type ?_ (by size_fits);simp only[raiseNew];refine za (wpAny_handled ?_);rw[(C)];refine za (zb (wpAny_throw ?_));refine za (wpAny_isInstance (T:="StopIteration") (b:=true) ⟨_,zz _ rfl,rfl⟩ isSubtype_stop ?_);exact zb (G _ (((Heap.SameBut.update ..).extBut.push _).push _))
def YQ{β:Type}{R:α->β->Prop}{l:List α}{m:List β}(h:Paired R l m):∀{i:Nat}{x:α}{y:β},l[i]?=some x->m[i]?=some y->R x y:=by
 induction h with
 |nil=>intro i x y h;cases h
 |cons a b ih =>
  intro i x y h1 h2
  cases i with
  |zero=>cases h1;cases h2;exact a
  |succ i=>exact ih h1 h2
section
variable {K:Frag}{mg:Str->Option Value}{O:au}{H F:Hp}{as:List Addr}
def Gr.tupF{b:Addr}{xs:List V}(hb:H b=some (.tup xs))(d:F b=none):Gr H F as H (upd F b (.tup xs)) as :=
 ⟨λa o e _ hd=>aG (λz=>by rw[z,hb] at e;cases e;cases hd),λa u e=>by rw[aG (bV e d)];exact e,⟨[],by simp,λ_ h=>nomatch h⟩,λ_ _ h _ _=>h,λ_ h=>h,λ_ _ _ h=>h⟩
def RlO.noT{b:Addr}{xs:List V}(r:RlO K mg O H F as)(hb:H b=some (.tup xs)):b∉as:=λj=>by
 obtain⟨n,f,e⟩:=List.mem_iff_getElem.mp j
 have m:n<O.length:=by rw[<-r.len];exact f
 have q:=r.ob n b O[n] (by rw[zy f,e]) (zy m)
 revert q
 cases O[n] with
 |ins c fs=>rintro⟨C,y,gs,_,h2,_⟩;rw[hb] at h2;cases h2
 |ml E=>rintro⟨xs,h1,_⟩;rw[hb] at h1;cases h1
 |dt d=>rintro⟨xs,h1,_⟩;rw[hb] at h1;cases h1
 |df d=>rintro⟨o,xs,h1,_⟩;rw[hb] at h1;cases h1
 |dk d=>rintro⟨xs,h1,_⟩;rw[hb] at h1;cases h1
 |kf d=>rintro⟨o,xs,h1,_⟩;rw[hb] at h1;cases h1
 |xc c fs=>rintro⟨C,x,u,_,h1,_⟩;rw[hb] at h1;cases h1
 |gone=>rintro⟨φ,h1⟩;rw[hb] at h1;cases h1
 |dn d=>rintro⟨xs,h1,_⟩;rw[hb] at h1;cases h1
 |nf d=>rintro⟨o,xs,h1,_⟩;rw[hb] at h1;cases h1
theorem ud{K:Frag}:∀ks:List Key,Rps K F as (ks.map kV) (ks.map tG)
 | []=>Rps.nil
 | .inl i::ks=>Rps.cons (show Rp K F as (.int i) (.int i) from rfl) (ud ks)
 | .inr x::ks=>Rps.cons (show Rp K F as (.str x) (.str x.cps.toList) from by
   show V.str x=V.str (S x.cps.toList)
   rw[show S x.cps.toList=x by cases x;simp[S]]) (ud ks)
end
section
variable {K:Frag}{mg:Str->Option Value}{md:List Md}{P:Pt}{ρ:aR}{σ:St}{O:au}{H F H' F':Hp}{as as':List Addr}
def gJ.reH{m:Md}{v:V}{d:D}{a:Addr}{h:HO}(q:gJ P K H F as m v d)(G:a∈as):gJ P K (upd H a h) F as m v d:=by
 cases m with
 |v=>exact q
 |s =>
  rcases q with q | ⟨c,f,E,C,y,x,b,u,j⟩
  ·exact .inl q
  ·exact .inr ⟨c,f,E,C,y,by rw[aG (λz=>b (by rw[z];exact G))];exact x,b,u,j⟩
 |o =>
  rcases q with⟨h1,q⟩ | ⟨c,f,E,C,y,x,I,b,u,j⟩
  ·exact .inl ⟨h1,q⟩
  ·exact .inr ⟨c,f,E,C,y,by rw[aG (λz=>b (by rw[z];exact G))];exact x,I,b,u,j⟩
def SlO.reH{a:Addr}{h:HO}(s:SlO K md P ρ σ H F as)(b:a∈as):SlO K md P ρ σ (upd H a h) F as :=
 ⟨s.len,s.len',λc p z=>s.pd c p (by
  by_cases e:c=a
  ·rw[e,bC] at z;cases z
  ·rwa [aG e] at z),λi m d j f=>let ⟨v,q,r⟩:=s.sl i m d j f;⟨v,q,r.reH b⟩,s.inj,s.pin⟩
def SlO.obAt{i n:Nat}(s:SlO K md P ρ σ H F as)(e:ρ[i]?=some (some (.ob n))):∃a,as[n]?=some a:=by
 have d:i<md.length:=by rw[<-s.len'];exact(zu.mp e).1
 obtain⟨v,_,q⟩:=s.sl i _ _ (zy d) e
 have b:Rp K F as v (.ob n):=by
  revert q
  cases md[i] with
  |v=>exact λq=>q
  |s =>
   rintro(q | ⟨a,xs,ds,_,z,_⟩)
   ·exact q
   ·cases z
  |o =>
   rintro(⟨_,q⟩ | ⟨a,xs,ds,_,z,_⟩)
   ·exact q
   ·cases z
 obtain⟨a,_,f⟩:=Rp.unO b;exact⟨a,f⟩
end
def cH(b:List (Key×D))(k:Key):Option D:=(b.find? λp=>decide (p.1=k)).map (·.2)
def dq(b:List (Key×D))(k:Key)(d:D):List (Key×D):=
 if(b.any λp=>decide (p.1=k))=true then b.map (λp=>if p.1=k then(p.1,d) else p) else b++[(k,d)]
def DkR(K:Frag)(F:Hp)(d:List Addr)(xs:List (Key×V))(b:List (Key×D)):Prop:=xs.map (·.1)=b.map (·.1)/\Rps K F d (xs.map (·.2)) (b.map (·.2))
def DkR.len{K:Frag}   (h:DkR K F d xs b):xs.length=b.length:=by
 have:=congrArg List.length h.1
 simpa using this
def DkR.un{K:Frag}    (h:DkR K F as xs (p::kvs)):∃v r,xs=(p.1,v)::r/\Rp K F as v p.2/\DkR K F as r kvs:=by
 obtain⟨h1,h2⟩:=h
 cases xs with
 |nil=>cases h1
 |cons x r =>
  obtain⟨v,j,e,f,d⟩:=h2.un;cases e;rw[zg,zg] at h1;have b:=(List.cons.inj h1).1;refine⟨x.2,r,?_,f,(List.cons.inj h1).2,d⟩;rw[<-b]
theorem DkR.val{K:Frag} :∀{b:List (Key×D)}{xs:List (Key×V)},DkR K F as xs b->(cH b k=none/\dJ xs k=none)\/∃d v,cH b k=some d/\dJ xs k=some v/\Rp K F as v d
 | [],xs,h=>by
  have:=h.len
  cases xs with
  |nil=>exact .inl ⟨rfl,rfl⟩
  |cons=>cases this
 |p::b,xs,h=>by
  obtain⟨v,r,rfl,h1,h2⟩:=h.un
  by_cases e:p.1=k
  ·exact .inr ⟨p.2,v,by simp[cH,List.find?_cons,e],nP e,h1⟩
  ·rw[show cH (p::b) k=cH b k by simp[cH,List.find?_cons,e],nQ (p:=(p.1,v)) e];exact DkR.val h2
theorem DkR.any{K:Frag} :∀{b:List (Key×D)}{xs:List (Key×V)},DkR K F as xs b->(xs.any λp=>decide (p.1=k))=b.any λp=>decide (p.1=k)
 | [],xs,h=>by
  have:=h.len
  cases xs with
  |nil=>rfl
  |cons=>cases this
 |p::b,xs,h=>by
  obtain⟨v,r,rfl,h1,h2⟩:=h.un;rw[List.any_cons,List.any_cons,DkR.any h2]
theorem DkR.repl{K:Frag}    (hv:Rp K F as v d):∀{b:List (Key×D)}{xs:List (Key×V)},DkR K F as xs b ->
  DkR K F as (xs.map λp=>if p.1=k then(p.1,v) else p) (b.map λp=>if p.1=k then(p.1,d) else p)
 | [],xs,h=>by
  have:=h.len
  cases xs with
  |nil=>exact⟨rfl,Rps.nil⟩
  |cons=>cases this
 |p::b,xs,h=>by
  obtain⟨u,r,rfl,h1,h2⟩:=h.un;obtain⟨j,f⟩:=DkR.repl (k:=k) hv h2
  by_cases e:p.1=k
  ·rw[zg,zg,if_pos e,if_pos e];exact⟨by rw[zg,zg,j],Rps.cons hv f⟩
  ·rw[zg,zg,if_neg e,if_neg e];exact⟨by rw[zg,zg,j],Rps.cons h1 f⟩
def DkR.put{K:Frag}   (h:DkR K F f xs b)(k:Key)   (hv:Rp K F f v d):DkR K F f (putK xs k v) (dq b k d):=by
 unfold putK dq;rw[h.any]
 split
 ·exact h.repl hv
 ·exact⟨by rw[zM,zM,h.1];rfl,by rw[zM,zM];exact Rps.snoc h.2 hv⟩
def RlO.dk{K:Frag}{n:Nat}   (r:RlO K mg O H F j)(b:j[n]?=some a)(d:O[n]?=some (.dk f)):∃xs,H a=some (.dK xs)/\DkR K F j xs f:=let ⟨xs,h1,h2,h3⟩:=r.ob n a _ b d;⟨xs,h1,h2,h3⟩
noncomputable def GX:M D:=λ_ O=>.ok (.ob O.length) (O++[.dk []])
def YS :VE X md P (.Dict [] [] m) GX:=Ue.imp λσ H Q q p b=>by
 obtain⟨ρ,O,F,f,d,j,r,s,e,k⟩:=q;cases e;refine k _ _ F _ (Gr.snoc b) ((r.lay b).snocO (r.unF b) (λz=>r.all z b) ⟨[],bC,rfl,Rps.nil⟩) (Rp.mkO ?_);rw[<-r.len,zK (zc _),Nat.sub_self];rfl
def lu(mo my b:M D):MS:=λρ O=>match b ρ O with
 | .ok d O1=>match mo ρ O1 with
  | .ok (.ob n) O2=>match my ρ O2 with
   | .ok y O3=>match keyOf y,O3[n]? with
    |some k,some (.dk kvs)=>if kvs.length<1000000 then .nx ρ (O3.set n (.dk (dq kvs k d))) else .no
    | _,_=>.no
   | _=>.no
  | _=>.no
 | _=>.no
def YT  (hr:aZ kk X.A)    (ho:VE X md P o mo)(hi:VE X md P i my)(hv:VE X md P value mv)
  (hs:swapsWith value (some (.Subscript o i pos')) pos.line X.env=pure false:=by rfl):VS X md P R (.Assign [.Subscript o i pos'] value pos) (lu mo my mv):=
 (Ub (wK hr) ho hi hv hs).imp λD σ H q=>by
  obtain⟨ρ,O,F,as,r,s,k⟩:=q;unfold lu at k;split at k
  ·rename_i d O1 e1;split at k
   ·rename_i n O2 e2;split at k
    ·rename_i y O3 e3;split at k
     ·rename_i ks kvs e4 e5;split at k
      ·rename_i hz;refine⟨ρ,O,F,as,_,_,r,s,e1,λv H1 F1 J m r1 hv=>⟨ρ,O1,F1,J,_,_,r1,s.step m,e2,λx H2 F2 I j r2 hx=>⟨ρ,O2,F2,I,_,_,r2,s.step (m.trans j),e3,λu Y C as3 f U hu=>?_⟩⟩⟩;obtain⟨a,rfl,ha⟩:=Rp.unO hx;have b:=f.at_ n a ha;obtain⟨L,T,Q⟩:=U.dk b e5;have G :=(hu).key e4;subst G;have E:=(hv).gr (j.trans f)
       have hl:L.length<sizeLine:=by rw[Q.len];exact zH hz (by decide)
       have g4:Gr Y C _ (upd Y a (.dK (putK L ks v))) C _:=qp (zL b) T;have W:=((m.trans j).trans f).trans g4;obtain⟨z1,Z⟩:=Q.put ks E;exact⟨a,_,rfl,qd.k T hl,k σ _ C _ W.toS (U.mutG b ⟨_,bC,z1,Z⟩) (s.step W)⟩
      ·exact False.elim k
     ·exact False.elim k
    ·exact False.elim k
   ·exact False.elim k
  ·exact False.elim k
def gO(mo my:M D):M D:=λρ O=>(mo ρ O).bind λx f=>match x with
 | .ob n=>(my ρ f).bind λy b=>match keyOf y,b[n]? with
  |some k,some (.dk kvs)=>match cH kvs k with
   |some d=>.ok d b
   |none=>.no
  | _,_=>.no
 | _=>.no
def YW  (Y:aZ kk X.A)    (Z:VE X md P o mo)(hi:VE X md P i my)(hs:sJ i:=by intro _ _;rfl):VE X md P (.Subscript o i pos) (gO mo my):=
 (T9 (wK Y) Z hi hs).imp λσ H Q q=>by
  obtain⟨ρ,O,F,as,d,O',r,s,e,k⟩:=q;obtain⟨x,O1,e1,e⟩:=Res.bind_ok e
  cases x with
  |ob n =>
   obtain⟨y,O2,e2,e⟩:=Res.bind_ok e;split at e
   ·rename_i ks kvs e3 e4;split at e
    ·rename_i d' b;cases e;refine⟨ρ,_,F,as,_,_,r,s,e1,λx H1 F1 m I U hx=>⟨ρ,_,F1,m,_,_,U,s.step I,e2,λu H2 F2 as2 G E W=>?_⟩⟩;obtain⟨a,rfl,ha⟩:=Rp.unO hx;obtain⟨xs,R,L⟩:=E.dk (G.at_ n a ha) e4;have j :=(W).key e3;subst j
     rcases L.val with⟨f,C⟩ | ⟨d2,T,f,C,J⟩
     ·rw[f] at b;cases b
     ·rw[f] at b;cases b;refine⟨a,T,rfl,?_,k _ H2 F2 _ (I.trans G) E J⟩;rw[<-C];exact jx.k R
    ·cases e
   ·cases e
  | _=>cases e
def ue(b:Bool)(my mo:M D):M D:=λρ O=>(my ρ O).bind λy f=>(mo ρ f).bind λx d=>match x with
 | .ob n=>match keyOf y,d[n]? with
  |some k,some (.dk kvs)=>.ok (.bl (b != (cH kvs k).isSome)) d
  | _,_=>.no
 | _=>.no
def YX{X:Cx}     (q:tM X.K X.mg md P (rO X.K) (ue true my mo) σ H Q):En (tM X.K X.mg md P (rV X.K) my) (tM X.K X.mg md P (rV X.K) mo) σ H Q:=by
 obtain⟨ρ,O,F,as,d,O',r,s,e,k⟩:=q;obtain⟨y,O1,e1,e⟩:=Res.bind_ok e;obtain⟨x,O2,e2,e⟩:=Res.bind_ok e;split at e
 ·split at e
  ·rename_i ks kvs Z Y;cases e;refine⟨ρ,_,F,as,_,_,r,s,e1,λu H1 F1 G C T U=>⟨ρ,_,F1,G,_,_,T,s.step C,e2,λx I J as2 m j hx=>?_⟩⟩;obtain⟨a,rfl,W⟩:=Rp.unO hx;obtain⟨xs,R,L⟩:=j.dk W Y;have E :=((U).gr m).key Z;subst E;refine⟨a,_,rfl,jx.k R,?_⟩
   rcases L.val with⟨f,b⟩ | ⟨d',v',f,b,z3⟩
   ·rw[f] at k;rw[b];exact k _ I J _ (C.trans m) j (.inl ⟨rfl,Rp.bl⟩)
   ·rw[f] at k;rw[b];exact k _ I J _ (C.trans m) j (.inl ⟨rfl,Rp.bl⟩)
  ·cases e
 ·cases e
def YZ  (b:aZ m X.A)    (j:VE X md P i my)(d:VE X md P o mo)(f:behindInMarks .NotIn o=false:=by with_unfolding_all rfl):TsE X md P (.Compare i [.NotIn] [o] pos) (az (ue true my mo)):=
 (v7 (Ua (wK b) j d) f).imp λσ H Q h=>YX (qi h)
theorem Rps.reverse{K:Frag}  :∀{ds:List D}{xs:List V},Rps K F as xs ds->Rps K F as xs.reverse ds.reverse
 | [],xs,h=>by rw[h.un0];exact Rps.nil
 |d::ds,xs,h=>by
  obtain⟨x,r,rfl,h1,h2⟩:=h.un;rw[List.reverse_cons,List.reverse_cons];exact Rps.snoc (Rps.reverse h2) h1
noncomputable def uf(i:Nat):MS:=λρ O=>match ρ[i]? with
 |some (some (.lst ds))=>.nx (ρ.set i (some (.lst ds.reverse))) O
 | _=>.no
def Y0{X:Cx}{P:Pt}{R:RR}(i:Nat){x:Str}{p apos b j:Pos}(C:md[i]?=some .o:=by rfl)(hN:X.N[i]?=some x:=by rfl)(I:Vis X.env.scope x:=by first | exact Or.inl rfl | exact Or.inr (Or.inl rfl) | exact Or.inr (Or.inr rfl))
  (hd:(x == ("__debug__":Str))=false:=by decide) (u:(x == ("__classdict__":Str))=false:=by decide)
  (f:attributeBase (.Name x p) "reverse" X.env (eval (.Name x p) X.env)=eval (.Name x p) X.env:=by rfl) (d:(apos.endLine == b.line)=true:=by rfl)
  (m:swapsWith (.Call (.Attribute (.Name x p) "reverse" apos) [] [] b) none j.line X.env=pure false:=by rfl):
  VS X md P R (.Expr (.Call (.Attribute (.Name x p) "reverse" apos) [] [] b) j) (uf i):=
 (j6 (wJ PySem.F.plainAttrs_list PySem.F.slot_list_reverse PySem.F.type_list_reverse Tw (iu (i:=i) hN I hd u) f d) m).imp λD σ H q=>by
  obtain⟨ρ,O,F,L,r,s,k⟩:=q;unfold uf at k;split at k
  ·rename_i T G;obtain⟨a,y,h1,h2,h3,h4,E,J⟩:=s.own C G
   have Q:H a≠none:=by rw[h2];exact λz=>nomatch z
   exact⟨_,h1,.inl ⟨rfl,y,.inl (.inl h2)⟩,a,y,rfl,rfl,h2,k σ _ F L (qj h2 E) (r.mut h3 h4) (s.mut C G h1 h3 h4 E (Rps.reverse J))⟩
  ·exact False.elim k
def iH:List Int->Option Int
 | []=>none
 |n::ns=>match iH ns with
  |some m=>some (if m<n then n else m)
  |none=>some n
theorem xO:∀{ns:List Int}{M:Int},M∈ns->(∀a,a∈ns->a<=M)->iH ns=some M
 | [],M,h,_=>nomatch h
 |n::ns,M,h,hM=>by
  unfold iH
  rcases zk.mp h with rfl | h
  ·cases e:iH ns with
   |none=>rfl
   |some m =>
    dsimp only
    have:∀{ns:List Int}{m:Int},iH ns=some m->m∈ns:=by
     intro ns
     induction ns with
     |nil=>intro m h;cases h
     |cons n ns ih =>
      intro m h;unfold iH at h
      cases e:iH ns with
      |none=>rw[e] at h;cases h;exact zd
      |some k =>
       rw[e] at h;dsimp only at h;cases h
       split
       ·exact zd
       ·exact zp _ (ih e)
    have f:=hM m (zp _ (this e))
    by_cases b:m<M
    ·rw[if_pos b]
    ·rw[if_neg b];exact congrArg some (by omega)
  ·rw[xO h λa d=>hM a (zp _ d)];dsimp only
   have:=hM n zd
   by_cases b:M<n
   ·omega
   ·rw[if_neg b]
def mF:List D->Option D
 | [.lst ds]=>match fX ds with
  |some ns=>(iH ns).map D.int
  |none=>none
 | _=>none
def Y4(U:X.calm=true):fH X (.builtin "max") (λxs H Q=>∃(a:Addr) (ns:List Int) (M:Int),xs=[.ref a]/\SqL X.K H a (ns.map V.int)/\iH ns=some M/\Q (.int M) H):=by
 intro pins s σ H xs W Q I r h;obtain⟨a,ns,M,rfl,m,G,q⟩:=h;obtain⟨u,rfl,L⟩:=vals1 r;cases L;obtain⟨d,J,p,Y⟩:=I.list m;have y:=intsAre_of J;have F:=p.isList;obtain⟨xs,f⟩:=y.allInts.items;have P:=y.numsOf
 have E:0<ns.length:=by
  cases ns with
  |nil=>cases G
  |cons n ns=>exact Nat.succ_pos _
 have C:0<xs.size:=by
  have h1:d.toArray.size=xs.size:=by rw[f];simp[intItems]
  rw[<-h1,zG,y.length];exact E
 rw[f] at F
 refine max_intList (I.ok.hd U) F C λv Z tk O R=>?_
 obtain⟨t,rfl⟩:=intItems_at O;have x:numsOf d=numsOf d.toArray.toList:=rfl;rw[f,nums_intItems] at x;rw[P] at x;obtain⟨h1,h2⟩:=argBest_gt (numAt xs) (xs.size - 1)
 have b:=xO (ns:=ns) (M:=numAt xs (argBest (λi j=>decide (numAt xs i>numAt xs j)) (xs.size - 1))) (by
  rw[x,numAt_eq]
  exact getD_mem (by rw[zf,Array.length_toList];omega)) (λa m=>by
  rw[x] at m;obtain⟨j,T,rfl⟩:=mem_getD m;rw[zf,Array.length_toList] at T;rw[<-numAt_eq]
  exact h2 j (by omega))
 rw[G] at b
 have:=zC b
 rw[<-this];exact⟨.int M,H,I.kept (t':=tk) R,⟨t,rfl⟩,q⟩
def Y5(u:X.calm=true):lq X (.builtin "max") mF:=by
 intro pins s σ H f j Q I m h;obtain⟨O,F,C,y,d,r,b,e,k⟩:=h;unfold mF at e;split at e
 ·rename_i x;obtain⟨v,rfl,q⟩:=b.one;obtain⟨a,f,rfl,h1,h2⟩:=q.list r.fh
  cases hi:fX x with
  |none=>rw[hi] at e;cases e
  |some ns =>
   rw[hi] at e;dsimp only at e
   cases hm:iH ns with
   |none=>rw[hm] at e;cases e
   |some M =>
    rw[hm] at e;cases e;have hx:=h2.ints hi;exact Y4 u pins s σ H _ j Q I m ⟨a,ns,M,rfl,by rw[<-hx];exact h1.sq,hm,bO r k rfl Rp.int⟩
 ·cases e
end L2
namespace L2
open PySem PySem.Spec PyProof.Rows PySem.W PySem.Calls
def d9(ss:List Str)(x:Str):List Str:=if x∈ss then ss else ss++[x]
def mH(es:Array (Int×Value)):List Str:=es.toList.map λe=>strOf e.2
def dw(prog:Program)(w:World)(h:Heap)(a:Addr)(ss:List Str)(o:Obj)(es:Array (Int×Value))(ep:Nat)(t:SetTable):Prop :=
 h.get? a=some o/\o.ExactSet/\o.data=.set es ep t/\ElemsOf (PySem.strKind prog w) es.toList/\(mH es).Perm ss/\es.size<scanBound/\t.fits es.size=true/\(es.size=0\/t.plain=false)/\t.led = !w.params.followText "set-order"
def cQ(prog:Program)(w:World)(h:Heap)(a:Addr)(ss:List Str):Prop:=∃o b d t,dw prog w h a ss o b d t
section
variable {prog:Program}{w:World}{A:Around}{E:Value->Shared->Prop}{s:Shared}{a:Addr}{ss:List Str}
def cQ.at{h h':Heap}(x:cQ prog w h a ss)(k:∀o,h.get? a=some o->h'.get? a=some o):cQ prog w h' a ss :=
 let ⟨o,es,ep,t,h1,r⟩:=x;⟨o,es,ep,t,k o h1,r⟩
def cQ.len{h:Heap}(x:cQ prog w h a ss):ss.length<scanBound:=by
 obtain⟨o,f,j,t,h1,h2,h3,h4,d,b,_⟩:=x;rw[<-d.length_eq];unfold mH;rw[zf];exact b
def Y6(t:SetTable)(es:Array (Int×Value))(n:Nat)(h:t.plain=false):(relayAll t es n).2.1.plain=false:=by
 unfold relayAll
 split
 ·rename_i b order e
  dsimp
  split
  ·unfold SetTable.relaid SetTable.laid at e
   cases q:SetTable.layClean _ _ with
   |none=>rw[q] at e;cases e
   |some  =>
    rw[q] at e;cases e;exact h
  ·rfl
 ·rfl
def Y7(t:SetTable)(es:Array (Int×Value))(n:Nat):(relayAll t es n).2.1.led=t.led:=by
 unfold relayAll
 split
 ·rename_i b order e
  dsimp
  split
  ·unfold SetTable.relaid SetTable.laid at e
   cases q:SetTable.layClean _ _ with
   |none=>rw[q] at e;cases e
   |some  =>
    rw[q] at e;cases e;rfl
  ·rfl
 ·rfl
def Y8(t:SetTable)(n:Nat):(t.orStandIn n).led=t.led:=by
 unfold SetTable.orStandIn
 split<;>rfl
def Y9(t:SetTable)(es:Array (Int×Value))(h:Int)(x:Value):(layNew t es h x).2.1.led=t.led:=by
 unfold layNew
 split
 ·exact Y8 _ _
 ·rfl
def GZ{h:Heap}     (u:h.get? a=some o)(f:o.ExactSet)(hd:o.data=.set es ep t)
   (j:ElemsOf (PySem.strKind prog w) y.toList) (q:(mH y).Perm ss) (hb:y.size<scanBound) (x:t'.fits y.size=true) (d:t'.plain=false) (b:t'.led = !w.params.followText "set-order"):
  (h.update a (Obj.putSet y t')).get? a=some {o with data:=.set y (ep+1) t'}/\cQ prog w (h.update a (Obj.putSet y t')) a ss:=by
 have m :=by
  have:=Heap.get?_update_self (Obj.putSet y t') u (by rw[putSet_of _ t' hd];rfl)
  rw[putSet_of _ t' hd] at this;exact this
 exact⟨m,_,y,ep+1,t',m,f,rfl,j,q,hb,x,.inr d,b⟩
def G3{g:Bool->Sem Unit}(Z:∀(b:Bool) (d:Shared) (Y:Unit->Shared->Prop),Y () d->wpAny (model prog w) A (g b) Y E d)
    (X:s.heap.get? a=some o) (I:o.ExactSet) (hd:o.data=.set es ep t)
   (m:ElemsOf (PySem.strKind prog w) es1.toList) (y:(mH es1).Perm ss) (q:es1.size<scanBound) (T:t2.fits es1.size=true) (x:t2.plain=false) (j:t2.led = !w.params.followText "set-order")
  (h:∀h',Heap.SameBut a s.heap h'->cQ prog w h' a ss->R (some true) {s with heap:=h'}):
  wpAny (model prog w) A (do
    storeSet a es1 t2
    if(!wasDummy&&t2.tooFull)=true then do
      g (relayAll t2 es1 (SetTable.grown es1.size)).2.2
      storeSet a (relayAll t2 es1 (SetTable.grown es1.size)).1 (relayAll t2 es1 (SetTable.grown es1.size)).2.1
      pure (some true)
     else pure (some true)) R E s:=by
 refine za (wpAny_storeSet_of X hd ?_ (fits_of_scanBound q));obtain⟨C,W⟩:=GZ X I hd m y q T x j;have f:=Heap.SameBut.update s.heap a (Obj.putSet es1 t2)
 split
 ·have P:=relayAll_perm t2 es1 (SetTable.grown es1.size);have G:=relayAll_fits t2 es1 (SetTable.grown es1.size);have u:=Y6 t2 es1 (SetTable.grown es1.size) x;have F:=Y7 t2 es1 (SetTable.grown es1.size)
  generalize  relayAll t2 _ _=Rl at P G u F ⊢
  obtain⟨L⟩:=Rl;have O :=m.perm P
  have Q:L.size=es1.size:=by rw[<-Array.length_toList,P.length_eq,Array.length_toList]
  have J:L.size<scanBound:=by rw[Q];exact q
  refine za (Z _ _ _ ?_);refine za (wpAny_storeSet_of C rfl ?_ (fits_of_scanBound J));obtain⟨_,U⟩:=GZ C I rfl O ((P.map _).trans y) J G u (F.trans j);exact zb (h _ (f.trans (Heap.SameBut.update _ a _)) U)
 ·exact zb (h _ f W)
def Za    (hS:cQ prog w s.heap a ss)(U:ss.length+1<scanBound)
  (h:∀h' b,Heap.SameBut a s.heap h'->cQ prog w h' a (d9 ss x)->Q b {s with heap:=h'}):
  wpAny (model prog w) A (setAddHashed a (.str x tk) ((PySem.strKind prog w).hash x)) Q E s:=by
 obtain⟨o,F,ep,t,Y,R,hd,u,X,hb,hf,hpl,C⟩:=hS
 have I:(PySem.strKind prog w).is x (.str x tk)=true:=by
  show Value.isStrOf x (.str x tk)=true;simp[Value.isStrOf]
 have hlen:F.size=ss.length:=by rw[<-X.length_eq];unfold mH;rw[zf,Array.length_toList]
 have hb1:F.size+1<scanBound:=by rw[hlen];exact U
 have hsc:(Value.str x tk).scannable=true:=rfl
 have key:∀e∈F.toList,∀y,(PySem.strKind prog w).is y e.2=true↔strOf e.2=y:=λe he y=>by
  obtain⟨⟨k,hk,_⟩,_⟩:=u e he;obtain⟨t',ht⟩:=Value.isStrOf_shape hk;rw[ht];show Value.isStrOf y (.str k t')=true↔k=y;simp[Value.isStrOf]
 refine zP (za (wpAny_setState_of Y hd hf ?_));dsimp only;rw[byScan_of hsc hb u];refine za ?_;refine za (zX ?_);refine za (wpAny_setScan_of I Y hd hf u ?_)
 cases hr:List.findIdx? _ F.toList with
 |some j =>
  obtain⟨hj,hpj,_⟩:=List.findIdx?_eq_some_iff_getElem.mp hr;have hx:x∈ss:=X.mem_iff.mp (zw.mpr ⟨F.toList[j],jh hj,(key _ (jh hj) x).mp hpj⟩);refine zb (zb ?_)
  have e:s = {s with heap:=s.heap}:=by cases s;rfl
  rw[e];exact h s.heap _ (Heap.SameBut.refl a s.heap) ⟨o,F,ep,t,Y,R,hd,u,by rw[d9,if_pos hx];exact X,hb,hf,hpl,C⟩
 |none =>
  have hx:x∉ss:=λhx=>by
   obtain⟨e,he,q⟩:=zw.mp (X.mem_iff.mpr hx)
   have:=List.findIdx?_eq_none_iff.mp hr e he
   rw[(key e he x).mpr q] at this;exact Bool.noConfusion this
  have hgw:∀(b:Bool) {f:Shared}{Z},Z () f->wpAny (model prog w) A (match b with | true=>rule "set.scan.the-table-gave-way" | false=>pure ()) Z E f :=
   λb f Z G=>by cases b<;>first | exact zb G | exact zX G
  have d:=layNew_perm t F ((PySem.strKind prog w).hash x) (.str x tk);have m:=layNew_fits t F ((PySem.strKind prog w).hash x) (.str x tk);have P:=Y9 t F ((PySem.strKind prog w).hash x) (.str x tk)
  generalize hL:layNew t F _ (.str x tk)=L at d m P ⊢
  obtain⟨es1,t1,W,gave⟩:=L;rw[Array.toList_push] at d;have J :=(u.push I hsc).perm d
  have hp1:(mH es1).Perm (d9 ss x):=by
   rw[d9,if_neg hx];refine(d.map _).trans ?_;rw[zM];exact X.append_right _
  have hb1':es1.size<scanBound:=by rw[<-Array.length_toList,d.length_eq,ze];simpa using hb1
  refine za (hgw _ ?_)
  split
  ·refine za ?_;refine zb ?_;refine G3 ?_ Y R hd J hp1 hb1' (SetTable.fits_plain_off m) rfl (P.trans C) ?_
   ·intro b f Z G;cases b<;>first | exact zb G | exact zX G
   ·intro h' O T;dsimp only;exact zb (h h' _ O T)
  ·rename_i hnp;refine za (zb ?_);refine G3 ?_ Y R hd J hp1 hb1' m (by simpa using hnp) (P.trans C) ?_
   ·intro b f Z G;cases b<;>first | exact zb G | exact zX G
   ·intro h' O T;dsimp only;exact zb (h h' _ O T)
def isS(x:Str)(t:Tok):(PySem.strKind prog w).is x (.str x t)=true:=by
 show Value.isStrOf x (.str x t)=true;simp[Value.isStrOf]
def map_getD(ns:List Str):(List.range' 0 ns.length).map (λi=>ns.getD i ⟨#[]⟩)=ns:=by
 apply List.ext_getElem
 ·simp
 ·intro i h1 h2;simp[h2]
def Zb{R:Result->Shared->Prop}{I:Addr}{fp m:List Addr}{G:Array GenState->Array GenState->Prop}{n:Nat}{P:Nat->Value->Prop}{St:Nat->Shared->Prop}(W:WalksS prog w A.in1 I fp m G n P St)(S:Addr)(C:S∉fp)
  (val:Nat->Str) (J:∀i v,P i v->∃t,v=.str (val i) t) (hb:n+1<scanBound):
  ∀(k i:Nat) (s:Shared) (ss:List Str),n - i=k->i<=n->St i s->ss.length<=i->cQ prog w s.heap S ss ->
   (∀d,Moved (S::m) G s d->cQ prog w d.heap S (((List.range' i (n - i)).map val).foldl d9 ss)->R (.ok (.ret .none)) d) ->
   codeAny (model prog w) A (.builtin "set.update.loop" ⟨[.ref S,.ref I],[]⟩) R s:=by
 have y:S∉m:=λh=>C (W.sub _ h)
 have f:∀b∈m,b∈S::m:=λb hb=>zp _ hb
 intro k
 induction k with
 |zero =>
  intro i s ss hk hi j Y T U
  have Z:i=n:=by omega
  subst Z;refine zZ PyProof.Rows.F.entry_set_update_loop ?_;rw[Around.under_plainId PyProof.Rows.F.plain_set_update_loop _];show wpAny _ A.in1 (pyNext (.ref I) >>= _) _ _ s;refine za (W.done s _ _ j λd q=>?_);show wpAny _ A.in1 (ret Value.none) _ _ d;refine zb (U d (q.mono f) ?_);rw[Nat.sub_self]
  exact T.at λo e=>q.heap S _ y e
 |succ k ih =>
  intro i s ss hk hi j Y T U
  have x:i<n:=by omega
  refine zZ PyProof.Rows.F.entry_set_update_loop ?_;rw[Around.under_plainId PyProof.Rows.F.plain_set_update_loop _];show wpAny _ A.in1 (pyNext (.ref I) >>= _) _ _ s;refine za (W.item i s _ _ x j λv d hP L q=>?_);obtain⟨t,rfl⟩:=J i v hP
  have hS':cQ prog w d.heap S ss:=T.at λo e=>q.heap S _ y e
  show wpAny _ A.in1 (holding [Value.str (val i) t] (setAdd S (.str (val i) t)) >>= _) _ _ d;refine za (zP ?_);unfold setAdd;refine zP ?_;refine za ((PySem.strKind prog w).pyHash (k:=val i) (isS _ _) ?_)
  refine Za (s:={d with toks:=d.toks+1}) hS' (by omega) λh' b u hS2=>?_
  refine zb ⟨plainId_quiet PyProof.Rows.F.plain_set_update_loop _,ih (i+1) _ (d9 ss (val i)) (by omega) x (W.frame _ d _ _ L (Nat.le_succ _) λb hb o e=>?_) ?_ hS2 λX O Q=>?_⟩
  ·rw[u.2 b (λh:b=S=>C (by rw[<-h];exact hb))];exact e
  ·unfold d9
   split
   ·omega
   ·rw[ze,zR];omega
  ·refine U X (Moved.trans W.gtrans ((q.mono f).then_heap (Nat.le_succ _) λb o hb e=>?_) O) ?_
   ·rw[u.2 b (λh:b=S=>hb (by rw[h];exact zd))];exact e
   ·rw[show n - i=(n - (i+1))+1 by omega,List.range'_succ,zg,List.foldl_cons];exact Q
def Zc(x:Value)
  (h:Q₁ (.ref s.heap.objs.size) {s with heap:=s.heap.push {cls:=.type "set",dict:=none,data:=.set #[] 0 (.fresh 0 0 (!w.params.followText "set-order"))}}):
  codeAny (model prog w) A (.call (.builtin "set.__new__") ⟨[.type "set",x],[]⟩) (wants Q₁ E) s:=by
 refine codeAny_of_tree ?_;refine za (wpAny_of_eq (PySem.F.newCall_set_1 x) (zb ⟨plainId_quiet PySem.F.plain_set_new _,zZ PySem.F.entry_set_new ?_⟩));have b:=sub_set_self
 wp_walk
 refine wpAny_askSetting (zb ?_);refine za (wpAny_alloc (zb ?_));exact zb h
def G4{h:Heap}:cQ prog w (h.push {cls:=.type "set",dict:=none,data:=.set #[] 0 (.fresh 0 0 (!w.params.followText "set-order"))}) h.objs.size []:=
 ⟨_,#[],0,_,zz _ rfl,⟨rfl,rfl,rfl⟩,rfl,λe b=>by simp at b,.nil,by decide,by rfl,.inl rfl,rfl⟩
set_option maxHeartbeats 8000000 in
def Zd
  (hh:A.handled=none) (hl:s.heap.IsList l items) (X:StrsAre items.toList ns) (hb:items.size+1<scanBound)
  (h:∀(h':Heap) (tk:Nat),cQ prog w h' s.heap.objs.size (ns.foldl d9 []) ->
   (∀b o,s.heap.get? b=some o->h'.get? b=some o)->Q (.ref s.heap.objs.size) {s with heap:=h',toks:=tk}):
  wpAny (model prog w) A (call (.type "set") [.ref l]) Q E s:=by
 obtain⟨c,tl,hmro⟩:=PySem.F.called_set.mro;have hmade:=PySem.F.called_set.made;have hsub:=PySem.F.called_set.sub;refine wpAny_call (codeAny_of_tree ?_);show wpAny _ _ (callAny (.type "set") _) _ _ _;refine zb ⟨Code.quiet_builtin _ (by decide +kernel),zZ PySem.F.entry_type_call ?_⟩;rw[Around.under_plain (weight_type_call_type "set" [.ref l] []) rfl];have h1:=PySem.F.called_set.notType;have h2:=PySem.F.called_set.canCreate;have hct:=PySem.F.typeCall_set_1 (.ref l)
 repeat (any_goals (first | assumption | wp_step))
 generalize hO:({cls:=.type "set",dict:=none,data:=.set #[] 0 (.fresh 0 0 (!w.params.followText "set-order"))}:Obj)=O0
 refine codeAny_mono (Zc (.ref l) (E:=E) (Q₁:=λobj q=>obj=.ref s.heap.objs.size/\q = {s with heap:=s.heap.push O0}) (by rw[hO];exact⟨rfl,rfl⟩)) λr q W=>?_
 cases r with
 |error e=>exact W
 |ok fl =>
  cases fl with
  |ret obj =>
   obtain⟨rfl,rfl⟩:=W
   have hfr:cQ prog w (s.heap.push O0) s.heap.objs.size []:=by rw[<-hO];exact G4
   have hS:(s.heap.push O0).get? s.heap.objs.size=some O0:=by rw[<-hO];exact zz _ rfl
   have U:O0.cls=.type "set":=by rw[<-hO]
   have hdat:O0.data=.set #[] 0 (.fresh 0 0 (!w.params.followText "set-order")):=by rw[<-hO]
   have hT:Shared.TypeIs {s with heap:=s.heap.push O0} (.ref s.heap.objs.size) "set":=⟨_,hS,U⟩;have hli:=PySem.F.called_set.init.lookup;have hbi:=PySem.F.called_set.init.bind (.ref s.heap.objs.size)
   repeat (any_goals (first | assumption | wp_step))
   refine codeAny_mono (codeAny_call_builtin (R:=wants (λr m=>r=.none/\∃h' tk,m = {s with heap:=h',toks:=tk} /\
     cQ prog w h' s.heap.objs.size (ns.foldl d9 []) /\
     (∀b o,s.heap.get? b=some o->h'.get? b=some o)) E) PySem.F.called_set.init.plain PySem.F.entry_set_init (check_set_init_1 hT ?_)) λO m d=>?_
   ·subst hO;obtain⟨ol,C,L,nl,J⟩:=hl;obtain⟨ocls,y,odata,j⟩:=ol;simp only at L J;subst L;subst J;have hol':(s.heap.push {cls:=.type "set",dict:=none,data:=.set #[] 0 (.fresh 0 0 (!w.params.followText "set-order"))}).get? l=some {cls:=.type "list",dict:=y,data:=.seq items nl,slots:=j}:=zo _ C;have hsls:=PySem.F.sub_list_set;have hslf:=PySem.F.sub_list_frozenset
    have hne:(Value.type "list" == Value.type "dict")=false:=by decide
    have I:(s.heap.push {cls:=.type "set",dict:=none,data:=.set #[] 0 (.fresh 0 0 (!w.params.followText "set-order"))}).IsList l items:=⟨_,hol',rfl,nl,rfl⟩;unfold Builtin.«set.__init__» noKeywords Builtin.Frozenset.updateFrom
    generalize hPI:pyIter=PI
    wp_walk
    subst hPI;refine wpAny_pyIter_list I ?_;refine za (wpAny_runValue ?_);have G:l<s.heap.objs.size:=zm C
    have hh3:A.in1.in1.in1.handled=none:=by simp[hh]
    have T:l≠(s.heap.push {cls:=.type "set",dict:=none,data:=.set #[] 0 (.fresh 0 0 (!w.params.followText "set-order"))}).objs.size:=by
     rw[Heap.size_push];exact zq (jg G)
    have hSf:s.heap.objs.size∉[(s.heap.push {cls:=.type "set",dict:=none,data:=.set #[] 0 (.fresh 0 0 (!w.params.followText "set-order"))}).objs.size,l]:=by
     rw[Heap.size_push];simp only[zk,zj,List.not_mem_nil,or_false,not_or];exact⟨zq (jd _),Nat.ne_of_gt G⟩
    have hnl:ns.length=items.size:=by rw[<-X.strs,zf,Array.length_toList]
    have P:∀(i:Nat) (v:Value),items[i]?=some v->∃t,v=.str ((λi=>ns.getD i ⟨#[]⟩) i) t:=λi v hv=>by
     have hv':items.toList[i]?=some v:=by rw[Array.getElem?_toList];exact hv
     obtain⟨x,t,rfl⟩:=X.all v (zL hv');refine⟨t,?_⟩
     have u:(items.toList.map strOf)[i]?=some x:=by rw[zF,hv'];rfl
     rw[X.strs] at u;show Value.str x t=Value.str (ns.getD i ⟨#[]⟩) t;rw[jr,u];rfl
    refine Zb ((Walks.list hh3 _ l T items).toS) s.heap.objs.size
     hSf (λi=>ns.getD i ⟨#[]⟩) P hb (items.size - 0) 0 _ [] (by omega) (Nat.zero_le _)
     ⟨⟨_,zz _ rfl,rfl,rfl⟩,(I.push _)⟩ (zc _) (G4.at λo e=>zo _ e) ?hR
    intro s' u f;rw[Nat.sub_zero,<-hnl] at f;rw[map_getD] at f;obtain⟨h',g',d',Y,Z⟩:=s';have eg:g'=s.gens:=u.gens;have ed:d'=s.drawn:=u.drawn;have eo:Z=s.os:=u.os;subst eg;subst ed;subst eo;show wpAny _ _ _ _ _ _;refine zb ?_;show wpAny _ _ (ret Value.none) _ _ _;refine zb ⟨rfl,h',Y,rfl,f,λb o e=>?_⟩;have hb':=zm e;have hb1:b≠s.heap.objs.size:=zq hb'
    have hb2:b≠(s.heap.push {cls:=.type "set",dict:=none,data:=.set #[] 0 (.fresh 0 0 (!w.params.followText "set-order"))}).objs.size:=by
     rw[Heap.size_push];exact zq (jg hb')
    exact u.heap b o (by simp only[zk,zj,List.not_mem_nil,or_false,not_or];exact⟨hb1,hb2⟩) (zo _ (zo _ e))
   ·cases O with
    |error e=>exact d
    |ok fl₂ =>
     cases fl₂ with
     |ret r =>
      obtain⟨rfl,h',tk,rfl,f,hk'⟩:=d
      repeat (any_goals (first | assumption | wp_step))
      exact h _ _ f hk'
     | _=>exact d.elim
  | _=>exact W.elim
end
def gP:Slot "set_iterator" "__next__" "set_iterator.__next__" :=
 .of (owner:="set_iterator") (n:="__next__") (by kernel_rfl) (by decide ) (by decide ) (by decide )
  (by first | exact .inl (by decide ) | exact .inr) (by kernel_rfl)
def ug:entryFor table "set_iterator.__next__" = some Builtin.«set_iterator.__next__»:=entryFor_of_tree (by kernel_rfl)
def Ze(a:Value):argsOk "set_iterator.__next__" ⟨[a],[]⟩:=by kernel_rfl
def G5:Slot "set_iterator" "__iter__" "set_iterator.__iter__" :=
 .of (owner:="set_iterator") (n:="__iter__") (by kernel_rfl) (by decide ) (by decide ) (by decide )
  (by first | exact .inl (by decide ) | exact .inr) (by kernel_rfl)
def Zf:entryFor table "set_iterator.__iter__" = some Builtin.«dict_keyiterator.__iter__» :=
 entryFor_alias (id':="dict_keyiterator.__iter__") (by kernel_rfl) rfl (by decide +kernel) (by kernel_rfl)
def QCr(a:Value):argsOk "set_iterator.__iter__" ⟨[a],[]⟩:=by kernel_rfl
def Zg:entryFor table "set.__iter__" = some Builtin.«frozenset.__iter__» :=
 entryFor_alias (id':="frozenset.__iter__") (by kernel_rfl) rfl (by decide +kernel) (by kernel_rfl)
def ItS(h:Heap)(I a:Addr)(first:Value)(i n ep:Nat):Prop:=∃o,h.get? I=some o/\o.cls=.type "set_iterator"/\o.data=.fields #[first,.int i 0,.ref a,.int n 0,.int ep 0]
section
variable {prog:Program}{w:World}{A:Around}{E:Value->Shared->Prop}{s:Shared}{a:Addr}{ss:List Str}{o:Obj}{es:Array (Int×Value)}{ep:Nat}{t:SetTable}
def ItS.typeIs{I:Addr}{first:Value}{i n:Nat}(h:ItS s.heap I a first i n ep):s.TypeIs (.ref I) "set_iterator":=let ⟨o,h1,h2,_⟩:=h;⟨o,h1,h2⟩
def Zh{M:Model}    (b:n≠0)(h:∀i d,i<n->Q i {s with drawn:=d}):wpAny M A (choose src n) Q E s :=
 λΓ p f=>⟨b,h _ _ (Nat.mod_lt _ (Nat.pos_of_ne_zero b))⟩
theorem xP{α:Type}:∀(l:List α) (i:Nat) (h:i<l.length),(l[i]::l.eraseIdx i).Perm l
 |x::xs,0,_=>.refl _
 |x::xs,i+1,h=>(List.Perm.swap _ _ _).trans ((xP xs i _).cons x)
theorem G6{M:Model}{α:Type}:∀(n:Nat) (xs:List α) (s:Shared) (Q:List α->Shared->Prop),xs.length=n->(∀ys d,ys.Perm xs->Q ys {s with drawn:=d})->wpAny M A (drawOrder n xs) Q E s
 | 0,xs,s,Q,hl,h=>by
  rw[List.length_eq_zero_iff.mp hl] at h;exact zb (h [] s.drawn .nil)
 |n+1,[],s,Q,hl,h=>by cases hl
 |n+1,x::xs,s,Q,hl,h=>by
  unfold drawOrder;refine za (Zh (by simp) λi d b=>?_);rw[zy b];refine za (G6 n _ _ _ ?_ λys j f=>?_)
  ·rw[List.length_eraseIdx_of_lt b];omega
  ·exact zb (h _ j ((f.cons _).trans (xP _ _ b)))
def Zi  (x:dw prog w s.heap a ss o es ep t)
  (h1:(w.params.followText "set-order" = true\/es.size<=1)->Q (.ref s.heap.objs.size) {s with heap:=s.heap.push {cls:=.type "set_iterator",data:=.fields #[.int 0 0,.int 0 0,.ref a,.int es.size 0,.int ep 0]}})
  (h2:w.params.followText "set-order" = false->∀(ps:List Nat) d,ps.Perm (List.range es.size)->Q (.ref (s.heap.objs.size+1)) {s with drawn:=d,heap:=(s.heap.push {cls:=.type "tuple",data:=.seq (ps.map λi=>Value.int (i:Nat) 0).toArray}).push {cls:=.type "set_iterator",data:=.fields #[.ref s.heap.objs.size,.int 0 0,.ref a,.int es.size 0,.int ep 0]}}):
  wpAny (model prog w) A (pyIter (.ref a)) Q E s:=by
 obtain⟨m,y,hd,L,O,J,u,f,I⟩:=x;have G:s.TypeIs (.ref a) "set":=⟨o,m,y.1⟩;refine wpAny_pyIter_slot G PySem.F.slot_set_iter (wpAny_call_entry PySem.F.slot_set_iter G Zg ?_);unfold Builtin.«frozenset.__iter__» Builtin.Frozenset.slot0 slotArgs;simp only[List.isEmpty_nil,Bool.not_true,Bool.false_eq_true,↓reduceIte,bind_assoc,jb,bne_self_eq_false];refine za (zb ?_);dsimp only;refine za (zb ?_);refine za (za (wpAny_setEntries_of m hd u (zb ?_)));refine za (za (wpAny_setState_of m hd u ?_));refine za (za (wpAny_askSetting (zb ?_)));refine zb ?_;refine wpAny_ite_split (λb=>?_) (λb=>?_)
 ·change (!w.params.followText "set-order" && (!t.plain&&decide (es.size>1)))=true at b
  have j:w.params.followText "set-order" = false:=by
   cases h:w.params.followText "set-order" with
   |false=>rfl
   |true=>rw[h] at b;cases b
  refine za (G6 _ _ _ _ List.length_range λps d q=>?_)
  have f:ps.length=es.size:=by rw[q.length_eq,List.length_range]
  refine za (wpAny_newTuple ?_ (by rw[zf,f,sizeLine_eq];unfold scanBound at J;omega));have ho':(s.heap.push {cls:=.type "tuple",data:=.seq (ps.map λi=>rawInt (i:Nat)).toArray}).get? a=some o:=zo _ m;refine za (wpAny_setEpoch_of ho' hd u ?_);unfold newFields;refine za (wpAny_newObj_type (zb ⟨_,rfl,"set_iterator",_,⟨_,zz _ rfl,rfl⟩,gP.lookup,?_⟩))
  have:=h2 j ps d q
  rw[Heap.size_push];exact this
 ·change ¬(!w.params.followText "set-order" && (!t.plain&&decide (es.size>1)))=true at b
  have j:w.params.followText "set-order" = true\/es.size<=1:=by
   cases h:w.params.followText "set-order" with
   |true=>exact .inl rfl
   |false =>
    rw[h] at b
    rcases f with C | C
    ·omega
    ·rw[C] at b;simpa using b
  refine za (zb ?_);refine za (wpAny_setEpoch_of m hd u ?_);unfold newFields;exact za (wpAny_newObj_type (zb ⟨_,rfl,"set_iterator",_,⟨_,zz _ rfl,rfl⟩,gP.lookup,h1 j⟩))
def uh{h:Heap}      (d:h.get? I=some o)(hd:o.data=.fields vs):∃b,(h.update I (Obj.mapFields (·.setIfInBounds i x))).get? I=some b/\b.cls=o.cls/\b.data=.fields (vs.setIfInBounds i x):=
 ⟨_,Heap.get?_update_self _ d (Obj.isFreed_of_fields (Obj.data_mapFields hd _)),Obj.cls_mapFields ..,by rw[Obj.data_mapFields hd]⟩
def G7      (b:ItS s.heap I a (.int sl 0) i n ep)(x:dw prog w s.heap a ss o es ep t)(C:es.size=n)
  (hs:∀(U:Around) (m:Option (Value×Nat)->Shared->Prop) (T:Value->Shared->Prop),m (some (v,nx)) s->wpAny (model prog w) U (setNext a sl.toNat i ep) m T s)
  (J:∀h',ItS h' I a (.int nx 0) (i+1) n ep->Heap.SameBut I s.heap h'->Q (some v) {s with heap:=h'}):wpAny (model prog w) A (pyNext (.ref I)) Q E s:=by
 obtain⟨Z,hI,G,d⟩:=id b;obtain⟨y,X,hd,Y,hp,hb,F,W,q⟩:=x;unfold pyNext
 refine za (wpAny_attempt (wpAny_callSpecial?_slot (name:=Str.ofString "__next__") b.typeIs gP
  (wpAny_call_entry gP b.typeIs ug ?_ (Ze _))))
 unfold Builtin.«set_iterator.__next__» slotArgs;simp only[List.isEmpty_nil,Bool.not_true,Bool.false_eq_true,↓reduceIte,bind_assoc,jb,bne_self_eq_false];refine za (zb ?_);dsimp only;refine za (wpAny_fieldsOf hI d ?_);dsimp only;refine za (wpAny_setEntries_of y hd F ?_);rw[if_neg (by rw[C];simp)];refine za (hs _ _ _ ?_);dsimp only;refine za (wpAny_setField hI d (by simp) ?_);obtain⟨o1,f,R,j⟩:=uh (i:=0) (x:=rawInt (nx:Nat)) hI d;refine za (wpAny_setField (s:={s with heap:=s.heap.update I (Obj.mapFields (·.setIfInBounds 0 (rawInt (nx:Nat))))}) f j (by simp) ?_);obtain⟨u,L,P,O⟩:=uh (i:=1) (x:=rawInt ((i:Int)+1)) f j
 refine zb ⟨_,rfl,zb (J _ ⟨u,L,P.trans (R.trans G),by rw[O];simp[rawInt]⟩ ((Heap.SameBut.update ..).trans (Heap.SameBut.update ..)))⟩
def G8     (u:A.handled=none)(b:ItS s.heap I a (.int sl 0) i n ep)(x:dw prog w s.heap a ss o es ep t)(q:es.size=n)
  (hs:∀(G:Around) (f:Option (Value×Nat)->Shared->Prop) (F:Value->Shared->Prop),f none s->wpAny (model prog w) G (setNext a sl.toNat i ep) f F s)
  (C:∀h',Heap.ExtBut I s.heap h'->Q none {s with heap:=h'}):wpAny (model prog w) A (pyNext (.ref I)) Q E s:=by
 obtain⟨P,hI,T,d⟩:=id b;obtain⟨j,L,hd,O,R,U,y,J⟩:=x
 refine za (wpAny_attempt (wpAny_callSpecial?_slot b.typeIs gP
  (wpAny_call_entry gP b.typeIs ug ?_)))
 refine za (zb ?_);refine za (wpAny_fieldsOf hI d ?_);refine za (wpAny_setEntries_of j hd y ?_);rw[if_neg (by rw[q];simp)];refine za (hs _ _ _ ?_);refine za (wpAny_setField hI d (by simp) ?_);refine za ?_;refine za (m:=firstArgMember _ _) (wpAny_of_eq (by first | rfl | (rfl)) ?_);refine wpAny_newObj_type ?_;refine za (wpAny_handled ?_);rw[(u)];refine za (zb (wpAny_throw ?_));refine za (wpAny_isInstance ⟨_,zz _ rfl,rfl⟩ isSubtype_stop ?_);exact zb (C _ (((Heap.SameBut.update ..).extBut.push _).push _))
def Zj         (b:ItS s.heap I a (.ref T) i n ep)(x:dw prog w s.heap a ss o es ep t)(u:es.size=n)
  (F:s.heap.get? T=some oT) (f:oT.data=.seq vs Z) (hv:vs[i]?=some (.int (p:Nat) 0)) (y:es[p]?=some (hs,v))
  (G:∀h',ItS h' I a (.ref T) (i+1) n ep->Heap.SameBut I s.heap h'->Q (some v) {s with heap:=h'}):wpAny (model prog w) A (pyNext (.ref I)) Q E s:=by
 obtain⟨W,hI,C,d⟩:=id b;obtain⟨j,R,hd,U,X,Y,m,P⟩:=x
 refine za (wpAny_attempt (wpAny_callSpecial?_slot b.typeIs gP
  (wpAny_call_entry gP b.typeIs ug ?_)))
 refine za (zb ?_);refine za (wpAny_fieldsOf hI d ?_);refine za (wpAny_setEntries_of j hd m ?_);rw[if_neg (by rw[u];simp)];refine za (wpAny_seqItems F f ?_);dsimp only;rw[show(i:Int).toNat=i from rfl,hv];refine za (za (wpAny_setState_of j hd m ?_));dsimp only;rw[if_neg (by simp)];rw[show(p:Int).toNat=p from rfl,y];refine zb ?_;refine za (wpAny_setField hI d (by simp) ?_);obtain⟨q,J,O,L⟩:=uh hI d;exact zb ⟨_,rfl,zb (G _ ⟨q,J,O.trans C,by rw[L];simp[rawInt]⟩ (Heap.SameBut.update ..))⟩
def Zk       (y:A.handled=none)(b:ItS s.heap I a (.ref T) i n ep)(x:dw prog w s.heap a ss o es ep t)(u:es.size=n)
  (F:s.heap.get? T=some oT) (f:oT.data=.seq vs nT) (hv:vs[i]?=none)
  (G:∀h',Heap.ExtBut I s.heap h'->Q none {s with heap:=h'}):wpAny (model prog w) A (pyNext (.ref I)) Q E s:=by
 obtain⟨U,hI,Y,d⟩:=id b;obtain⟨q,P,hd,R,X,Z,C,O,j⟩:=x
 refine za (wpAny_attempt (wpAny_callSpecial?_slot b.typeIs gP
  (wpAny_call_entry gP b.typeIs ug ?_)))
 refine za (zb ?_);refine za (wpAny_fieldsOf hI d ?_);refine za (wpAny_setEntries_of q hd C ?_);rw[if_neg (by rw[u];simp)];refine za (wpAny_seqItems F f ?_);dsimp only;rw[show(i:Int).toNat=i from rfl,hv];refine za (wpAny_setField hI d (by simp) ?_);obtain⟨W,J,c1,L⟩:=uh hI d;refine za (wpAny_setField J L (by simp) ?_);refine za ?_;refine za (m:=firstArgMember _ _) (wpAny_of_eq (by first | rfl | (rfl)) ?_);refine wpAny_newObj_type ?_;refine za (wpAny_handled ?_);rw[(y)];refine za (zb (wpAny_throw ?_));refine za (wpAny_isInstance ⟨_,zz _ rfl,rfl⟩ isSubtype_stop ?_)
 exact zb (G _ ((((Heap.SameBut.update ..).trans (Heap.SameBut.update ..)).extBut.push _).push _))
def xQ     (b:ItS s.heap I a first i n ep)(h:Q (.ref I) s):wpAny (model prog w) A (pyIter (.ref I)) Q E s:=by
 refine wpAny_pyIter_slot b.typeIs G5 (wpAny_call_entry G5 b.typeIs Zf ?_);exact zb ⟨_,rfl,"set_iterator",_,b.typeIs,gP.lookup,h⟩
def G9     (x:dw prog w s.heap a ss o es ep t)(b:w.params.followText "set-order" = true)
  (h:C (((pickOrder (w.params.setOrder a ep) es)[i]?).map λe=>(e.2,sl)) s):wpAny (model prog w) G (setNext a sl i ep) C F s:=by
 obtain⟨d,m,hd,q,u,y,f,j⟩:=x;refine za (wpAny_setState_of d hd f ?_);refine za (za (wpAny_askSetting (zb ?_)));rw[if_pos (show(⟨(model _ w).prog,(model _ w).w.params⟩:Setting).params.followText _=true from b)];rw[if_neg (by simp)];refine za (za (wpAny_setState_of d hd f ?_));refine za (za (wpAny_askSetting (zb ?_)));rw[if_pos (show(⟨(model _ w).prog,(model _ w).w.params⟩:Setting).params.followText _=true from b)];exact za (wpAny_askSetting (zb (zb h)))
def Ha      (x:dw prog w s.heap a ss o es ep t)(b:w.params.followText "set-order" = false)(h1:es.size<=1)
  (h:J (match es[SetTable.below t.place sl]?,t.place[SetTable.below t.place sl]? with | some (_,x),some j=>some (x,j+1) | _,_=>none) s):wpAny (model prog w) L (setNext a sl i ep) J O s:=by
 obtain⟨q,C,hd,F,G,I,u,y,d⟩:=x
 have m:t.led=true:=by rw[d,b];rfl
 refine za (wpAny_setState_of q hd u ?_);refine za (za (wpAny_askSetting (zb ?_)));rw[if_neg (λz=>by have:=b.symm.trans z;cases this)]
 refine wpAny_ite_split (λf=>?_) λf=>?_
 ·change (!t.plain&&decide _)=true at f
  rw[zB,decide_eq_true_eq] at f;omega
 ·refine za ?_;show wpAny _ L (if(!t.led && !es.isEmpty)=true then unsupported _ else pure ()) _ _ _;rw[if_neg (by rw[m];simp)];refine zb ?_;exact zb h
theorem Hb  (next:Nat->Nat):∀(fuel k:Nat) (left:List α) (out:Array α),left.length=fuel->(pickOrder.go next fuel k left out).toList.Perm (out.toList++left)
 | 0,k,left,out,h=>by
  rw[List.length_eq_zero_iff.mp h];unfold pickOrder.go;simp
 |fuel+1,k,left,out,h=>by
  unfold pickOrder.go;have b:next k % left.length<left.length:=Nat.mod_lt _ (by omega);rw[zy b];refine(Hb _ _ _ _ _ (by rw[List.length_eraseIdx_of_lt b];omega)).trans ?_;rw[Array.toList_push,zD];exact List.Perm.append_left _ (xP _ _ b)
def qw  (next:Nat->Nat)(xs:Array α):(pickOrder next xs).toList.Perm xs.toList:=by
 have:=Hb next xs.size 0 _ #[] Array.length_toList
 simpa
def map_range{α:Type}(xs:Array α)(ps:List Nat)(h:ps.Perm (List.range xs.size)):∃ys:List α,ys.Perm xs.toList/\ps.length=ys.length/\∀(i p:Nat),ps[i]?=some p->xs[p]?=ys[i]?:=by
 have d:∀p∈ps,p<xs.size:=λp m=>List.mem_range.mp (h.mem_iff.mp m)
 refine⟨ps.filterMap λp=>xs[p]?,?_,?_,?_⟩
 ·refine(h.filterMap _).trans ?_
  have :=by
   have e:∀l:List α,(List.range l.length).filterMap (λp=>l[p]?)=l:=λl=>by
    induction l with
    |nil=>rfl
    |cons  =>
     rw[zA,List.range_succ_eq_map,List.filterMap_cons];simp;congr 1
   have:=e xs.toList
   simpa
  rw[this]
 ·have e:∀l:List _,(∀p∈l,p<xs.size)->l.length=(l.filterMap λp=>xs[p]?).length:=λl=>by
   induction l with
   |nil=>intro _;rfl
   |cons p l ih =>
    intro b;rw[List.filterMap_cons,Array.getElem?_eq_getElem (b p zd)];rw[zA,zA, ih λq j=>b q (zp _ j)]
  exact e ps d
 ·have e:∀(l:List _),(∀p∈l,p<xs.size)->∀(i p:Nat),l[i]?=some p->xs[p]?=(l.filterMap λp=>xs[p]?)[i]?:=λl=>by
   induction l with
   |nil=>intro _ i p f;cases f
   |cons q l ih =>
    intro b i p f;rw[List.filterMap_cons,Array.getElem?_eq_getElem (b q zd)]
    cases i with
    |zero =>
     cases f;rw[Array.getElem?_eq_getElem];rfl
    |succ i=>exact ih (λq j=>b q (zp _ j)) i p f
  exact e ps d
end
def PSt(xs:List Str)(i:Nat)(v:Value):Prop:=∃x t,xs[i]?=some x/\v=.str x t
section
variable {prog:Program}{w:World}{A:Around}{E:Value->Shared->Prop}{s:Shared}{a:Addr}{ss:List Str}{o:Obj}{es:Array (Int×Value)}{ep:Nat}{t:SetTable}
def ItS.at{h h':Heap}{I:Addr}{first:Value}{i n:Nat}(x:ItS h I a first i n ep)(e:∀o,h.get? I=some o->h'.get? I=some o):ItS h' I a first i n ep:=let ⟨o,ho,r⟩:=x;⟨o,e _ ho,r⟩
def dw.at{h h':Heap}(x:dw prog w h a ss o es ep t)(e:∀o,h.get? a=some o->h'.get? a=some o):dw prog w h' a ss o es ep t:=⟨e _ x.1,x.2⟩
def xR   (e:Heap.SameBut I s.heap h'):Moved [I] Eq s {s with heap:=h'}:=⟨λb o d q=>(e.2 b λz=>d (by rw[z];exact zj.mpr rfl)).trans q,rfl,rfl,rfl,zc _⟩
def xT   (e:Heap.ExtBut I s.heap h'):Moved [I] Eq s {s with heap:=h'}:=⟨λb o d q=>e b o (λz=>d (by rw[z];exact zj.mpr rfl)) q,rfl,rfl,rfl,zc _⟩
def xU{s:Shared}{x:dw prog w s.heap a ss o es ep t}{l:List (Int×Value)}(j:l.Perm es.toList)   (d:l[i]?=some e):PSt (l.map λe=>strOf e.2) i e.2:=by
 obtain⟨⟨k,m,_⟩⟩:=x.2.2.2.1 e (j.mem_iff.mp (zL d));obtain⟨f,b⟩:=Value.isStrOf_shape m;exact⟨k,f,by rw[zF,d,Option.map_some,b];rfl,b⟩
def Zm  (hh:A.handled=none)(hne:a≠I)(hft:w.params.followText "set-order" = true):
  WalksS prog w A I [I,a] [I] Eq es.size (PSt ((pickOrder (w.params.setOrder a ep) es).toList.map λe=>strOf e.2)) (λi s=>ItS s.heap I a (.int 0 0) i es.size ep/\dw prog w s.heap a ss o es ep t) where
 sub:=by simp
 grefl:=λ_=>rfl
 gtrans:=λ_ _ _ h1 h2=>h1.trans h2
 frame:=λi s h' tk st _ k=>⟨st.1.at λo e=>k I (by simp) o e,st.2.at λo e=>k a (by simp) o e⟩
 item:=λi s Q E hi st hQ=>by
  have hsz:(pickOrder (w.params.setOrder a ep) es).size=es.size:=by rw[<-Array.length_toList,(qw _ es).length_eq,Array.length_toList]
  have he:(pickOrder (w.params.setOrder a ep) es)[i]?=some ((pickOrder (w.params.setOrder a ep) es)[i]'(by omega)):=Array.getElem?_eq_getElem (by omega)
  refine G7 (nx:=0) st.1 st.2 rfl (λA' Q' E' q=>G9 st.2 hft (by rw[he];exact q)) λh' it' sb=>hQ _ _ ?_ ⟨it',st.2.at λo e=>(sb.2 a hne).trans e⟩ (xR sb)
  exact xU (x:=st.2) (qw _ es) (by rw[Array.getElem?_toList];exact he)
 done:=λs Q E st hQ=>by
  have hsz:(pickOrder (w.params.setOrder a ep) es).size=es.size:=by rw[<-Array.length_toList,(qw _ es).length_eq,Array.length_toList]
  have he:(pickOrder (w.params.setOrder a ep) es)[es.size]?=none:=Array.getElem?_eq_none (by omega)
  exact G8 hh st.1 st.2 rfl (λA' Q' E' q=>G9 st.2 hft (by rw[he];exact q)) λh' e=>hQ _ (xT e)
 self:=λi s Q E st h=>xQ st.1 h
def Hc(j k:Nat):SetTable.below #[j] k=if j<k then 1 else 0:=by
 show SetTable.below.go _ k 1 0 1=_;rfl
def Zn    (hh:A.handled=none)(hne:a≠I)(hft:w.params.followText "set-order" = false)(hes:es = #[e])(hj:t.place = #[j]):
  WalksS prog w A I [I,a] [I] Eq 1 (PSt (es.toList.map λe=>strOf e.2)) (λi s=>ItS s.heap I a (.int (if i=0 then 0 else((j+1:Nat):Int)) 0) i 1 ep/\dw prog w s.heap a ss o es ep t) where
 sub:=by simp
 grefl:=λ_=>rfl
 gtrans:=λ_ _ _ h1 h2=>h1.trans h2
 frame:=λi s h' tk st _ k=>⟨st.1.at λo e=>k I (by simp) o e,st.2.at λo e=>k a (by simp) o e⟩
 item:=λi s Q E hi st hQ=>by
  have hi0:i=0:=by omega
  subst hi0
  refine G7 (nx:=j+1) (v:=e.2) st.1 st.2 (by rw[hes];rfl) (λA' Q' E' q=>Ha st.2 hft (by rw[hes];exact zc _) ?_) λh' it' sb=>hQ _ _ ?_ ⟨it',st.2.at λo e=>(sb.2 a hne).trans e⟩ (xR sb)
  ·rw[hj,show(if(0:Nat)=0 then(0:Int) else((j+1:Nat):Int)).toNat=0 from rfl,Hc,if_neg (Nat.not_lt_zero _),hes];exact q
  ·exact xU (x:=st.2) (.refl _) (e:=e) (by rw[hes];rfl)
 done:=λs Q E st hQ=>by
  refine G8 hh st.1 st.2 (by rw[hes];rfl) (λA' Q' E' q=>Ha st.2 hft (by rw[hes];exact zc _) ?_) λh' e=>hQ _ (xT e)
  rw[hj,show(if(1:Nat)=0 then(0:Int) else((j+1:Nat):Int)).toNat=j+1 from rfl,Hc,if_pos (jd _),hes];exact q
 self:=λi s Q E st h=>xQ st.1 h
def Zo   {ps:List Nat}  {ys:List (Int×Value)}(hh:A.handled=none)(hne:a≠I)(hnT:T≠I)(hTd:oT.data=.seq (ps.map λi=>Value.int (i:Nat) 0).toArray nT)
  (hy:ys.Perm es.toList) (hl:ps.length=es.size) (hp:∀(i p:Nat),ps[i]?=some p->es[p]?=ys[i]?):
  WalksS prog w A I [I,a,T] [I] Eq es.size (PSt (ys.map λe=>strOf e.2)) (λi s=>ItS s.heap I a (.ref T) i es.size ep/\dw prog w s.heap a ss o es ep t/\s.heap.get? T=some oT) where
 sub:=by simp
 grefl:=λ_=>rfl
 gtrans:=λ_ _ _ h1 h2=>h1.trans h2
 frame:=λi s h' tk st _ k=>⟨st.1.at λo e=>k I (by simp) o e,st.2.1.at λo e=>k a (by simp) o e,k T (by simp) _ st.2.2⟩
 item:=λi s Q E hi st hQ=>by
  have hi':i<ps.length:=by omega
  have e1:=zy hi'
  have hyl:ys.length=es.size:=by rw[hy.length_eq,Array.length_toList]
  have e2:=zy (l:=ys) (i:=i) (by omega);have e3:=(hp i _ e1).trans e2
  refine Zj (hs:=_) st.1 st.2.1 rfl st.2.2 hTd (p:=ps[i]) ?_ (v:=(ys[i]'(by omega)).2) e3 λh' it' sb=>hQ _ _ ?_ ⟨it',st.2.1.at λo e=>(sb.2 a hne).trans e,(sb.2 T hnT).trans st.2.2⟩ (xR sb)
  ·rw[List.getElem?_toArray,zF,e1];rfl
  ·exact xU (x:=st.2.1) hy e2
 done:=λs Q E st hQ=>by
  refine Zk hh st.1 st.2.1 rfl st.2.2 hTd ?_ λh' e=>hQ _ (xT e)
  rw[List.getElem?_toArray,zF,jp (by omega)];rfl
 self:=λi s Q E st h=>xQ st.1 h
def Zq{s:Shared}  (L:A.handled=none)(hS:cQ prog w s.heap a ss)(P:ss≠[])
  (h:∀(C:Shared) (I:Addr) (fp:List Addr) (St:Nat->Shared->Prop) (xs:List Str),(∀b o,s.heap.get? b=some o->C.heap.get? b=some o)->C.gens=s.gens->C.os=s.os->C.toks=s.toks->xs.Perm ss->s.heap.objs.size<=I ->
   (∀b∈fp,b=a\/s.heap.objs.size<=b)->WalksS prog w A I fp [I] Eq xs.length (PSt xs) St->St 0 C->Q (.ref I) C):wpAny (model prog w) A (pyIter (.ref a)) Q E s:=by
 obtain⟨o,es,ep,t,x⟩:=hS;have y:=zm x.1
 have hlen:es.size=ss.length:=by rw[<-x.2.2.2.2.1.length_eq];unfold mH;rw[zf,Array.length_toList]
 have U:0<es.size:=by rw[hlen];exact List.length_pos_iff.mpr P
 refine Zi x (λF=>?_) (λu ps d m=>?_)
 ·have T:dw prog w (s.heap.push {cls:=.type "set_iterator",data:=.fields #[.int 0 0,.int 0 0,.ref a,.int es.size 0,.int ep 0]}) a ss o es ep t:=x.at λo e=>zo _ e
  cases u:w.params.followText "set-order" with
  |true =>
   have W:=Zm (prog:=prog) (o:=o) (ss:=ss) (es:=es) (ep:=ep) (t:=t) L (zq y) u;refine h _ _ [s.heap.objs.size,a] (λi q=>ItS q.heap s.heap.objs.size a (.int 0 0) i es.size ep/\dw prog w q.heap a ss o es ep t) ((pickOrder (w.params.setOrder a ep) es).toList.map _) (λb o e=>zo _ e) rfl rfl rfl (((qw _ es).map _).trans ((x.2.2.2.2.1))) (zc _) (λb f=>?_) ?_ ⟨⟨_,zz _ rfl,rfl,rfl⟩,T⟩
   ·rcases zk.mp f with rfl | f
    ·exact .inr (zc _)
    ·exact .inl (zj.mp f)
   ·rw[zf,(qw _ es).length_eq,Array.length_toList];exact W
  |false =>
   have h1:es.size=1:=by
    rcases F with F | F
    ·rw[u] at F;cases F
    ·omega
   obtain⟨e,R⟩:∃e,es = #[e]:=by
    obtain⟨l⟩:=es
    match l,h1 with
    | [e],_=>exact⟨e,rfl⟩
   have G:=x.2.2.2.2.2.2.1
   obtain⟨j,Z⟩:∃j,t.place = #[j]:=by
    have m:t.place.size=1:=by
     simp only[SetTable.fits,zB,beq_iff_eq] at G;omega
    revert m
    generalize t.place=X
    intro m;obtain⟨l⟩:=X
    match l,m with
    | [j],_=>exact⟨j,rfl⟩
   have W:=Zn (prog:=prog) (o:=o) (ss:=ss) (ep:=ep) L (zq y) u R Z;refine h _ _ [s.heap.objs.size,a] (λi q=>ItS q.heap s.heap.objs.size a (.int (if i=0 then 0 else((j+1:Nat):Int)) 0) i 1 ep/\dw prog w q.heap a ss o es ep t) (es.toList.map _) (λb o e=>zo _ e) rfl rfl rfl ((x.2.2.2.2.1)) (zc _) (λb f=>?_) ?_ ⟨⟨_,zz _ rfl,rfl,by rw[h1];rfl⟩,T⟩
   ·rcases zk.mp f with rfl | f
    ·exact .inr (zc _)
    ·exact .inl (zj.mp f)
   ·rw[zf,Array.length_toList,h1];exact W
 ·obtain⟨ys,J,hl,Y⟩:=map_range es ps m
  have hl':ps.length=es.size:=by rw[m.length_eq,List.length_range]
  have O:(s.heap.push {cls:=.type "tuple",data:=.seq (ps.map λi=>Value.int (i:Nat) 0).toArray}).objs.size=s.heap.objs.size+1:=Heap.size_push _ _;have W:=Zo (prog:=prog) (w:=w) (A:=A) (a:=a) (ss:=ss) (o:=o) (ep:=ep) (t:=t) (oT:={cls:=.type "tuple",data:=.seq _}) (ps:=ps) L (zq (jg y)) (zq (jd _)) rfl J hl' Y;refine h _ _ [s.heap.objs.size+1,a,s.heap.objs.size] (λi q=>ItS q.heap (s.heap.objs.size+1) a (.ref s.heap.objs.size) i es.size ep/\dw prog w q.heap a ss o es ep t/\q.heap.get? s.heap.objs.size=some _) _ (λb o e=>zo _ (zo _ e)) rfl rfl rfl ((J.map _).trans ((x.2.2.2.2.1))) (Nat.le_succ _) (λb f=>?_) ?_ ⟨⟨_,by rw[<-O];exact zz _ rfl,rfl,rfl⟩,x.at λo e=>zo _ (zo _ e),zo _ (zz _ rfl)⟩
  ·rcases zk.mp f with rfl | f
   ·exact .inr (Nat.le_succ _)
   ·rcases zk.mp f with rfl | f
    ·exact .inl rfl
    ·exact .inr (by rw[zj.mp f];exact zc _)
  ·rw[zf,J.length_eq,Array.length_toList];exact W
def Zr   (d:s.TypeIs (.ref r) "set")(h:Q false s):wpAny (model prog w) A (Builtin.List.listLengthHint (.ref r)) Q E s:=by
 refine za (wpAny_specialOf d PySem.F.slot_set_len.lookup ?_)
 generalize hid:"set.__len__" = id0
 subst hid;refine za (wpAny_isInstance (b:=true) d (by kernel_rfl) ?_);refine za (wpAny_typeOf d ?_);exact zb h
def Zt:∀{xs:List Str}{b:Array Value},ItemsOf (PSt xs) b xs.length->StrsAre b.toList xs:=by
 intro xs b h
 have e:∀(d ) (xs ),d.length=xs.length->(∀i v,d[i]?=some v->PSt xs i v)->StrsAre d xs:=λd=>by
  induction d with
  |nil=>intro xs j _;cases xs with
   |nil=>exact .nil
   |cons =>cases j
  |cons v d ih =>
   intro xs j f
   cases xs with
   |nil=>cases j
   |cons x xs =>
    obtain⟨y,t,q,m⟩:=f 0 v rfl;cases q;subst m;refine .cons x t (ih xs (Nat.succ.inj j) λi u F=>?_);obtain⟨y,C,q,m⟩:=f (i+1) u F;exact⟨y,C,q,m⟩
 refine e _ _ ?_ λi v f=>?_
 ·exact h.1
 ·rw[Array.getElem?_toList] at f;exact h.2 i v f
def Zu  (hh:A.handled=none)(hS:cQ prog w s.heap a ss)(hne:ss≠[])
  (h:∀(d:Shared) (acc:List Value) (xs:List Str),(∀b o,s.heap.get? b=some o->d.heap.get? b=some o)->d.gens=s.gens->d.os=s.os->s.heap.objs.size<d.heap.objs.size->StrsAre acc xs->xs.Perm ss->R acc d):
  wpAny (model prog w) A (collect (.ref a)) R E s:=by
 have hlt:a<s.heap.objs.size:=by obtain⟨_,_,_,_,x⟩:=hS;exact zm x.1
 unfold collect;refine za (wpAny_runValue (zZ entry_proto_collect' ?_));rw[Around.under_plainId PySem.F.plain_proto_collect _];refine za (wpAny_newObj_type ?_);refine zb ⟨plainId_quiet PySem.F.plain_list_iadd _,zZ entry_list_iadd' ?_⟩;rw[Around.under_plainId PySem.F.plain_list_iadd _];have Q:(s.heap.push {cls:=.type "list",data:=.seq ([]:List Value).toArray}).get? s.heap.objs.size=some {cls:=.type "list",data:=.seq #[]}:=zz _ rfl
 have G:cQ prog w (s.heap.push {cls:=.type "list",data:=.seq ([]:List Value).toArray}) a ss:=hS.at λo e=>zo _ e
 show wpAny _ A.in1 (Builtin.List.listExtendWith (.ref s.heap.objs.size) (.ref a) (.ref s.heap.objs.size)) _ _ _;unfold Builtin.List.listExtendWith
 have hT:Shared.TypeIs {s with heap:=s.heap.push {cls:=.type "list",data:=.seq ([]:List Value).toArray}} (.ref a) "set":=by
  obtain⟨o,_,_,_,x⟩:=G;exact⟨o,x.1,x.2.1.1⟩
 refine za (wpAny_typeOf (T:="set") hT ?_)
 have h1:Builtin.List.listSameRef (.ref s.heap.objs.size) (.ref a)=false:=by simp[Builtin.List.listSameRef,Nat.ne_of_gt hlt]
 simp only[h1,show(Value.type "set" == Value.type "list")=false by decide,show(Value.type "set" == Value.type "tuple")=false by decide,Bool.or_false,Bool.false_eq_true,if_false];refine za (Zq (by simp[hh]) G hne λy I fp St xs k eg eo et hp hI hfp W st=>?_);have O:=k _ _ Q;have hsz:(s.heap.push {cls:=.type "list",data:=.seq ([]:List Value).toArray}).objs.size=s.heap.objs.size+1:=Heap.size_push _ _
 have J:s.heap.objs.size∉fp:=λu=>by
  rcases hfp _ u with z | z
  ·exact Nat.ne_of_gt hlt z
  ·change (s.heap.push {cls:=.type "list",data:=.seq ([]:List Value).toArray}).objs.size<=_ at z
   omega
 have hn:xs.length<=sizeLine:=by
  have:=hS.len
  rw[hp.length_eq,sizeLine_eq];unfold scanBound at this;omega
 refine za (zP (Zr ?_ ?_))
 ·obtain⟨o,ho,hc⟩:=hT;exact⟨o,k _ _ ho,hc⟩
 have fin:∀(d:Shared) (f:Array Value) (U:Nat),(∀b o,s.heap.get? b=some o->d.heap.get? b=some o)->d.gens=s.gens->d.os=s.os->s.toks<=d.toks->d.heap.get? s.heap.objs.size=some {cls:=.type "list",dict:=none,data:=.seq f U,slots:=#[]}->ItemsOf (PSt xs) f xs.length ->
   wpAny (model prog w) A (load s.heap.objs.size >>= λo=>match o.data with | .seq xs _=>pure xs.toList | _=>unsupported "internal:collect") R E d:=λd f U Z Y X e4 e5 e6 =>
  za (wpAny_load e5 (zb (h d _ xs Z Y X (zm e5) (Zt e6) hp)))
 have kk:∀(d:Shared) (h2:Heap),(∀b o,b≠s.heap.objs.size->y.heap.get? b=some o->h2.get? b=some o)->Moved (s.heap.objs.size :: [I]) Eq {y with heap:=h2} d->(∀b o,s.heap.get? b=some o->d.heap.get? b=some o)/\d.gens=s.gens/\d.os=s.os/\s.toks<=d.toks:=λd h2 q u=>by
  refine⟨λb o e=>?_,?_,u.os.trans eo,?_⟩
  ·have C:=zm e;refine u.heap b o (λz=>?_) (q b o (zq C) (k b o (zo _ e)))
   rcases zk.mp z with z | z
   ·exact zq C z
   ·have z':=zj.mp z;rw[<-z',hsz] at hI;exact absurd C (Nat.not_lt.mpr (Nat.le_of_succ_le hI))
  ·exact u.gens.symm.trans eg
  ·have:=u.toks
   have et':y.toks=s.toks:=et;rw[<-et'];exact this
 refine wpAny_ite_split (λ_=>?_) (λ_=>zb ⟨plainId_quiet PySem.F.plain_extend_loop _,?_⟩)
 ·refine za (zX ?_);refine za ?_;refine za (js O rfl ?_);have m:=Heap.get?_update_self (Obj.mapSeq (·.push Value.none)) O rfl;refine js (hz:=by seq_fits) m rfl ?_;have P:=Heap.get?_update_self (Obj.mapSeq (·.pop)) m rfl
  have hk:∀b o,b≠s.heap.objs.size->y.heap.get? b=some o->((y.heap.update s.heap.objs.size (Obj.mapSeq (·.push Value.none))).update s.heap.objs.size (Obj.mapSeq (·.pop))).get? b=some o:=λb o C e =>
   (jo _ _ (Ne.symm C)).trans ((jo _ _ (Ne.symm C)).trans e)
  refine zb ⟨plainId_quiet PySem.F.plain_extend_loop _,?_⟩
  refine codeAny_extend_loopS W hn s.heap.objs.size J (.ref s.heap.objs.size) xs.length 0 _ #[] _ rfl (Nat.zero_le _) ?_ P (ItemsOf.nil _) λd f U u L j=>?_
  ·exact W.frame 0 y _ y.toks st (zc _) λb C o e=>hk b o (λz=>J (z ▸ C)) e
  ·obtain⟨Z,Y,X,e4⟩:=kk d _ hk u;exact fin d f U Z Y X e4 L j
 ·refine codeAny_extend_loopS W hn s.heap.objs.size J (.ref s.heap.objs.size) xs.length 0 _ #[] _ rfl (Nat.zero_le _) st O (ItemsOf.nil _) λd f U u L j=>?_
  obtain⟨Z,Y,X,e4⟩:=kk d y.heap (λb o _ e=>e) u;exact fin d f U Z Y X e4 L j
def Zv{s:Shared}  (P:A.handled=none)(T:cQ prog w s.heap a ss)(y:ss≠[])(Y:ss.length<64)
  (h:∀(u:Shared) (D:Addr) (c:Nat) (out:List Value) (d:List Str),(∀b o,s.heap.get? b=some o->u.heap.get? b=some o)->u.gens=s.gens->u.os=s.os->s.heap.objs.size<=D->u.heap.get? D=some (seqObj "list" out.toArray c) ->
   StrsAre out d->d.Perm ss->sortedS d=true->Q (.ref D) u):
  wpAny (model prog w) A (call (.builtin "sorted") [.ref a]) Q E s:=by
 refine Calls.call_function_entry kind_sorted plain_sorted entry_sorted (args_sorted1 _) ?_;unfold Builtin.«sorted»;refine za (m:=checkCount "sorted" 1 1 _) (zb ?_);refine za (Zu (by simp[P]) T y λf vs Z k X W U j C=>?_)
 have hlen:vs.length=ss.length:=by rw[<-C.length_eq,<-j.strs,zf]
 refine za (wpAny_newList ?_ (by rw[sizeLine_eq];omega));have q:(f.heap.push (seqObj "list" vs.toArray 0)).get? f.heap.objs.size=some (seqObj "list" vs.toArray 0):=zz _ rfl;show wpAny _ _ _ _ _ {f with heap:=f.heap.push (seqObj "list" vs.toArray 0)};refine za (zP (wpAny_call_entry slot_list_sort ⟨_,q,rfl⟩ entry_list_sort (list_sort_treeK (s:={f with heap:=f.heap.push (seqObj "list" vs.toArray 0)}) strKind_oneLt q j.keysOf (λI G rest e=>keyKind_strs (by rw[<-e];exact j)) (by omega) λx a1 a2=>⟨_,rfl,?_⟩) (args_list_sort _)));obtain⟨d,O,L,J⟩:=sorted_out_str j a1 a2
 obtain⟨c,R⟩:=sortedHeap_at (vs:=vs) (out:=((arrOf x).map (·.2))) q;refine zb ⟨_,rfl,h _ f.heap.objs.size c _ d (λb o e=>?_) X W ?_ (by rw[Array.toArray_toList];exact R) O (L.trans C) J⟩
 ·have F:=zm (k b o e);show(sortedHeap (f.heap.push (seqObj "list" vs.toArray 0)) f.heap.objs.size vs ((arrOf x).map (·.2))).get? b=some o;rw[sortedHeap_old (zq F) (by rw[size_push'];exact jg F)];exact zo _ (k b o e)
 ·exact Nat.le_of_lt U
end
def xV{a:List Nat}(h:¬b<a):a<b\/a=b:=by
 by_cases q:a<b
 ·exact .inl q
 ·exact .inr (List.le_antisymm (List.not_lt.mp h) (List.not_lt.mp q))
def lz(x:List Nat):List (List Nat)->List (List Nat)
 | []=>[x]
 |y::r=>if x<y then x::y::r else if x=y then y::r else y::lz x r
def jJ(l:List (List Nat)):List (List Nat):=l.foldr lz []
def stepT(ss:List (List Nat))(x:List Nat):List (List Nat):=if x∈ss then ss else ss++[x]
theorem xW(x y:List Nat):∀l,y∈lz x l↔y=x\/y∈l
 | []=>by simp[lz]
 |z::r=>by
  unfold lz
  split
  ·simp
  ·split
   ·rename_i e;subst e;simp
   ·rw[zk,xW ,zk];constructor
    ·rintro(h | h | h)
     ·exact .inr (.inl h)
     ·exact .inl h
     ·exact .inr (.inr h)
    ·rintro(h | h | h)
     ·exact .inr (.inl h)
     ·exact .inl h
     ·exact .inr (.inr h)
theorem Hd(x:List Nat):∀l,l.Pairwise (· < ·)->(lz x l).Pairwise (· < ·)
 | [],_=>List.pairwise_singleton _ _
 |y::r,h=>by
  obtain⟨h1,h2⟩:=List.pairwise_cons.mp h;unfold lz
  split
  ·rename_i d;refine List.pairwise_cons.mpr ⟨λz b=>?_,h⟩
   rcases zk.mp b with rfl | b
   ·exact d
   ·exact List.lt_trans d (h1 z b)
  ·split
   ·exact h
   ·rename_i f j;refine List.pairwise_cons.mpr ⟨λz b=>?_,Hd x r h2⟩
    rcases(xW x z r).mp b with rfl | b
    ·rcases xV f with q | q
     ·exact q
     ·exact absurd q.symm j
    ·exact h1 z b
theorem xX:∀l,(jJ l).Pairwise (· < ·)
 | []=>.nil
 |x::l=>Hd x _ (xX l)
theorem um(y:List Nat):∀l,y∈jJ l↔y∈l
 | []=>Iff.rfl
 |x::l=>by
  show y∈lz x (jJ l)↔_;rw[xW,um ,zk]
theorem Hf:∀(l1 b:List (List Nat)),l1.Pairwise (· < ·)->b.Pairwise (· < ·)->(∀x,x∈l1↔x∈b)->l1=b
 | [],[],_,_,_=>rfl
 | [],y::b,_,_,h=>nomatch (h y).mpr zd
 |x::l1,[],_,_,h=>nomatch (h x).mp zd
 |x::l1,y::b,h1,h2,h=>by
  obtain⟨a1,a2⟩:=List.pairwise_cons.mp h1;obtain⟨f,j⟩:=List.pairwise_cons.mp h2
  have e:x=y:=by
   rcases zk.mp ((h x).mp zd) with e | e
   ·exact e
   ·rcases zk.mp ((h y).mpr zd) with q | q
    ·exact q.symm
    ·exact absurd (List.lt_trans (f x e) (a1 y q)) (List.lt_irrefl y)
  subst e;rw[Hf l1 b a2 j λz=>?_];constructor
  ·intro d
   rcases zk.mp ((h z).mp (zp _ d)) with q | q
   ·subst q;exact absurd (a1 z d) (List.lt_irrefl z)
   ·exact q
  ·intro d
   rcases zk.mp ((h z).mpr (zp _ d)) with q | q
   ·subst q;exact absurd (f z d) (List.lt_irrefl z)
   ·exact q
def Zw(l:List (List Nat))(x:List Nat):d9 (l.map S) (S x)=(stepT l x).map S:=by
 unfold d9 stepT
 by_cases h:x∈l
 ·rw[if_pos h,if_pos (zw.mpr ⟨x,h,rfl⟩)]
 ·rw[if_neg h,if_neg λz=>?_,zM];rfl;obtain⟨y,b,e⟩:=zw.mp z;rw[qe e] at b;exact h b
theorem uo:∀(xs b:List (List Nat)),(xs.map S).foldl d9 (b.map S)=(xs.foldl stepT b).map S
 | [],b=>rfl
 |x::xs,b=>by
  rw[zg,List.foldl_cons,Zw];exact uo xs _
theorem uq(y:List Nat):∀(xs b:List (List Nat)),y∈xs.foldl stepT b↔y∈b\/y∈xs
 | [],b=>by simp
 |x::xs,b=>by
  rw[List.foldl_cons,uq ];unfold stepT
  split
  ·rename_i h;constructor
   ·rintro(q | q)
    ·exact .inl q
    ·exact .inr (zp _ q)
   ·rintro(q | q)
    ·exact .inl q
    ·rcases zk.mp q with rfl | q
     ·exact .inl h
     ·exact .inr q
  ·rw[zt,zj,zk,or_assoc]
theorem xY:∀(xs d:List (List Nat)),d.Nodup->(xs.foldl stepT d).Nodup
 | [],d,h=>h
 |x::xs,d,h=>by
  refine xY xs _ ?_;unfold stepT
  split
  ·exact h
  ·rename_i hx;rw[jm];refine⟨h,by simp,λa j b f=>?_⟩;rw[zj] at f;subst f;intro e;subst e;exact hx j
theorem Hg:∀(l:List Str),sortedS l=true->(l.map λx=>x.cps.toList).Pairwise (λa b=>¬b<a)
 | [],_=>.nil
 | [x],_=>List.pairwise_singleton _ _
 |x::y::r,h=>by
  have h':risingS x _=true:=h;unfold risingS at h';rw[zB,Bool.not_eq_true',ltCps_eq,decide_eq_false_iff_not] at h';have j:=Hg (y::r) h'.2;rw[zg];refine List.pairwise_cons.mpr ⟨λz f=>?_,j⟩
  rcases zk.mp f with rfl | f
  ·exact h'.1
  ·have:=(List.pairwise_cons.mp j).1 z f
   intro q
   rcases xV h'.1 with d | d
   ·exact this (List.lt_trans q d)
   ·rw[d] at q;exact this q
def Zx   (f:ss.Perm ((l.map S).foldl d9 []))(hs:sortedS ss=true):ss=(jJ l).map S:=by
 have e:=uo l [];rw[zV] at e;rw[e] at f
 have j:(ss.map λx:Str=>x.cps.toList)=jJ l:=by
  have d:(ss.map λx:Str=>x.cps.toList).Perm (l.foldl stepT []):=by
   refine(f.map _).trans ?_;rw[zQ];rw[show((λx:Str=>x.cps.toList) ∘ S)=id from funext λa=>km a,List.map_id]
  have m:=d.nodup_iff.mpr (xY l [] .nil)
  refine Hf _ _ ?_ (xX l) λx=>?_
  ·refine(List.Pairwise.and (Hg ss hs) m).imp λ{a b} h=>?_
   rcases xV h.1 with q | q
   ·exact q
   ·exact absurd q h.2
  ·rw[um,d.mem_iff,uq];simp
 have u:∀x:Str,S x.cps.toList=x:=λx=>by cases x;simp[S]
 rw[<-j,zQ]
 conv=>lhs;rw[<-List.map_id ss]
 exact jj λx _=>(u x).symm
section
variable {X:Cx}
def Inv.drew{X:Cx}{pins:List (Addr×Obj)}{σ:St}{H:Hp}{s:Shared}{d:Drawn}(I:Inv X pins σ H s):Inv X pins σ H {s with drawn:=d}:=⟨I.ok,I.os,I.bare,I.base,I.loc,I.cell,I.free,I.freeC,I.pin,I.hok,I.len⟩
theorem Hh:∀{ss:List Str}{d:List Value},aH (ss.map V.str) d->StrsAre d ss
 | [],_,h=>by cases h;exact .nil
 |x::ss,_,h=>by
  cases h with
  |cons a b =>
   obtain⟨t,rfl⟩:=a;exact .cons x t (Hh b)
theorem Hi:∀{ss:List Str}{b:List Value},StrsAre b ss->aH (ss.map V.str) b
 | _,_,.nil=>.nil
 | _,_,.cons x t h=>.cons ⟨t,rfl⟩ (Hi h)
def Zy(P:Program)(w:World)(K:Frag):List V->Hp->VK->Prop:=λb H Q=>∃(a:Addr) (ss:List Str),b=[.ref a]/\SqL K H a (ss.map V.str)/\ss.length<4000/\∀l,H l=none->Q (.ref l) (upd H l (.ext λh=>cQ P w h l (ss.foldl d9 [])))
def Zz(E:X.calm=true):fH X (.type "set") (Zy X.prog X.w X.K):=by
 intro pins s σ H J L Q I r h;obtain⟨a,ss,rfl,C,P,q⟩:=h;obtain⟨u,rfl,f⟩:=vals1 r;cases f;obtain⟨G,b,y,O⟩:=I.list C
 have hlen :=by have:=b.length;rw[zf] at this;exact this.symm
 refine Zd (I.ok.hd E) y.isList (Hh b) (by rw[zG];unfold scanBound;omega) λF tk d k=>?_
 refine⟨.ref _,_,I.laid k (zc _) (show bZ _ _ _ F _ (.ext _) from⟨d,?_,λh1 h2 m j=>cQ.at m j⟩),rfl,q _ (I.hok.fresh (zc _))⟩;obtain⟨o,_,_,_,x⟩:=d;exact⟨o,x.1⟩
def ZC(P:Program)(w:World):List V->Hp->VK->Prop:=λd H Q=>∃(a:Addr) (ss:List Str),d=[.ref a]/\H a=some (.ext λh=>cQ P w h a ss)/\ss≠[]/\ss.length<64/\∀l b,b.Perm ss->sortedS b=true->H l=none->Q (.ref l) (upd H l (.lst (b.map V.str)))
def ZD(G:X.calm=true):fH X (.builtin "sorted") (ZC X.prog X.w):=by
 intro pins s σ H T U Q I r h;obtain⟨a,ss,rfl,J,j,x,q⟩:=h;obtain⟨u,rfl,F⟩:=vals1 r;cases F;have L :=(I.hok a _ J).1
 refine Zv (I.ok.hd G) L j x λE D c out b k R P C m d y hs=>?_
 obtain⟨O⟩:=E;subst R;subst P
 have f:(b.map V.str).length<=sizeLine:=by rw[zf,y.length_eq,sizeLine_eq];omega
 exact⟨.ref D,_,(I.laid k C (show bZ _ _ _ O _ (.lst _) from⟨f,out,c,Hi d,m⟩)).drew,rfl,q _ _ y hs (I.hok.fresh C)⟩
def strsT:List D->Option (List (List Nat))
 | []=>some []
 | .str l::ds=>(strsT ds).map (l :: ·)
 | _=>none
def ur(d:D):Option D:=match d with
 | .lst ds=>match strsT ds with
  |some l=>if l.length<4000/\l≠[]/\(l.foldl stepT []).length<64 then some (.lst ((jJ l).map .str)) else none
  |none=>none
 | _=>none
def uv:List D->Option D
 | [d]=>ur d
 | _=>none
theorem Rps.strsT{K:Frag}{F:Hp}{b:List Addr}:∀{ds:List D}{xs:List V}{l:List (List Nat)},Rps K F b xs ds->L2.strsT ds=some l->xs=(l.map S).map V.str
 | [],xs,l,h,e=>by cases e;exact h
 |d::ds,xs,l,h,e=>by
  obtain⟨x,f,rfl,h3,h4⟩:=h.un
  cases d with
  |str t =>
   unfold L2.strsT at e
   cases q:L2.strsT ds with
   |none=>rw[q] at e;cases e
   |some  =>
    rw[q] at e;cases e;rw[Rps.strsT h4 q];rw[h3];rfl
  | _=>cases e
theorem Rps.ofStrs{K:Frag}{F:Hp}{b:List Addr}:∀l:List (List Nat),Rps K F b ((l.map S).map V.str) (l.map D.str)
 | []=>Rps.nil
 |x::l=>Rps.cons (show Rp K F b (V.str (S x)) (.str x) from rfl) (Rps.ofStrs l)
variable {md:List Md}{P:Pt}
def ZF  {p1 q1 I u:Pos}   (J:X.calm=true)(hm1:X.mg "sorted" = none)(Z:X.mg "set" = none)(ha:AE X md P ms [e] ma)(hg1:Gl X "sorted":=by rfl)(hg2:Gl X "set":=by rfl)
  (he:starEach [e] X.env=(false,eval e X.env)::starEach [] X.env:=by exact bY rfl) (W:(backTo u (starEach [] X.env)).any (·.1)=false:=by exact cP rfl)
  (E:starEach [Expr.Call (.Name "set" I) [e] [] u] X.env=(false,eval (Expr.Call (.Name "set" I) [e] [] u) X.env)::starEach [] X.env:=by exact bY rfl) (G:(backTo q1 (starEach [] X.env)).any (·.1)=false:=by exact cP rfl):
  OE X md P (.Call (.Name "sorted" p1) [.Call (.Name "set" I) [e] [] u] [] q1) (aJ uv ma):=by
 have hin:PE X (.Call (.Name "set" I) [e] [] u) _:=wH (Zz J) hg2 Z (by decide +kernel) ha (by decide) (by decide) he W
 refine(wG (ZD J) hg1 hm1 (by decide +kernel) (fJ hin gj E) (by decide) (by decide) E G).imp λσ H Q q=>?_
 obtain⟨ρ,O,F,as,d,O',r,s,e,k⟩:=q;obtain⟨ds,O1,e1,e⟩:=Res.bind_ok e;split at e
 ·rename_i y j;cases e;refine⟨ρ,_,F,as,_,_,r,s,e1,λvs H1 F1 as1 g1 L hv=>?_⟩;have C:=hv.lks L
  generalize hds:ds.map (aY O')=es at j C
  unfold uv at j;split at j
  ·rename_i d0;obtain⟨v,rfl,U⟩:=C.one;unfold ur at j;split at j
   ·rename_i ds0;split at j
    ·rename_i l hl;split at j
     ·rename_i f;cases j;obtain⟨p,xs,rfl,h1,h2⟩:=U.list L.fh;have T:=Rps.strsT h2 hl;subst T;refine⟨p,l.map S,rfl,h1.sq,by rw[zf];exact f.1,λa R=>?_⟩
      have Y:(l.map S).foldl d9 []≠[]:=λz=>by
       have m:=uo l [];rw[zV,z] at m
       cases hq:l.foldl stepT [] with
       |nil =>
        cases l with
        |nil=>exact f.2.1 rfl
        |cons x l' =>
         have:=(uq x (x::l') []).mpr (.inr zd)
         rw[hq] at this;cases this
       |cons x l'=>rw[hq] at m;cases m
      refine⟨a,_,rfl,bC,Y,?_,λb ss' hp hs hB=>?_⟩
      ·have m:=uo l [];rw[zV] at m;rw[m,zf];exact f.2.2
      ·rw[Zx hp hs];refine n8 (L.lay R) (λv' H' F' g' r' hw=>k v' H' F' as1 (g1.trans ((Gr.lay R).trans g')) r' (iz _ _ _ _ _ _ _ (λc J=>?_) hw)) hB (Rps.ofStrs _);refine g1.dm c ?_
       rcases Decidable.em (c=a) with z | z
       ·rw[z];exact R
       ·rwa [aG z] at J
     ·cases j
    ·cases j
   ·cases j
  ·cases j
 ·cases e
end
structure ZG(mg:Str->Option Value):Prop extends GQ mg where
 set_:mg "set" = none
end L2
namespace L2
open PySem PySem.Spec PyProof.Rows
def qx(mo m:M D):MS:=λρ O=>match mo ρ O with
 | .ok (.ob n) O1=>match O1[n]? with
  |some (.ml _)=>match m ρ O1 with
   | .ok d O2=>match O2[n]?,aY O2 d with
    |some (.ml ds),.lst es=>if ds.length+es.length<=1000000 then .nx ρ (O2.set n (.ml (ds++es))) else .no
    | _,_=>.no
   | _=>.no
  | _=>.no
 | _=>.no
def ZJ{R:RR}  {apos f I:Pos}  (ho:VE X md P o mo)(h:SE X md P e m)
  (G:attributeBase o "extend" X.env (eval o X.env)=eval o X.env:=by rfl)
  (J:((backTo f (starEach [e] X.env)).all (λx=>!x.1)&&(backToKw f (keywordEach [] X.env)).all (λx=>x.1.isSome)&&decide ([e].length+([]:List Keyword).length+(if([]:List Keyword).isEmpty then 0 else 1)<30))=true:=by rfl)
  (E:(apos.endLine == f.line)=true:=by rfl) (hs:starEach [e] X.env=(false,eval e X.env)::starEach [] X.env:=by exact bY rfl) (j:(backTo f (starEach [] X.env)).any (·.1)=false:=by exact cP rfl)
  (Y:swapsWith (.Call (.Attribute o "extend" apos) [e] [] f) none I.line X.env=pure false:=by rfl):
  VS X md P R (.Expr (.Call (.Attribute o "extend" apos) [e] [] f) I) (qx mo m):=
 (j6 (lW PySem.F.plainAttrs_list PySem.F.slot_list_extend PySem.F.type_list_extend GC ho (fJ h gj hs) G J E hs j) Y).imp λD σ H q=>by
  obtain⟨ρ,O,F,as,r,s,k⟩:=q;unfold qx at k;split at k
  ·rename_i n O1 e1;split at k
   ·rename_i ds0 e2;split at k
    ·rename_i d O2 e3;split at k
     ·rename_i ds es e4 e5;split at k
      ·rename_i hz;refine⟨ρ,O,F,as,_,_,r,s,e1,λv H1 F1 Z T r1 hv=>?_⟩;obtain⟨a,rfl,ha⟩:=Rp.unO hv;obtain⟨W,x1,x2⟩:=r1.ml ha e2;refine⟨.inl ⟨rfl,W,.inl (.inl x1)⟩,ρ,O1,F1,Z,d,O2,r1,s.step T,e3,λy H2 U C Q L hy=>?_⟩;have u:=Q.at_ n a ha;obtain⟨xs,y1,y2⟩:=L.ml u e4;have ly:=Sv.lk hy L;rw[e5] at ly;obtain⟨b,zs,rfl,w1,w2⟩:=ly.list L.fh;have g3:Gr H2 U C (upd H2 a (.lst (xs++zs))) U C:=qp (zL u) y1;exact⟨a,b,xs,zs,rfl,rfl,y1,w1,by rw[y2.length,w2.length];exact d7 hz,k σ _ U C ((T.trans Q).trans g3).toS (L.mutO u (Rps.append w2 y2)) (s.step ((T.trans Q).trans g3))⟩
      ·exact False.elim k
     ·exact False.elim k
    ·exact False.elim k
   ·exact False.elim k
  ·exact False.elim k
noncomputable def iI(n L:Nat)(g:MG)(t:M Bool)(m:M D):Nat->aR->au->List D->Res (List D)
 | 0,ρ,O,acc=>match O[n]? with
  |some (.ml es)=>if es.length=L then .ok acc O else .no
  | _=>.no
 |k+1,ρ,O,acc=>match O[n]? with
  |some (.ml es)=>match es[L - (k+1)]? with
   |some d=>match g d ρ with
    |none=>.no
    |some b=>match t b O with
     | .ok true O1=>match m b O1 with
      | .ok y O2=>iI n L g t m k b O2 (acc++[y])
      | _=>.no
     | .ok false O1=>iI n L g t m k b O1 acc
     | _=>.no
   |none=>.no
  | _=>.no
def qy(m:M D)(own:Nat)(cap:List Nat)(g:MG)(t:M Bool)(e:M D):M D:=λρ O=>(m ρ O).bind λd b=>match d with
 | .ob n=>match b[n]? with
  |some (.ml ds)=>if ds.length<=1000000 then(iI n ds.length g t e ds.length (d8 own cap ρ) b []).bind λf j=>.ok (.lst f) j else .no
  | _=>.no
 | _=>.no
def ZK{K:Frag}        (hcap:∀j∈cap,j<md.length)    (q:tM K mg md P (rO K) (qy m own.length cap g t e) σ H Q):
  sZ (Di K (tM K mg md P (rV K) m)) own cap (xMG K mg (cMd own.length cap md) g) (xMT K mg (cMd own.length cap md) t) (xM K mg (cMd own.length cap md) (rV K) e) σ H Q:=by
 obtain⟨ρ,O,F,as,d,OZ,r,s,E,k⟩:=q;obtain⟨d1,O1,e1,E⟩:=Res.bind_ok E;split at E
 ·rename_i n;split at E
  ·rename_i u e2;split at E
   ·rename_i hz;obtain⟨yf,O2,e3,E⟩:=Res.bind_ok E;cases E;refine⟨ρ,_,F,as,_,_,r,s,e1,λv H1 F1 U g1 r1 hv=>?_⟩;obtain⟨a,rfl,ha⟩:=Rp.unO hv;obtain⟨xs0,x1,x2⟩:=r1.ml ha e2;have sb:=FJ (own:=own) (s.step g1) hcap
    refine⟨a,rfl,⟨xs0,.inl (.inl x1)⟩,λi k Y σ' H'=>k=u.length - i/\i<=u.length/\∃J X G b f,Gr H1 F1 U H' G b/\RlO K mg X H' G b/\SlO K (cMd own.length cap md) (Pt.all H1) J σ' H' G b/\Rps K G b Y f/\f.length<=i /\
     iI n u.length g t e (u.length - i) J X f=.ok yf OZ,⟨u.length,by simp,Nat.zero_le _,d8 own.length cap ρ,O1,F1,U,[],Gr.refl,r1,sb,Rps.nil,zc _,by rw[Nat.sub_zero];exact e3⟩,?_⟩
    rintro i kk Y σ' H' ⟨rfl,hi,J,X,G,b,f,g',r',s',hy,hl,ec⟩;have ha':=g'.at_ n a ha
    by_cases hlt:i<u.length
    ·rw[show u.length - i=(u.length - (i+1))+1 by omega] at ec;unfold iI at ec;split at ec
     ·rename_i es ee;obtain⟨Z,y1,y2⟩:=r'.ml ha' ee;rw[show u.length - (u.length - (i+1)+1)=i by omega] at ec;split at ec
      ·rename_i d' ed;obtain⟨x,hx,rx⟩:=y2.get' ed;have hsq:SqL K H' a Z:=.inl (.inl y1)
       refine .inr ⟨⟨Z,x,hsq,hx⟩,?_,λY σ2 H2=>∃ρ2 O3 F2 L I,Gr H1 F1 U H2 F2 L/\RlO K mg O3 H2 F2 L/\SlO K (cMd own.length cap md) (Pt.all H1) ρ2 σ2 H2 F2 L/\Rps K F2 L Y I/\I.length<=i+1 /\
        iI n u.length g t e (u.length - (i+1)) ρ2 O3 I=.ok yf OZ,λys2 σ2 H2 h2=>⟨u.length - (i+1),by omega,rfl,hlt,h2⟩,λx' H3 y=>?_⟩
       ·rw[hy.length]
        have:=d7 hz
        omega
       obtain⟨rfl,hyy⟩:=y;have hxx:=hyy Z hsq;rw[hx] at hxx;cases hxx;split at ec
       ·cases ec
       ·rename_i C eg;refine⟨_,J,X,G,b,d',C,r',s',rx,eg,λσ4 s4=>?_⟩;split at ec
        ·rename_i O4 et;refine⟨_,C,X,G,b,true,O4,r',s4,et,λH5 F5 T R r5=>?_⟩;dsimp only;rw[if_pos rfl];split at ec
         ·rename_i yd O6 em;refine⟨_,C,O4,F5,T,yd,O6,r5,s4.step R,em,λvy H7 F7 as7 g7 r7 hvy=>?_⟩;exact⟨C,O6,F7,as7,f++[yd],(g'.trans R).trans g7,r7,(s4.step R).step g7,((hy.gr R).gr g7).snoc hvy,by rw[ze];show f.length+1<=i+1;omega,ec⟩
         ·cases ec
        ·rename_i O4 et;refine⟨_,C,X,G,b,false,O4,r',s4,et,λH5 F5 T R r5=>?_⟩;dsimp only;rw[if_neg zx];exact⟨C,O4,F5,T,f,g'.trans R,r5,s4.step R,hy.gr R,by omega,ec⟩
        ·cases ec
      ·cases ec
     ·cases ec
    ·have hi':i=u.length:=by omega
     subst hi';rw[Nat.sub_self] at ec;unfold iI at ec;split at ec
     ·rename_i es ee;split at ec
      ·rename_i hle;cases ec;obtain⟨Z,y1,y2⟩:=r'.ml ha' ee;refine .inl ⟨⟨Z,.inl (.inl y1),by rw[y2.length,hle];exact zc _⟩,?_,λp W=>?_⟩
       ·rw[hy.length];exact zI hl (d7 hz)
       ·have hF:G p=none:=by
         cases q:G p with
         |none=>rfl
         |some o=>rw[r'.fh p o q] at W;cases W
        exact k _ _ G b ((g1.trans g').trans (Gr.lay W)) (r'.lay W) (.inr ⟨p,Y,yf,rfl,rfl,bC,hF,λz=>r'.all z W,(g1.trans g').dm p W,hy⟩)
      ·cases ec
     ·cases ec
   ·cases E
  ·cases E
 ·cases E
def ZL{m:Pos}(b:Scope)(d own:List Str)(cap:List Nat)(J:X.calm=true)(F:VE X md P L mi)
  (G:∀C s H ex P,VG (bK X scope C (bH d own cap) s H ex) (cMd own.length cap md) P R g) (E:∀C s H ex P,VIf (bK X scope C (bH d own cap) s H ex) (cMd own.length cap md) P O t)
  (I:∀C s H ex P,VE (bK X scope C (bH d own cap) s H ex) (cMd own.length cap md) P Q e)
  (f:∀j∈cap,j<md.length:=by decide) (u:X.env.scope=b:=by rfl) (y:X.N=d:=by rfl) (ok:j9 b d scope own cap=true:=by decide +kernel) (hs:∀x,foldedSetIterable L X.env x=pure x:=by intro _;rfl):
  OE X md P (.ListComp Q [⟨R,L,O,0⟩] scope m) (qy mi own.length cap g t e):=
 (Eu b d own cap J (v8 F) (λC s H ex=>xmg (G C s H ex)) (λC s H ex=>xmt (E C s H ex)) (λC s H ex=>xm (I C s H ex)) u y ok hs).imp λ_ _ _ q=>ZK f q
end L2
namespace L2
open PySem PySem.Spec PyProof.Rows PySem.W
inductive CXE (Pr:Program) (w:World) (outer:List Env) (H:Hp) (s:Shared) (E:XK) (e:Value) (s':Shared):Prop
 | mk:∀(ea C:Addr) (H':Hp) (B:Heap) (a0:Value),e=.ref ea->s'.os=s.os->AllBare s'.gens->Un (frs outer) [] H H' s.heap s'.heap->HOk Pr w H' s'.heap->Heap.FlyingW B outer ea (.ref C) a0 s'.heap->(∀b u,H' b=some u->∃o,B.get? b=some o)->(∀b o,s.heap.get? b=some o->b∉frs outer->∃o',B.get? b=some o')->E (.ref C) none H'->CXE Pr w outer H s E e s'
noncomputable def msN(m:MS):MS:=λρ O=>match m ρ O with
 | .ex _ _=>.no
 |f=>f
def bmV:List Value:=[.type "ValueError",.type "Exception",.type "BaseException",.type "object"]
inductive ZM (P:Program) (w:World) (K:Frag) (mg:Str->Option Value) (base:Heap) (x:Str) (ps:List Str) (k:Nat) (sp:Sp):Prop
 | mk:∀f fd,mg x=some (.ref f)->keepIn K (.ref f)=true->Binds K fd ps []->cz P w K mg base (CXE P w) k f fd ps sp->(∃oc od osl,K.lookup f=some ⟨oc,od,.func fd,osl⟩)->ZM P w K mg base x ps k sp
def ZP(K:Frag)(mg:Str->Option Value)(R:RR)(H F:Hp)(m:List Addr)(Q:VK)(E:XK):Res D->Prop
 | .ok d O'=>∀v f j b,Gr H F m f j b->RlO K mg O' f j b->R (λa=>H a=none) f j b v d->Q v f
 | .ex x O'=>∀C f j b,mg x.cls=some (.ref C)->Gr H F m f j b->RlO K mg O' f j b->E (.ref C) none f
 | .no=>False
inductive ZQ (K:Frag) (mg:Str->Option Value) (pm:List Md) (R:RR) (c:List D->au->Res D) (vs:List V) (H:Hp) (Q:VK) (E:XK):Prop
 | mk:∀ds O F as,RlO K mg O H F as->bQ K H F as pm vs ds->ZP K mg R H F as Q E (c ds O)->ZQ K mg pm R c vs H Q E
end L2
namespace L2
open PySem PySem.Spec PyProof.Rows PySem.W PySem.Calls PySem.Builtin PySem.Builtin.ObjectAttr PySem.Builtin.Getset_descriptor
structure QEz(K:Frag)(C:Addr):Prop where
 ga:findIn K (.ref C) "__getattribute__" = some (some (.builtin "BaseException.__getattribute__"))
 na:findIn K (.ref C) "__getattr__" = some none
 ca:findIn K (.ref C) "__class__" = some (some (.builtin "object.__class__"))
 sp:specialIn K (.builtin "object.__class__") "__get__" = some (some (.builtin "getset_descriptor.__get__"))
 tk:takesIn K (.builtin "object.__class__")=some true
 ob:mroIn K C (.type "object")=some true
 be:mroIn K C (.type "BaseException")=some true
 cl:(clsIn K C).isSome=true
def HX(a C:Addr)(h:Heap):Prop:=∃o,h.get? a=some o/\o.cls=.ref C
end L2
namespace L2
open PySem PySem.Spec PyProof.Rows PySem.W
end L2
namespace L2
open PySem PySem.Spec PyProof.Rows
end L2
namespace L2
open PySem PySem.Spec PyProof.Rows PySem.W
inductive CXF (Pr:Program) (w:World) (outer:List Env) (H:Hp) (s:Shared) (E:XK) (e:Value) (s':Shared):Prop
 | mk:∀(ea C:Addr) (H':Hp) (B:Heap) (a0:Value) (dxo:Option Addr),e=.ref ea->s'.os=s.os->AllBare s'.gens->Un (frs outer) [] H H' s.heap s'.heap->HOk Pr w H' s'.heap->Heap.FlyingW B outer ea (.ref C) a0 s'.heap->(∀b u,H' b=some u->∃o,B.get? b=some o)->(∀b o,s.heap.get? b=some o->b∉frs outer->∃o',B.get? b=some o')->(∃oe,s'.heap.get? ea=some oe/\oe.dict=dxo)->E (.ref C) dxo H'->CXF Pr w outer H s E e s'
inductive ZR (P:Program) (w:World) (K:Frag) (mg:Str->Option Value) (base:Heap) (x:Str) (ps:List Str) (k:Nat) (sp:Sp):Prop
 | mk:∀f fd,mg x=some (.ref f)->keepIn K (.ref f)=true->Binds K fd ps []->cz P w K mg base (CXF P w) k f fd ps sp->(∃oc od osl,K.lookup f=some ⟨oc,od,.func fd,osl⟩)->ZR P w K mg base x ps k sp
inductive ZW (P:Program) (w:World) (K:Frag) (mg:Str->Option Value) (base:Heap) (c m:Str) (ps:List Str) (k:Nat) (sp:Sp):Prop
 | mk:∀C f fd,mg c=some (.ref C)->Cls K C->nO K C m f->Binds K fd ps []->cz P w K mg base (CXF P w) k f fd ps sp->ZW P w K mg base c m ps k sp
def ZX(K:Frag)(mg:Str->Option Value)(R:RR)(H F:Hp)(q:List Addr)(Q:VK)(E:XK):Res D->Prop
 | .ok d O'=>∀v f j b,Gr H F q f j b->RlO K mg O' f j b->R (λa=>H a=none) f j b v d->Q v f
 | .ex x O'=>∀C m f j b,mg x.cls=some (.ref C)->Gr H F q f j b->RlO K mg O' f j b->XF K j b m x.fs->E (.ref C) m f
 | .no=>False
inductive ZZ (K:Frag) (mg:Str->Option Value) (pm:List Md) (R:RR) (c:List D->au->Res D) (vs:List V) (H:Hp) (Q:VK) (E:XK):Prop
 | mk:∀ds O F as,RlO K mg O H F as->bQ K H F as pm vs ds->ZX K mg R H F as Q E (c ds O)->ZZ K mg pm R c vs H Q E
end L2
namespace L2
open PySem PySem.Spec PyProof.Rows PySem.W PySem.Builtin PySem.Builtin.ObjectAttr
def Z0(K:Frag)(C:Addr)(b:List Value)(newId:String)(d:Addr):Bool:=match K.lookup C with
 |some ⟨.type "type",_,.cls cd,sl⟩=>(match cd.mro,sl.toList with
  | .ref C'::bm,[_,_,_,_,some (.builtin n),_]=>C' == C&&n == newId && !cd.hasDel&&tailIn K b bm&&nsOkIn K cd.ns&&nsIn K cd.ns "__init__" == some (some (.ref d))&&cd.hasDict
  | _,_=>false)
 | _=>false
def Z1(C t:Addr)(b:Option Addr):Obj:={cls:=.ref C,dict:=b,data:=.fields #[.ref t,.none,.none,.none,.bool false,.none]}
def xoK(C t d:Addr)(b:Option Addr):HO:=.ext λh=>h.get? d=some (Z1 C t b)
def spI(C:Addr)(name:Str):Sp:=λvs H Q _=>∃b t v,vs=[.ref b,v]/\H b=some (xoK C t b none)/\∀d f,H d=none->d≠b->Q .non (upd (upd H d (.frz f (.xd [(name,v)]))) b (xoK C t b (some d)))
structure Z2(K:Frag)(C fI:Addr)(name:Str):Prop where
 cl:Z0 K C bmV "ValueError.__new__" fI=true
 sa:findIn K (.ref C) "__setattr__" = some (some (.builtin "object.__setattr__"))
 na:findIn K (.ref C) name=some none
 ob:mroIn K C (.type "object")=some true
inductive Z3 (P:Program) (w:World) (K:Frag) (mg:Str->Option Value) (base:Heap) (c name:Str) (k:Nat):Prop
 | mk:∀(C fI:Addr) (fd:FuncData) (ps:List Str),mg c=some (.ref C)->Z2 K C fI name->isFn K (.ref fI)=true->Binds K fd ps []->cz P w K mg base CX0 k fI fd ps (spI C name)->Z3 P w K mg base c name k
end L2
namespace L2
open PySem PySem.Spec PyProof.Rows PySem.W
end L2
namespace L2
open PySem PySem.Spec PyProof.Rows PySem.W PySem.Calls PySem.Builtin PySem.Builtin.ObjectAttr
end L2
namespace L2
open PySem PySem.Spec PyProof.Rows PySem.W
def Z4(A:Around):Around:={A with handled:=none}
structure Z5(P:Program)(w:World)(K:Frag)(mg:Str->Option Value)(base:Heap)(k:Nat)(f:Addr)(fd:FuncData)(ps:List Str)(sp:Sp):Prop where
 len:∀vs H Q E,sp vs H Q E->vs.length=ps.length
 run:∀(A:Around) (outer:List Env) (s:Shared) (H:Hp) (args:Args) (us:List Value) (vs:List V) (Q:VK) (E:XK),aZ k (Z4 A)->iZ P w K mg base A outer s H->BindsTo s fd args (ps.zip us)->aH vs us->sp vs H Q E ->
  codeAny (model P w) A (.call (.ref f) args) (CR CX0 outer P w H s Q E) s
inductive Z6 (P:Program) (w:World) (K:Frag) (mg:Str->Option Value) (base:Heap) (x:Str) (ps:List Str) (k:Nat) (sp:Sp):Prop
 | mk:∀f fd,mg x=some (.ref f)->keepIn K (.ref f)=true->Binds K fd ps []->Z5 P w K mg base k f fd ps sp->(∃oc od osl,K.lookup f=some ⟨oc,od,.func fd,osl⟩)->Z6 P w K mg base x ps k sp
inductive Z7 (P:Program) (w:World) (K:Frag) (mg:Str->Option Value) (base:Heap) (c:Str) (ps:List Str) (k:Nat) (sp:Sp):Prop
 | mk:∀C f fd,mg c=some (.ref C)->Mk K C f->Binds K fd ps []->cz P w K mg base (CXF P w) k f fd ps sp->Z7 P w K mg base c ps k sp
end L2
namespace L2
open PySem PySem.Spec PyProof.Rows PySem.W PySem.Calls
structure QEB(mg:Str->Option Value):Prop extends Blt mg where
 any_:mg "any" = none
end L2
namespace L2
open PySem PySem.Spec PyProof.Rows PySem.W
structure QD5(P:Program)(w:World)(K:PySem.W.Frag)(mg:Str->Option Value)(base:Heap)(k:Nat)(f:Addr)(fd:FuncData)(ps:List Str)(sp:Sp):Prop where
 len:∀vs H Q E,sp vs H Q E->vs.length=ps.length
 run:∀(A:Around) (outer:List Env) (s:Shared) (H:Hp) (args:Args) (us:List Value) (vs:List V) (Q:VK) (E:XK),aZ k A->iZ P w K mg base A outer s H->BindsTo s fd args (ps.zip us)->aH vs us->sp vs H Q E ->
  codeAny (model P w) A (.call (.ref f) args) (λr s'=>1<=s'.toks/\CR CX0 outer P w H s Q E r s') s
structure ZT(h:Heap)(z TI TO i1 i2 l1 l2 k1 k2:Nat)(xs ys:Array Value):Prop where
 z:IsZip h z TI TO .none
 ti:IsPair h TI (.ref i1) (.ref i2)
 to:∃a b,IsPair h TO a b
 h1:h.IsTupleIter i1 l1 k1
 h2:h.IsTupleIter i2 l2 k2
 t1:h.IsTuple l1 xs
 t2:h.IsTuple l2 ys
abbrev KN(K:Frag)(H:Hp):List (NK×V)->List (NK×Addr×Value)->Prop:=Paired λp q=>p.1=q.1/\NAt K H p.1 q.2.1/\RelV p.2 q.2.2
def KN.val{K:Frag}{H:Hp}{d:List (NK×V)}{xs:List (NK×Addr×Value)}(r:KN K H d xs)(k:NK):dH (dJ d k) ((atKey xs k).map (·.2)):=by
 induction r with
 |nil=>exact True.intro
 | @cons p q ps qs h t ih =>
  obtain⟨h1,_,h2⟩:=h
  by_cases e:p.1=k
  ·have e':q.1=k:=h1.symm.trans e
   have b:atKey (q::qs) k=some q.2:=by simp[atKey,List.find?_cons,e']
   rw[nP e,b];exact h2
  ·have e':¬q.1=k:=λz=>e (h1.trans z)
   have b:atKey (q::qs) k=atKey qs k:=by simp[atKey,List.find?_cons,e']
   rw[nQ e,b];exact ih
def KN.repl{K:Frag}{H:Hp}{b:List (NK×V)}{xs:List (NK×Addr×Value)}(r:KN K H b xs)(k:NK){y:V}{u:Value}(f:RelV y u):
  KN K H (b.map λd=>if d.1=k then(d.1,y) else d) (xs.map (putAt k u)):=by
 induction r with
 |nil=>exact .nil
 | @cons p q ps qs h t ih =>
  rw[zg,zg];refine .cons ?_ ih;obtain⟨h1,h2,h3⟩:=h;unfold putAt
  by_cases e:p.1=k
  ·rw[if_pos e,if_pos (h1.symm.trans e)];exact⟨h1,h2,f⟩
  ·rw[if_neg e,if_neg (λz=>e (h1.trans z))];exact⟨h1,h2,h3⟩
def KN.put{K:Frag}    (r:KN K H j xs)(k:NK)    (hb:NAt K H k b)(d:RelV y u):
  KN K H (putK j k y) (storedH xs k b u):=by
 have e:(j.any λf=>decide (f.1=k))=(atKey xs k).isSome:=by
  rw[wL,(r.val k).isSome_eq,Option.isSome_map]
 unfold putK storedH;rw[e]
 by_cases q:(atKey xs k).isSome=true
 ·rw[if_pos q,if_pos q];exact r.repl k d
 ·rw[if_neg q,if_neg q];exact Paired.snoc r ⟨rfl,hb,d⟩
def KN.keeps{K:Frag}{H f:Hp}{d:List (NK×V)}{xs:List (NK×Addr×Value)}(r:KN K H d xs)(j:∀b ys,H b=some (.tup ys)->f b=some (.tup ys)):KN K f d xs :=
 Paired.mapP r λ_ _ z=>⟨z.1,z.2.1.mono j,z.2.2⟩
def xZ{K:Frag}  (ok:HOk P w H h)(kin:K.In h)(e:NAt K H k a):(nH P w).is h k a:=by
 obtain⟨c,J,d⟩:=e;obtain⟨_,L,r,o,h1,h2,n,h3⟩:=(ok a _ J);have r' :=r
 cases r' with
 | @cons _ u _ us r1 r2 =>
  cases r2 with
  | @cons _ u2 _ us2 r3 r4 =>
   cases r4;obtain rfl :=r3;refine⟨o,_,n,u,c,h1,h2,h3,by simp,nR r1,?_⟩
   rcases d with d | ⟨y,f,E,l1,I,l3,l4,G⟩
   ·obtain⟨_,b,q,C,x,m,F,j⟩:=(ok c _ d);exact⟨C,b.toArray,F,x,m,j,by simpa using sU q⟩
   ·exact⟨y,f,E,kin _ _ l1,I,l3,sU G⟩
def yc{K:Frag}  (ok:HOk P w H h)(kin:K.In h)(e:Rd H a (.dN K j)):j.length<=sizeLine/\(a == sysModules)=false /\
  ∃xs,KN K H j xs/\h.DictOfH (nH P w) a xs:=by
 obtain⟨z,y,xs,r,o,d,f,h1,h2,h3,h4,b⟩:=(wM ok e);refine⟨z,y,xs,r,o,d,f,h1,h2,h3,h4,λx hx=>?_,b⟩
 have all:∀{l}{m},KN K H l m->∀x∈m,(nH P w).is h x.1 x.2.1:=by
  intro l m q
  induction q with
  |nil=>intro x hx;exact nomatch hx
  | @cons p q ps qs hq t ih =>
   intro x hx
   rcases zk.mp hx with e | hx
   ·subst e;exact xZ ok kin (by rw[<-hq.1];exact hq.2.1)
   ·exact ih x hx
 exact all r x hx
def Hj   {A:Around}(b:A.units+6<cLine):(nH P w).room A.in1:=by
 show A.units+1+4<cLine;omega
def n6   (b:aZ k A):A.units+6<cLine:=Nat.lt_of_le_of_lt (Nat.add_le_add_left (by decide) _) b.units
def ye(K:Frag)(H:Hp)(a:Addr)(y:V)(r:Option V):Prop:=∃d k b,Rd H a (.dN K d)/\y=.ref b/\NAt K H k b/\r=dJ d k
def Z8{σ:St}  (C:A.units+6<cLine)(I:Inv X R σ H s)(g:ye X.K H a y (some v))(q:RelV y u)(h:∀d m,Inv X R σ H m->RelV v d->Q d m):
  wpAny (model X.prog X.w) A (getItem (.ref a) u) Q E s:=by
 obtain⟨O,k,b,e,G,J,l⟩:=g;subst G;cases(q);obtain⟨z,hd,P,rel,L⟩:=yc I.hok I.kIn e;obtain⟨d,x,f⟩:=dH.some_of (by rw[l];exact rel.val k);obtain⟨p,F,j⟩:=jq.mp x;refine wpAny_getItem_heap (Hj C) (xZ I.hok I.kIn J) L F ?_;rw[j];exact h d _ (I.tok _) f
def Z9{σ:St}(I:Inv X j σ H s)(g:ye X.K H a y o):∃ob,s.heap.get? a=some ob/\ob.cls=.type "dict":=by
 obtain⟨d,k,b,e,l⟩:=g;obtain⟨_,_,f,_,ob,_,_,h1,h2,_⟩:=yc I.hok I.kIn e;exact⟨ob,h1,h2.1⟩
def QsG{σ:St}     (C:A.units+6<cLine)(I:Inv X W σ H s)(e:H a=some (.dN X.K U))(u:NAt X.K H k b)(l:U.length<sizeLine)(y:RelV v r)(h:∀f,Inv X W σ (upd H a (.dN X.K (putK U k v))) f->Q () f):
  wpAny (model X.prog X.w) A (setItem (.ref a) (.ref b) r) Q E s:=by
 obtain⟨z,hd,x,rel,O⟩:=yc I.hok I.kIn (.inl e)
 have R:x.length<=sizeLine:=by rw[<-Paired.length rel];exact z
 have F:(putK U k v).length<=sizeLine:=by have:=sS U k v;omega
 refine wpAny_setItem_heap (Hj C) (xZ I.hok I.kIn u) O λT d hs=>h _ ?_
 obtain⟨q,J,L,j,h2,h3,h4,_,G⟩:=d;refine wN I (by rw[e];exact True.intro) hs ⟨q,j⟩ ⟨F,hd,_,(rel.put k u y).keeps λc P m=>?_,q,J,L,j,h2,h3,h4,G⟩;rw[aG (ne_of m e λz=>nomatch z)];exact m
def QAV(K:Frag)(d ty:TE):TE:=λσ H Q=>d σ H λx f=>ty σ f λy b=>∃a v,x=.ref a/\ye K b a y (some v)/\Q v b
def QBS(K:Frag)(m ty j:TE):TS:=λD σ H=>j σ H λv u=>m σ u λx q=>ty σ q λy f=>∃a d k b,x=.ref a/\y=.ref b/\f a=some (.dN K d)/\NAt K f k b/\d.length<sizeLine/\D.nx σ (upd f a (.dN K (putK d k v)))
def QxU(K:Frag):TE:=λ_ H Q=>∀p,H p=none->Q (.ref p) (upd H p (.dN K []))
def QvG(d:X.A.units+6<cLine)(f:PE X o E)(j:PE X i ty)(hs:wO i):PE X (.Subscript o i G) (QAV X.K E ty):=by
 intro pins s σ H Q I h;refine Em PySem.F.slot_dict_getitem.lookup hs (thn (f _ s σ H _ I h) λu s1 ⟨x,H1,I1,rx,q1⟩=>thn (j _ s1 σ H1 _ I1 q1) λiv s2 ⟨y,H2,I2,ry,a,v,ex,g,q2⟩=>?_);subst ex;obtain rfl :=rx;exact⟨Z9 I2 g,Z8 d I2 g ry λq C m b=>⟨v,H2,m,b,q2⟩⟩
def Qxr(d:X.A.units+6<cLine)(f:PE X o J)(j:PE X i ty)(hv:PE X C G)(hs:swapsWith C (some (.Subscript o i E)) F.line X.env=pure false):
  PS X (.Assign [.Subscript o i E] C F) (QBS X.K J ty G):=by
 intro pins s σ H D I h;refine wpAny_Assign_Subscript (thn (hv _ s σ H _ I h) λr s1 ⟨v,H1,I1,rv,q1⟩=>thn (f _ s1 σ H1 _ I1 q1) λu s2 ⟨x,H2,I2,rx,q2⟩=>thn (j _ s2 σ H2 _ I2 q2) λiv s3 ⟨y,H3,I3,ry,a,kvs,k,b,ex,ey,e,eb,l,q3⟩=>?_) hs;subst ex ey;obtain rfl :=rx;obtain rfl :=ry
 exact QsG d I3 e eb l rv λq m=>⟨σ,_,m,q3⟩
def Quy:PE X (.Dict [] [] b) (QxU X.K):=λpins s σ H Q I h =>
 wpAny_Dict_empty ⟨.ref _,_,I.laid (o:=.dN _ []) (λ_ _ q=>zo _ q) (zc _)
  (⟨Nat.zero_le _,beq_eq_false_iff_ne.mpr (Ne.symm (zq I.big)),[],.nil,_,#[],0,zz _ rfl,⟨rfl,rfl,rfl⟩,rfl,rfl,List.nodup_nil⟩),rfl,h _ (I.hok.fresh (zc _))⟩
section
variable {X:Cx}{pins:List (Addr×Obj)}{σ:List (Option V)}{H:Hp}{s:Shared}{a:Addr}{xs:List (NK×V)}{o:Obj}
def Inv.base0N(I:Inv X pins σ H s)(e:H a=some (.dN X.K xs)):∀o u,X.H₀ a≠some (.frz o u):=λo u z=>by
 have:=I.base.frzs a o u z
 rw[e] at this;cases this
def Inv.freezeN(I:Inv X pins σ H s)(e:H a=some (.dN X.K xs)):∃o,s.heap.get? a=some o/\Inv X pins σ (upd H a (.frz o (.dN X.K xs))) s:=by
 have hx:=I.hok a _ e
 obtain⟨o,b⟩:∃u,s.heap.get? a=some u:=by
  obtain⟨_,_,_,_,_,_,_,z,_⟩:=hx;exact⟨_,z⟩
 refine⟨o,b,I.reword (by rw[e];exact λz=>nomatch z) (by rw[e];exact λ_ z=>nomatch z) (by rw[e];exact λ_ z=>nomatch z) (by rw[e];exact λ_ z=>nomatch z) (I.base0N e) ⟨b,?_⟩⟩
 exact bZ.stay hx (λ_ _ _ z=>z) (λc z=>by rw[aG (λq=>by rw[q,e] at z;cases z)];exact z) λc d z=>by rw[aG (λq=>by rw[q,e] at z;cases z)];exact z
def Inv.thawN(I:Inv X pins σ H s)(e:H a=some (.frz o (.dN X.K xs)))(b:∀o u,X.H₀ a≠some (.frz o u)):Inv X pins σ (upd H a (.dN X.K xs)) s:=by
 obtain⟨f,hx⟩:=(show bZ X.prog X.w H s.heap a (.frz o (.dN X.K xs)) from I.hok a _ e);refine I.reword (by rw[e];exact λz=>nomatch z) (by rw[e];exact λ_ z=>nomatch z) (by rw[e];exact λ_ z=>nomatch z) (by rw[e];exact λ_ z=>nomatch z) b ?_
 exact bZ.stay hx (λ_ _ _ z=>z) (λc z=>by rw[aG (λq=>by rw[q,e] at z;cases z)];exact z) λc d z=>by rw[aG (λq=>by rw[q,e] at z;cases z)];exact z
end
noncomputable def Hk(K:Frag)(a:Addr)(o:Obj):It :=
 ⟨λi H=>∃d:List (NK×V),H a=some (.frz o (.dN K d))/\i<d.length,
  λi H x f=>f=H/\∀d:List (NK×V),H a=some (.frz o (.dN K d))->∃b p,x=.ref b/\d[i]?=some p/\NAt K H p.1 b,
  λi H=>∃d:List (NK×V),H a=some (.frz o (.dN K d))/\d.length<=i⟩
def yg   {σ:St}      (I:Inv X G σ H s)(e:H a=some (.frz o (.dN X.K ys))):
  s.heap.get? a=some o/\(a == sysModules)=false/\o.ExactDict/\∃es ep,o.data=.dict es ep/\es.size=ys.length/\∀(i:Nat) (h:i<es.size),∃b p,es[i].key=.ref b/\ys[i]?=some p/\NAt X.K H p.1 b:=by
 obtain⟨h1,z,y,d,r,x,es,ep,h2,h3,h4,m,F⟩:=(I.hok a _ e);rw[h1] at h2;cases h2
 have E:es.size=d.length:=by rw[<-Array.length_toList,m,zf]
 have C :=r.length;refine⟨h1,y,h3,es,ep,h4,by omega,λi q=>?_⟩
 have hx:i<d.length:=by omega
 have j:i<ys.length:=by omega
 have f:es.toList[i]?=some (entryOfKey (nH X.prog X.w) d[i]):=by rw[m,zF,zy];rfl
 rw[Array.getElem?_toList,Array.getElem?_eq_getElem q] at f;have u:=YQ r (zy j) (zy hx);refine⟨d[i].2.1,ys[i],?_,zy j,u.2.1⟩
 injection f with f
 rw[f];rfl
def QtI   {K:Frag}  (a it:Addr)(o:Obj)(es:Array DictEntry)(ep:Nat)(hd:o.data=.dict es ep):Turn P w K tg (Hk K a o) [it] it (λi h=>h.IsKeyIter it a i es.size ep) where
 mem:=by simp
 obj:=λi h st b hb=>by
  have e:b=it:=by simpa using hb
  subst e;obtain⟨o,e,c,d⟩:=st;exact⟨o,e,λv z=>by rw[d] at z;cases z⟩
 keep:=λi h h' st k=>st.at λo e=>k it (by simp) o e
 item:=by
  intro X hP hw hK hc i pins s σ H E I hf st hg;subst hP hw hK;obtain⟨ys,hq,hlt⟩:=hg;obtain⟨q1,q2,q3,es',ep',q4,q5,q6⟩:=yg I hq;rw[hd] at q4;cases q4;obtain⟨f0,f1,f2,f3,f4,f5⟩:=hf it (by simp)
  have hi:i<es.size:=by omega
  refine YL st q1 hd rfl hi λh' st' sb=>?_
  have I1:Inv X pins σ H {s with heap:=h'}:=I.turned (t':=s.toks) (λb o hb e=>(sb.2 b hb).trans e) f0 f1 f3 f4 f5;obtain⟨b,p,k1,k2,k3⟩:=q6 i hi;rw[k1];obtain⟨o2,e,c,d⟩:=id st';refine⟨_,rfl,nJ (s:={s with heap:=h'}) e c d (by decide) ⟨.ref b,H,I1,rfl,⟨rfl,λzs hz=>?_⟩,st',λb hb=>(hf b hb).1⟩⟩;rw[hq] at hz;cases hz;exact⟨b,p,rfl,k2,k3⟩
 done:=by
  intro X hP hw hK hc i pins s σ H E I hf st hg;subst hP hw hK;obtain⟨ys,hq,hge⟩:=hg;obtain⟨q1,q2,q3,es',ep',q4,q5,q6⟩:=yg I hq;rw[hd] at q4;cases q4;obtain⟨f0,f1,f2,f3,f4,f5⟩:=hf it (by simp)
  exact YM (I.ok.hd hc) st q1 hd rfl (by omega) λh' eb=>⟨rfl,I.turned (t':=s.toks) (λb o hb e=>eb b o hb e) f0 f1 f3 f4 f5⟩
 self:=λ_ _ _ _ _ st h=>wpAny_pyIter_keyiter st h
def QC2(K:Frag)(tl:TE):TI:=λσ H R=>tl σ H λx d=>∃a b,x=.ref a/\d a=some (.dN K b)/\∀o,R (Hk K a o) (upd d a (.frz o (.dN K b)))
def QxT    (C:PE X l tl):PI X P l (QC2 X.K tl):=by
 intro pins s σ H R I h
 refine thn (C _ s σ H _ I h) λv s1 ⟨x,H1,I1,r1,f⟩=>?_
 obtain⟨a,J,e,y,q⟩:=f;subst e;cases r1;obtain⟨o,O,d⟩:=I1.freezeN y;obtain⟨f,u,m,F,G,j,L⟩:=yg d bC;refine YK u f m j ?_;refine⟨s1.heap.objs.size,[s1.heap.objs.size],_,_,upd H1 a _,rfl,d.kept λb o e=>zo _ e,QtI a _ o F G j,⟨_,zz _ rfl,rfl,rfl⟩,λb E=>?_,q o⟩
 have e :=by simpa using E
 subst e;exact d.fpOk (zc _) (d.hok.fresh (zc _))
def valN(b:List (NK×D))(k:NK):Option D:=(b.find? λp=>decide (p.1=k)).map (·.2)
def putN(b:List (NK×D))(k:NK)(d:D):List (NK×D):=
 if(b.any λp=>decide (p.1=k))=true then b.map (λp=>if p.1=k then(p.1,d) else p) else b++[(k,d)]
def DnR(K:Frag)(F:Hp)(d:List Addr)(xs:List (NK×V))(b:List (NK×D)):Prop:=xs.map (·.1)=b.map (·.1)/\Rps K F d (xs.map (·.2)) (b.map (·.2))
section
variable {K:Frag}{mg:Str->Option Value}{O:au}{H F H' F':Hp}{as as':List Addr}
def DnR.len{xs:List (NK×V)}{b:List (NK×D)}(h:DnR K F as xs b):xs.length=b.length:=by
 have:=congrArg List.length h.1
 simpa using this
def DnR.un{xs:List (NK×V)}{p:NK×D}{b:List (NK×D)}(h:DnR K F as xs (p::b)):∃v r,xs=(p.1,v)::r/\Rp K F as v p.2/\DnR K F as r b:=by
 obtain⟨h1,h2⟩:=h
 cases xs with
 |nil=>cases h1
 |cons x r =>
  obtain⟨v,m,e,j,f⟩:=h2.un;cases e;rw[zg,zg] at h1;have d:=(List.cons.inj h1).1;refine⟨x.2,r,?_,j,(List.cons.inj h1).2,f⟩;rw[<-d]
theorem DnR.val{k:NK}:∀{b:List (NK×D)}{xs:List (NK×V)},DnR K F as xs b->(valN b k=none/\dJ xs k=none)\/∃d v,valN b k=some d/\dJ xs k=some v/\Rp K F as v d
 | [],xs,h=>by
  have:=h.len
  cases xs with
  |nil=>exact .inl ⟨rfl,rfl⟩
  |cons=>cases this
 |p::b,xs,h=>by
  obtain⟨v,r,rfl,h1,h2⟩:=h.un
  by_cases e:p.1=k
  ·exact .inr ⟨p.2,v,by simp[valN,List.find?_cons,e],nP e,h1⟩
  ·rw[show valN (p::b) k=valN b k by simp[valN,List.find?_cons,e],nQ (p:=(p.1,v)) e];exact DnR.val h2
theorem DnR.any{k:NK}:∀{b:List (NK×D)}{xs:List (NK×V)},DnR K F as xs b->(xs.any λp=>decide (p.1=k))=b.any λp=>decide (p.1=k)
 | [],xs,h=>by
  have:=h.len
  cases xs with
  |nil=>rfl
  |cons=>cases this
 |p::b,xs,h=>by
  obtain⟨v,r,rfl,h1,h2⟩:=h.un;rw[List.any_cons,List.any_cons,DnR.any h2]
theorem DnR.repl{k:NK}{v:V}{d:D}(hv:Rp K F as v d):∀{b:List (NK×D)}{xs:List (NK×V)},DnR K F as xs b ->
  DnR K F as (xs.map λp=>if p.1=k then(p.1,v) else p) (b.map λp=>if p.1=k then(p.1,d) else p)
 | [],xs,h=>by
  have:=h.len
  cases xs with
  |nil=>exact⟨rfl,Rps.nil⟩
  |cons=>cases this
 |p::b,xs,h=>by
  obtain⟨u,r,rfl,h1,h2⟩:=h.un;obtain⟨j,f⟩:=DnR.repl (k:=k) hv h2
  by_cases e:p.1=k
  ·rw[zg,zg,if_pos e,if_pos e];exact⟨by rw[zg,zg,j],Rps.cons hv f⟩
  ·rw[zg,zg,if_neg e,if_neg e];exact⟨by rw[zg,zg,j],Rps.cons h1 f⟩
def DnR.put{K:Frag}   (h:DnR K F as xs b)(k:NK)   (hv:Rp K F as v d):DnR K F as (putK xs k v) (putN b k d):=by
 unfold putK putN;rw[h.any]
 split
 ·exact h.repl hv
 ·exact⟨by rw[zM,zM,h.1];rfl,by rw[zM,zM];exact Rps.snoc h.2 hv⟩
def RlO.dn{n:Nat}{a:Addr}{b:List (NK×D)}(r:RlO K mg O H F as)(d:as[n]?=some a)(f:O[n]?=some (.dn b)):∃xs,H a=some (.dN K xs)/\DnR K F as xs b:=let ⟨xs,h1,h2,h3⟩:=r.ob n a _ d f;⟨xs,h1,h2,h3⟩
def RlO.nf{n:Nat}{a:Addr}{b:List (NK×D)}(r:RlO K mg O H F as)(d:as[n]?=some a)(f:O[n]?=some (.nf b)):∃o xs,H a=some (.frz o (.dN K xs))/\DnR K F as xs b:=let ⟨o,xs,h1,h2,h3⟩:=r.ob n a _ d f;⟨o,xs,h1,h2,h3⟩
end
def oE:List D->Option (List Key)
 | []=>some []
 | .int i::ds=>(oE ds).map (Sum.inl i :: ·)
 | .str l::ds=>(oE ds).map (Sum.inr (S l) :: ·)
 | _=>none
def qz:D->Option NK
 | .tup [.int i,.tup ds]=>(oE ds).map λks=>(i,ks)
 | _=>none
theorem Rps.keysN{K:Frag}{F:Hp}{f:List Addr}:∀{ds:List D}{xs:List V}{ks:List Key},Rps K F f xs ds->oE ds=some ks->xs=ks.map kV
 | [],xs,ks,h,e=>by cases e;exact h.un0
 | .int i::ds,xs,ks,h,e=>by
  obtain⟨x,r,rfl,h1,h2⟩:=h.un;obtain⟨d,b,rfl⟩:=jq.mp (show(oE ds).map (Sum.inl i :: ·)=some ks from e);rw[h1.unI,Rps.keysN h2 b];rfl
 | .str l::ds,xs,ks,h,e=>by
  obtain⟨x,r,rfl,h1,h2⟩:=h.un;obtain⟨d,b,rfl⟩:=jq.mp (show(oE ds).map (Sum.inr (S l) :: ·)=some ks from e);rw[h1.unS,Rps.keysN h2 b];rfl
 | .non::ds,xs,ks,h,e=>by cases e
 | .bl _::ds,xs,ks,h,e=>by cases e
 | .lst _::ds,xs,ks,h,e=>by cases e
 | .tup _::ds,xs,ks,h,e=>by cases e
 | .dic _ _::ds,xs,ks,h,e=>by cases e
 | .ob _::ds,xs,ks,h,e=>by cases e
def Hl:List Value->Bool
 | [.int _ _,.ref _]=>true
 | _=>false
def lA:Frag->Bool
 | []=>true
 |p::r=>(match p.2.data with
  | .seq its _=>!Hl its.toList
  | _=>true)&&lA r
theorem Hm    :∀{K:Frag},lA K=true->List.lookup a K=some o->o.data=.seq its n->Hl its.toList=false
 | [],_,h,_=>by cases h
 |p::r,hk,h,hd=>by
  unfold lA at hk;rw[zB] at hk;rw[List.lookup_cons] at h;split at h
  ·cases h
   have:=hk.1
   rw[hd] at this;simpa
  ·exact Hm hk.2 h hd
def Rp.nkey{K:Frag}{F:Hp}{P:List Addr}{v:V}{d:D}{k:NK}(E:lA K=true)(h:Rp K F P v d)(e:qz d=some k):∃b,v=.ref b/\NAt K F k b:=by
 unfold qz at e;split at e
 ·rename_i i U;obtain⟨ks,O,rfl⟩:=jq.mp e;obtain⟨b,R,rfl,h1,h2⟩:=h.unT';obtain⟨x,r,rfl,h3,h4⟩:=h2.un;obtain⟨T,j,rfl,J,I⟩:=h4.un;obtain rfl:=I.un0;obtain⟨c,Q,rfl,m,G⟩:=J.unT';have L:=G.keysN O;rw[h3.unI] at h1
  rcases h1 with h1 | ⟨o,f,n,l1,_,l3,_,C⟩
  ·refine⟨b,rfl,c,h1,?_⟩;rw[L] at m;exact m
  ·exfalso
   have q:=Hm E l1 l3;have l5':aH [.int i,.ref c] f.toList:=C
   generalize f.toList=y at q l5'
   cases l5' with
   | @cons _ u _ y r1 j =>
    cases j with
    | @cons _ u2 _ us2 r3 r4 =>
     cases r4;obtain⟨t,rfl⟩:∃t,u=.int i t:=r1;obtain rfl:u2=Value.ref c:=r3;cases q
 ·cases e
noncomputable def yh:M D:=λ_ O=>.ok (.ob O.length) (O++[.dn []])
def Qtr :VE X md P (.Dict [] [] m) yh:=Quy.imp λσ H Q q p b=>by
 obtain⟨ρ,O,F,f,d,j,r,s,e,k⟩:=q;cases e;refine k _ _ F _ (Gr.snoc b) ((r.lay b).snocO (r.unF b) (λz=>r.all z b) ⟨[],bC,rfl,Rps.nil⟩) (Rp.mkO ?_);rw[<-r.len,zK (zc _),Nat.sub_self];rfl
def gD(mo my b:M D):MS:=λρ O=>match b ρ O with
 | .ok d O1=>match mo ρ O1 with
  | .ok (.ob n) O2=>match my ρ O2 with
   | .ok y O3=>match qz y,O3[n]? with
    |some k,some (.dn kvs)=>if kvs.length<1000000 then .nx ρ (O3.set n (.dn (putN kvs k d))) else .no
    | _,_=>.no
   | _=>.no
  | _=>.no
 | _=>.no
def QvF  (hk:lA X.K=true)(hr:aZ kk X.A)    (ho:VE X md P o mo)(hi:VE X md P i my)(hv:VE X md P value mv)
  (hs:swapsWith value (some (.Subscript o i pos')) pos.line X.env=pure false:=by rfl):VS X md P R (.Assign [.Subscript o i pos'] value pos) (gD mo my mv):=
 (Qxr (n6 hr) ho hi hv hs).imp λD σ H q=>by
  obtain⟨ρ,O,F,as,r,s,k⟩:=q;unfold gD at k;split at k
  ·rename_i d O1 e1;split at k
   ·rename_i n O2 e2;split at k
    ·rename_i y O3 e3;split at k
     ·rename_i ks kvs e4 e5;split at k
      ·rename_i hz;refine⟨ρ,O,F,as,_,_,r,s,e1,λv H1 F1 Q G r1 hv=>⟨ρ,O1,F1,Q,_,_,r1,s.step G,e2,λx H2 F2 L E r2 hx=>⟨ρ,O2,F2,L,_,_,r2,s.step (G.trans E),e3,λu Y I as3 C m hu=>?_⟩⟩⟩;obtain⟨a,rfl,ha⟩:=Rp.unO hx;have f:=C.at_ n a ha;obtain⟨j,U,T⟩:=m.dn f e5;obtain⟨b,rfl,hb⟩:=Rp.nkey hk hu e4;have J:=(hv).gr (E.trans C)
       have hl:j.length<sizeLine:=by rw[T.len];exact zH hz (by decide)
       have g4:Gr Y I _ (upd Y a (.dN X.K (putK j ks v))) I _:=qp (zL f) U;have W:=((G.trans E).trans C).trans g4;obtain⟨z1,Z⟩:=T.put ks J;exact⟨a,j,ks,b,rfl,rfl,U,hb.mono λc ys hc=>m.fh _ _ hc,hl,k σ _ I _ W.toS (m.mutG f ⟨_,bC,z1,Z⟩) (s.step W)⟩
      ·exact False.elim k
     ·exact False.elim k
    ·exact False.elim k
   ·exact False.elim k
  ·exact False.elim k
def nsG(n:Nat)(y:D)(O:au):Res D:=match qz y,O[n]? with
 |some k,some (.nf kvs)=>match valN kvs k with
  |some d=>.ok d O
  |none=>.no
 |some k,some (.dn kvs)=>match valN kvs k with
  |some d=>.ok d O
  |none=>.no
 | _,_=>.no
def eE(mo my:M D):M D:=λρ O=>(mo ρ O).bind λx d=>match x with
 | .ob n=>(my ρ d).bind λy b=>nsG n y b
 | _=>.no
def Qw8  (hk:lA X.K=true)(hr:aZ kk X.A)    (ho:VE X md P o mo)(hi:VE X md P i my)(hs:sJ i:=by intro _ _;rfl):VE X md P (.Subscript o i pos) (eE mo my):=
 (QvG (n6 hr) ho hi hs).imp λσ H Q q=>by
  obtain⟨ρ,O,F,as,d,O',r,s,e,k⟩:=q;obtain⟨x,O1,e1,e⟩:=Res.bind_ok e
  cases x with
  |ob n =>
   obtain⟨y,O2,e2,e⟩:=Res.bind_ok e;unfold nsG at e;split at e
   ·rename_i ks kvs e3 e4;split at e
    ·rename_i d' f;cases e;refine⟨ρ,_,F,as,_,_,r,s,e1,λx H1 F1 C I W hx=>⟨ρ,_,F1,C,_,_,W,s.step I,e2,λu H2 F2 as2 G m Y=>?_⟩⟩;obtain⟨a,rfl,ha⟩:=Rp.unO hx;obtain⟨o,L,T,R⟩:=m.nf (G.at_ n a ha) e4;obtain⟨b,rfl,hb⟩:=Rp.nkey hk Y e3
     rcases R.val with⟨j,E⟩ | ⟨d2,U,j,E,J⟩
     ·rw[j] at f;cases f
     ·rw[j] at f;cases f;exact⟨a,U,rfl,⟨L,ks,b,.inr ⟨o,T⟩,rfl,hb.mono λc ys Z=>m.fh _ _ Z,E.symm⟩,k _ H2 F2 _ (I.trans G) m J⟩
    ·cases e
   ·rename_i ks kvs e3 e4;split at e
    ·rename_i d' f;cases e;refine⟨ρ,_,F,as,_,_,r,s,e1,λx H1 F1 C I W hx=>⟨ρ,_,F1,C,_,_,W,s.step I,e2,λu H2 F2 as2 G m Y=>?_⟩⟩;obtain⟨a,rfl,ha⟩:=Rp.unO hx;obtain⟨L,T,R⟩:=m.dn (G.at_ n a ha) e4;obtain⟨b,rfl,hb⟩:=Rp.nkey hk Y e3
     rcases R.val with⟨j,E⟩ | ⟨d2,U,j,E,J⟩
     ·rw[j] at f;cases f
     ·rw[j] at f;cases f;exact⟨a,U,rfl,⟨L,ks,b,.inl T,rfl,hb.mono λc ys Z=>m.fh _ _ Z,E.symm⟩,k _ H2 F2 _ (I.trans G) m J⟩
    ·cases e
   ·cases e
  | _=>cases e
def Hn{K:Frag}   (hb:H b=some (.tup xs))(hs:∃O,RlO K mg O H F as):∃d,Gr H F as H d as/\(∀O,RlO K mg O H F as->RlO K mg O H d as)/\d b=some (.tup xs):=by
 cases hF:F b with
 |some u =>
  obtain⟨j,f⟩:=hs
  have:=f.fh b u hF
  rw[hb] at this;cases this;exact⟨F,Gr.refl,λ_ r=>r,hF⟩
 |none=>exact⟨upd F b (.tup xs),Gr.tupF hb hF,λ_ r=>r.frz hb hF (r.noT hb) rfl,bC⟩
def Ho(p:NK×D):D:=.tup [.int p.1.1,.tup (p.1.2.map tG)]
def oF(m:M D):M (List D):=λρ O=>(m ρ O).bind λd b=>match d with
 | .ob n=>match b[n]? with
  |some (.dn kvs)=>.ok (kvs.map Ho) (b.set n (.nf kvs))
  | _=>.no
 | _=>.no
def Qzy   (h:VE X md P e m):VI X md P tg e (oF m):=(QxT h).imp λσ H Q q=>by
 obtain⟨ρ,O,F,as,ds,O',r,s,e,k⟩:=q;obtain⟨d,O1,e1,e⟩:=Res.bind_ok e;split at e
 ·split at e
  ·rename_i I e2;cases e;refine⟨ρ,_,F,as,_,_,r,s,e1,λv H1 F1 as1 g1 T hv=>?_⟩;obtain⟨a,rfl,C⟩:=Rp.unO hv;obtain⟨xs,R,j⟩:=T.dn C e2;refine⟨a,xs,rfl,R,λo=>k _ _ F1 _ (g1.trans (qp (zL C) R)) (T.mutG C ⟨o,xs,bC,j.1,j.2⟩) ⟨λi d H2 F2 L E u hd=>?_,λH2 F2 L E u=>?_⟩⟩
   ·have hz:=E.kz a o _ bC
    have W :=by have:=(zu.mp hd).1;rwa [zf] at this
    have hi':i<xs.length:=by rw[j.len];exact W
    refine⟨⟨xs,hz,hi'⟩,λx H3 y=>?_⟩;obtain⟨rfl,hy⟩:=y;obtain⟨b,p,rfl,hp,hb⟩:=hy xs hz
    have U:p.1=I[i].1:=by
     have h1:(xs.map (·.1))[i]?=some p.1:=by rw[zF,hp];rfl
     rw[j.1,zF,zy] at h1
     injection h1 with h1
     exact h1.symm
    rw[zF,zy W] at hd
    injection hd with hd
    subst hd;obtain⟨c,J,f⟩:=hb;obtain⟨O2,G⟩:=id u;obtain⟨F3,Z,f3,e3⟩:=Hn J u
    rcases f with f | f
    ·obtain⟨F4,Y,f4,e4⟩:=Hn f ⟨O2,f3 O2 G⟩;refine⟨F4,Z.trans Y,λO r=>f4 O (f3 O r),b,_,rfl,.inl (Y.ff _ _ e3),?_⟩;rw[<-U];exact Rps.cons (rfl) (Rps.cons ⟨c,_,rfl,.inl e4,ud _⟩ Rps.nil)
    ·refine⟨F3,Z,f3,b,_,rfl,.inl e3,?_⟩;rw[<-U];exact Rps.cons (rfl) (Rps.cons ⟨c,_,rfl,.inr f,ud _⟩ Rps.nil)
   ·exact⟨xs,E.kz a o _ bC,by rw[zf,j.len];exact zc _⟩
  ·cases e
 ·cases e
noncomputable def qC(i:Nat)(ms:MS):MS:=λρ O=>match ρ[i]? with
 |some (some (.ob n))=>match O[n]? with
  |some (.dn _)=>match ms ρ O with
   | .nx ρ2 O2=>match O2[n]? with
    |some (.nf kvs)=>.nx ρ2 (O2.set n (.dn kvs))
    | _=>.no
   | _=>.no
  | _=>.no
 | _=>.no
section
variable {K:Frag}{mg:Str->Option Value}{md:List Md}{P:Pt}{ρ:aR}{σ:St}{O:au}{H F H' F':Hp}{as as':List Addr}
def GrS.reHN{a:Addr}{h:HO}{xs:List (NK×V)}(g:GrS P H F as H' F' as')(d:a∈as)(hx:H a=some (.dN K xs)):GrS P H F as (upd H' a h) F' as' :=
 ⟨g.fz,g.ff,g.nw,λc o p e b hd=>by rw[aG (λz=>b (by rw[z];exact d))];exact g.fr c o p e b hd,λc e=>by
  by_cases z:c=a
  ·rw[z,bC] at e;cases e
  ·rw[aG z] at e;exact g.dm c e,λc o u e=>by rw[aG (λz=>by rw[z,hx] at e;cases e)];exact g.kz c o u e⟩
end
def QtO(i:Nat){st:Stmt}  (h:VS X md P R st ms):VS X md P R st (qC i ms):=λpins s σ H D I q=>by
 obtain⟨ρ,O,F,G,r,sl,k⟩:=q;unfold qC at k;split at k
 ·rename_i n Z;split at k
  ·rename_i kv0 Y;split at k
   ·rename_i ρ2 O2 W;split at k
    ·rename_i kvs U;obtain⟨a,x⟩:=sl.obAt Z;obtain⟨xs0,C,_⟩:=r.dn x Y;have T:=I.base0N C
     refine thn (h _ s σ H {nx:=λb d=>∃j m,GrS P H F G d j _/\RlO _ _ O2 d j _/\SlO _ md P _ _ d j _,rt:=λ_ _=>False} I ⟨ρ,O,F,G,r,sl,by rw[W];exact λb d j m g r s=>⟨j,m,g,r,s⟩⟩) λf s' z=>?_
     cases f with
     |next =>
      obtain⟨b,d,I',j,m,g,E,Q⟩:=z;have ha':=g.at_ n a x;have hm':=zL ha';obtain⟨o,L,J,y⟩:=E.nf ha' U;exact⟨b,_,I'.thawN J T,k _ _ j _ (g.reHN (zL x) C) (E.mutG ha' ⟨L,bC,y.1,y.2⟩) (Q.reH hm')⟩
     | brk
     |cont=>obtain⟨b,d,_,z⟩:=z;exact z.elim
     |ret u=>obtain⟨v,b,d,_,_,z⟩:=z;exact z.elim
    ·exact False.elim k
   ·exact False.elim k
  ·exact False.elim k
 ·exact False.elim k
end L2
namespace L2
open PySem PySem.Spec PyProof.Rows
def qD(l:List Nat)(i:Int):List Nat:=l++List.replicate (i.toNat - l.length) 32
def Qyy(l:List Nat)(i:Int):Txt.ljust (S l) i=S (qD l i):=by
 unfold Txt.ljust qD;rw[gH]
 split
 ·rw[show i.toNat - l.length=0 by omega];simp
 ·unfold Builtin.Str.padded;simp[S]
def QAm:V->List V->Hp->VK->Prop:=λx b H Q=>∃(l:List Nat) (i:Int),x=.str (S l)/\b=[.int i]/\-1000000<i/\i<1000000/\Q (.str (S (qD l i))) H
def Qt8:MtR X "str.ljust" QAm:=by
 intro pins s σ H x F v G Q I f m h;obtain⟨l,i,rfl,rfl,h1,h2,q⟩:=h;obtain⟨a,rfl⟩:=f;obtain⟨u,rfl,j⟩:=vals1 m;obtain⟨b,rfl⟩:=j
 refine SC.ljust ?_ λd k=>⟨.str (S (qD l i)),H,I.tok _,⟨d,by rw[Qyy]⟩,q⟩
 unfold PadOk fitsSsize;have E:decide (i < -(2 ^ 63:Int))=false:=zl (by omega);have C:decide (i>=(2 ^ 63:Int))=false:=zl (by omega)
 have y:Builtin.Str.tooLong i.toNat=false:=by
  unfold Builtin.Str.tooLong;exact zl (by have:=sizeLine_eq;omega)
 rw[E,C,y];rfl
def uw(mo m:M D):M D:=λρ O=>(mo ρ O).bind λa f=>(m ρ f).bind λb d=>match a,b with
 | .str l,.int i=>if -1000000<i/\i<1000000 then .ok (.str (qD l i)) d else .no
 | _,_=>.no
def Qta  {apos f:Pos}  (Y:VE X md P o mo)(h:VE X md P e m)
  (C:attributeBase o "ljust" X.env (eval o X.env)=eval o X.env:=by rfl)
  (E:((backTo f (starEach [e] X.env)).all (λx=>!x.1)&&(backToKw f (keywordEach [] X.env)).all (λx=>x.1.isSome)&&decide ([e].length+([]:List Keyword).length+(if([]:List Keyword).isEmpty then 0 else 1)<30))=true:=by rfl)
  (y:(apos.endLine == f.line)=true:=by rfl) (hs:starEach [e] X.env=(false,eval e X.env)::starEach [] X.env:=by exact bY rfl) (j:(backTo f (starEach [] X.env)).any (·.1)=false:=by exact cP rfl):
  OE X md P (.Call (.Attribute o "ljust" apos) [e] [] f) (uw mo m):=
 (lW PySem.F.plainAttrs_str PySem.F.slot_str_ljust PySem.F.type_str_ljust Qt8 Y (fJ h gj hs) C E y hs j).imp λσ H Q q=>by
  obtain⟨ρ,O,F,as,d,O',r,s,e,k⟩:=q;obtain⟨a,O1,e1,e⟩:=Res.bind_ok e;obtain⟨b,O2,e2,e⟩:=Res.bind_ok e;split at e
  ·split at e
   ·rename_i J;cases e;refine⟨ρ,_,F,as,_,_,r,s,e1,λv H1 F1 I L T U=>?_⟩;cases Rp.unS U;refine⟨rfl,ρ,_,F1,I,_,_,T,s.step L,e2,λu H2 F2 G Z R W=>?_⟩;cases Rp.unI W;exact⟨_,_,rfl,rfl,J.1,J.2,k _ H2 F2 G (L.trans Z) R (.inl ⟨rfl,Rp.str⟩)⟩
   ·cases e
  ·cases e
end L2
namespace L2
open PySem PySem.Spec PyProof.Rows PySem.W
end L2
namespace L2
open PySem PySem.Spec PyProof.Rows PySem.W PySem.Calls
section
variable {prog:Program}{w:World}{A:Around}{E:Value->Shared->Prop}{s:Shared}
def Qx5      (hx:s.heap.get? a=some o)(y:o.cls=.type "list")(f:o.data=.seq xs k)(hd:o.dict=none)(I:A.handled=none)
  (h:∀h' tk,(∀b ob,s.heap.get? b=some ob->h'.get? b=some ob)->Q none {s with heap:=h',toks:=tk}):wpAny (model prog w) A (getAttr? (.ref a) "keys") Q E s:=by
 obtain⟨c,J,L,sl⟩:=o;simp only at y f hd;subst y f hd;obtain⟨G,g,d,tk,os⟩:=s
 have C:∀q,(⟨G,g,d,q,os⟩:Shared).TypeIs (.ref a) "list":=λ_=>⟨_,hx,rfl⟩
 have m:typeLookup (.type "list") "keys" = pure none:=am_miss_of_fast (by kernel_rfl)
 have j:(["__module__","__name__","__qualname__","__doc__","__annotations__"]:List Str).contains "keys" = false:=by decide
 have x:("keys":Str).length+100<=sizeLine:=by rw[sizeLine_eq];decide
 have T:=sub_AttributeError;have f3:=F.slot_list_getattribute.lookup;have f4:=F.slot_list_getattribute.bind (.ref a);have f5:=am_list_getattr_none;unfold getAttr? getAttrBy? getAttrBy
 repeat (any_goals (first | assumption | exact C _ | (refine call_meets F.slot_list_getattribute (C _) am_entry_list_getattribute (F.args_list_getattribute_2 _ _) (meets_getattribute_miss_list a xs k sl "keys" _ m j x) ⟨hx,I,λh' q e u=>?_⟩) | wp_step))
 obtain⟨P,O,R⟩:=u.there;show wpAny _ _ (getattributeRaised _ _ _ _ _ _ _) _ _ _;unfold getattributeRaised
 repeat (any_goals (first | assumption | wp_step))
 exact h _ _ u.keeps
def Hq:entryFor table "dict.update.loop" = some Builtin.«dict.update.loop»:=entryFor_of_tree (by kernel_rfl)
def ux:plainId "dict.update.loop" = true:=by decide +kernel
def pairs_at      (b:s.heap.get? a=some o)(d:o.cls=.type "tuple")(hd:o.data=.seq f m)(h:Q f.toList s):wpAny (model prog w) A (Builtin.Dict.pairItems (.ref a)) Q E s:=by
 refine za (wpAny_typeOf ⟨o,b,d⟩ ?_);refine za ?_;refine za (wpAny_load b ?_);rw[hd];exact zb (zb h)
theorem Hr:∀(more b:List (Key×Value)),(merged b more).length<=b.length+more.length
 | [],b=>zc _
 |p::r,b=>by
  have h1:=Hr r (stored b p.1 p.2)
  have h2:(stored b p.1 p.2).length<=b.length+1:=by
   unfold stored
   split
   ·rw[zf];omega
   ·rw[ze,zR];omega
  show(merged (stored _ _ _) r).length<=_;rw[zA];omega
def QpX{R:Result->Shared->Prop}{I:Addr}{fp q:List Addr}{G:Array GenState->Array GenState->Prop}{n:Nat}{Pv:Nat->Value->Prop}{St:Nat->Shared->Prop}(W:WalksS prog w A.in1 I fp q G n Pv St)(S:Addr)(T:S∉fp)(h0:Heap)(prs:List (Key×Value×Value))(hl:prs.length=n)(hz:n<=1000000)
  (hit:∀i v p,Pv i v->prs[i]?=some p->∃a o x m,v=.ref a/\a≠S/\a∉q/\h0.get? a=some o/\o.cls=.type "tuple"/\o.data=.seq x m/\x.toList=[p.2.1,p.2.2]/\(cO prog w).is p.1 p.2.1=true):
  ∀(k i:Nat) (s:Shared),n - i=k->i<=n->St i s->(∀b o,b≠S->b∉q->h0.get? b=some o->s.heap.get? b=some o)->s.heap.DictOf (cO prog w) S (merged [] ((prs.take i).map λp=>(p.1,p.2.2))) ->
   (∀d,Moved (S::q) G s d->d.heap.DictOf (cO prog w) S (merged [] (prs.map λp=>(p.1,p.2.2)))->R (.ok (.ret .none)) d) ->
   ∀j:Int,codeAny (model prog w) A (.builtin "dict.update.loop" ⟨[.ref S,.ref I,.int j 0,.none],[]⟩) R s:=by
 have Q:S∉q:=λh=>T (W.sub _ h)
 have f:∀b∈q,b∈S::q:=λb F=>zp _ F
 intro k
 induction k with
 |zero =>
  intro i s hk hi y hold hD hR j
  have hin:i=n:=by omega
  subst hin;refine zZ Hq ?_;rw[Around.under_plainId ux _];show wpAny _ A.in1 (pyNext (.ref I) >>= _) _ _ s;refine za (W.done s _ _ y λd u=>?_);show wpAny _ A.in1 (Builtin.Dict.addKeywords S [] >>= _) _ _ d;refine za (zb (zb (hR d (u.mono f) ?_)));rw[<-hl,List.take_length] at hD;obtain⟨o,es,ep,g1,g2⟩:=hD;exact⟨o,es,ep,u.heap S _ Q g1,g2⟩
 |succ k ih =>
  intro i s hk hi y hold hD hR j
  have J:i<n:=by omega
  have hp:=zy (l:=prs) (i:=i) (by omega);refine zZ Hq ?_;rw[Around.under_plainId ux _];show wpAny _ A.in1 (pyNext (.ref I) >>= _) _ _ s;refine za (W.item i s _ _ J y λv d hP U u=>?_);obtain⟨a,o,x,m,rfl,ha1,P,ho,hc,hd,hi2,Y⟩:=hit i v _ hP hp;have ho':d.heap.get? a=some o:=u.heap a o P (hold a o ha1 P ho)
  have hD':d.heap.DictOf (cO prog w) S (merged [] ((prs.take i).map λp=>(p.1,p.2.2))):=by
   obtain⟨o,es,ep,g1,g2⟩:=hD;exact⟨o,es,ep,u.heap S _ Q g1,g2⟩
  dsimp only;refine za (zP (za (wpAny_tryCatch (pairs_at ho' hc hd ?_))));rw[hi2];dsimp only;refine zP (wpAny_dictSet_pairs Y hD' (λh' hD2 C=>?_) ?_)
  ·refine zb ⟨plainId_quiet ux _,ih (i+1) _ (by omega) J (W.frame _ d _ _ U (Nat.le_succ _) λb F o e=>?_) (λb o O L e=>?_) ?_ (λs'' X Z=>?_) _⟩
   ·rw[C.2 b (λh:b=S=>T (by rw[<-h];exact F))];exact e
   ·show h'.get? b=some o;rw[C.2 b O];exact u.heap b o L (hold b o O L e)
   ·rw[List.take_add_one,hp]
    have e:merged [] ((prs.take i++(some prs[i]).toList).map λp=>(p.1,p.2.2))=stored (merged [] ((prs.take i).map λp=>(p.1,p.2.2))) prs[i].1 prs[i].2.2:=by
     rw[Option.toList_some,zM];unfold merged;rw[List.foldl_append];rfl
    rw[e];exact hD2
   ·refine hR s'' (Moved.trans W.gtrans ((u.mono f).then_heap (Nat.le_succ _) λb o F e=>?_) X) Z;rw[C.2 b (λh:b=S=>F (by rw[h];exact zd))];exact e
  ·have:=Hr ((prs.take i).map λp=>(p.1,p.2.2)) []
   rw[zf,List.length_take,jb] at this;rw[sizeLine_eq];omega
set_option maxHeartbeats 8000000 in
def Qqv   {prs:List (Key×Value×Value)}  (X:A.handled=none)(I:s.heap.get? l=some (seqObj "list" items 0)\/∃c,s.heap.get? l=some (seqObj "list" items c))(hn:prs.length=items.size)(hz:items.size<=1000000)
  (P:∀(i:Nat) (v:Value) (p:Key×Value×Value),items[i]?=some v->prs[i]?=some p->∃(a:Addr) (o:Obj) (f:Array Value) (m:Nat),v=.ref a/\s.heap.get? a=some o/\o.cls=.type "tuple"/\o.data=.seq f m/\f.toList=[p.2.1,p.2.2]/\(cO prog w).is p.1 p.2.1=true)
  (h:∀h' tk,h'.DictOf (cO prog w) s.heap.objs.size (merged [] (prs.map λp=>(p.1,p.2.2)))->(∀b o,s.heap.get? b=some o->h'.get? b=some o)->Q (.ref s.heap.objs.size) {s with heap:=h',toks:=tk}):
  wpAny (model prog w) A (call (.type "dict") [.ref l]) Q E s:=by
 obtain⟨c,I⟩:∃c,s.heap.get? l=some (seqObj "list" items c):=by
  rcases I with h | h
  ·exact⟨0,h⟩
  ·exact h
 refine callType_codes (Q₁:=λobj q=>obj=.ref s.heap.objs.size/\q = {s with heap:=s.heap.push _}) F.kt_called_dict (F.kt_typeCall_dict_1 _) F.entry_dict_init (kt_code_dict_new _ ⟨rfl,rfl⟩) ?_;rintro obj q ⟨rfl,rfl⟩;have d:(s.heap.push _).DictOf (cO prog w) s.heap.objs.size []:=Heap.DictOf.new s.heap;have u:(s.heap.push {cls:=.type "dict",data:=.dict #[]}).get? l=some (seqObj "list" items c):=zo _ I;refine⟨d.typeIs,F.args_dict_init_2 _ _,?_⟩;refine za ?_;refine za (wpAny_notOrdered_dict d.typeIs ?_);refine zb ?_;show wpAny _ _ (Builtin.Dict.updateFrom "dict.__init__" s.heap.objs.size (.ref l) [] .none) _ _ _
 refine za (wpAny_typeOf (T:="list") ⟨_,u,rfl⟩ ?_);refine za (Qx5 u rfl rfl rfl (by simp[X]) λh' tk keep=>?_);rw[if_pos (by rfl)];refine za (zX ?_);have y:=keep _ _ u;refine za (wpAny_pyIter_list ⟨_,y,rfl,c,rfl⟩ ?_);have j :=zm (keep _ _ (zz _ rfl));have x:l<s.heap.objs.size:=zm I;refine zb ⟨plainId_quiet ux _,?_⟩;have C:l≠h'.objs.size:=zq (Nat.lt_trans x j)
 have R:s.heap.objs.size∉[h'.objs.size,l]:=by
  simp only[zk,zj,List.not_mem_nil,or_false,not_or];exact⟨zq j,Nat.ne_of_gt x⟩
 have O:h'.IsList l items:=⟨_,y,rfl,c,rfl⟩;refine QpX ((Walks.list (by simp[X]) _ l C items).toS) s.heap.objs.size R h' prs hn hz (λi v p hv hp=>?_) (items.size - 0) 0 _ (by omega) (Nat.zero_le _) ⟨⟨_,zz _ rfl,rfl,rfl⟩,O.push _⟩ (λb o _ _ e=>zo _ e) ?hD (λs' G U=>?hR) _
 ·obtain⟨a,o,f,m,rfl,W,hc,hd,hi,hk⟩:=P i v p hv hp;have Z:=zm W;refine⟨a,o,f,m,rfl,zq Z,?_,keep _ _ (zo _ W),hc,hd,hi,hk⟩;rw[zj];exact zq (Nat.lt_trans Z j)
 case hD =>
  obtain⟨o,es,ep,g1,g2⟩:=d;exact⟨o,es,ep,zo _ (keep _ _ g1),g2⟩
 case hR =>
  obtain⟨h3,g3,d3,J,L⟩:=s';have eg:g3=s.gens:=G.gens;have ed:d3=s.drawn:=G.drawn;have eo:L=s.os:=G.os;subst eg;subst ed;subst eo;refine⟨rfl,h h3 J U λb o e=>?_⟩;have Y:=zm e;exact G.heap b o (by simp only[zk,zj,List.not_mem_nil,or_false,not_or];exact⟨zq Y,zq (Nat.lt_trans Y j)⟩) (zo _ (keep _ _ (zo _ e)))
end
def oG(K:Frag)(H:Hp):List V->List (Key×V)->Prop
 |ys,[]=>ys=[]
 |ys,p::r=>∃b d,ys=.ref b::d/\SqT K H b [kV p.1,p.2]/\oG K H d r
def QAo(K:Frag):List V->Hp->VK->Prop:=λf H Q=>∃a d b,f=[.ref a]/\RdK K H a d/\oG K H d b/\b.length<=1000000/\∀l,H l=none->Q (.ref l) (upd H l (.dK (j7 [] b)))
theorem oG.prs{pins:List (Addr×Obj)}{σ:St}{H:Hp}{s:Shared}(I:Inv X pins σ H s):∀{j:List (Key×V)}{ys:List V}{d:List Value},oG X.K H ys j->aH ys d->∃prs:List (Key×Value×Value),prs.length=d.length/\j.length=d.length/\KV j (prs.map λp=>(p.1,p.2.2)) /\
  ∀(i:Nat) (v:Value) (p:Key×Value×Value),d[i]?=some v->prs[i]?=some p->∃(a:Addr) (o:Obj) (x:Array Value) (m:Nat),v=.ref a/\s.heap.get? a=some o/\o.cls=.type "tuple"/\o.data=.seq x m/\x.toList=[p.2.1,p.2.2]/\(cO X.prog X.w).is p.1 p.2.1=true
 | [],ys,d,h,r=>by
  cases(show ys=[] from h);cases r;exact⟨[],rfl,rfl,.nil,λi v p e=>by cases e⟩
 |q::j,ys,d,h,r=>by
  obtain⟨b,O,rfl,h1,h2⟩:=h
  cases r with
  | @cons _ u _ us a1 r =>
   cases(show u=Value.ref b from a1);obtain⟨prs,J,G,F,E⟩:=oG.prs I h2 r;obtain⟨x,f,⟨o,e,L,n,hd⟩,_⟩:=I.tuple h1
   cases f with
   | @cons _ k' _ _ a2 f =>
    cases f with
    | @cons _ v' _ _ a3 f =>
     cases f;refine⟨(q.1,k',v')::prs,by rw[zA,zA,J],by rw[zA,zA,G],.cons ⟨rfl,a3⟩ F,λi v p C y=>?_⟩
     cases i with
     |zero =>
      cases C;cases y;exact⟨b,o,_,n,rfl,e,L,hd,rfl,nR a2⟩
     |succ i=>exact E i v p C y
def QpP(G:X.calm=true):fH X (.type "dict") (QAo X.K):=by
 intro pins s σ H W Y Q I r h;obtain⟨a,U,b,rfl,J,E,F,q⟩:=h;obtain⟨u,rfl,d⟩:=vals1 r;cases d;obtain⟨_,T,n,f,e⟩:=J.ok I;obtain⟨prs,y,x,m,j⟩:=E.prs I f
 refine Qqv (I.ok.hd G) (.inr ⟨n,e⟩) (by rw[y,zG]) (by rw[zG,<-x];exact F) (λi v p R P=>j i v p (by simpa using R) P) λZ tk O k=>?_
 have C:(j7 [] b).length<=sizeLine:=by
  have h1:=Eo b [];rw[jb] at h1;rw[sizeLine_eq];omega
 have L :=beq_eq_false_iff_ne.mpr (Nat.ne_of_gt I.big);exact⟨.ref _,_,I.laid k (zc _) (El C L (m.merge .nil) O),rfl,q _ (I.hok.fresh (zc _))⟩
def mJ:List D->Option (List (Key×D))
 | []=>some []
 |d::r=>match d,mJ r with
  | .tup [k,v],some l=>(keyOf k).map λb=>(b,v)::l
  | _,_=>none
def qF(b:List (Key×D)):List (Key×D):=b.foldl (λd p=>dq d p.1 p.2) []
theorem Hs{K:Frag}{F H:Hp}{m:List Addr}(fh:Same F H):∀{ds:List D}{ys:List V}{b:List (Key×D)},Rps K F m ys ds->mJ ds=some b->∃xs,oG K H ys xs/\DkR K F m xs b
 | [],ys,b,h,e=>by
  cases e;exact⟨[],h.un0,rfl,Rps.nil⟩
 |d::ds,ys,b,h,e=>by
  obtain⟨y,f,rfl,h1,h2⟩:=h.un;unfold mJ at e;split at e
  ·rename_i k v l q
   cases hk:keyOf k with
   |none=>rw[hk] at e;cases e
   |some k' =>
    rw[hk] at e;cases e;obtain⟨xs,x,j⟩:=Hs fh h2 q;obtain⟨a,J,rfl,a1,a2⟩:=h1.unT;obtain⟨L,zr,rfl,I,G⟩:=a2.un;obtain⟨u,zr,rfl,E,C⟩:=G.un;cases C.un0;cases I.key hk;exact⟨(k',u)::xs,⟨a,f,rfl,Same.seqT fh a1,x⟩,by rw[zg,zg,j.1],Rps.cons E j.2⟩
  ·cases e
theorem DkR.merge{K:Frag}{F:Hp}{f:List Addr}:∀{b:List (Key×D)}{xs:List (Key×V)}{ks:List (Key×D)}{d:List (Key×V)},DkR K F f xs b->DkR K F f d ks->DkR K F f (j7 d xs) (b.foldl (λj p=>dq j p.1 p.2) ks)
 | [],xs,ks,d,h,g=>by
  have:=h.len
  cases xs with
  |nil=>exact g
  |cons=>cases this
 |p::b,xs,ks,d,h,g=>by
  obtain⟨v,r,rfl,h1,h2⟩:=h.un;have q:=DkR.merge h2 (g.put p.1 h1);exact q
def DkR.gr{K:Frag}     (h:DkR K F f xs b)(g:Gr H F f m j d):DkR K j d xs b:=⟨h.1,h.2.gr g⟩
def uy(ma:M (List D)):M D:=λρ O=>(ma ρ O).bind λf d=>match f.map (aY d) with
 | [.lst es]=>match mJ es with
  |some b=>if b.length<=1000000 then .ok (.ob d.length) (d++[.dk (qF b)]) else .no
  |none=>.no
 | _=>.no
def QuH  {Z R:Pos}   (hc:X.calm=true)(G:X.mg "dict" = none)(ha:AE X md P ms [e] ma)(I:Gl X "dict":=by rfl)
  (he:starEach [e] X.env=(false,eval e X.env)::starEach [] X.env:=by exact bY rfl) (E:(backTo R (starEach [] X.env)).any (·.1)=false:=by exact cP rfl):VE X md P (.Call (.Name "dict" Z) [e] [] R) (uy ma):=by
 refine(wH (QpP hc) I G (by decide +kernel) ha (by decide) (by decide) he E).imp λσ H Q q=>?_
 obtain⟨ρ,O,F,as,d,O',r,s,e,k⟩:=q;obtain⟨ds,O1,e1,e⟩:=Res.bind_ok e;refine⟨ρ,_,F,as,_,_,r,s,e1,λvs U u b g1 f hv=>?_⟩;have j:=hv.lks f
 generalize hds:ds.map (aY O1)=es at e j
 split at e
 ·rename_i ds0;obtain⟨v,rfl,C⟩:=j.one;split at e
  ·rename_i y hj;split at e
   ·rename_i hlen;cases e;obtain⟨p,W,rfl,h1,h2⟩:=C.list f.fh;obtain⟨x,Y,L⟩:=Hs f.fh h2 hj;refine⟨p,W,x,rfl,h1,Y,by rw[L.len];exact hlen,λl m=>?_⟩;have T:Gr U u b (upd U l (.dK (j7 [] x))) u (b++[l]):=Gr.snoc m;have J:DkR X.K u (b++[l]) (j7 [] x) (qF y):=(L.merge ⟨rfl,Rps.nil⟩).gr T;refine k _ _ u (b++[l]) (g1.trans T) ((f.lay m).snocO (f.unF m) (λz=>f.all z m) ⟨_,bC,J.1,J.2⟩) (Rp.mkO ?_);rw[<-f.len,zK (zc _),Nat.sub_self];rfl
   ·cases e
  ·cases e
 ·cases e
end L2
namespace L2
open PySem PySem.Spec PyProof.Rows PySem.W PySem.Builtin PySem.Builtin.Str
end L2
namespace L2
open PySem PySem.Spec PyProof.Rows PySem.W
def mkD{K:Frag}  {st:Stmt}     {kV:Value}(X:K.In h)(G:h.Ns mainGlobals mg)(a:nsIn K mainGlobals x=some (some (.ref f)))(l:K.lookup f=some ⟨j,d,.func (fnOf x x (dI st) (cM st) (bf st) .none kV dc pm m b ct),sl⟩)(c:codeIn K b x=true)(k:keepIn K (.ref f)=true):Def K mg x st:=⟨_,_,mg_of X G a,Ek l c k⟩
structure ClsAt(K:Frag)(c:Str)(A:Addr):Prop where
 ns:nsIn K mainGlobals c=some (some (.ref A))
 pg:plainGet K A Str.empty=true
 hd:hasDictIn K A=true
 po:plainOver K A=true
 sa:findIn K (.ref A) "__setattr__" = some (some (.builtin "object.__setattr__"))
 mks:makesIn K A=true
 kc:keepIn K (.ref A)=true
def MethAt(K:Frag)(A:Addr)(m qual:Str)(st:Stmt):Prop:=∃f fd,findIn K (.ref A) m=some (some (.ref f))/\isFn K (.ref f)=true/\keepIn K (.ref f)=true/\Fun K m qual st f fd
def mkM{K:Frag}   {st:Stmt}     {kV:Value}(a:findIn K (.ref A) m=some (some (.ref f)))(i:isFn K (.ref f)=true)(l:K.lookup f=some ⟨q,j,.func (fnOf m b (dI st) (cM st) (bf st) .none kV dc pm u d ct),sl⟩)(c:codeIn K d b=true)(k:keepIn K (.ref f)=true):MethAt K A m b st:=⟨_,_,a,i,k,Ek l c k⟩
def ClsAt.cl{K:Frag}(z:ClsAt K c A):Cls K A:=⟨z.pg,z.hd,z.po,z.sa⟩
def ClsAt.dm{K:Frag}(z:ClsAt K c A)(X:K.In h)(G:h.Ns mainGlobals mg)  {st:Stmt}(q:MethAt K A m d st):cJ K mg c m d st:=by
 obtain⟨f,fd,a,i,k,b⟩:=q;exact⟨_,_,_,mg_of X G z.ns,z.cl,⟨a,i,k⟩,b⟩
def ClsAt.dc{K:Frag}(z:ClsAt K c A)(X:K.In h)(G:h.Ns mainGlobals mg)  {st:Stmt}(q:MethAt K A "__init__" d st):oA K mg c d st:=by
 obtain⟨f,fd,a,i,k,b⟩:=q;exact⟨_,_,_,mg_of X G z.ns,⟨z.mks,a,i,z.kc⟩,b⟩
def ClsAt.kf{K:Frag}(z:ClsAt K c A)(X:K.In h)(G:h.Ns mainGlobals mg)  (n:findIn K (.ref A) f=some none):KC K mg c f:=⟨_,mg_of X G z.ns,z.cl,n⟩
end L2
namespace L2
open PySem PySem.Spec PyProof.Rows
def QwH     (h:AE X md P (List.replicate es.length .v) es r):VE X md P (.Tuple es d b) (aX r):=Vn _ h
def QwL    (h:AE X md P (List.replicate es.length .v) es r):OE X md P (.List es b) (aV r):=Vm _ h
def Qs5{X:Cx}{md:List Md}{P:Pt}   {b:Pos}  (h:t7 X.K X.mg x ls)(f:m=mC (.tup (ls.map D.str)):=by rfl)(j:Gl X x:=by rfl)(d:(x == ("__debug__":Str))=false:=by decide):VE X md P (.Name x b) m:=f ▸ Ys h j d
def Ht{K:Frag}(N H F b):rV K N H F b .non .non:=Rp.non
def QCD{K:Frag}(N H F b):rO K N H F b .non .non:=.inl ⟨rfl,Rp.non⟩
end L2
namespace L2
open PySem PySem.Spec PyProof.Rows PySem.W
def yj(K:Frag)(mg:Str->Option Value)(c qual:Str)(st:Stmt)(j:Array Value):Prop:=∃(C f:Addr) (x:Value) (u:Option Addr) (T:Addr) (kV m q:Value) (y:Option Addr) (b ct:Value) (d:Array (Option Value)) (o:Obj) (n:Nat),
 mg c=some (.ref C)/\Mk K C f/\K.lookup f=some ⟨x,u,.func (fnOf "__init__" qual (dI st) (cM st) (bf st) (.ref T) kV m q y b ct),d⟩/\codeIn K b qual=true/\K.lookup T=some o/\o.data=.seq j n
inductive oH (P:Program) (w:World) (K:Frag) (mg:Str->Option Value) (base:Heap) (c:Str) (ps:List Str) (ds:List Value) (k:Nat) (sp:Sp):Prop
 | mk:∀C f fd,mg c=some (.ref C)->Mk K C f->Binds K fd ps []->Binds K fd ps ds->cz P w K mg base CX0 k f fd ps sp->oH P w K mg base c ps ds k sp
def oH.canC{P:Program}{w:World}{K:Frag}{mg:Str->Option Value}{base:Heap}{c:Str}{ps:List Str}{ds:List Value}{k:Nat}{sp:Sp}(h:oH P w K mg base c ps ds k sp):ou P w K mg base c ps k sp:=let ⟨C,f,fd,a,b,d,_,g⟩:=h;⟨C,f,fd,a,b,d,g⟩
section
variable {Pr:Program}{w:World}{K:Frag}{mg:Str->Option Value}{base:Heap}
def MethAtD(K:Frag)(A:Addr)(qual:Str)(st:Stmt)(j:Array Value):Prop:=∃(f:Addr) (x:Value) (u:Option Addr) (T:Addr) (kV m q:Value) (y:Option Addr) (b ct:Value) (d:Array (Option Value)) (o:Obj) (n:Nat),
 findIn K (.ref A) "__init__" = some (some (.ref f))/\isFn K (.ref f)=true/\K.lookup f=some ⟨x,u,.func (fnOf "__init__" qual (dI st) (cM st) (bf st) (.ref T) kV m q y b ct),d⟩/\codeIn K b qual=true/\K.lookup T=some o/\o.data=.seq j n
def QB8{K:Frag}   {st:Stmt}     {kV:Value}
  (a:findIn K (.ref A) "__init__" = some (some (.ref f))) (i:isFn K (.ref f)=true) (l:K.lookup f=some ⟨q,m,.func (fnOf "__init__" b (dI st) (cM st) (bf st) (.ref T) kV dc pm u j ct),sl⟩) (e:codeIn K j b=true) (t:K.lookup T=some ⟨y,x,.seq d n,tl⟩):MethAtD K A b st d :=
 ⟨f,q,m,T,kV,dc,pm,u,j,ct,sl,_,n,a,i,l,e,t,rfl⟩
def ClsAt.dcd{A:Addr}{c:Str}(z:ClsAt K c A){h:Heap}(X:K.In h)(G:h.Ns mainGlobals mg){qual:Str}{st:Stmt}{b:Array Value}(q:MethAtD K A qual st b):yj K mg c qual st b:=by
 obtain⟨f,u,m,T,kV,dc,j,y,x,ct,sl,o,n,a,i,l,e,t,d⟩:=q;exact⟨_,f,u,m,T,kV,dc,j,y,x,ct,sl,o,n,mg_of X G z.ns,⟨z.mks,a,i,z.kc⟩,l,e,t,d⟩
def QyG{Pr:Program}{w:World}{K:Frag}{base:Heap}  {st:Stmt}  {k:Nat}  (Df:yj K mg c qual st its)(S:fK N ps (bf st))
  (hb:∀(T:Addr) (kV u pm:Value) (y:Option Addr) (j ct:Value) (us:List Value),us.length=ps.length->∃g,bindArgs (fnOf "__init__" qual (dI st) (cM st) (bf st) (.ref T) kV u pm y j ct) ⟨us,[]⟩=seqItems? (.ref T) >>= g/\g (some its)=pure (ps.zip us))
  (m:Nat) (hb2:∀(T:Addr) (kV u pm:Value) (y:Option Addr) (j ct:Value) (us:List Value),us.length=m->∃g,bindArgs (fnOf "__init__" qual (dI st) (cM st) (bf st) (.ref T) kV u pm y j ct) ⟨us,[]⟩=seqItems? (.ref T) >>= g/\g (some its)=pure (ps.zip (us++its.toList)))
  (pm lm:List Md)  {b:MS} (hR:dZ R) (hR0:∀N H F G,R N H F G .non .non) (hm:m+its.toList.length=ps.length:=by rfl) (Y:pm.length=ps.length:=by rfl) (x:(pm++lm).length=N.length:=by rfl) (hp:∀m∈pm,m≠.o:=by decide)
  (body:∀(f:Addr) (j:Value) (A:Around) (outer:List Env) (s:Shared) (H:Hp) (E:XK),aZ k (A.deeper (envOfC qual (bf st) s.heap.objs.size f j))->∀P,VSs ((gk CX0 Pr w K mg base N qual (bf st) f j A outer s H E).nox) (pm++lm) P R (cM st) b):
  oH Pr w K mg base c ps its.toList (k+1) (vSp K mg pm R (aL N.length b)):=by
 obtain⟨C,f,oc,od,T,kV,u,pmv,y,j,ct,osl,o,n,h1,h2,lk,Z,ht,hd⟩:=Df;refine⟨C,f,_,h1,h2,λs us U x=>?_,λs us U x=>?_,DR lk Z S (λvs H Q E h=>?_) λA outer s H vs Q E hr h=>?_⟩
 ·rw[zJ] at x ⊢;obtain⟨g,L,J⟩:=hb T kV _ _ y _ ct us x;exact BindsTo.of_defaults rfl (U _ _ ht) hd L J
 ·rw[ze] at x;obtain⟨g,L,J⟩:=hb2 T kV _ _ y _ ct us (by omega);exact BindsTo.of_defaults rfl (U _ _ ht) hd L J
 ·obtain⟨ds,O,F,G,d,O',r,a,_⟩:=h;rw[a.len.1,Y]
 ·obtain⟨ds,O,F,G,d,O',r,a,e,q⟩:=h;refine⟨_,(body f _ A _ s H E hr (Pt.all H)).nox,?_⟩;refine⟨_,O,F,G,r,xn a x hp,?_⟩;unfold aL at e
  cases eb:b _ O<;>rw[eb] at e<;>cases e
  ·exact λσ' W X as' g I _=>q _ W X _ g.gr I (hR0 _ _ _ _)
  ·exact λv W X as' g I hv=>q v W X _ g.gr I (hR _ _ _ _ _ _ _ (λc hc=>Classical.not_not.mp hc) hv)
theorem bQ.snoc{H F:Hp}{b:List Addr}{v:V}{d:D}(h:Rp K F b v d):∀{ms:List Md}{vs:List V}{ds:List D},bQ K H F b ms vs ds->bQ K H F b (ms++[.v]) (vs++[v]) (ds++[d])
 | [],[],[],_=>⟨h,True.intro⟩
 | _::_,_::_,_::_,q=>⟨q.1,bQ.snoc h q.2⟩
end
noncomputable def maD(m:M (List D))(d:D):M (List D):=λρ O=>(m ρ O).bind λb f=>.ok (b++[d]) f
def QsV{p j:Pos}(M:oH X.prog X.w X.K X.mg X.base c ps [.bool b] k (vSp X.K X.mg (.v::pm) (rV X.K) cf))(T:aZ (k+1) X.A)(Z:AE X md P pm.dropLast (e::es) ma)(u:pm=pm.dropLast++[.v]:=by rfl)(W:Gl X c:=by rfl)(G:(c == ("__debug__":Str))=false:=by decide)
  (Y:starEach (e::es) X.env=(false,eval e X.env)::starEach es X.env:=by exact bY rfl) (y:(backTo j (starEach es X.env)).any (·.1)=false:=by exact cP rfl):VE X md P (.Call (.Name c p) (e::es) [] j) (dj c cf (maD ma (.bl b))):=by
 obtain⟨C,f,fd,h1,h3,h4,h5,h6⟩:=M
 refine(Dz (E:=E0) (dvs:=[.bl b]) h3 h6 T W h1 h5 (.cons rfl .nil) lX Z G Y y).imp λσ H Q q=>?_
 obtain⟨ρ,O,F,as,ds,O1,r,s,e1,q⟩:=xG (E:=E0) h1 q;obtain⟨I,O2,e2,e3⟩:=Res.bind_ok e1;cases e3;refine⟨ρ,O,F,as,I,O1,r,s,e2,λL H1 F1 J g1 R m x dx hx hd U=>?_⟩;have h2:=m.snoc (v:=.bl b) (d:=.bl b) Rp.bl;rw[<-u] at h2
 have:=q (L++[.bl b]) H1 F1 J g1 R h2 x dx hx hd U
 rwa [zJ] at this
end L2
namespace L2
open PySem PySem.Spec PyProof.Rows
def ofO(o:Option D)(O:au):Res D:=match o with
 |some d=>.ok d O
 |none=>.no
@[simp] theorem gQ  :ofO (some d) O=.ok d O:=rfl
@[simp] theorem aW  {a:α}  {f:α->au->Res β}:(Res.ok a O).bind f=f a O:=rfl
@[simp] theorem QB0 :aY O .non=.non:=rfl
@[simp] theorem mK  :aY O (.bl b)=.bl b:=rfl
@[simp] theorem jK  :aY O (.int b)=.int b:=rfl
@[simp] theorem mL  :aY O (.str b)=.str b:=rfl
@[simp] theorem jL  :aY O (.lst b)=.lst b:=rfl
@[simp] theorem QBY  :aY O (.tup b)=.tup b:=rfl
@[simp] theorem QBU  :aY O (.dic a b)=.dic a b:=rfl
@[simp] theorem gb   :aa i ρ O=(match ρ[i]? with | some (some d)=>.ok d O | _=>.no):=rfl
@[simp] theorem m_c   :mC d ρ O=.ok d O:=rfl
@[simp] theorem ym    :ak g a b ρ O=(a ρ O).bind λx O1=>(b ρ O1).bind λy d=>ofO (g (aY d x) (aY d y)) d:=rfl
def gF(r:Res D):Res D:=match r with
 | .ok d O'=>if iy d=true then .ok d O' else .no
 |r=>r
@[simp] theorem m_g   :mG m ρ O=gF (m ρ O):=rfl
@[simp] theorem QzB  :gF (.ok (.int i) O)=.ok (.int i) O:=rfl
@[simp] theorem QDw  :gF (.ok (.str i) O)=.ok (.str i) O:=rfl
@[simp] theorem QEl  :gF (.ok (.bl i) O)=.ok (.bl i) O:=rfl
@[simp] theorem QDT :gF (.ok .non O)=.ok .non O:=rfl
@[simp] theorem QDQ  :gF (.ok (.tup l) O)=.ok (.tup l) O:=rfl
@[simp] theorem QD4  :gF (.ok (.ob n) O)=.ok (.ob n) O:=rfl
def chF(o:Option D)(O:au)(f:Unit->Res D):Res D:=match o with
 |some (.bl true)=>f ()
 |some (.bl false)=>.ok (.bl false) O
 | _=>.no
@[simp] theorem QAD   :chF (some (.bl b)) O f=if b=true then f () else .ok (.bl false) O:=by cases b<;>rfl
@[simp] theorem Hu    :fO g g' a b c ρ O=(a ρ O).bind λx O1=>(b ρ O1).bind λy d=>chF (g (aY d x) (aY d y)) d λ_=>(c ρ d).bind λz f=>ofO (g' (aY f y) (aY f z)) f:=by
 unfold fO;congr 1
@[simp] theorem QBq   :kI m ρ O=(m ρ O).bind λd O1=>.ok (.bl (isNon d)) O1:=rfl
@[simp] theorem QDJ   :kJ m ρ O=(m ρ O).bind λd O1=>.ok (.bl (!isNon d)) O1:=rfl
@[simp] theorem QBV:isNon .non=true:=rfl
@[simp] theorem QBW :isNon (.lst l)=false:=rfl
@[simp] theorem QBX :isNon (.tup l)=false:=rfl
@[simp] theorem QB1 :isNon (.str l)=false:=rfl
@[simp] theorem QBT :isNon (.int l)=false:=rfl
@[simp] theorem QCh :isNon (.ob l)=false:=rfl
def teF(d:D)(O:au):Res Bool:=match d with
 | .bl b=>.ok b O
 | _=>.no
@[simp] theorem QAc  :teF (.bl b) O=.ok b O:=rfl
@[simp] theorem QzW   :az m ρ O=(m ρ O).bind teF:=rfl
def ofB(o:Option Bool)(O:au):Res Bool:=match o with
 |some d=>.ok d O
 |none=>.no
@[simp] theorem oJ  :ofB (some d) O=.ok d O:=rfl
@[simp] theorem jM   :bx m ρ O=(m ρ O).bind λd O1=>ofB (nZ (aY O1 d)) O1:=rfl
@[simp] theorem mO :nZ (.bl b)=some b:=rfl
@[simp] theorem QCj :nZ (.lst b)=some (!b.isEmpty):=rfl
@[simp] theorem uz   :bR a b ρ O=(a ρ O).bind λc O1=>if c=true then b ρ O1 else .ok false O1:=rfl
@[simp] theorem qG   :cI a b ρ O=(a ρ O).bind λc O1=>if c=true then .ok true O1 else b ρ O1:=rfl
@[simp] theorem lB   :cN a ρ O=(a ρ O).bind λc O1=>.ok (!c) O1:=rfl
def anF(d:D)(O:au)(f:Unit->Res D):Res D:=match d with
 | .bl true=>f ()
 | .bl false=>.ok (.bl false) O
 | _=>.no
def orF(d:D)(O:au)(f:Unit->Res D):Res D:=match d with
 | .bl true=>.ok (.bl true) O
 | .bl false=>f ()
 | _=>.no
@[simp] theorem QEt   :anF (.bl b) O f=if b=true then f () else .ok (.bl false) O:=by cases b<;>rfl
@[simp] theorem QDY   :orF (.bl b) O f=if b=true then .ok (.bl true) O else f ():=by cases b<;>rfl
@[simp] theorem Hv   :c7 a b ρ O=(a ρ O).bind λd O1=>anF d O1 λ_=>b ρ O1:=by
 congr 1
@[simp] theorem QEa   :VH a b ρ O=(a ρ O).bind λd O1=>orF d O1 λ_=>b ρ O1:=by
 congr 1
def noF(d:D)(O:au):Res D:=match d with
 | .bl b=>.ok (.bl (!b)) O
 | _=>.no
@[simp] theorem QD3  :noF (.bl b) O=.ok (.bl (!b)) O:=rfl
@[simp] theorem QDL   :wZ a ρ O=(a ρ O).bind noF:=rfl
@[simp] theorem jN    :mIf t a b ρ O=(t ρ O).bind λc O1=>if c=true then a ρ O1 else b ρ O1:=rfl
@[simp] theorem lC  :ao ρ O=.ok [] O:=rfl
@[simp] theorem iJ    :aj m r ρ O=(m ρ O).bind λd O1=>(r ρ O1).bind λds b=>.ok (d::ds) b:=rfl
@[simp] theorem Hw   :aV r ρ O=(r ρ O).bind λds O1=>if ds.length<=1000000 then .ok (.lst ds) O1 else .no:=rfl
@[simp] theorem Hx   :aX r ρ O=(r ρ O).bind λds O1=>if ds.length<=1000000 then .ok (.tup ds) O1 else .no:=rfl
@[simp] theorem mQ    :aB c ma ρ O=(ma ρ O).bind λds O1=>c ds O1:=rfl
@[simp] theorem yo    :aJ g ma ρ O=(ma ρ O).bind λds O1=>ofO (g (ds.map (aY O1))) O1:=rfl
@[simp] theorem QEy    :mUn g ma ρ O=(ma ρ O).bind λd O1=>ofO (g (aY O1 d)) O1:=rfl
def isF(n:String)(o:Option String)(O:au):Res D:=match o with
 |some t=>.ok (.bl (dF t n)) O
 |none=>.no
@[simp] theorem Hy  :isF n (some t) O=.ok (.bl (dF t n)) O:=rfl
@[simp] theorem Hz    :fY n m ρ O=(m ρ O).bind λd O1=>isF n (tyD (aY O1 d)) O1:=rfl
@[simp] theorem QDk:tyD .non=some "NoneType":=rfl
@[simp] theorem QDX :tyD (.bl b)=some "bool":=rfl
@[simp] theorem QDl :tyD (.int b)=some "int":=rfl
@[simp] theorem QwN :tyD (.str b)=some "str":=rfl
@[simp] theorem QDs :tyD (.lst b)=some "list":=rfl
@[simp] theorem QDh :tyD (.tup b)=some "tuple":=rfl
@[simp] theorem QDu :tyD (.dic a b)=some "dict":=rfl
@[simp] theorem QC3  :moN ρ O=.ok none O:=rfl
def osF(d:D)(O:au):Res (Option Int):=match d with
 | .int i=>.ok (some i) O
 | _=>.no
@[simp] theorem QA7  :osF (.int i) O=.ok (some i) O:=rfl
@[simp] theorem QB5   :moS m ρ O=(m ρ O).bind osF:=rfl
@[simp] theorem HB  {lo:M (Option Int)}  :mSl m lo j ρ O=(m ρ O).bind λd O1=>(lo ρ O1).bind λl f=>(j ρ f).bind λh b=>ofO (gSl (aY b d) l h) b:=rfl
@[simp] theorem HD  {lo:Option Int}:gSl (.str l) lo b=if l.length<=16777216 then some (.str (cA l lo b)) else none:=rfl
@[simp] theorem uA  {lo:Option Int}:gSl (.lst l) lo b=some (.lst (cA l lo b)):=rfl
@[simp] theorem QDn  {lo:Option Int}:gSl (.tup l) lo b=some (.tup (cA l lo b)):=rfl
def gR(f:Fl)(b:MS):Fl:=match f with
 | .nx ρ' O'=>b ρ' O'
 |r=>r
@[simp] theorem cX   :aq a b ρ O=gR (a ρ O) b:=rfl
@[simp] theorem gU   :gR (.nx ρ O) b=b ρ O:=rfl
@[simp] theorem QDo   :gR (.rt d O) b=.rt d O:=rfl
@[simp] theorem QDj   :gR (.bk ρ O) b=.bk ρ O:=rfl
@[simp] theorem QDe   :gR (.ct ρ O) b=.ct ρ O:=rfl
@[simp] theorem QDm :gR .no b=.no:=rfl
@[simp] theorem yp  :aK ρ O=.nx ρ O:=rfl
def lD(r:Res D):Fl:=match r with
 | .ok d O'=>.rt d O'
 | .ex x O'=>.ex x O'
 | .no=>.no
@[simp] theorem dU   :aC m ρ O=lD (m ρ O):=rfl
@[simp] theorem HF  :lD (.ok d O)=.rt d O:=rfl
def HH(r:Res D)(ρ:aR):Fl:=match r with
 | .ok _ O'=>.nx ρ O'
 | .ex x O'=>.ex x O'
 | .no=>.no
@[simp] theorem qH   :eZ m ρ O=HH (m ρ O) ρ:=rfl
@[simp] theorem uB   :HH (.ok d O) ρ=.nx ρ O:=rfl
def ifF(r:Res Bool)(a b:MS)(ρ:aR):Fl:=match r with
 | .ok c O'=>if c=true then a ρ O' else b ρ O'
 | .ex x O'=>.ex x O'
 | .no=>.no
@[simp] theorem jO    :aD t a b ρ O=ifF (t ρ O) a b ρ:=rfl
@[simp] theorem qI    :ifF (.ok c O) a b ρ=if c=true then a ρ O else b ρ O:=rfl
def qJ(i:Nat)(r:Res D)(ρ:aR):Fl:=match r with
 | .ok d O'=>.nx (ρ.set i (some d)) O'
 | .ex x O'=>.ex x O'
 | .no=>.no
@[simp] theorem qK    :aA i m ρ O=qJ i (m ρ O) ρ:=rfl
@[simp] theorem qL    :qJ i (.ok d O) ρ=.nx (ρ.set i (some d)) O:=rfl
def HJ(r:Res (List D))(g:MG)(b:MS)(ρ:aR):Fl:=match r with
 | .ok ds O'=>bB g b ds ρ O'
 | .ex x O'=>.ex x O'
 | .no=>.no
@[simp] theorem qM     :cF m g b ρ O=HJ (m ρ O) g b ρ:=rfl
@[simp] theorem qN     :HJ (.ok ds O) g b ρ=bB g b ds ρ O:=rfl
@[simp] theorem mg_n   :mgN i d ρ=some (ρ.set i (some d)):=rfl
def bw(f:Fl):Res D:=match f with
 | .rt d O'=>.ok d O'
 | .nx _ O'=>.ok .non O'
 | .ex x O'=>.ex x O'
 | _=>.no
@[simp] theorem QBc    :aL n b ds O=bw (b (ds.map some++List.replicate (n - ds.length) none) O):=rfl
@[simp] theorem Qxc  :bw (.rt d O)=.ok d O:=rfl
@[simp] theorem HN  :bw (.nx ρ O)=.ok .non O:=rfl
@[simp] theorem QxY   :fZ m ρ O=(m ρ O).bind λds O1=>match ds with
 | [.int j]=>if j<=1000000000/\-1000000000<=j then .ok (gq 0 j.toNat) O1 else .no
 | _=>.no:=rfl
def itF(o:Option (List D))(O:au):Res (List D):=match o with
 |some b=>.ok b O
 |none=>.no
@[simp] theorem yq  :itF (some ds) O=.ok ds O:=rfl
@[simp] theorem oK   :bL m ρ O=(m ρ O).bind λd O1=>itF (mz d) O1:=rfl
@[simp] theorem Qsl :mz (.lst ds)=some ds:=rfl
@[simp] theorem QBZ :mz (.tup ds)=some ds:=rfl
def HQ  (h:ascii l=true):mz (.str l)=some (cB l):=by
 show(if ascii l=true then some _ else none)=_;rw[if_pos h]
@[simp] theorem qO        :bW m own cap g t e ρ O=(m ρ O).bind λds O1=>if ds.length<=1000000 then(cG g t e ds (d8 own cap ρ) O1 []).bind λys b=>.ok (.lst ys) b else .no:=rfl
@[simp] theorem QDA :aF (.int i) (.int j)=some (.int (i+j)):=rfl
@[simp] theorem QyX :aF (.str a) (.str b)=if a.length+b.length<=1000000 then some (.str (a++b)) else none:=rfl
@[simp] theorem QAj :aF (.lst a) (.lst b)=if a.length+b.length<=1000000 then some (.lst (a++b)) else none:=rfl
@[simp] theorem QB6 :gn (.int i) (.int j)=some (.int (i - j)):=rfl
@[simp] theorem QAe :bj (.int i) (.int j)=if 0<j then some (.int (i % j)) else none:=by
 unfold bj gI
 by_cases  0<j<;>simp
@[simp] theorem QDd :kO (.int i) (.int j)=if 0<j/\j<1073741824 then some (.int (i / j)) else none:=by
 unfold kO gI
 by_cases  0<j/\j<1073741824<;>simp
def uC  (h:(-(2 ^ 64)<i/\i<2 ^ 64)\/(-(2 ^ 64)<j/\j<2 ^ 64)):dD (.int i) (.int j)=some (.int (i * j)):=by
 unfold dD
 dsimp
 rw[if_pos];rw[Bool.or_eq_true];unfold oh;rw[zB,zB,decide_eq_true_eq,decide_eq_true_eq,decide_eq_true_eq,decide_eq_true_eq];exact h
@[simp] theorem QD0 :gLt (.int i) (.int j)=some (.bl (decide (i<j))):=rfl
@[simp] theorem QD6 :gGt (.int i) (.int j)=some (.bl (decide (j<i))):=rfl
@[simp] theorem QEd :gGe (.int i) (.int j)=some (.bl (decide (j<=i))):=rfl
@[simp] theorem QAN :gLe (.int i) (.int j)=some (.bl (decide (i<=j))):=rfl
def HR(a b:Nat):(([a]:List Nat) < [b])↔a<b:=by
 constructor
 ·intro h
  rcases List.cons_lt_cons_iff.mp h with h | ⟨_,h⟩
  ·exact h
  ·exact absurd h (List.not_lt_nil _)
 ·intro h;exact List.cons_lt_cons_iff.mpr (.inl h)
@[simp] theorem QEm :gLe (.str [a]) (.str [b])=some (.bl (decide (a<=b))):=by
 show some _=_
 have:decide ([b] < [a])=decide (b<a):=by
  by_cases h:b<a
  ·rw[zv h,zv ((HR _ _).mpr h)]
  ·rw[zl h,zl λz=>h ((HR _ _).mp z)]
 rw[this]
 by_cases h:b<a
 ·rw[zv h,zl (by omega)];rfl
 ·rw[zl h,zv (by omega)];rfl
@[simp] theorem QDZ :gEq (.int i) (.int j)=some (.bl (decide (i=j))):=rfl
@[simp] theorem HS :gEq (.str i) (.str j)=some (.bl (decide (i=j))):=rfl
@[simp] theorem QEw :gEq (.bl i) (.bl j)=some (.bl (decide (i=j))):=rfl
@[simp] theorem HW :gEq (.lst i) (.lst j)=if(okE (.lst i)&&okE (.lst j))=true then some (.bl (kZ (.lst i) (.lst j))) else none:=rfl
@[simp] theorem QAQ :gNe (.int i) (.int j)=some (.bl (!decide (i=j))):=rfl
@[simp] theorem QEu :gNe (.str i) (.str j)=some (.bl (!decide (i=j))):=rfl
@[simp] theorem QEg :gNe (.bl i) (.bl j)=some (.bl (!decide (i=j))):=rfl
@[simp] theorem yr :gNe (.lst i) (.lst j)=if(okE (.lst i)&&okE (.lst j))=true then some (.bl (!kZ (.lst i) (.lst j))) else none:=rfl
@[simp] theorem HY   :gIn n (.str [c]) (.str l)=some (.bl (n ^^ decide (c∈l))):=rfl
def uD  :gIx (.lst ds) (.int i)=atI ds i:=rfl
def H9  :gIx (.str l) (.int i)=if l.length<=1000000 then(atI l i).map (λc=>.str [c]) else none:=rfl
@[simp] theorem yt :aP [.str l]=if l.length<=1000000 then some (.int l.length) else none:=rfl
@[simp] theorem QDV :aP [.lst l]=some (.int l.length):=rfl
@[simp] theorem QDE :aP [.tup l]=some (.int l.length):=rfl
@[simp] theorem QDG :W3 [.int i,.int j]=some (.int (if j>i then j else i)):=rfl
@[simp] theorem QDz :W4 [.int i,.int j]=some (.int (if j<i then j else i)):=rfl
@[simp] theorem QDx :fV [.int i]=some (.int i):=rfl
@[simp] theorem QDK :fV [.bl b]=some (.int (if b then 1 else 0)):=rfl
@[simp] theorem QDB:iB (.int 10) (.int 18)=some (.int 1000000000000000000):=by rfl
@[simp] theorem QDI:iB (.int 10) (.int 9)=some (.int 1000000000):=by rfl
@[simp] theorem mR  {xs:List α}{j:Nat}:atI xs (j:Int)=xs[j]?:=by
 unfold atI ixN;rw[if_pos (by omega)]
 by_cases  j<xs.length
 ·rw[if_pos (by omega)];simp
 ·rw[if_neg (by omega),jp (by omega)];rfl
def Ia  {xs:List α}{i:Int}(h0:0<=i)(h1:i<xs.length):∃x,atI xs i=some x/\x∈xs:=by
 obtain⟨j,rfl⟩:=Int.eq_ofNat_of_zero_le h0
 have b:j<xs.length:=by omega
 exact⟨xs[j],by show atI xs (j:Int)=_;rw[mR,zy b],jh b⟩
section
variable {c:Prop}[Decidable c]
@[simp] theorem QCA{a b:Fl}:bw (if c then a else b)=if c then bw a else bw b:=by split<;>rfl
@[simp] theorem QCd{a b:Res D}:lD (if c then a else b)=if c then lD a else lD b:=by split<;>rfl
@[simp] theorem QCX{a b:Fl}{r:MS}:gR (if c then a else b) r=if c then gR a r else gR b r:=by split<;>rfl
@[simp] theorem QCG{α β:Type}{a b:Res α}{f:α->au->Res β}:(if c then a else b).bind f=if c then a.bind f else b.bind f:=by split<;>rfl
@[simp] theorem QDv{a b:Res Bool}{x y:MS}{ρ:aR}:ifF (if c then a else b) x y ρ=if c then ifF a x y ρ else ifF b x y ρ:=by split<;>rfl
@[simp] theorem QCl{a b:Res D}{i:Nat}{ρ:aR}:qJ i (if c then a else b) ρ=if c then qJ i a ρ else qJ i b ρ:=by split<;>rfl
@[simp] theorem QDi{a b:Option D}{O:au}:ofO (if c then a else b) O=if c then ofO a O else ofO b O:=by split<;>rfl
end
@[simp] theorem QzL:dF "str" "str" = true:=by decide
@[simp] theorem QDN:dF "int" "str" = false:=by decide
@[simp] theorem QDC:dF "bool" "str" = false:=by decide
@[simp] theorem QDy:dF "list" "str" = false:=by decide
@[simp] theorem QDU:dF "tuple" "str" = false:=by decide
@[simp] theorem QDS:dF "dict" "str" = false:=by decide
@[simp] theorem QDM:dF "NoneType" "str" = false:=by decide
@[simp] theorem QDP:dF "int" "int" = true:=by decide
@[simp] theorem QDH:dF "int" "bool" = false:=by decide
@[simp] theorem QDg:dF "bool" "bool" = true:=by decide
@[simp] theorem QDf:dF "list" "list" = true:=by decide
@[simp] theorem QDc:dF "tuple" "tuple" = true:=by decide
@[simp] theorem QDp:dF "NoneType" "list" = false:=by decide
theorem uE   (f:Nat->aR->au->Prop):∀(ds:List D) (k:Nat) (ρ:aR) (O:au),f k ρ O ->
  (∀i d ρ O,ds[i]?=some d->f (k+i) ρ O->∃ρ1,g d ρ=some ρ1/\∃ρ2 j,(b ρ1 O=.nx ρ2 j\/b ρ1 O=.ct ρ2 j)/\f (k+i+1) ρ2 j)->∃ρ' O',bB g b ds ρ O=.nx ρ' O'/\f (k+ds.length) ρ' O'
 | [],k,ρ,O,h,_=>⟨ρ,O,rfl,h⟩
 |d::ds,k,ρ,O,h,hs=>by
  obtain⟨ρ1,y,ρ2,j,m,h2⟩:=hs 0 d ρ O rfl h
  obtain⟨ρ',O',x,h3⟩:=uE f ds (k+1) ρ2 j h2 λi C ρ' O' u q=>by
   have:=hs (i+1) C ρ' O' (by simpa using u) (by rw[show k+(i+1)=k+1+i by omega];exact q)
   rw[show k+(i+1)+1=k+1+i+1 by omega] at this;exact this
  refine⟨ρ',O',?_,by rw[zA,show k+(ds.length+1)=k+1+ds.length by omega];exact h3⟩;unfold bB;rw[y];dsimp only
  rcases m with m | m<;>rw[m]<;>exact x
theorem Ib    (j:aR->Prop)(f:D->D):∀(ds:List D) (ρ:aR) (O:au) (b:List D),j ρ->(∀d∈ds,∀ρ,j ρ->∃ρ1,g d ρ=some ρ1/\j ρ1/\t ρ1 O=.ok true O/\m ρ1 O=.ok (f d) O)->cG g t m ds ρ O b=.ok (b++ds.map f) O
 | [],ρ,O,b,_,_=>by simp[cG]
 |d::ds,ρ,O,b,h,hs=>by
  obtain⟨ρ1,y,h1,x,u⟩:=hs d zd ρ h;unfold cG;rw[y];dsimp only;rw[x];dsimp only;rw[u];dsimp only;rw[Ib j f ds ρ1 O _ h1 λC q=>hs C (zp _ q)];simp
theorem Ie{g:MG}{t:M Bool}{m:M D}(f:aR->Prop)(p:D->Bool):∀(ds:List D) (ρ:aR) (O:au) (b:List D),f ρ->(∀d∈ds,∀ρ,f ρ->∃ρ1,g d ρ=some ρ1/\f ρ1/\t ρ1 O=.ok (p d) O/\m ρ1 O=.ok d O)->cG g t m ds ρ O b=.ok (b++ds.filter p) O
 | [],ρ,O,b,_,_=>by simp[cG]
 |d::ds,ρ,O,b,h,hs=>by
  obtain⟨ρ1,C,h1,y,x⟩:=hs d zd ρ h
  have u:=λb=>Ie f p ds ρ1 O b h1 λE j=>hs E (zp _ j)
  unfold cG;rw[C];dsimp only;rw[y]
  cases q:p d with
  |true =>
   dsimp only;rw[x];dsimp only;rw[u,List.filter_cons,q];simp
  |false =>
   dsimp only;rw[u,List.filter_cons,q];simp
@[simp] theorem QDD  :Yd ρ O=.ok [] O:=rfl
@[simp] theorem QDt    :Ye a b r ρ O=(a ρ O).bind λx O1=>(b ρ O1).bind λy f=>(r ρ f).bind λps d=>.ok ((x,y)::ps) d:=rfl
def diF(o:Option (List Key))(b:List (D×D))(O:au):Res D:=match o with
 |some ks=>if ks.Nodup/\b.length<=15 then .ok (.dic (b.map (·.1)) (b.map (·.2))) O else .no
 |none=>.no
@[simp] theorem QCW   :diF (some ks) b O=if ks.Nodup/\b.length<=15 then .ok (.dic (b.map (·.1)) (b.map (·.2))) O else .no:=rfl
@[simp] theorem QDW   :Yg m ρ O=(m ρ O).bind λb O1=>diF (keysOf b) b O1:=rfl
@[simp] theorem QDq :keyOf (.int i)=some (.inl i):=rfl
@[simp] theorem QDr :keyOf (.str i)=some (.inr (S i)):=rfl
@[simp] theorem QBN:keysOf []=some []:=rfl
@[simp] theorem QAw  :keysOf ((a,b)::r)=(keyOf a).bind λk=>(keysOf r).map (k :: ·):=rfl
def joF(o:Option (List (List Nat)))(O:au):Res D:=match o with
 |some ls=>if(ls.map List.length).sum<=1000000 then .ok (.str ls.flatten) O else .no
 |none=>.no
@[simp] theorem Qtm  :joF (some ls) O=if(ls.map List.length).sum<=1000000 then .ok (.str ls.flatten) O else .no:=rfl
def jdF(d:D)(O:au):Res D:=match d with
 | .lst ds=>joF (gw ds) O
 | _=>.no
@[simp] theorem QAY  :jdF (.lst ds) O=joF (gw ds) O:=rfl
@[simp] theorem QzV   :mq m ρ O=(m ρ O).bind λd O1=>jdF (aY O1 d) O1:=rfl
theorem Ig{α:Type}{f:α->List Nat}:∀l:List α,gw (l.map λx=>.str (f x))=some (l.map f)
 | []=>rfl
 |x::l=>by
  show(gw _).map _=_;rw[Ig];rfl
@[simp] theorem QD7   :d8 own cap ρ=List.replicate own none++cap.map λj=>(ρ[j]?).join:=rfl
@[simp] theorem QB2      :cG g t m [] ρ O b=.ok b O:=rfl
theorem oM:∀ds:List D,iC ds=ds.map toP
 | []=>rfl
 |d::ds=>by rw[iC,oM];rfl
theorem uF:∀{ds:List D},(∀d∈ds,fQ d=true)->mj ds=true
 | [],_=>rfl
 |d::ds,h=>by rw[mj,h d zd,uF λx hx=>h x (zp _ hx)];rfl
def uG  (b:n<60)  (h:∀d∈ds,fQ d=true/\(toP d).canLay0=true/\(toP d).depth<=n):okE (.lst ds)=true:=by
 unfold okE;rw[zB];refine⟨?_,?_⟩
 ·exact uF λd hd=>(h d hd).1
 ·rw[toP,oM]
  refine U4 b λd hd=>?_
  obtain⟨x,hx,rfl⟩:=zw.mp hd;exact(h x hx).2
def oN  (h:∀c∈l,c<1114112):(PyData.str (S l)).canLay0=true:=by
 show PyData.strOk _=true;unfold PyData.strOk S;simp;exact h
def Ih  (h:okE d=true):kZ d d=true:=by
 unfold okE at h;rw[zB] at h
 have:=h.2
 unfold okD at this;rw[zB] at this;exact SeqAt.eqv_refl _ this.1
def it(f:Int->Int):Nat->Int->Int
 | 0,x=>x
 |n+1,x=>f (it f n x)
def mix(n k:Int):Int:=if n>1000000000000000000 then it (λr=>r / 1000000000) k.toNat n % 1000000000
 else
  let m:=it (λm=>(m * 48271+104729) % 2147483629) (k+2).toNat (n % 2147483647+7919)
  m * m % 998244353 / 11
def Ii(j:Nat)(x:Int)(h0:0<=x)(h1:x<2147491566):0<=it (λm=>(m * 48271+104729) % 2147483629) j x/\it (λm=>(m * 48271+104729) % 2147483629) j x<2147491566:=by
 induction j with
 |zero=>exact⟨h0,h1⟩
 |succ j ih =>
  refine⟨jt _ (by decide),?_⟩
  have:=ju (it (λm=>(m * 48271+104729) % 2147483629) j x * 48271+104729) (show(0:Int)<2147483629 by decide)
  show(it (λm=>(m * 48271+104729) % 2147483629) j x * 48271+104729) % 2147483629<_;omega
def yu:MS:=(aq (aD (az (ak gGt (aa 0) (ak iB (mC (.int 10)) (mC (.int 18))))) (aq (aA 2 (mG (aa 0)))
  (aq (cF (fZ (aj (aa 1) ao)) (mgN 3) (aA 2 (ak kO (aa 2) (ak iB (mC (.int 10)) (mC (.int 9))))))
  (aC (ak bj (aa 2) (ak iB (mC (.int 10)) (mC (.int 9))))))) aK)
  (aq (aA 4 (ak aF (ak bj (aa 0) (mC (.int 2147483647))) (mC (.int 7919))))
  (aq (cF (fZ (aj (ak aF (aa 1) (mC (.int 2))) ao)) (mgN 3) (aA 4 (ak bj (ak aF (ak dD (aa 4) (mC (.int 48271))) (mC (.int 104729))) (mC (.int 2147483629)))))
  (aC (ak kO (ak bj (ak dD (aa 4) (aa 4)) (mC (.int 998244353))) (mC (.int 11)))))))
def Ij(lo:Int)(n:Nat):(gq lo n).length=n:=by simp[gq]
def Qz6(n k:Int)(h0:0<=k)(h1:k<=1000000)(O:au):aL 5 yu [.int n,.int k] O=.ok (.int (mix n k)) O:=by
 unfold mix
 by_cases E:n>1000000000000000000
 ·obtain⟨C,q,e,rfl,f,rfl⟩:=uE (g:=mgN 3) (b:=aA 2 (ak kO (aa 2) (ak iB (mC (.int 10)) (mC (.int 9)))))
   (λi ρ q=>q=O/\∃f,ρ=[some (.int n),some (.int k),some (.int (it (λr=>r / 1000000000) i n)),f,none]) (gq 0 k.toNat) 0 [some (.int n),some (.int k),some (.int n),none,none] O ⟨rfl,none,rfl⟩ (by
    rintro i d ρ q hi ⟨rfl,f,rfl⟩;refine⟨_,rfl,?_⟩;simp;rw[show it (λr=>r / 1000000000) (i+1) n=it (λr=>r / 1000000000) i n / 1000000000 from rfl]
    exact⟨_,_,⟨rfl,rfl⟩,rfl,_,rfl⟩)
  rw[Ij,jk] at e
  have y:k<=1000000000/\-1000000000<=k:=by omega
  simp[yu,E,y,e]
 ·have x:0<=n % 2147483647+7919:=by have:=jt n (show(2147483647:Int)≠0 by decide);omega
  have u:n % 2147483647+7919<2147491566:=by have:=ju n (show(0:Int)<2147483647 by decide);omega
  obtain⟨C,q,e,rfl,f,rfl⟩:=uE (g:=mgN 3) (b:=aA 4 (ak bj (ak aF (ak dD (aa 4) (mC (.int 48271))) (mC (.int 104729))) (mC (.int 2147483629))))
   (λi ρ q=>q=O/\∃f,ρ=[some (.int n),some (.int k),none,f,some (.int (it (λm=>(m * 48271+104729) % 2147483629) i (n % 2147483647+7919)))]) (gq 0 (k+2).toNat) 0 [some (.int n),some (.int k),none,none,some (.int (n % 2147483647+7919))] O ⟨rfl,none,rfl⟩ (by
    rintro i d ρ q hi ⟨rfl,f,rfl⟩;refine⟨_,rfl,?_⟩;obtain⟨I,G⟩:=Ii i _ x u
    have:=uC (i:=it (λm=>(m * 48271+104729) % 2147483629) i (n % 2147483647+7919)) (j:=48271) (.inr ⟨by decide,by decide⟩)
    simp[this]
    rw[show it (λm=>(m * 48271+104729) % 2147483629) (i+1) (n % 2147483647+7919)=(it (λm=>(m * 48271+104729) % 2147483629) i (n % 2147483647+7919) * 48271+104729) % 2147483629 from rfl]
    exact⟨_,_,⟨rfl,rfl⟩,rfl,_,rfl⟩)
  rw[Ij,jk] at e
  have y:k+2<=1000000000/\-1000000000<=k+2:=by omega
  obtain⟨I,G⟩:=Ii (k+2).toNat _ x u;have F:=uC (i:=it (λm=>(m * 48271+104729) % 2147483629) (k+2).toNat (n % 2147483647+7919)) (j:=it (λm=>(m * 48271+104729) % 2147483629) (k+2).toNat (n % 2147483647+7919)) (.inl ⟨by omega,by omega⟩);simp[yu,E,y,e,F]
def dW(b:List Str)(f:Str)(d:D)(O:au):Res D:=match d with
 | .ob n=>match O[n]? with
  |some (.ins c fs)=>if c∈b then match fs.lookup f with
   |some y=>.ok y O
   |none=>.no else .no
  | _=>.no
 | _=>.no
@[simp] theorem Ik     :bu b f m ρ O=(m ρ O).bind (dW b f):=rfl
def puF(b:List Str)(f:Str)(d:D)(ρ:aR)(r:Res D):Fl:=match r with
 | .ok (.ob n) O2=>match O2[n]? with
  |some (.ins c fs)=>if c∈b/\fs.length<900 then .nx ρ (O2.set n (.ins c (putD f d fs))) else .no
  | _=>.no
 | _=>.no
def sfF(b:List Str)(f:Str)(mo:M D)(r:Res D)(ρ:aR):Fl:=match r with
 | .ok d O1=>puF b f d ρ (mo ρ O1)
 | .ex x O'=>.ex x O'
 | .no=>.no
@[simp] theorem yw     :bI d f mo b ρ O=sfF d f mo (b ρ O) ρ:=by
 unfold bI sfF puF
 cases b ρ O<;>rfl
@[simp] theorem yx      :sfF b f mo (.ok d O) ρ=puF b f d ρ (mo ρ O):=rfl
def meF(c m:Str)(cf:List D->au->Res D)(ma:au->Res (List D))(d:D)(O1:au):Res D:=match d with
 | .ob n=>match O1[n]? with
  |some (.ins c' fs)=>if c'=c/\(fs.lookup m).isNone=true then(ma O1).bind λb f=>cf (.ob n::b) f else .no
  | _=>.no
 | _=>.no
@[simp] theorem uH      :aU c m cf mo ma ρ O=(mo ρ O).bind (meF c m cf (ma ρ)):=rfl
def mkF(n:Nat)(r:Res D):Res D:=match r with
 | .ok .non O2=>.ok (.ob n) O2
 | .ok _ _=>.no
 | .ex x O2=>.ex x O2
 | .no=>.no
@[simp] theorem Il     :dj c cf ma ρ O=(ma ρ O).bind λds O1=>mkF O1.length (cf (.ob O1.length::ds) (O1++[.ins c []])):=by
 unfold dj;congr 1
@[simp] theorem Im  :mkF n (.ok .non O)=.ok (.ob n) O:=rfl
def apF(i:Nat)(r:Res D)(ρ:aR):Fl:=match r with
 | .ok d O'=>match ρ[i]? with
  |some (some (.lst ds))=>if ds.length<1000000 then .nx (ρ.set i (some (.lst (ds++[d])))) O' else .no
  | _=>.no
 | .ex x O'=>.ex x O'
 | .no=>.no
@[simp] theorem uI    :cW i m ρ O=apF i (m ρ O) ρ:=rfl
def uJ      (h:ρ[i]?=some (some (.lst ds)))(b:ds.length<1000000):apF i (.ok d O) ρ=.nx (ρ.set i (some (.lst (ds++[d])))) O:=by
 unfold apF;rw[h];dsimp ;rw[if_pos b]
def exF(i:Nat)(r:Res D)(ρ:aR):Fl:=match r with
 | .ok d O'=>match ρ[i]?,aY O' d with
  |some (some (.lst ds)),.lst es=>if ds.length+es.length<=1000000 then .nx (ρ.set i (some (.lst (ds++es)))) O' else .no
  | _,_=>.no
 | .ex x O'=>.ex x O'
 | .no=>.no
@[simp] theorem Io    :gC i m ρ O=exF i (m ρ O) ρ:=rfl
def Ip     (h:ρ[i]?=some (some (.lst ds)))(b:ds.length+es.length<=1000000):exF i (.ok (.lst es) O) ρ=.nx (ρ.set i (some (.lst (ds++es)))) O:=by
 unfold exF;rw[h];dsimp ;rw[if_pos b]
def enF(d:D)(O1:au):Res (List D):=match d with
 | .lst ds=>.ok (cV 0 ds) O1
 | .str l=>if ascii l=true then .ok (cV 0 (cB l)) O1 else .no
 | _=>.no
@[simp] theorem QDF   :qm m ρ O=(m ρ O).bind enF:=rfl
def Ir   (h:ascii l=true):enF (.str l) O=.ok (cV 0 (cB l)) O:=by
 show(if ascii l=true then _ else _)=_;rw[if_pos h]
def asF(r:Res D)(g:MG)(ρ:aR):Fl:=match r with
 | .ok d O'=>match g d ρ with
  |some b=>.nx b O'
  |none=>.no
 | .ex x O'=>.ex x O'
 | .no=>.no
@[simp] theorem yz    :jC m g ρ O=asF (m ρ O) g ρ:=rfl
def yC     (h:g d ρ=some ρ'):asF (.ok d O) g ρ=.nx ρ' O:=by
 unfold asF;dsimp ;rw[h]
@[simp] theorem Iu   :dg 2 (bF (mgN i) (bF (mgN j) dC)) (.tup [a,b]) ρ=some ((ρ.set i (some a)).set j (some b)):=rfl
def stF(a b:D)(O:au):Res D:=match a,b with
 | .str l,.str n=>.ok (.bl (decide (l.take n.length=n))) O
 | _,_=>.no
@[simp] theorem QCm   :tW a b ρ O=(a ρ O).bind λx O1=>(b ρ O1).bind λy d=>stF x y d:=rfl
@[simp] theorem QEo  :stF (.str l) (.str n) O=.ok (.bl (decide (l.take n.length=n))) O:=rfl
theorem Iv   (d:Nat->aR->au->Prop):∀(n:Nat) (k:Nat) (ρ:aR) (O:au),k<n->d k ρ O ->
  (∀k ρ O,d (k+1) ρ O->t ρ O=.ok true O/\∃j ρ2 f,j<=k/\b ρ O=.nx ρ2 f/\d j ρ2 f)->(∀ρ O,d 0 ρ O->t ρ O=.ok false O)->∃ρ' O',dh t b n ρ O=.nx ρ' O'/\d 0 ρ' O'
 | 0,k,ρ,O,hk,_,_,_=>absurd hk (Nat.not_lt_zero _)
 |n+1,0,ρ,O,_,h,_,h0=>by
  refine⟨ρ,O,?_,h⟩;unfold dh;rw[h0 ρ O h]
 |n+1,k+1,ρ,O,hk,h,hs,h0=>by
  obtain⟨u,j,ρ2,f,x,q,h2⟩:=hs k ρ O h;obtain⟨ρ',O',m,h3⟩:=Iv d n j ρ2 f (by omega) h2 hs h0;refine⟨ρ',O',?_,h3⟩;unfold dh;rw[u];dsimp only;rw[q];exact m
theorem iK{α:Type}{g:MG}{t:M Bool}{m:M D}(d:aR->Prop)(f h:α->D):∀(xs:List α) (ρ:aR) (O:au) (b:List D),d ρ->(∀x∈xs,∀ρ,d ρ->∃ρ1,g (f x) ρ=some ρ1/\d ρ1/\t ρ1 O=.ok true O/\m ρ1 O=.ok (h x) O)->cG g t m (xs.map f) ρ O b=.ok (b++xs.map h) O
 | [],ρ,O,b,_,_=>by simp
 |x::xs,ρ,O,b,hp,hs=>by
  obtain⟨ρ1,y,h1,u,q⟩:=hs x zd ρ hp;rw[zg];unfold cG;rw[y]
  dsimp
  rw[u]
  dsimp
  rw[q]
  dsimp
  rw[iK d f h xs _ O _ h1 λC j=>hs C (zp _ j)];simp
def jP:List Nat:=[101,110,100]
def mU:List Nat:=[97,110,101,119]
def jQ:List Nat:=[112,108,97,105,110]
def bG:List Nat:=[115,105,103,110]
def eG:List Nat:=[105,110,107]
def fc:List Nat:=[103,114,111,117,110,100]
def item(p:Int)(k v:List Nat):D:=.tup [.int p,.str k,.str v]
def col(c:Nat):Bool:=decide (c∈[97,98,99,100,101,102,103,104,46])
def mV  (h:col c=true):c≠91/\c≠93/\c≠47/\c≠10/\c≠9:=by
 have :=zW h
 have q:∀c∈[97,98,99,100,101,102,103,104,46],c≠91/\c≠93/\c≠47/\c≠10/\c≠9:=by decide
 exact q c this
def fj(x:Nat):List Nat->List Nat×List Nat×Nat
 | []=>(bG,[91],0)
 |e::_=>if e=93 then(fc,[x],3) else(bG,[91],0)
def eO:List Nat->List Nat×List Nat×Nat
 | []=>(bG,[91],0)
 |x::t=>if col x=true then fj x t else(bG,[91],0)
def gG(x:Nat):List Nat->List Nat×List Nat×Nat
 | []=>(bG,[91],0)
 |e::_=>if e=93 then(eG,[x],2) else(bG,[91],0)
def cu:List Nat->List Nat×List Nat×Nat
 | []=>(bG,[91],0)
 |d::t=>if d=93 then(jQ,[],1) else if d=91 then(bG,[91],1) else if col d=true then gG d t else if d=47 then eO t else(bG,[91],0)
def one(c:Nat)(t:List Nat):List Nat×List Nat×Nat :=
 if c=10 then(jP,[],0) else if c=9 then(mU,[],0) else if c=91 then cu t else(bG,[c],0)
def items(p:Int):List Nat->List D
 | []=>[]
 |c::t=>item p (one c t).1 (one c t).2.1::items (p+((one c t).2.2+1:Nat)) (t.drop (one c t).2.2)
termination_by l=>l.length
decreasing_by
 simp only[List.length_drop,zA];omega
def jR(p:Int):items p []=[]:=by rw[items]
def oO(p:Int)(c:Nat)(t:List Nat):items p (c::t)=item p (one c t).1 (one c t).2.1::items (p+((one c t).2.2+1:Nat)) (t.drop (one c t).2.2):=by rw[items]
def own(p:Int)(c:Nat):D:=if c=10 then item p jP [] else if c=9 then item p mU [] else item p bG [c]
def owns:Int->List Nat->List D
 | _,[]=>[]
 |p,c::l=>own p c::owns (p+1) l
def dM    (h:c≠91):items p (c::t)=own p c::items (p+1) t:=by
 rw[oO];unfold one own
 by_cases h1:c=10
 ·simp[h1]
 ·by_cases h2:c=9
  ·simp[h2]
  ·simp[h1,h2,h]
def gW   (h:cu t=(bG,[91],0)):items p (91::t)=own p 91::items (p+1) t:=by
 rw[oO]
 have:one 91 t=(bG,[91],0):=h
 rw[this];rfl
def uK     (h:cu t=(k,v,n)):items p (91::t)=item p k v::items (p+(n+1:Nat)) (t.drop n):=by
 rw[oO]
 have:one 91 t=(k,v,n):=h
 rw[this]
def bh:List Nat->Bool
 | [a]=>decide (a=91)
 | [a,b]=>decide (a=91)&&(decide (b=47) || col b)
 | [a,b,c]=>decide (a=91)&&(decide (b=47)&&col c)
 | _=>false
def markB:List Nat->Option (List Nat×List Nat)
 | [a,b]=>if a=91/\b=93 then some (jQ,[]) else if a=91/\b=91 then some (bG,[91]) else none
 | [a,b,c]=>if a=91/\col b=true/\c=93 then some (eG,[b]) else none
 | [a,b,c,d]=>if a=91/\b=47/\col c=true/\d=93 then some (fc,[c]) else none
 | _=>none
def tk(h:List Nat)(c:Nat)(p:Int):List D×List Nat :=
 if bh (h++[c])=true then([],h++[c]) else match markB (h++[c]) with
 |some (k,v)=>([item p k v],[])
 |none=>if c=91 then(owns p h,[91]) else(owns p (h++[c]),[])
inductive bM:List Nat->Prop where
 | h0:bM []
 | h1:bM [91]
 | h2:bM [91,47]
 | h3 (x:Nat) (h:col x=true):bM [91,x]
 | h4 (x:Nat) (h:col x=true):bM [91,47,x]
def bM.len  (H:bM h):h.length<=3:=by cases H<;>simp
def qP:col 91=false:=by decide
def yD:col 93=false:=by decide
theorem fB:col 47=false:=by decide
def Iw  (H:bM h)(c:Nat)(p:Int)(rest:List Nat):
  bM (tk h c p).2/\items p (h++c::rest)=(tk h c p).1++items (p+h.length+1 - (tk h c p).2.length) ((tk h c p).2++rest):=by
 cases H with
 |h0 =>
  by_cases h1:c=91
  ·subst h1;refine⟨bM.h1,?_⟩;simp[tk,bh]
  ·have:tk [] c p=([own p c],[]):=by simp[tk,bh,markB,h1,owns]
   rw[this];refine⟨bM.h0,?_⟩;simp[dM h1]
 |h1 =>
  by_cases h2:c=93
  ·subst h2
   have:tk [91] 93 p=([item p jQ []],[]):=by simp[tk,bh,markB,yD]
   rw[this];refine⟨bM.h0,?_⟩;show items p (91::93::rest)=_;rw[uK (k:=jQ) (v:=[]) (n:=1) rfl];simp[Int.add_assoc]
  ·by_cases h1:c=91
   ·subst h1
    have:tk [91] 91 p=([item p bG [91]],[]):=by simp[tk,bh,markB,qP]
    rw[this];refine⟨bM.h0,?_⟩;show items p (91::91::rest)=_;rw[uK (k:=bG) (v:=[91]) (n:=1) rfl];simp[Int.add_assoc]
   ·by_cases h3:c=47
    ·subst h3
     have:tk [91] 47 p=([],[91,47]):=by simp[tk,bh]
     rw[this];exact⟨bM.h2,by simp;congr 1;omega⟩
    ·by_cases h4:col c=true
     ·have:tk [91] c p=([],[91,c]):=by simp[tk,bh,h4]
      rw[this];exact⟨bM.h3 c h4,by simp;congr 1;omega⟩
     ·have:tk [91] c p=([own p 91,own (p+1) c],[]):=by simp[tk,bh,markB,h1,h2,h3,h4,owns]
      rw[this];refine⟨bM.h0,?_⟩;show items p (91::c::rest)=_;rw[gW (by simp[cu,h1,h2,h3,h4]),dM h1];simp
 |h2 =>
  by_cases h4:col c=true
  ·have:tk [91,47] c p=([],[91,47,c]):=by simp[tk,bh,h4]
   rw[this];exact⟨bM.h4 c h4,by simp;congr 1;omega⟩
  ·by_cases h1:c=91
   ·subst h1
    have:tk [91,47] 91 p=([own p 91,own (p+1) 47],[91]):=by simp[tk,bh,markB,fB,qP,owns]
    rw[this];refine⟨bM.h1,?_⟩;show items p (91::47::91::rest)=_;rw[gW (by simp[cu,eO,fB,qP]),dM (by decide)];simp;congr 1;omega
   ·have:tk [91,47] c p=([own p 91,own (p+1) 47,own (p+1+1) c],[]):=by simp[tk,bh,markB,h1,h4,fB,owns]
    rw[this];refine⟨bM.h0,?_⟩;show items p (91::47::c::rest)=_;rw[gW (by simp[cu,eO,fB,h4]),dM (by decide),dM h1];simp;congr 1;omega
 |h3 x hx =>
  obtain⟨b,d,f,m,j⟩:=mV hx
  by_cases h2:c=93
  ·subst h2
   have:tk [91,x] 93 p=([item p eG [x]],[]):=by simp[tk,bh,markB,yD,hx]
   rw[this];refine⟨bM.h0,?_⟩;show items p (91::x::93::rest)=_;rw[uK (k:=eG) (v:=[x]) (n:=2) (by simp[cu,gG,b,d,hx])];simp;congr 1;omega
  ·by_cases h1:c=91
   ·subst h1
    have:tk [91,x] 91 p=([own p 91,own (p+1) x],[91]):=by simp[tk,bh,markB,f,owns]
    rw[this];refine⟨bM.h1,?_⟩;show items p (91::x::91::rest)=_;rw[gW (by simp[cu,gG,b,d,hx]),dM b];simp;congr 1;omega
   ·have:tk [91,x] c p=([own p 91,own (p+1) x,own (p+1+1) c],[]):=by simp[tk,bh,markB,h1,h2,f,owns]
    rw[this];refine⟨bM.h0,?_⟩;show items p (91::x::c::rest)=_;rw[gW (by simp[cu,gG,b,d,hx,h2]),dM b,dM h1];simp;congr 1;omega
 |h4 x hx =>
  obtain⟨b,d,f,m,j⟩:=mV hx
  by_cases h2:c=93
  ·subst h2
   have:tk [91,47,x] 93 p=([item p fc [x]],[]):=by simp[tk,bh,markB,hx]
   rw[this];refine⟨bM.h0,?_⟩;show items p (91::47::x::93::rest)=_;rw[uK (k:=fc) (v:=[x]) (n:=3) (by simp[cu,eO,fj,fB,hx])];simp;congr 1;omega
  ·by_cases h1:c=91
   ·subst h1
    have:tk [91,47,x] 91 p=([own p 91,own (p+1) 47,own (p+1+1) x],[91]):=by simp[tk,bh,markB,owns]
    rw[this];refine⟨bM.h1,?_⟩;show items p (91::47::x::91::rest)=_;rw[gW (by simp[cu,eO,fj,fB,hx]),dM (by decide),dM b];simp;congr 1;omega
   ·have:tk [91,47,x] c p=([own p 91,own (p+1) 47,own (p+1+1) x,own (p+1+1+1) c],[]):=by simp[tk,bh,markB,h1,h2,owns]
    rw[this];refine⟨bM.h0,?_⟩;show items p (91::47::x::c::rest)=_;rw[gW (by simp[cu,eO,fj,fB,hx,h2]),dM (by decide),dM b,dM h1];simp;congr 1;omega
def QpR  (H:bM h)(p:Int):items p h=owns p h:=by
 cases H with
 |h0=>rw[jR];rfl
 |h1=>rw[gW rfl,jR];rfl
 |h2=>rw[gW rfl,dM (by decide),jR];rfl
 |h3 x hx =>
  obtain⟨b,d⟩:=mV hx;rw[gW (by simp[cu,gG,b,d]),dM b,jR];rfl
 |h4 x hx =>
  obtain⟨b⟩:=mV hx;rw[gW (by simp[cu,eO,fj,fB]),dM (by decide),dM b,jR];rfl
def aO:List Nat->Int->List Nat->List D×List Nat
 |h,_,[]=>([],h)
 |h,p,c::t=>((tk h c (p - h.length)).1++(aO (tk h c (p - h.length)).2 (p+1) t).1,(aO (tk h c (p - h.length)).2 (p+1) t).2)
theorem Iz:∀(t:List Nat) {h:List Nat} (_:bM h) (p:Int) (rest:List Nat),bM (aO h p t).2/\items (p - h.length) (h++(t++rest))=(aO h p t).1++items (p+t.length - (aO h p t).2.length) ((aO h p t).2++rest)
 | [],h,H,p,rest=>⟨H,by simp[aO]⟩
 |c::t,h,H,p,rest=>by
  obtain⟨a,b⟩:=Iw H c _ _;obtain⟨a2,f⟩:=Iz t a _ _;refine⟨a2,?_⟩;show items _ (h++c::(t++rest))=_;rw[b]
  have e:p - h.length+h.length+1 - (tk h c (p - h.length)).2.length=p+1 - (tk h c (p - h.length)).2.length:=by omega
  rw[e,f];show _=(tk h c _).1++(aO _ _ t).1++items (p+(c::t).length - (aO _ _ t).2.length) ((aO _ _ t).2++rest);rw[zD]
  have d:p+1+t.length=p+(c::t).length:=by simp;omega
  rw[d]
def Qxd(t:List Nat):bM (aO [] 0 t).2/\items 0 t=(aO [] 0 t).1++owns (t.length - (aO [] 0 t).2.length) (aO [] 0 t).2:=by
 obtain⟨a,b⟩:=Iz t bM.h0 0 [];refine⟨a,?_⟩;simp at b;rw[b,QpR a]
@[simp] theorem Qwu :jE [.lst l]=some (.lst l):=rfl
def fzF(f:Fl):Fl:=match f with
 | .rt d O'=>.rt d O'
 | _=>.no
@[simp] theorem QEf   :jG m ρ O=fzF (m ρ O):=rfl
@[simp] theorem QDR  :fzF (.rt d O)=.rt d O:=rfl
def ziF(d e:D)(O:au):Res (List D):=match d,e with
 | .lst ds,.lst es=>.ok (tZ ds es) O
 | _,_=>.no
@[simp] theorem QD8   :GP ma mb ρ O=(ma ρ O).bind λd O1=>(mb ρ O1).bind λe b=>ziF d e b:=by
 unfold GP;congr 1
@[simp] theorem QD9  :ziF (.lst ds) (.lst es) O=.ok (tZ ds es) O:=rfl
end L2
namespace L2
open PySem
def fC(h:a ρ O=.nx ρ' O'):aq a b ρ O=b ρ' O':=by rw[cX,h,gU]
def cR(h:m ρ O=.rt d O'):msN m ρ O=.rt d O':=by unfold msN;rw[h]
end L2
namespace K51
open PySem L2
seal VE SE OE WE TsE TwE AE VS VSs VG VGs VI VIc VO VIf DPE
noncomputable def top(i:Nat):Stmt:=PySem.Challenge.pw_outweave_k51_heads_and_numbers.main.body.getD i (.Pass ⟨0,0,0,0⟩)
abbrev QrY:=top 16
abbrev IK:=top 17
abbrev Qou:=top 18
abbrev Qr7:=top 19
abbrev Qsm:=top 21
abbrev QiD:=top 22
abbrev QqB:=top 23
abbrev IV:=top 24
abbrev Qiz:=inClass (top 25) 0
abbrev Qmc:=inClass (top 25) 4
abbrev Ql4:=inClass (top 25) 1
abbrev Qkv:=inClass (top 25) 3
abbrev Qrz:=top 26
abbrev Ql7:=top 29
abbrev QqD:=top 31
abbrev Qoo:=top 32
abbrev QiF:=inClass (top 35) 5
abbrev Qjs:=inClass (top 35) 0
abbrev QnX:=inClass (top 35) 8
abbrev Qhp:=inClass (top 35) 6
abbrev Qhs:=inClass (top 35) 7
abbrev Qob:=inClass (top 35) 1
abbrev Qjw:=inClass (top 35) 3
abbrev QkD:=inClass (top 35) 4
abbrev Qj7:=inClass (top 37) 0
abbrev QgT:=inClass (top 37) 5
abbrev QkU:=inClass (top 37) 6
abbrev Qod:=inClass (top 37) 1
abbrev Qn2:=inClass (top 37) 2
abbrev QrQ:=top 38
abbrev Qn6:=top 40
abbrev IW:=top 41
abbrev Qn4:=top 44
abbrev uL:=top 45
abbrev Qj0:=inClass (top 54) 2
abbrev Ja:=inClass (top 54) 3
abbrev Qp9:=top 52
abbrev Qkg:=top 53
abbrev Qhy:=inClass (top 54) 4
abbrev Qlf:=inClass (top 54) 5
abbrev Qmd:=top 46
abbrev Qs6:=top 47
abbrev Jb:=top 48
abbrev Qht:=inClass (top 54) 1
abbrev Qui:=top 49
abbrev Jc:=top 51
abbrev Qjp:=inClass (top 54) 0
abbrev QmZ:=top 55
abbrev Qun:=top 56
abbrev Ql3:=top 59
abbrev QkM:=top 60
abbrev Jd:=top 61
abbrev Je:=inClass (top 62) 0
abbrev QjN:=inClass (top 62) 5
abbrev Qon:=inClass (top 62) 1
abbrev Qnz:=inClass (top 62) 2
abbrev Qjo:=inClass (top 62) 3
abbrev Qqk:=top 64
abbrev Qsq:=top 65
abbrev Qoy:=top 66
abbrev Qoa:=top 67
abbrev QpI:=top 68
abbrev Qoc:=top 69
abbrev Qmb:=top 70
abbrev Qqm:=top 71
abbrev Qox:=top 72
abbrev qQ:=top 73
abbrev Jf:=top 74
abbrev Qp6:=top 75
abbrev Qn3:=top 76
abbrev Qj2:=top 77
abbrev Qoz:=top 78
abbrev Qjr:=top 79
abbrev Qqn:=top 80
abbrev gY:=top 81
structure Fc(Pr:Program)(w:World)(K:Frag)(mg:Str->Option Value)(base:Heap):Prop where
 f0:Def K mg "is_sign" QrY
 B:ZG mg
 NK:lA K=true
 f3:∃u,mg "FIRST_SIGN" = some u/\RelV (.str (S [32])) u
 f4:∃u,mg "LAST_SIGN" = some u/\RelV (.str (S [125])) u
 f5:Def K mg "is_name" IK
 f6:∃u,mg "LONGEST_NAME" = some u/\RelV (.int 8) u
 f7:Def K mg "is_colour" Qou
 f8:∃u,mg "COLOURS" = some u/\RelV (.str (S [97,98,99,100,101,102,103,104,46])) u
 f9:Def K mg "checked" Qr7
 f10:∃u,mg "ANEW_SIGN" = some u/\RelV (.str (S [9])) u
 f11:∃u,mg "ROW_END" = some u/\RelV (.str (S [10])) u
 f12:Def K mg "mark_of" Qsm
 f13:Def K mg "may_become_mark" QiD
 f14:Def K mg "own_item" QqB
 f15:Def K mg "own_items" IV
 f16:oA K mg "Reader" "Reader.__init__" Qiz
 f17:KC K mg "Reader" "held"
 f18:KC K mg "Reader" "place"
 f19:cJ K mg "Reader" "take" "Reader.take" Qmc
 f20:cJ K mg "Reader" "feed" "Reader.feed" Ql4
 f21:cJ K mg "Reader" "finish" "Reader.finish" Qkv
 f22:Def K mg "written" Qrz
 f23:Def K mg "pair_behind" Ql7
 f24:t7 K mg "PLAIN" [[46],[46]]
 f25:Def K mg "is_whole" QqD
 f26:Def K mg "is_within" Qoo
 f27:cJ K mg "Maker" "begin_row" "Maker.begin_row" QiF
 f28:KC K mg "Maker" "letters"
 f29:KC K mg "Maker" "pair"
 f30:KC K mg "Maker" "stale"
 f31:oA K mg "Maker" "Maker.__init__" Qjs
 f32:∃u,mg "GREATEST_MOST" = some u/\RelV (.int 200) u
 f33:KC K mg "Maker" "most"
 f34:KC K mg "Maker" "last_word"
 f35:cJ K mg "Maker" "tell" "Maker.tell" QnX
 f36:cJ K mg "Maker" "empty_stale" "Maker.empty_stale" Qhp
 f37:cJ K mg "Maker" "add_letter" "Maker.add_letter" Qhs
 f38:cJ K mg "Maker" "put" "Maker.put" Qob
 f39:cJ K mg "Maker" "going_on" "Maker.going_on" Qjw
 f40:cJ K mg "Maker" "finish" "Maker.finish" QkD
 f41:oA K mg "Hand" "Hand.__init__" Qj7
 f42:KC K mg "Hand" "name"
 f43:KC K mg "Hand" "reader"
 f44:KC K mg "Hand" "maker"
 f45:KC K mg "Hand" "closed"
 f46:cJ K mg "Hand" "refuse_closed" "Hand.refuse_closed" QgT
 f47:cJ K mg "Hand" "put_all" "Hand.put_all" QkU
 f48:cJ K mg "Hand" "feed" "Hand.feed" Qod
 f49:cJ K mg "Hand" "close" "Hand.close" Qn2
 f50:Def K mg "of_name" QrQ
 f51:Def K mg "shown_ink" Qn6
 f52:Def K mg "look" IW
 f53:Def K mg "cost_over" Qn4
 f54:Def K mg "least_cost" uL
 f55:cJ K mg "Leaps" "last_at" "Leaps.last_at" Qj0
 f56:KC K mg "Leaps" "look"
 f57:cJ K mg "Leaps" "nodes_at" "Leaps.nodes_at" Ja
 f58:KC K mg "Leaps" "inks"
 f59:Def K mg "marks_to" Qp9
 f60:Def K mg "marks_between" Qkg
 f61:cJ K mg "Leaps" "moves_from" "Leaps.moves_from" Qhy
 f62:cJ K mg "Leaps" "is_end" "Leaps.is_end" Qlf
 f63:Def K mg "price_nodes" Qmd
 f64:Def K mg "priced" Qs6
 f65:Def K mg "first_cheapest" Jb
 f66:cJ K mg "Leaps" "first_node" "Leaps.first_node" Qht
 f67:Def K mg "way_of" Qui
 f68:Def K mg "colours_of" Jc
 f69:oA K mg "Leaps" "Leaps.__init__" Qjp
 f70:Def K mg "shaded_way" QmZ
 f71:Def K mg "shaded" Qun
 f72:Def K mg "check_names" Ql3
 f73:∃u,mg "MOST_HANDS" = some u/\RelV (.int 6) u
 f74:Def K mg "number_ahead" QkM
 f75:Def K mg "head_of" Jd
 f76:yj K mg "Roll" "Roll.__init__" Je #[(.bool false)]
 f77:KC K mg "Roll" "names"
 f78:KC K mg "Roll" "numbered"
 f79:KC K mg "Roll" "rows"
 f80:KC K mg "Roll" "hands"
 f81:cJ K mg "Roll" "add_rows" "Roll.add_rows" QjN
 f82:cJ K mg "Roll" "feed" "Roll.feed" Qon
 f83:cJ K mg "Roll" "close" "Roll.close" Qnz
 f84:cJ K mg "Roll" "told_rows" "Roll.told_rows" Qjo
 f85:Def K mg "_law_cell" Qqk
 f86:Def K mg "_law_mix" Qsq
 f87:Def K mg "_law_signs" Qoy
 f88:Def K mg "_law_token" Qoa
 f89:Def K mg "_law_item" QpI
 f90:Def K mg "_law_items" Qoc
 f91:Def K mg "_law_is_held" Qmb
 f92:Def K mg "_law_sure" Qqm
 f93:Def K mg "_law_parts" Qox
 f94:Def K mg "_law_names" qQ
 f95:Def K mg "_law_look" Jf
 f96:Def K mg "_law_told" Qp6
 f97:Def K mg "_law_shown" Qn3
 f98:Def K mg "_law_row_right" Qj2
 f99:Def K mg "_law_piece" Qoz
 f100:Def K mg "_law_rows_right" Qjr
 f101:Def K mg "_law_long" Qqn
 f102:Def K mg "law" gY
local macro_rules | `(tactic| trivial) => `(tactic| exact ⟨rfl, rfl, rfl, by decide +kernel, rfl, by decide +kernel, by decide +kernel⟩)
set_option hygiene false
local macro_rules | `(tactic| left) => `(tactic| first|exact kE|exact iz|exact Ht|exact QCD|(intro _ _ _ _ _ _;repeat first|exact xN rfl|refine lr fun _ => ?_)|exact zn|exact .inl rfl|exact .inr rfl|exact X8|(show (bH _ _ _).Nodup;decide +kernel)|(refine Yb ‹_› ?_;left))
local macro_rules | `(tactic| symm) => `(tactic| repeat' first|(show VE _ _ _ _ _;first|(show VE _ _ _ (.Name _ _) _;first|exact Vd _|exact Ff ‹_› (fun _ _ _ => Rp.str)|exact Qs5 (by assumption)|exact Ff ‹_› (fun _ _ _ => Rp.int))|(show VE _ _ _ (.Constant _ _ _) _;first|exact Vh|exact Vk _|exact Vi|exact Vj)|(show VE _ _ _ (.Subscript _ _ _) _;first|refine WT ?_ ?_|refine Qw8 NK zr ?_ ?_|refine YW zr ?_ ?_)|(show VE _ _ _ (.Call _ _ _ _) _;first|refine Yh ‹_› (zr.mono (by decide)) ?_|refine Ym ‹_› (zr.mono (by decide)) ?_|refine XS ‹_› (zr.mono (by decide)) ?_|refine Yk ‹_› (zr.mono (by decide)) ?_ ?_|exact XX ‹_› (zr.mono (by decide))|exact Yj ‹_› (zr.mono (by decide))|refine QsV ‹_› (zr.mono (by decide)) ?_|refine QuH (ms:=[.s]) rfl B.dict_ ?_)|(show VE _ _ _ (.Tuple _ _ _) _;refine QwH ?_)|(show VE _ _ _ (.Attribute _ _ _) _;refine XM (by left) ?_)|(show VE _ _ _ (.BoolOp _ _ _) _;first|refine VL ?_ ?_|refine VJ ?_)|(show VE _ _ _ (.IfExp _ _ _ _) _;refine VP ?_ ?_ ?_)|(show VE _ _ _ (.Dict _ _ _) _;first|exact Qtr|exact YS)|(show VE _ _ _ (.UnaryOp _ _ _) _;refine VM ?_)|refine Yp ?_|refine wW ?_|refine Vg ?_)|(show SE _ _ _ _ _;first|(show SE _ _ _ (.Name _ _) _;exact Vc _)|refine Ve ?_)|(show AE _ _ _ _ _ _;first|exact Fg|refine Fj ?_ ?_|refine Vl ?_ ?_)|(show VSs _ _ _ _ _ _;first|refine V0 ?_ ?_|refine V1 ?_|exact VR)|(show VS _ _ _ _ _ _;first|refine V5 ?_|refine V9 (by left) rfl (by left) ?_|refine V8 ?_ ?_ ?_|refine XN (by left) ?_ ?_|refine Wa (by left) rfl (by left) ?_|refine Wi rfl ?_ ?_ ?_|exact V7 _|exact V3|refine V4 ?_|refine Xy _ ?_|refine Yq ?_ ?_|refine XJ _ ?_ ?_|refine XD _ ?_|refine QvF NK zr ?_ ?_ ?_|refine Wg ?_ ?_|refine Fz _ ?_ ?_|refine YT zr ?_ ?_ ?_|refine Fz wF ?_ ?_|refine QtO _ ?_|refine ZJ ?_ ?_|exact Y0 _|exact V2|exact XH _|refine Yr ?_|refine V6 ?_)|(show OE _ _ _ _ _;first|(show OE _ _ _ (.BinOp _ .Add _ _) _;refine nW Wt ?_ ?_)|(show OE _ _ _ (.List _ _) _;refine QwL ?_)|(show OE _ _ _ (.Call _ _ _ _) _;first|refine xA (ms:=[.s]) (hv:=W8) W2 B.len_ ?_|refine Yl ‹_› (zr.mono (by decide)) ?_ ?_|refine Yi ‹_› (zr.mono (by decide)) ?_|refine tO "str" (hb:=Gp) B.isinstance_ B.str_ ?_|refine Yn ‹_› (zr.mono (by decide)) ?_|refine xB (ms:=[.s]) (hv:=Gn) W5 B.int_ ?_|refine xB (ms:=[.s]) (hv:=Gq) W6 B.list_ ?_|refine Xw ?_ ?_|refine Xv ?_|refine tO "list" (hb:=Gq) B.isinstance_ B.list_ ?_|refine xB (ms:=[.s]) (hv:=Gp) Yv B.str_ ?_|refine xA (ms:=[.s]) (hv:=W9) (Y5 rfl) B.max_ ?_|refine xA (ms:=[.s]) (hv:=Xa) (W7 rfl) B.all_ ?_|refine tO "int" (hb:=Gn) B.isinstance_ B.int_ ?_|refine tO "bool" (hb:=Xb) B.isinstance_ B.bool_ ?_|refine YC rfl B.min_ ?_|refine ZF (ms:=[.s]) rfl B.sorted_ B.set_ ?_|refine Qta ?_ ?_)|(show OE _ _ _ (.BinOp _ .Mod _ _) _;refine nW Ww ?_ ?_)|(show OE _ _ _ (.Subscript _ _ _) _;refine W0 ?_ ?_ ?_)|(show OE _ _ _ (.Compare _ [.Eq] _ _) _;refine wY (Gf zr) ?_ ?_ (nM _))|(show OE _ _ _ (.BinOp _ .Sub _ _) _;refine nW Wu ?_ ?_)|(show OE _ _ _ (.BinOp _ .Mult _ _) _;refine nW Wv ?_ ?_)|(show OE _ _ _ (.Compare _ _ _ _) _;refine Vo tK tK ?_ ?_ ?_)|(show OE _ _ _ (.Compare _ [.In] _ _) _;refine wY Gk ?_ ?_ (by with_unfolding_all rfl))|(show OE _ _ _ (.UnaryOp _ _ _) _;refine WD ?_)|(show OE _ _ _ (.BinOp _ .Pow _ _) _;refine nW Wz ?_ ?_)|(show OE _ _ _ (.BinOp _ .FloorDiv _ _) _;refine nW Wx ?_ ?_)|(show OE _ _ _ (.Compare _ [.Gt] _ _) _;refine wY Ga ?_ ?_ (nM _))|refine Vf ?_)|(show TsE _ _ _ _ _;first|(show TsE _ _ _ (.Compare _ [.Eq] _ _) _;refine nY (Gf zr) ?_ ?_ (nM _))|(show TsE _ _ _ (.UnaryOp _ _ _) _;refine VF ?_)|(show TsE _ _ _ (.Compare _ [.Lt] _ _) _;refine nY WK ?_ ?_ (nM _))|(show TsE _ _ _ (.Compare _ [.NotEq] _ _) _;refine nY (WN zr) ?_ ?_ (nM _))|(show TsE _ _ _ (.Compare _ [.Gt] _ _) _;refine nY Ga ?_ ?_ (nM _))|(show TsE _ _ _ (.Compare _ _ _ _) _;first|refine Vt ?_|refine Vs ?_|refine YZ zr ?_ ?_|refine Vp tK tK ?_ ?_ ?_)|(show TsE _ _ _ (.Compare _ [.In] _ _) _;refine nY Gk ?_ ?_ (by with_unfolding_all rfl))|(show TsE _ _ _ (.Compare _ [.NotIn] _ _) _;refine nY WQ ?_ ?_ (by with_unfolding_all rfl))|refine Vu ?_|refine VD ?_)|(show VG _ _ _ _ _;first|(show VG _ _ _ (.Name _ _) _;exact Wb (by left) rfl (by left))|(show VG _ _ _ (.Tuple _ _ _) _;refine Wf _ rfl ?_))|(show TwE _ _ _ _ _;(show TwE _ _ _ (.BoolOp _ _ _) _;first|refine Vz ?_ ?_|refine VB ?_ ?_|refine Vy ?_|refine Vx ?_))|(show VO _ _ _ _ _;first|refine WX ?_|exact WW)|(show VGs _ _ _ _ _;first|refine We ?_ ?_|exact Wc)|(show VI _ _ _ _ _ _;first|refine X3 ?_|refine Xq B.range_ ?_|refine X6 B.enumerate_ ?_|refine Qzy ?_|refine YJ B.range_ ?_)|(show VIf _ _ _ _ _;first|exact Wk|refine Wl ?_)|(show VIc _ _ _ _ _ _;first|refine X5 ?_|refine xg ?_)|(show WE _ _ _ _ _;first|(show WE _ _ _ (.Name _ _) _;exact Xn _)|refine Xm ?_))
local macro_rules | `(tactic| exists $d, $n, $l) => `(tactic| (have B:=G.B;have NK:=G.NK;(first|refine Wm $d (N:=$n) (by trivial) (by left) _ $l (by left) (by left) (body:=fun f cdv A outer s H E zr P => ?_)|refine XQ $d (N:=$n) (by trivial) (by left) _ $l (by left) (by left) (body:=fun f cdv A outer s H E zr P => ?_)|refine XR $d (N:=$n) (by trivial) (by left) _ $l (by left) (by left) (body:=fun f cdv A outer s H E zr P => ?_));have zn:List.Nodup (($n):List Str):=(by decide +kernel);symm))
def Ql0:fK ["moves","prices","costs"] ["moves","prices"] (bf uL):=by trivial
def Jg:fK ["self","names","most","numbered","name"] ["self","names","most","numbered"] (bf Je):=by trivial
def Jh:fK ["_law_cell_here","_law_many","_law_letters","_law_base","_law_names_here","_law_size","_law_at","_law_first"] ["_law_cell_here","_law_many"] (bf qQ):=by trivial
def Qy7:fK ["_law_script","_law_cell_here","_law_names_here","_law_most","_law_numbered","_law_roll","_law_wide","_law_texts","_law_ended","_law_every","_law_one","_law_left","_law_name","_law_ahead","_law_rows","_law_parts_here"] ["_law_script"] (bf gY):=by trivial
section
variable {Pr:Program}{w:World}{K:Frag}{mg:Str->Option Value}{base:Heap}(G:Fc Pr w K mg base)
include G
abbrev ZV(_:Fc Pr w K mg base)(x:Str)(ps:List Str)(k:Nat)(ms:List Md)(c:List D->au->Res D):Prop:=Can Pr w K mg base x ps k (vSp K mg ms (rV K) c)
abbrev ZO(_:Fc Pr w K mg base)(x:Str)(ps:List Str)(k:Nat)(ms:List Md)(c:List D->au->Res D):Prop:=Can Pr w K mg base x ps k (vSp K mg ms (rO K) c)
abbrev lE(_:Fc Pr w K mg base)(x y:Str)(ps:List Str)(k:Nat)(ms:List Md)(c:List D->au->Res D):Prop:=iG Pr w K mg base x y ps k (vSp K mg ms (rV K) c)
abbrev eQ(_:Fc Pr w K mg base)(x y:Str)(ps:List Str)(k:Nat)(ms:List Md)(c:List D->au->Res D):Prop:=iG Pr w K mg base x y ps k (vSp K mg ms (rO K) c)
abbrev uM(_:Fc Pr w K mg base)(x:Str)(ps:List Str)(k:Nat)(ms:List Md)(c:List D->au->Res D):Prop:=ou Pr w K mg base x ps k (vSp K mg ms (rV K) c)
def Ji :=
 (aC (c7 (fY "str" (aa 0)) (c7 (ak gEq (aJ aP (aj (aa 0) ao)) (mC (.int 1))) (fO gLe gLe (mC (.str [32])) (aa 0) (mC (.str [125]))))))
def oR:=aL 1 Ji
def QpJ:ZV G "is_sign" ["thing"] 1 [.s] oR:=by
 have:=G.f3
 have:=G.f4
 exists G.f0,["thing"],[]
def yE :=
 (aq (aD (cN (bx (fY "str" (aa 0)))) (aC (mC (.bl false))) aK)
  (aC (c7 (fO gLe gLe (mC (.int 1)) (aJ aP (aj (aa 0) ao)) (mC (.int 8))) (aJ tL (aj (bW (bL (aa 0)) 1 [] (mgN 0) b8 (fO gLe gLe (mC (.str [97])) (aa 0) (mC (.str [122])))) ao)))))
def uN:=aL 1 yE
def QqO:ZV G "is_name" ["thing"] 1 [.s] uN:=by
 have:=G.f6
 exists G.f5,["thing"],[]
 refine gK (bf IK) ["thing"] ["letter"] [] rfl ?_ (λ_ _ _ _ P=>?_) (λ_ _ _ _ P=>?_) (λ_ _ _ _ P=>?_)
 symm
def Jj :=
 (aC (c7 (fY "str" (aa 0)) (c7 (ak gEq (aJ aP (aj (aa 0) ao)) (mC (.int 1))) (ak (gIn false) (aa 0) (mC (.str [97,98,99,100,101,102,103,104,46]))))))
def mW:=aL 1 Jj
def Jk:ZV G "is_colour" ["thing"] 1 [.s] mW:=by
 have:=G.f8
 exists G.f7,["thing"],[]
def Jl :=
 (aq (aD (cN (bx (fY "str" (aa 0)))) gm aK)
  (cF (qm (aa 0)) (dg 2 (bF (mgN 1) (bF (mgN 2) dC))) (aD (cN (cI (bx (aB oR (aj (aa 2) ao))) (cI (az (ak gEq (aa 2) (mC (.str [10])))) (az (ak gEq (aa 2) (mC (.str [9]))))))) gm aK)))
def uO:=aL 3 Jl
def QpM:ZV G "checked" ["text"] 2 [.s] uO:=by
 have:=G.f10
 have:=G.f11
 have:=QpJ G
 exists G.f9,["text","place","sign"],[.v,.v]
def qR :=
 (aq (aD (az (ak gEq (aa 0) (mC (.str [91,93])))) (aC (aX (aj (mC (.str [112,108,97,105,110])) (aj (mC (.str [])) ao)))) aK)
  (aq (aD (az (ak gEq (aa 0) (mC (.str [91,91])))) (aC (aX (aj (mC (.str [115,105,103,110])) (aj (mC (.str [91])) ao)))) aK)
  (aq (aD (bR (az (ak gEq (aJ aP (aj (aa 0) ao)) (mC (.int 3)))) (bR (az (ak gEq (ak gIx (aa 0) (mC (.int 0))) (mC (.str [91])))) (bR (bx (aB mW (aj (ak gIx (aa 0) (mC (.int 1))) ao))) (az (ak gEq (ak gIx (aa 0) (mC (.int 2))) (mC (.str [93]))))))) (aC (aX (aj (mC (.str [105,110,107])) (aj (ak gIx (aa 0) (mC (.int 1))) ao)))) aK)
  (aq (aD (bR (az (ak gEq (aJ aP (aj (aa 0) ao)) (mC (.int 4)))) (bR (bx (tW (mG (aa 0)) (mC (.str [91,47])))) (bR (bx (aB mW (aj (ak gIx (aa 0) (mC (.int 2))) ao))) (az (ak gEq (ak gIx (aa 0) (mC (.int 3))) (mC (.str [93]))))))) (aC (aX (aj (mC (.str [103,114,111,117,110,100])) (aj (ak gIx (aa 0) (mC (.int 2))) ao)))) aK)
  (aC (mC .non))))))
def mX:=aL 1 qR
def Qqq:ZV G "mark_of" ["text"] 2 [.s] mX:=by
 have:=Jk G
 exists G.f12,["text"],[]
def qT :=
 (aq (aD (cI (az (ak gEq (aa 0) (mC (.str [91])))) (az (ak gEq (aa 0) (mC (.str [91,47]))))) (aC (mC (.bl true))) aK)
  (aq (aD (az (ak gEq (aJ aP (aj (aa 0) ao)) (mC (.int 2)))) (aC (c7 (ak gEq (ak gIx (aa 0) (mC (.int 0))) (mC (.str [91]))) (aB mW (aj (ak gIx (aa 0) (mC (.int 1))) ao)))) aK)
  (aC (c7 (ak gEq (aJ aP (aj (aa 0) ao)) (mC (.int 3))) (c7 (tW (mG (aa 0)) (mC (.str [91,47]))) (aB mW (aj (ak gIx (aa 0) (mC (.int 2))) ao)))))))
def mY:=aL 1 qT
def Qh8:ZV G "may_become_mark" ["text"] 2 [.s] mY:=by
 have:=Jk G
 exists G.f13,["text"],[]
def Jm :=
 (aq (aD (az (ak gEq (aa 1) (mC (.str [10])))) (aC (aX (aj (mG (aa 0)) (aj (mC (.str [101,110,100])) (aj (mC (.str [])) ao))))) aK)
  (aq (aD (az (ak gEq (aa 1) (mC (.str [9])))) (aC (aX (aj (mG (aa 0)) (aj (mC (.str [97,110,101,119])) (aj (mC (.str [])) ao))))) aK)
  (aC (aX (aj (mG (aa 0)) (aj (mC (.str [115,105,103,110])) (aj (mG (aa 1)) ao)))))))
def qU:=aL 2 Jm
def Qoe:ZV G "own_item" ["place","sign"] 1 [.s,.s] qU:=by
 have:=G.f10
 have:=G.f11
 exists G.f14,["place","sign"],[]
def Jo :=
 (aC (bW (qm (aa 1)) 2 [0] (dg 2 (bF (mgN 0) (bF (mgN 1) dC))) b8 (aB qU (aj (ak aF (aa 2) (aa 0)) (aj (aa 1) ao)))))
def oU:=aL 2 Jo
def Jp:ZO G "own_items" ["place","signs"] 2 [.s,.s] oU:=by
 have:=Qoe G
 exists G.f15,["place","signs"],[]
 refine gK (bf IV) ["place","signs"] ["k","sign"] [0] rfl ?_ (λ_ _ _ _ P=>?_) (λ_ _ _ _ P=>?_) (λ_ _ _ _ P=>?_)
 symm
def Jq :=
 (aq (bI ["Reader"] "held" (aa 0) (mC (.str [])))
  (bI ["Reader"] "place" (aa 0) (mC (.int 0))))
def qW:=aL 1 Jq
def QhC:uM G "Reader" ["self"] 1 [.v] qW:=by
 have:=G.f17
 have:=G.f18
 exists G.f16,["self"],[]
def Jr :=
 (aq (aA 2 (ak aF (bu ["Reader"] "held" (aa 0)) (aa 1)))
  (aq (aA 3 (ak gn (bu ["Reader"] "place" (aa 0)) (aJ aP (aj (bu ["Reader"] "held" (aa 0)) ao))))
  (aq (bI ["Reader"] "place" (aa 0) (ak aF (bu ["Reader"] "place" (aa 0)) (mC (.int 1))))
  (aq (aD (bx (aB mY (aj (aa 2) ao))) (aq (bI ["Reader"] "held" (aa 0) (aa 2))
  (aC (aV ao))) aK)
  (aq (aA 4 (aB mX (aj (aa 2) ao)))
  (aq (aD (az (kJ (aa 4))) (aq (bI ["Reader"] "held" (aa 0) (mC (.str [])))
  (aC (aV (aj (aX (aj (aa 3) (aj (ak gIx (aa 4) (mC (.int 0))) (aj (ak gIx (aa 4) (mC (.int 1))) ao)))) ao)))) aK)
  (aq (aD (az (ak gEq (aa 1) (mC (.str [91])))) (aq (aA 5 (aB oU (aj (aa 3) (aj (bu ["Reader"] "held" (aa 0)) ao))))
  (aq (bI ["Reader"] "held" (aa 0) (mG (aa 1)))
  (aC (aa 5)))) aK)
  (aq (bI ["Reader"] "held" (aa 0) (mC (.str [])))
  (aC (aB oU (aj (aa 3) (aj (aa 2) ao))))))))))))
def iM:=aL 6 Jr
def QkW:eQ G "Reader" "take" ["self","sign"] 3 [.v,.s] iM:=by
 have:=G.f18
 have:=G.f17
 have:=Qh8 G
 have:=Qqq G
 have:=Jp G
 exists G.f19,["self","sign","seen","first","mark","told"],[.v,.v,.v,.o]
def Js :=
 (aq (eZ (aB uO (aj (aa 1) ao)))
  (aq (aA 2 (aV ao))
  (aq (cF (bL (aa 1)) (mgN 3) (gC 2 (aU "Reader" "take" iM (aa 0) (aj (aa 3) ao))))
  (aC (aa 2)))))
def uP:=aL 4 Js
def QkP:eQ G "Reader" "feed" ["self","piece"] 4 [.v,.s] uP:=by
 have:=QpM G
 have:=QkW G
 exists G.f20,["self","piece","told","sign"],[.o,.v]
def Jt :=
 (aq (aA 1 (aB oU (aj (ak gn (bu ["Reader"] "place" (aa 0)) (aJ aP (aj (bu ["Reader"] "held" (aa 0)) ao))) (aj (bu ["Reader"] "held" (aa 0)) ao))))
  (aq (bI ["Reader"] "held" (aa 0) (mC (.str [])))
  (aC (aa 1))))
def uQ:=aL 2 Jt
def Qjt:eQ G "Reader" "finish" ["self"] 3 [.v] uQ:=by
 have:=G.f17
 have:=G.f18
 have:=Jp G
 exists G.f21,["self","told"],[.o]
def Ju :=
 (aq (aD (az (ak gEq (aa 0) (mC (.str [115,105,103,110])))) (aC (mIf (az (ak gEq (aa 1) (mC (.str [91])))) (mC (.str [91,91])) (mG (aa 1)))) aK)
  (aq (aD (az (ak gEq (aa 0) (mC (.str [105,110,107])))) (aC (ak aF (ak aF (mC (.str [91])) (aa 1)) (mC (.str [93])))) aK)
  (aq (aD (az (ak gEq (aa 0) (mC (.str [103,114,111,117,110,100])))) (aC (ak aF (ak aF (mC (.str [91,47])) (aa 1)) (mC (.str [93])))) aK)
  (aq (aD (az (ak gEq (aa 0) (mC (.str [112,108,97,105,110])))) (aC (mC (.str [91,93]))) aK)
  (aC (mIf (az (ak gEq (aa 0) (mC (.str [101,110,100])))) (mC (.str [10])) (mC (.str [9]))))))))
def jT:=aL 2 Ju
def yF:ZV G "written" ["kind","value"] 1 [.s,.s] jT:=by
 have:=G.f10
 have:=G.f11
 exists G.f22,["kind","value"],[]
def Ql8 :=
 (aq (aD (az (ak gEq (aa 1) (mC (.str [105,110,107])))) (aC (aX (aj (mG (aa 2)) (aj (ak gIx (aa 0) (mC (.int 1))) ao)))) aK)
  (aq (aD (az (ak gEq (aa 1) (mC (.str [103,114,111,117,110,100])))) (aC (aX (aj (ak gIx (aa 0) (mC (.int 0))) (aj (mG (aa 2)) ao)))) aK)
  (aq (aD (az (ak gEq (aa 1) (mC (.str [115,105,103,110])))) (aC (mG (aa 0))) aK)
  (aC (mC (.tup [.str [46],.str [46]]))))))
def uR:=aL 3 Ql8
def Qk2:ZV G "pair_behind" ["pair","kind","value"] 1 [.s,.s,.s] uR:=by
 have:=G.f24
 exists G.f23,["pair","kind","value"],[]
def Jv :=
 (aC (c7 (fY "int" (aa 0)) (wZ (fY "bool" (aa 0)))))
def yG:=aL 1 Jv
def Qok:ZV G "is_whole" ["thing"] 1 [.s] yG:=by
 exists G.f25,["thing"],[]
def Jw :=
 (aC (c7 (aB yG (aj (aa 0) ao)) (fO gLe gLe (aa 1) (aa 0) (aa 2))))
def uT:=aL 3 Jw
def QnY:ZV G "is_within" ["thing","least","greatest"] 2 [.s,.s,.s] uT:=by
 have:=Qok G
 exists G.f26,["thing","least","greatest"],[]
def uU :=
 (aq (bI ["Maker"] "letters" (aa 0) (mMl (aV ao)))
  (aq (bI ["Maker"] "pair" (aa 0) (mC (.tup [.str [46],.str [46]])))
  (bI ["Maker"] "stale" (aa 0) (mC (.bl false)))))
def lF:=aL 1 uU
def Jx:lE G "Maker" "begin_row" ["self"] 1 [.v] lF:=by
 have:=G.f24
 have:=G.f28
 have:=G.f29
 have:=G.f30
 exists G.f27,["self"],[]
def yH :=
 (aq (aD (cN (bx (aB uT (aj (aa 1) (aj (mC (.int 1)) (aj (mC (.int 200)) ao)))))) gm aK)
  (aq (bI ["Maker"] "most" (aa 0) (mG (aa 1)))
  (aq (bI ["Maker"] "last_word" (aa 0) (mC (.str [119,104,111,108,101])))
  (eZ (aU "Maker" "begin_row" lF (aa 0) ao)))))
def uV:=aL 2 yH
def QiC:uM G "Maker" ["self","most"] 3 [.v,.s] uV:=by
 have:=G.f32
 have:=G.f33
 have:=G.f34
 have:=QnY G
 have:=Jx G
 exists G.f31,["self","most"],[]
def Jy :=
 (aq (aA 2 (aX (aj (bu ["Maker"] "letters" (aa 0)) (aj (mG (aa 1)) ao))))
  (aq (bI ["Maker"] "letters" (aa 0) (mMl (aV ao)))
  (aq (bI ["Maker"] "last_word" (aa 0) (mG (aa 1)))
  (aC (aV (aj (aa 2) ao))))))
def oV:=aL 3 Jy
def yI:eQ G "Maker" "tell" ["self","word"] 1 [.v,.s] oV:=by
 have:=G.f28
 have:=G.f34
 exists G.f35,["self","word","part"],[.v]
def yJ :=
 (aD (bx (bu ["Maker"] "stale" (aa 0))) (aq (bI ["Maker"] "letters" (aa 0) (mMl (aV ao)))
  (bI ["Maker"] "stale" (aa 0) (mC (.bl false)))) aK)
def mZ:=aL 1 yJ
def QgH:lE G "Maker" "empty_stale" ["self"] 1 [.v] mZ:=by
 have:=G.f30
 have:=G.f28
 exists G.f36,["self"],[]
def yK :=
 (aq (aA 2 (aV ao))
  (aq (aD (az (ak gEq (aJ aP (aj (bu ["Maker"] "letters" (aa 0)) ao)) (bu ["Maker"] "most" (aa 0)))) (aA 2 (aU "Maker" "tell" oV (aa 0) (aj (mC (.str [109,111,114,101])) ao))) aK)
  (aq (gM (bu ["Maker"] "letters" (aa 0)) (aX (aj (ak gIx (aa 1) (mC (.int 2))) (aj (ak gIx (bu ["Maker"] "pair" (aa 0)) (mC (.int 0))) (aj (ak gIx (bu ["Maker"] "pair" (aa 0)) (mC (.int 1))) (aj (ak gIx (aa 1) (mC (.int 0))) ao))))))
  (aC (aa 2)))))
def uW:=aL 3 yK
def Qhn:eQ G "Maker" "add_letter" ["self","item"] 2 [.v,.s] uW:=by
 have:=G.f33
 have:=G.f28
 have:=G.f29
 have:=yI G
 exists G.f37,["self","item","told"],[.o]
def Jz :=
 (aq (aA 2 (ak gIx (aa 1) (mC (.int 1))))
  (aq (aA 3 (aV ao))
  (aq (aD (az (ak gEq (aa 2) (mC (.str [101,110,100])))) (aq (aA 3 (aU "Maker" "tell" oV (aa 0) (aj (mC (.str [119,104,111,108,101])) ao)))
  (bI ["Maker"] "stale" (aa 0) (mC (.bl false)))) (aD (az (ak gEq (aa 2) (mC (.str [97,110,101,119])))) (bI ["Maker"] "stale" (aa 0) (mC (.bl true))) (eZ (aU "Maker" "empty_stale" mZ (aa 0) ao))))
  (aq (aD (az (ak gEq (aa 2) (mC (.str [115,105,103,110])))) (aA 3 (aU "Maker" "add_letter" uW (aa 0) (aj (aa 1) ao))) aK)
  (aq (bI ["Maker"] "pair" (aa 0) (aB uR (aj (bu ["Maker"] "pair" (aa 0)) (aj (aa 2) (aj (ak gIx (aa 1) (mC (.int 2))) ao)))))
  (aC (aa 3)))))))
def qX:=aL 4 Jz
def QmN:eQ G "Maker" "put" ["self","item"] 3 [.v,.s] qX:=by
 have:=G.f29
 have:=G.f30
 have:=yI G
 have:=QgH G
 have:=Qhn G
 have:=Qk2 G
 exists G.f38,["self","item","kind","told"],[.v,.o]
def Qi7 :=
 (aC (ak gEq (bu ["Maker"] "last_word" (aa 0)) (mC (.str [109,111,114,101]))))
def yL:=aL 1 Qi7
def QiE:lE G "Maker" "going_on" ["self"] 1 [.v] yL:=by
 have:=G.f34
 exists G.f39,["self"],[]
def QkR :=
 (aq (aA 1 (aV ao))
  (aq (aD (cI (az (ak gGt (aJ aP (aj (bu ["Maker"] "letters" (aa 0)) ao)) (mC (.int 0)))) (bx (aU "Maker" "going_on" yL (aa 0) ao))) (aA 1 (aU "Maker" "tell" oV (aa 0) (aj (mC (.str [119,104,111,108,101])) ao))) aK)
  (aq (eZ (aU "Maker" "begin_row" lF (aa 0) ao))
  (aC (aa 1)))))
def yM:=aL 2 QkR
def Qkc:lE G "Maker" "finish" ["self"] 2 [.v] yM:=by
 have:=G.f28
 have:=QiE G
 have:=yI G
 have:=Jx G
 exists G.f40,["self","told"],[.v]
def yN :=
 (aq (bI ["Hand"] "name" (aa 0) (mG (aa 1)))
  (aq (bI ["Hand"] "reader" (aa 0) (dj "Reader" qW ao))
  (aq (bI ["Hand"] "maker" (aa 0) (dj "Maker" uV (aj (aa 2) ao)))
  (bI ["Hand"] "closed" (aa 0) (mC (.bl false))))))
def uX:=aL 3 yN
def Qjc:uM G "Hand" ["self","name","most"] 5 [.v,.s,.s] uX:=by
 have:=G.f42
 have:=G.f43
 have:=G.f44
 have:=G.f45
 have:=QhC G
 have:=QiC G
 exists G.f41,["self","name","most"],[]
def JB :=
 (aD (bx (bu ["Hand"] "closed" (aa 0))) gm aK)
def uY:=aL 1 JB
def JC:lE G "Hand" "refuse_closed" ["self"] 1 [.v] uY:=by
 have:=G.f45
 have:=G.f42
 exists G.f46,["self"],[]
def QkF :=
 (aq (aA 2 (aV ao))
  (aq (cF (bL (aa 1)) (mgN 3) (gC 2 (aU "Maker" "put" qX (bu ["Hand"] "maker" (aa 0)) (aj (aa 3) ao))))
  (aC (aa 2))))
def uZ:=aL 4 QkF
def JD:eQ G "Hand" "put_all" ["self","items"] 4 [.v,.s] uZ:=by
 have:=G.f44
 have:=QmN G
 exists G.f47,["self","items","parts","item"],[.o,.v]
def Qov :=
 (aq (eZ (aU "Hand" "refuse_closed" uY (aa 0) ao))
  (aC (aU "Hand" "put_all" uZ (aa 0) (aj (aU "Reader" "feed" uP (bu ["Hand"] "reader" (aa 0)) (aj (aa 1) ao)) ao))))
def yO:=aL 2 Qov
def Qm0:eQ G "Hand" "feed" ["self","piece"] 5 [.v,.s] yO:=by
 have:=G.f43
 have:=JC G
 have:=JD G
 have:=QkP G
 exists G.f48,["self","piece"],[]
def Qmu :=
 (aq (eZ (aU "Hand" "refuse_closed" uY (aa 0) ao))
  (aq (aA 1 (aU "Hand" "put_all" uZ (aa 0) (aj (aU "Reader" "finish" uQ (bu ["Hand"] "reader" (aa 0)) ao) ao)))
  (aq (gC 1 (aU "Maker" "finish" yM (bu ["Hand"] "maker" (aa 0)) ao))
  (aq (bI ["Hand"] "closed" (aa 0) (mC (.bl true)))
  (aC (aa 1))))))
def yP:=aL 2 Qmu
def QlZ:eQ G "Hand" "close" ["self"] 5 [.v] yP:=by
 have:=G.f45
 have:=G.f43
 have:=G.f44
 have:=JC G
 have:=JD G
 have:=Qjt G
 have:=Qkc G
 exists G.f49,["self","parts"],[.o]
def Qr1 :=
 (aq (aD (cI (cN (bx (fY "str" (aa 1)))) (az (ue true (mG (aa 1)) (mG (aa 0))))) gm aK)
  (aC (gO (mG (aa 0)) (mG (aa 1)))))
def qY:=aL 2 Qr1
def JF:ZV G "of_name" ["things","name"] 1 [.s,.s] qY:=by
 exists G.f50,["things","name"],[]
def JG :=
 (aC (mIf (az (ak gEq (aa 0) (mC (.str [32])))) (mC (.str [46])) (mG (aa 1))))
def yQ:=aL 2 JG
def QnS:ZV G "shown_ink" ["sign","ink"] 1 [.s,.s] yQ:=by
 exists G.f51,["sign","ink"],[]
def QAl :=
 (aC (qy (mG (aa 0)) 1 [] (mgN 0) b8 (aX (aj (ak gIx (aa 0) (mC (.int 0))) (aj (aB yQ (aj (ak gIx (aa 0) (mC (.int 0))) (aj (ak gIx (aa 0) (mC (.int 1))) ao))) (aj (ak gIx (aa 0) (mC (.int 2))) ao))))))
def u0:=aL 1 QAl
def Qwl:ZO G "look" ["letters"] 2 [.s] u0:=by
 have:=QnS G
 exists G.f52,["letters"],[]
 refine ZL (bf IW) ["letters"] ["letter"] [] rfl ?_ (λ_ _ _ _ P=>?_) (λ_ _ _ _ P=>?_) (λ_ _ _ _ P=>?_)
 symm
def yR :=
 (aq (aA 2 (eE (mG (aa 1)) (ak gIx (aa 0) (mC (.int 2)))))
  (aC (mIf (az (kI (aa 2))) (mC .non) (ak aF (ak gIx (aa 0) (mC (.int 0))) (aa 2)))))
def oW:=aL 3 yR
def JH:ZV G "cost_over" ["move","prices"] 1 [.s,.s] oW:=by
 exists G.f53,["move","prices","beyond"],[.v]
def yS :=
 (aq (aA 2 (bW (bL (aa 0)) 1 [1] (mgN 0) b8 (aB oW (aj (aa 0) (aj (aa 1) ao)))))
  (aC (aJ t8 (aj (bW (bL (aa 2)) 1 [] (mgN 0) (az (kJ (aa 0))) (aa 0)) ao))))
def qZ:=aL 3 yS
def JK:ZV G "least_cost" ["moves","prices"] 2 [.s,.s] qZ:=by
 have:=JH G
 exists G.f54,["moves","prices","costs"],[.v]
 refine FN (i:=2) (bf uL) ["moves","prices","costs"] ["move"] [1] Ql0.nd rfl (.inl rfl) rfl ?_ (λ_ _ _ _ P=>?_) (λ_ _ _ _ P=>?_) (λ_ _ _ _ P=>?_)
 symm
 refine gK (bf uL) ["moves","prices","costs"] ["cost"] [] rfl ?_ (λ_ _ _ _ P=>?_) (λ_ _ _ _ P=>?_) (λ_ _ _ _ P=>?_)
 symm
def yU :=
 (aC (ak aF (aJ aP (aj (bu ["Leaps"] "look" (aa 0)) ao)) (mC (.int 1))))
def lG:=aL 1 yU
def u6:lE G "Leaps" "last_at" ["self"] 1 [.v] lG:=by
 have:=G.f56
 exists G.f55,["self"],[]
def JL :=
 (aq (aD (cI (az (ak gEq (aa 1) (mC (.int 0)))) (az (ak gEq (aa 1) (aU "Leaps" "last_at" lG (aa 0) ao)))) (aC (aV (aj (aX (aj (mG (aa 1)) (aj (mC (.tup [.str [46],.str [46]])) ao))) ao))) aK)
  (aq (aA 2 (ak gIx (bu ["Leaps"] "look" (aa 0)) (ak gn (aa 1) (mC (.int 1)))))
  (aq (aD (az (ak gEq (ak gIx (aa 2) (mC (.int 0))) (mC (.str [32])))) (aC (bW (bL (bu ["Leaps"] "inks" (aa 0))) 1 [1,2] (mgN 0) b8 (aX (aj (mG (aa 1)) (aj (aX (aj (aa 0) (aj (ak gIx (aa 2) (mC (.int 2))) ao))) ao))))) aK)
  (aC (aV (aj (aX (aj (mG (aa 1)) (aj (aX (aj (ak gIx (aa 2) (mC (.int 1))) (aj (ak gIx (aa 2) (mC (.int 2))) ao))) ao))) ao))))))
def oX:=aL 3 JL
def JM:eQ G "Leaps" "nodes_at" ["self","at"] 2 [.v,.s] oX:=by
 have:=G.f24
 have:=G.f56
 have:=G.f58
 have:=u6 G
 exists G.f57,["self","at","letter"],[.v]
 refine gK (bf Ja) ["self","at","letter"] ["ink"] [1,2] rfl ?_ (λ_ _ _ _ P=>?_) (λ_ _ _ _ P=>?_) (λ_ _ _ _ P=>?_)
 symm
def q9 :=
 (aq (aA 3 (mIf (az (ak gEq (aa 1) (mC (.str [105,110,107])))) (mC (.int 0)) (mC (.int 1))))
  (aC (mIf (az (ak gEq (ak gIx (aa 0) (aa 3)) (aa 2))) (mC (.str [])) (aB jT (aj (aa 1) (aj (aa 2) ao))))))
def m5:=aL 4 q9
def Qow:ZV G "marks_to" ["pair","kind","colour"] 2 [.s,.s,.s] m5:=by
 have:=yF G
 exists G.f59,["pair","kind","colour","place"],[.v]
def yV :=
 (aq (aA 2 (ak aF (aB m5 (aj (aa 0) (aj (mC (.str [105,110,107])) (aj (ak gIx (aa 1) (mC (.int 0))) ao)))) (aB m5 (aj (aa 0) (aj (mC (.str [103,114,111,117,110,100])) (aj (ak gIx (aa 1) (mC (.int 1))) ao))))))
  (aq (aA 3 (ak aF (ak aF (aB jT (aj (mC (.str [112,108,97,105,110])) (aj (mC (.str [])) ao))) (aB m5 (aj (mC (.tup [.str [46],.str [46]])) (aj (mC (.str [105,110,107])) (aj (ak gIx (aa 1) (mC (.int 0))) ao))))) (aB m5 (aj (mC (.tup [.str [46],.str [46]])) (aj (mC (.str [103,114,111,117,110,100])) (aj (ak gIx (aa 1) (mC (.int 1))) ao))))))
  (aC (mIf (az (ak gLt (aJ aP (aj (aa 3) ao)) (aJ aP (aj (aa 2) ao)))) (aa 3) (aa 2)))))
def u9:=aL 4 yV
def Qjm:ZV G "marks_between" ["pair","other"] 3 [.s,.s] u9:=by
 have:=G.f24
 have:=Qow G
 have:=yF G
 exists G.f60,["pair","other","straight","anew"],[.v,.v]
def yW :=
 (aq (aA 2 (ak gIx (aa 1) (mC (.int 0))))
  (aq (aD (az (ak gEq (aa 2) (aU "Leaps" "last_at" lG (aa 0) ao))) (aC (aV ao)) aK)
  (aq (aA 3 (mIf (az (ak gLt (aa 2) (aJ aP (aj (bu ["Leaps"] "look" (aa 0)) ao)))) (aB jT (aj (mC (.str [115,105,103,110])) (aj (ak gIx (ak gIx (bu ["Leaps"] "look" (aa 0)) (aa 2)) (mC (.int 0))) ao))) (mC (.str []))))
  (aq (aA 4 (aV ao))
  (aq (cF (bL (aU "Leaps" "nodes_at" oX (aa 0) (aj (ak aF (aa 2) (mC (.int 1))) ao))) (mgN 5) (aq (aA 6 (aB u9 (aj (ak gIx (aa 1) (mC (.int 1))) (aj (ak gIx (aa 5) (mC (.int 1))) ao))))
  (cW 4 (aX (aj (aJ aP (aj (aa 6) ao)) (aj (ak aF (aa 6) (aa 3)) (aj (aa 5) ao)))))))
  (aC (aa 4)))))))
def m6:=aL 7 yW
def JN:eQ G "Leaps" "moves_from" ["self","node"] 4 [.v,.s] m6:=by
 have:=G.f56
 have:=u6 G
 have:=yF G
 have:=JM G
 have:=Qjm G
 exists G.f61,["self","node","at","sign","moves","beyond","marks"],[.v,.v,.o,.v,.v]
def yX :=
 (aC (ak gEq (ak gIx (aa 1) (mC (.int 0))) (aU "Leaps" "last_at" lG (aa 0) ao)))
def lH:=aL 2 yX
def JP:lE G "Leaps" "is_end" ["self","node"] 2 [.v,.s] lH:=by
 have:=u6 G
 exists G.f62,["self","node"],[]
def JQ :=
 (aq (aA 3 yh)
  (aq (cF (bL (aU "Leaps" "nodes_at" oX (mG (aa 0)) (aj (aa 1) ao))) (mgN 4) (aq (gD (aa 3) (aa 4) (aU "Leaps" "moves_from" m6 (mG (aa 0)) (aj (aa 4) ao)))
  (gD (mG (aa 2)) (aa 4) (mIf (bx (aU "Leaps" "is_end" lH (mG (aa 0)) (aj (aa 4) ao))) (mC (.int 0)) (mC .non)))))
  (aq (aA 5 (mC (.bl true)))
  (jD 10 (bx (aa 5)) (aq (aA 5 (mC (.bl false)))
  (qC 3 (cF (oF (aa 3)) (mgN 4) (aq (aA 6 (aB qZ (aj (eE (aa 3) (aa 4)) (aj (aa 2) ao))))
  (aD (bR (az (kJ (aa 6))) (cI (az (kI (eE (mG (aa 2)) (aa 4)))) (az (ak gLt (aa 6) (eE (mG (aa 2)) (aa 4)))))) (aq (gD (mG (aa 2)) (aa 4) (aa 6))
  (aA 5 (mC (.bl true)))) aK)))))))))
def rm:=aL 7 JQ
def QkH:ZV G "price_nodes" ["trail","at","prices"] 5 [.s,.s,.s] rm:=by
 have:=JM G
 have:=JN G
 have:=JP G
 have:=JK G
 exists G.f63,["trail","at","prices","moves","node","changed","cost"],[.v,.v,.v,.v]
def QtN :=
 (aq (aA 1 yh)
  (aq (cF (uc (aj (aU "Leaps" "last_at" lG (mG (aa 0)) ao) (aj (mUn kY (mC (.int 1))) (aj (mUn kY (mC (.int 1))) ao)))) (mgN 2) (eZ (aB rm (aj (aa 0) (aj (aa 2) (aj (aa 1) ao))))))
  (aC (aa 1))))
def yZ:=aL 3 QtN
def QsL:ZV G "priced" ["trail"] 6 [.s] yZ:=by
 have:=u6 G
 have:=QkH G
 exists G.f64,["trail","prices","at"],[.v,.v]
def z7 :=
 (aq (aA 2 (aB qZ (aj (aa 0) (aj (aa 1) ao))))
  (aC (ak gIx (bW (bL (aa 0)) 1 [1,2] (mgN 0) (az (ak gEq (aB oW (aj (aa 0) (aj (aa 1) ao))) (aa 2))) (aa 0)) (mC (.int 0)))))
def vd:=aL 3 z7
def QiB:ZV G "first_cheapest" ["moves","prices"] 3 [.s,.s] vd:=by
 have:=JK G
 have:=JH G
 exists G.f65,["moves","prices","least"],[.v]
 refine gK (bf Jb) ["moves","prices","least"] ["move"] [1,2] rfl ?_ (λ_ _ _ _ P=>?_) (λ_ _ _ _ P=>?_) (λ_ _ _ _ P=>?_)
 symm
def Qhr :=
 (aC (aX (aj (mC (.int 0)) (aj (mC (.tup [.str [46],.str [46]])) ao))))
def z8:=aL 1 Qhr
def Qhm:lE G "Leaps" "first_node" ["self"] 1 [.v] z8:=by
 have:=G.f24
 exists G.f66,["self"],[]
def z9 :=
 (aq (aA 1 (aB yZ (aj (aa 0) ao)))
  (aq (aA 2 (aU "Leaps" "first_node" z8 (mG (aa 0)) ao))
  (aq (aA 3 (eE (aa 1) (aa 2)))
  (aq (aD (az (kI (aa 3))) (aC (mC .non)) aK)
  (aq (aA 4 (aV ao))
  (aq (jD 300 (cN (bx (aU "Leaps" "is_end" lH (mG (aa 0)) (aj (aa 2) ao)))) (aq (aA 5 (aB vd (aj (aU "Leaps" "moves_from" m6 (mG (aa 0)) (aj (aa 2) ao)) (aj (aa 1) ao))))
  (aq (cW 4 (ak gIx (aa 5) (mC (.int 1))))
  (aA 2 (ak gIx (aa 5) (mC (.int 2)))))))
  (jG (aC (aX (aj (aa 3) (aj (aa 4) ao)))))))))))
def Aa:=aL 6 z9
def Qsk:ZV G "way_of" ["trail"] 7 [.s] Aa:=by
 have:=QsL G
 have:=Qhm G
 have:=JP G
 have:=QiB G
 have:=JN G
 exists G.f67,["trail","prices","node","cost","names","move"],[.v,.v,.v,.o,.v]
 refine xJ 4 rfl ?_
 symm
def Ab :=
 (aC (aJ uv (aj (ak aF (aV (aj (ak gIx (mC (.tup [.str [46],.str [46]])) (mC (.int 0))) ao)) (bW (bL (aa 0)) 1 [1] (mgN 0) b8 (ak gIx (aa 0) (aa 1)))) ao)))
def rE:=aL 2 Ab
def Ql2:ZO G "colours_of" ["look","place"] 1 [.s,.s] rE:=by
 have:=G.f24
 exists G.f68,["look","place"],[]
 refine gK (bf Jc) ["look","place"] ["letter"] [1] rfl ?_ (λ_ _ _ _ P=>?_) (λ_ _ _ _ P=>?_) (λ_ _ _ _ P=>?_)
 symm
def JR :=
 (aq (bI ["Leaps"] "look" (aa 0) (aJ jE (aj (aa 1) ao)))
  (bI ["Leaps"] "inks" (aa 0) (aB rE (aj (aa 1) (aj (mC (.int 1)) ao)))))
def vf:=aL 2 JR
def QiG:uM G "Leaps" ["self","look"] 2 [.v,.s] vf:=by
 have:=G.f56
 have:=G.f58
 have:=Ql2 G
 exists G.f69,["self","look"],[]
def Ac :=
 (aq (aA 1 (aB Aa (aj (dj "Leaps" vf (aj (aa 0) ao)) ao)))
  (aC (aX (aj (ak gIx (aa 1) (mC (.int 0))) (aj (mq (ak gIx (aa 1) (mC (.int 1)))) ao)))))
def Ad:=aL 2 Ac
def Qma:ZV G "shaded_way" ["look"] 8 [.s] Ad:=by
 have:=Qsk G
 have:=QiG G
 exists G.f70,["look","way"],[.v]
def JS :=
 (aC (ak gIx (aB Ad (aj (aa 0) ao)) (mC (.int 1))))
def oY:=aL 1 JS
def JT:ZV G "shaded" ["look"] 9 [.s] oY:=by
 have:=Qma G
 exists G.f71,["look"],[]
def Ql6 :=
 (aq (aD (cI (cN (bx (fY "list" (aa 0)))) (cN (az (fO gLe gLe (mC (.int 1)) (aJ aP (aj (aa 0) ao)) (mC (.int 6)))))) gm aK)
  (cF (qm (aa 0)) (dg 2 (bF (mgN 1) (bF (mgN 2) dC))) (aq (aD (cN (bx (aB uN (aj (aa 2) ao)))) gm aK)
  (aD (az (ak (gIn false) (aa 2) (mSl (aa 0) moN (moS (aa 1))))) gm aK))))
def Ae:=aL 3 Ql6
def Qk5:ZV G "check_names" ["names"] 2 [.s] Ae:=by
 have:=G.f73
 have:=QqO G
 exists G.f72,["names","place","name"],[.v,.v]
def QkS :=
 (aC (mIf (bx (aa 1)) (ak aF (aJ mD (aj (aa 0) ao)) (mC (.str [32]))) (mC (.str []))))
def vg:=aL 2 QkS
def QjQ:ZV G "number_ahead" ["number","numbered"] 1 [.s,.s] vg:=by
 exists G.f74,["number","numbered"],[]
def JV :=
 (aq (aA 3 (aJ mF (aj (bW (bL (aa 1)) 1 [] (mgN 0) b8 (aJ aP (aj (aa 0) ao))) ao)))
  (aC (ak aF (uw (mG (aa 0)) (aa 3)) (mIf (az (ak gEq (aa 2) (mC (.str [119,104,111,108,101])))) (mC (.str [124])) (mC (.str [62]))))))
def vh:=aL 4 JV
def QqE:ZV G "head_of" ["name","names","word"] 1 [.s,.s,.s] vh:=by
 exists G.f75,["name","names","word","longest"],[.v]
 refine gK (bf Jd) ["name","names","word","longest"] ["one"] [] rfl ?_ (λ_ _ _ _ P=>?_) (λ_ _ _ _ P=>?_) (λ_ _ _ _ P=>?_)
 symm
def JW :=
 (aq (eZ (aB Ae (aj (aa 1) ao)))
  (aq (bI ["Roll"] "names" (aa 0) (aJ jE (aj (aa 1) ao)))
  (aq (bI ["Roll"] "numbered" (aa 0) (aa 3))
  (aq (bI ["Roll"] "rows" (aa 0) (mMl (aV ao)))
  (aq (bI ["Roll"] "hands" (aa 0) GX)
  (cF (bL (aa 1)) (mgN 4) (lu (bu ["Roll"] "hands" (aa 0)) (aa 4) (dj "Hand" uX (aj (aa 4) (aj (aa 2) ao))))))))))
def vm:=aL 5 JW
def Af:oH Pr w K mg base "Roll" ["self","names","most","numbered"] [(.bool false)] 7 (vSp K mg [.v,.s,.s,.v] (rV K) vm):=by
 have B:=G.B;have NK:=G.NK
 have:=G.f77
 have:=G.f78
 have:=G.f79
 have:=G.f80
 have:=Qk5 G
 have:=Qjc G
 refine QyG (k:=6) (b:=JW) G.f76 Jg (λ_ _ _ _ _ _ _=>lr λ_=>lr λ_=>lr λ_=>lr λ_=>xN ⟨_,rfl,rfl⟩) 3 (λ_ _ _ _ _ _ _=>lr λ_=>lr λ_=>lr λ_=>xN ⟨_,rfl,rfl⟩) [.v,.s,.s,.v] [.v] kE Ht (body:=λf d A outer s H E zr P=>?_);have zn:=Jg.nd
 symm
def Qkp :=
 (aq (aA 3 (aV ao))
  (aq (cF (bL (aa 2)) (mgN 4) (aq (aA 5 (aB vg (aj (ak aF (ak aF (aJ aP (aj (bu ["Roll"] "rows" (aa 0)) ao)) (aJ aP (aj (aa 3) ao))) (mC (.int 1))) (aj (bu ["Roll"] "numbered" (aa 0)) ao))))
  (cW 3 (ak aF (ak aF (aa 5) (aB vh (aj (aa 1) (aj (bu ["Roll"] "names" (aa 0)) (aj (ak gIx (aa 4) (mC (.int 1))) ao))))) (aB oY (aj (aB u0 (aj (ak gIx (aa 4) (mC (.int 0))) ao)) ao))))))
  (aq (qx (bu ["Roll"] "rows" (aa 0)) (aa 3))
  (aC (aa 3)))))
def vo:=aL 6 Qkp
def JX:eQ G "Roll" "add_rows" ["self","name","parts"] 10 [.v,.s,.s] vo:=by
 have:=G.f78
 have:=G.f79
 have:=G.f77
 have:=QjQ G
 have:=QqE G
 have:=JT G
 have:=Qwl G
 exists G.f81,["self","name","parts","told","part","ahead"],[.o,.v,.v]
def Ag :=
 (aC (aU "Roll" "add_rows" vo (aa 0) (aj (aa 1) (aj (aU "Hand" "feed" yO (aB qY (aj (bu ["Roll"] "hands" (aa 0)) (aj (aa 1) ao))) (aj (aa 2) ao)) ao))))
def rF:=aL 3 Ag
def JZ:eQ G "Roll" "feed" ["self","name","piece"] 11 [.v,.s,.s] rF:=by
 have:=G.f80
 have:=JX G
 have:=Qm0 G
 have:=JF G
 exists G.f82,["self","name","piece"],[]
def Ah :=
 (aC (aU "Roll" "add_rows" vo (aa 0) (aj (aa 1) (aj (aU "Hand" "close" yP (aB qY (aj (bu ["Roll"] "hands" (aa 0)) (aj (aa 1) ao))) ao) ao))))
def rG:=aL 2 Ah
def J0:eQ G "Roll" "close" ["self","name"] 11 [.v,.s] rG:=by
 have:=G.f80
 have:=JX G
 have:=QlZ G
 have:=JF G
 exists G.f83,["self","name"],[]
def Qjy :=
 (aC (aJ jE (aj (bu ["Roll"] "rows" (aa 0)) ao)))
def lJ:=aL 1 Qjy
def QiI:eQ G "Roll" "told_rows" ["self"] 1 [.v] lJ:=by
 have:=G.f79
 exists G.f84,["self"],[]
def Ai :=
 (aq (aD (az (ak gLt (aa 1) (aJ aP (aj (aa 0) ao)))) (aC (ak gIx (aa 0) (aa 1))) aK)
  (aC (mC (.int 0))))
def oZ:=aL 2 Ai
def J1:ZV G "_law_cell" ["_law_script","_law_k"] 1 [.s,.s] oZ:=by
 exists G.f85,["_law_script","_law_k"],[]
def QsA :=
 (aq (aD (az (ak gGt (aa 0) (ak iB (mC (.int 10)) (mC (.int 18))))) (aq (aA 2 (mG (aa 0)))
  (aq (cF (fZ (aj (aa 1) ao)) (mgN 3) (aA 2 (ak kO (aa 2) (ak iB (mC (.int 10)) (mC (.int 9))))))
  (aC (ak bj (aa 2) (ak iB (mC (.int 10)) (mC (.int 9))))))) aK)
  (aq (aA 4 (ak aF (ak bj (aa 0) (mC (.int 2147483647))) (mC (.int 7919))))
  (aq (cF (fZ (aj (ak aF (aa 1) (mC (.int 2))) ao)) (mgN 3) (aA 4 (ak bj (ak aF (ak dD (aa 4) (mC (.int 48271))) (mC (.int 104729))) (mC (.int 2147483629)))))
  (aC (ak kO (ak bj (ak dD (aa 4) (aa 4)) (mC (.int 998244353))) (mC (.int 11)))))))
def bN:=aL 5 QsA
def rH:ZV G "_law_mix" ["_law_cell_here","_law_k"] 1 [.s,.s] bN:=by
 exists G.f86,["_law_cell_here","_law_k","_law_rest","_law_turn","_law_number"],[.v,.v,.v]
def Qoi :=
 (aq (aA 0 (mC (.str [32,33,34,35,36,38,39,40,41,42,43,44,45,46,47,48,49,50,51,52,53,54,55,56,57,58,59,60,61,62,63,64,65,66,67,68,69,70,71,72,73,74,75,76,77,78,79,80,81,82,83,84,85,86,87,88,89,90])))
  (aC (ak aF (aa 0) (mC (.str [91,92,93,94,95,96,97,98,99,100,101,102,103,104,105,106,107,108,109,110,111,112,113,114,115,116,117,118,119,120,121,122,123,124,125])))))
def J2:=aL 1 Qoi
def QnE:ZV G "_law_signs" [] 1 [] J2:=by
 exists G.f87,["_law_some"],[.v]
def Aj :=
 (aq (aA 1 (ak gIx (mC (.str [97,98,99,100,101,102,103,104,46])) (ak bj (aB bN (aj (aa 0) (aj (mC (.int 2)) ao))) (mC (.int 9)))))
  (aq (aA 2 (ak bj (aB bN (aj (aa 0) (aj (mC (.int 0)) ao))) (mC (.int 12))))
  (aq (aA 3 (aB bN (aj (aa 0) (aj (mC (.int 1)) ao))))
  (aq (aA 4 (aV (aj (mC (.str [91])) (aj (mC (.str [91,47])) (aj (ak aF (mC (.str [91])) (aa 1)) (aj (ak aF (mC (.str [91,47])) (aa 1)) (aj (mC (.str [91,105,93])) (aj (mC (.str [91,47,93])) (aj (ak aF (ak aF (ak aF (mC (.str [91])) (aa 1)) (aa 1)) (mC (.str [93]))) (aj (mC (.str [91,65,93])) (aj (mC (.str [91,47,105,93])) (aj (mC (.str [91,91,91])) ao))))))))))))
  (aq (aA 4 (ak aF (aa 4) (aV (aj (mC (.str [91,47,91])) (aj (ak aF (ak aF (mC (.str [91])) (aa 1)) (mC (.str [91]))) (aj (ak aF (ak aF (mC (.str [91,47])) (aa 1)) (mC (.str [47,93]))) (aj (ak aF (ak aF (mC (.str [91,47,47])) (aa 1)) (mC (.str [93]))) (aj (ak aF (ak aF (mC (.str [91])) (aa 1)) (mC (.str [10]))) (aj (mC (.str [93])) (aj (mC (.str [47])) ao))))))))))
  (aq (cW 4 (ak aF (ak aF (mC (.str [91,47])) (aa 1)) (mC (.str [9,93]))))
  (aq (aD (az (ak gLt (aa 2) (mC (.int 3)))) (aC (ak gIx (aB J2 ao) (ak bj (aa 3) (mC (.int 93))))) aK)
  (aq (aD (az (ak gEq (aa 2) (mC (.int 3)))) (aC (ak gIx (mC (.str [32,65,66,90])) (ak bj (aa 3) (mC (.int 4))))) aK)
  (aq (aD (az (ak gEq (aa 2) (mC (.int 4)))) (aC (ak aF (ak aF (mC (.str [91])) (aa 1)) (mC (.str [93])))) aK)
  (aq (aD (az (ak gEq (aa 2) (mC (.int 5)))) (aC (ak aF (ak aF (mC (.str [91,47])) (aa 1)) (mC (.str [93])))) aK)
  (aq (aD (az (ak gEq (aa 2) (mC (.int 6)))) (aC (ak gIx (aV (aj (mC (.str [91,93])) (aj (mC (.str [91,91])) (aj (mC (.str [91,93,93])) (aj (mC (.str [91,91,93])) ao))))) (ak bj (aa 3) (mC (.int 4))))) aK)
  (aq (aD (az (ak gEq (aa 2) (mC (.int 9)))) (aC (ak gIx (aV (aj (mC (.str [10])) (aj (mC (.str [9])) (aj (mC (.str [10])) ao)))) (ak bj (aa 3) (mC (.int 3))))) aK)
  (aq (aD (az (ak gEq (aa 2) (mC (.int 10)))) (aC (aa 1)) aK)
  (aq (aD (az (ak gEq (aa 2) (mC (.int 11)))) (aC (mSl (mC (.str [111,117,116,119,101,97,118,101,115])) moN (moS (ak aF (mC (.int 2)) (ak bj (aa 3) (mC (.int 8))))))) aK)
  (aC (ak gIx (aa 4) (ak bj (aa 3) (mC (.int 18)))))))))))))))))))
def vp:=aL 5 Aj
def Qnt:ZV G "_law_token" ["_law_cell_here"] 2 [.s] vp:=by
 have:=rH G
 have:=QnE G
 exists G.f88,["_law_cell_here","_law_colour","_law_way","_law_pick","_law_odd"],[.v,.v,.v,.o]
def Ak :=
 (aq (aA 2 (mC (.str [97,98,99,100,101,102,103,104,46])))
  (aq (aA 3 (mSl (aa 0) (moS (mG (aa 1))) (moS (ak aF (aa 1) (mC (.int 4))))))
  (aq (aD (az (ak gEq (ak gIx (aa 3) (mC (.int 0))) (mC (.str [10])))) (aC (aX (aj (aX (aj (mG (aa 1)) (aj (mC (.str [101,110,100])) (aj (mC (.str [])) ao)))) (aj (mC (.int 1)) ao)))) aK)
  (aq (aD (az (ak gEq (ak gIx (aa 3) (mC (.int 0))) (mC (.str [9])))) (aC (aX (aj (aX (aj (mG (aa 1)) (aj (mC (.str [97,110,101,119])) (aj (mC (.str [])) ao)))) (aj (mC (.int 1)) ao)))) aK)
  (aq (aD (az (ak gEq (mSl (aa 3) moN (moS (mC (.int 2)))) (mC (.str [91,93])))) (aC (aX (aj (aX (aj (mG (aa 1)) (aj (mC (.str [112,108,97,105,110])) (aj (mC (.str [])) ao)))) (aj (mC (.int 2)) ao)))) aK)
  (aq (aD (az (ak gEq (mSl (aa 3) moN (moS (mC (.int 2)))) (mC (.str [91,91])))) (aC (aX (aj (aX (aj (mG (aa 1)) (aj (mC (.str [115,105,103,110])) (aj (mC (.str [91])) ao)))) (aj (mC (.int 2)) ao)))) aK)
  (aq (aD (bR (az (ak gGt (aJ aP (aj (aa 3) ao)) (mC (.int 2)))) (bR (az (ak gEq (ak gIx (aa 3) (mC (.int 0))) (mC (.str [91])))) (bR (az (ak (gIn false) (ak gIx (aa 3) (mC (.int 1))) (aa 2))) (az (ak gEq (ak gIx (aa 3) (mC (.int 2))) (mC (.str [93]))))))) (aC (aX (aj (aX (aj (mG (aa 1)) (aj (mC (.str [105,110,107])) (aj (ak gIx (aa 3) (mC (.int 1))) ao)))) (aj (mC (.int 3)) ao)))) aK)
  (aq (aD (bR (az (ak gEq (aJ aP (aj (aa 3) ao)) (mC (.int 4)))) (bR (az (ak gEq (mSl (aa 3) moN (moS (mC (.int 2)))) (mC (.str [91,47])))) (bR (az (ak (gIn false) (ak gIx (aa 3) (mC (.int 2))) (aa 2))) (az (ak gEq (ak gIx (aa 3) (mC (.int 3))) (mC (.str [93]))))))) (aC (aX (aj (aX (aj (mG (aa 1)) (aj (mC (.str [103,114,111,117,110,100])) (aj (ak gIx (aa 3) (mC (.int 2))) ao)))) (aj (mC (.int 4)) ao)))) aK)
  (aC (aX (aj (aX (aj (mG (aa 1)) (aj (mC (.str [115,105,103,110])) (aj (ak gIx (aa 3) (mC (.int 0))) ao)))) (aj (mC (.int 1)) ao))))))))))))
def o9:=aL 4 Ak
def J3:ZV G "_law_item" ["_law_text","_law_at"] 1 [.s,.s] o9:=by
 exists G.f89,["_law_text","_law_at","_law_colours","_law_here"],[.v,.v]
def Qof :=
 (aq (aA 1 (aV ao))
  (aq (aA 2 (mC (.int 0)))
  (aq (jD wF (az (ak gLt (aa 2) (aJ aP (aj (aa 0) ao)))) (aq (jC (aB o9 (aj (aa 0) (aj (aa 2) ao))) (dg 2 (bF (mgN 3) (bF (mgN 4) dC))))
  (aq (cW 1 (aa 3))
  (aA 2 (ak aF (aa 2) (aa 4))))))
  (aC (aa 1)))))
def vq:=aL 5 Qof
def J4:ZO G "_law_items" ["_law_text"] 2 [.s] vq:=by
 have:=J3 G
 exists G.f90,["_law_text","_law_items_here","_law_at","_law_item_here","_law_size"],[.o,.v,.v,.v]
def vz :=
 (aq (aA 1 (mC (.str [97,98,99,100,101,102,103,104,46])))
  (aq (aD (cI (az (ak gEq (aa 0) (mC (.str [91])))) (az (ak gEq (aa 0) (mC (.str [91,47]))))) (aC (mC (.bl true))) aK)
  (aq (aD (az (ak gEq (aJ aP (aj (aa 0) ao)) (mC (.int 2)))) (aC (c7 (ak gEq (ak gIx (aa 0) (mC (.int 0))) (mC (.str [91]))) (ak (gIn false) (ak gIx (aa 0) (mC (.int 1))) (aa 1)))) aK)
  (aC (c7 (ak gEq (aJ aP (aj (aa 0) ao)) (mC (.int 3))) (c7 (ak gEq (mSl (aa 0) moN (moS (mC (.int 2)))) (mC (.str [91,47]))) (ak (gIn false) (ak gIx (aa 0) (mC (.int 2))) (aa 1))))))))
def lK:=aL 2 vz
def QkZ:ZV G "_law_is_held" ["_law_rest"] 1 [.s] lK:=by
 exists G.f91,["_law_rest","_law_colours"],[.v]
def QpK :=
 (aq (aA 1 (aV ao))
  (aq (aA 2 (mC (.int 0)))
  (aq (jD wF (az (ak gLt (aa 2) (aJ aP (aj (aa 0) ao)))) (aq (aD (bR (az (ak gLt (ak gn (aJ aP (aj (aa 0) ao)) (aa 2)) (mC (.int 4)))) (bx (aB lK (aj (mSl (aa 0) (moS (aa 2)) moN) ao)))) (jG (aC (aX (aj (aa 1) (aj (mSl (aa 0) (moS (aa 2)) moN) ao))))) aK)
  (aq (jC (aB o9 (aj (aa 0) (aj (aa 2) ao))) (dg 2 (bF (mgN 3) (bF (mgN 4) dC))))
  (aq (cW 1 (aa 3))
  (aA 2 (ak aF (aa 2) (aa 4)))))))
  (jG (aC (aX (aj (aa 1) (aj (mC (.str [])) ao))))))))
def Al:=aL 5 QpK
def Qot:ZV G "_law_sure" ["_law_text"] 2 [.s] Al:=by
 have:=QkZ G
 have:=J3 G
 exists G.f92,["_law_text","_law_items_here","_law_at","_law_item_here","_law_size"],[.o,.v,.v,.v]
 refine xJ 1 rfl ?_
 symm
 refine xJ 1 rfl ?_
 symm
def Qog :=
 (aq (aA 2 (mMl (aV ao)))
  (aq (aA 3 (aV ao))
  (aq (aA 4 (mC (.bl false)))
  (aq (aA 5 (aV (aj (mC (.str [46])) (aj (mC (.str [46])) ao))))
  (aq (cF (bL (aa 0)) (dg 3 (bF (mgN 6) (bF (mgN 7) (bF (mgN 8) dC)))) (aq (aD (bR (bx (aa 4)) (bR (az (ak gNe (aa 7) (mC (.str [101,110,100])))) (az (ak gNe (aa 7) (mC (.str [97,110,101,119])))))) (aq (aA 3 (aV ao))
  (aA 4 (mC (.bl false)))) aK)
  (aq (aD (az (ak gEq (aa 7) (mC (.str [115,105,103,110])))) (aq (aD (az (ak gEq (aJ aP (aj (aa 3) ao)) (aa 1))) (aq (gM (aa 2) (aX (aj (aa 3) (aj (mC (.str [109,111,114,101])) ao))))
  (aA 3 (aV ao))) aK)
  (aA 3 (ak aF (aa 3) (aV (aj (aX (aj (aa 8) (aj (ak gIx (aa 5) (mC (.int 0))) (aj (ak gIx (aa 5) (mC (.int 1))) (aj (aa 6) ao))))) ao))))) (aD (az (ak gEq (aa 7) (mC (.str [105,110,107])))) (iD 5 (mC (.int 0)) (aa 8)) (aD (az (ak gEq (aa 7) (mC (.str [103,114,111,117,110,100])))) (iD 5 (mC (.int 1)) (aa 8)) (aA 5 (aV (aj (mC (.str [46])) (aj (mC (.str [46])) ao)))))))
  (aq (aD (az (ak gEq (aa 7) (mC (.str [97,110,101,119])))) (aA 4 (mC (.bl true))) aK)
  (aD (az (ak gEq (aa 7) (mC (.str [101,110,100])))) (aq (gM (aa 2) (aX (aj (aa 3) (aj (mC (.str [119,104,111,108,101])) ao))))
  (aq (aA 3 (aV ao))
  (aA 4 (mC (.bl false))))) aK)))))
  (aC (aX (aj (aa 2) (aj (aa 3) ao)))))))))
def Am:=aL 9 Qog
def QnG:ZV G "_law_parts" ["_law_items_here","_law_most"] 1 [.s,.s] Am:=by
 exists G.f93,["_law_items_here","_law_most","_law_parts_here","_law_row","_law_stale","_law_colours","_law_place","_law_kind","_law_value"],[.v,.v,.v,.o,.v,.v,.v]
def An :=
 (aq (aA 2 (mC (.str [97,98,99,100,101,102,103,104,105,106,107,108,109,110,111,112,113,114,115,116,117,118,119,120,121,122])))
  (aq (aA 3 (mq (bW (fZ (aj (mC (.int 8)) ao)) 1 [0,2] (mgN 0) b8 (ak gIx (aa 2) (ak bj (aB bN (aj (aa 1) (aj (ak aF (mC (.int 20)) (aa 0)) ao))) (mC (.int 26)))))))
  (aq (aA 4 (bW (fZ (aj (aa 1) ao)) 1 [3] (mgN 0) b8 (mSl (aa 1) moN (moS (ak gn (mC (.int 8)) (aa 0))))))
  (aq (aD (az (ak gGt (ak bj (aB bN (aj (aa 0) (aj (mC (.int 28)) ao))) (mC (.int 3))) (mC (.int 0)))) (aq (aA 5 (ak aF (mC (.int 1)) (ak bj (aB bN (aj (aa 0) (aj (mC (.int 29)) ao))) (mC (.int 8)))))
  (aq (aA 6 (ak bj (aB bN (aj (aa 0) (aj (mC (.int 30)) ao))) (aa 5)))
  (aq (aA 7 (ak bj (aB bN (aj (aa 0) (aj (mC (.int 31)) ao))) (mC (.int 20))))
  (aA 4 (bW (fZ (aj (aa 1) ao)) 1 [2,3,5,6,7] (mgN 0) b8 (ak aF (ak aF (mSl (aa 2) moN (moS (aa 4))) (ak gIx (aa 1) (ak aF (aa 5) (aa 0)))) (mSl (aa 2) (moS (ak aF (aa 4) (mC (.int 1)))) (moS (aa 3))))))))) aK)
  (aq (aD (az (ak gEq (ak bj (aB bN (aj (aa 0) (aj (mC (.int 32)) ao))) (mC (.int 2))) (mC (.int 0)))) (uf 4) aK)
  (aC (aa 4)))))))
def Ao:=aL 8 An
def Qmv:ZO G "_law_names" ["_law_cell_here","_law_many"] 2 [.s,.s] Ao:=by
 have:=rH G
 exists G.f94,["_law_cell_here","_law_many","_law_letters","_law_base","_law_names_here","_law_size","_law_at","_law_first"],[.v,.v,.o,.v,.v,.v]
 refine gK (bf qQ) ["_law_cell_here","_law_many","_law_letters","_law_base","_law_names_here","_law_size","_law_at","_law_first"] ["_law_k"] [0,2] rfl ?_ (λ_ _ _ _ P=>?_) (λ_ _ _ _ P=>?_) (λ_ _ _ _ P=>?_)
 symm
 refine FP (i:=4) (bf qQ) ["_law_cell_here","_law_many","_law_letters","_law_base","_law_names_here","_law_size","_law_at","_law_first"] ["_law_k"] [3] Jh.nd rfl (.inl rfl) rfl ?_ (λ_ _ _ _ P=>?_) (λ_ _ _ _ P=>?_) (λ_ _ _ _ P=>?_)
 symm
 refine FP (i:=4) (bf qQ) ["_law_cell_here","_law_many","_law_letters","_law_base","_law_names_here","_law_size","_law_at","_law_first"] ["_law_k"] [2,3,5,6,7] Jh.nd rfl (.inl rfl) rfl ?_ (λ_ _ _ _ P=>?_) (λ_ _ _ _ P=>?_) (λ_ _ _ _ P=>?_)
 symm
def QpT :=
 (aC (bW (bL (aa 0)) 1 [] (mgN 0) b8 (aX (aj (ak gIx (aa 0) (mC (.int 0))) (aj (ak gIx (aV (aj (ak gIx (aa 0) (mC (.int 1))) (aj (mC (.str [46])) ao))) (aJ fV (aj (ak gEq (ak gIx (aa 0) (mC (.int 0))) (mC (.str [32]))) ao))) (aj (ak gIx (aa 0) (mC (.int 2))) ao))))))
def Aq:=aL 1 QpT
def Qoh:ZO G "_law_look" ["_law_letters"] 1 [.s] Aq:=by
 exists G.f95,["_law_letters"],[]
 refine gK (bf Jf) ["_law_letters"] ["_law_one"] [] rfl ?_ (λ_ _ _ _ P=>?_) (λ_ _ _ _ P=>?_) (λ_ _ _ _ P=>?_)
 symm
def Ar :=
 (aq (aA 3 (ak gIx (aB Al (aj (aa 0) ao)) (mC (.int 0))))
  (aq (aD (bx (aa 2)) (aA 3 (aB vq (aj (aa 0) ao))) aK)
  (aq (jC (aB Am (aj (aa 3) (aj (aa 1) ao))) (dg 2 (bF (mgN 4) (bF (mgN 5) dC))))
  (aq (aD (bR (bx (aa 2)) (cI (az (ak gNe (aa 5) (aV ao))) (bR (az (ak gNe (aa 4) (aV ao))) (az (ak gEq (ak gIx (ak gIx (aa 4) (mUn kY (mC (.int 1)))) (mC (.int 1))) (mC (.str [109,111,114,101]))))))) (gM (aa 4) (aX (aj (aa 5) (aj (mC (.str [119,104,111,108,101])) ao)))) aK)
  (aC (aX (aj (aa 4) (aj (aa 5) ao))))))))
def iQ:=aL 6 Ar
def J5:ZV G "_law_told" ["_law_text","_law_most","_law_closed"] 3 [.s,.s,.s] iQ:=by
 have:=Qot G
 have:=J4 G
 have:=QnG G
 exists G.f96,["_law_text","_law_most","_law_closed","_law_items_here","_law_parts_here","_law_row"],[.v,.v,.v]
def Qol :=
 (aq (aA 1 (aV ao))
  (aq (aA 2 (aV (aj (mC (.str [46])) (aj (mC (.str [46])) ao))))
  (aq (cF (bL (aB vq (aj (aa 0) ao))) (dg 3 (bF (mgN 3) (bF (mgN 4) (bF (mgN 5) dC)))) (aD (az (ak gEq (aa 4) (mC (.str [115,105,103,110])))) (cW 1 (aX (aj (aa 5) (aj (ak gIx (aV (aj (ak gIx (aa 2) (mC (.int 0))) (aj (mC (.str [46])) ao))) (aJ fV (aj (ak gEq (aa 5) (mC (.str [32]))) ao))) (aj (ak gIx (aa 2) (mC (.int 1))) ao))))) (aD (az (ak gEq (aa 4) (mC (.str [105,110,107])))) (iD 2 (mC (.int 0)) (aa 5)) (aD (az (ak gEq (aa 4) (mC (.str [103,114,111,117,110,100])))) (iD 2 (mC (.int 1)) (aa 5)) (aD (az (ak gEq (aa 4) (mC (.str [112,108,97,105,110])))) (aA 2 (aV (aj (mC (.str [46])) (aj (mC (.str [46])) ao)))) (aC (mG (mC .non))))))))
  (aq (aD (az (ak gNe (aa 2) (aV (aj (mC (.str [46])) (aj (mC (.str [46])) ao))))) (aC (mG (mC .non))) aK)
  (aC (aa 1))))))
def vA:=aL 6 Qol
def QnV:ZO G "_law_shown" ["_law_body"] 3 [.s] vA:=by
 have:=J4 G
 exists G.f97,["_law_body","_law_seen","_law_colours","_law_place","_law_kind","_law_value"],[.o,.o,.v,.v,.v]
def J6 :=
 (aq (aD (cN (bx (fY "str" (aa 0)))) (aC (mC (.bl false))) aK)
  (aq (aA 5 (ak aF (ak aF (aa 2) (ak dD (mC (.str [32])) (ak gn (aa 3) (aJ aP (aj (aa 2) ao))))) (ak gIx (aV (aj (mC (.str [124])) (aj (mC (.str [62])) ao))) (aJ fV (aj (ak gEq (ak gIx (aa 4) (mC (.int 1))) (mC (.str [109,111,114,101]))) ao)))))
  (aq (aD (az (ak gGt (aa 1) (mC (.int 0)))) (aA 5 (ak aF (ak aF (aJ mD (aj (aa 1) ao)) (mC (.str [32]))) (aa 5))) aK)
  (aq (aA 6 (aB Aq (aj (ak gIx (aa 4) (mC (.int 0))) ao)))
  (aq (aA 7 (mSl (aa 0) (moS (aJ aP (aj (aa 5) ao))) moN))
  (aC (c7 (ak gEq (mSl (aa 0) moN (moS (aJ aP (aj (aa 5) ao)))) (aa 5)) (c7 (ak gEq (aB vA (aj (aa 7) ao)) (aa 6)) (ak gEq (aJ aP (aj (aa 7) ao)) (aJ aP (aj (aB oY (aj (aa 6) ao)) ao)))))))))))
def vB:=aL 8 J6
def Qjz:ZV G "_law_row_right" ["_law_row","_law_number","_law_name","_law_wide","_law_part"] 10 [.s,.s,.s,.s,.s] vB:=by
 have:=Qoh G
 have:=QnV G
 have:=JT G
 exists G.f98,["_law_row","_law_number","_law_name","_law_wide","_law_part","_law_head","_law_seen","_law_body"],[.v,.v,.v]
def Qoj :=
 (aq (aA 1 (aB vp (aj (aa 0) ao)))
  (aq (aD (az (ak gEq (ak bj (aB bN (aj (aa 0) (aj (mC (.int 10)) ao))) (mC (.int 4))) (mC (.int 0)))) (aC (mC (.str [10]))) aK)
  (aq (aD (az (ak gEq (ak bj (aB bN (aj (aa 0) (aj (mC (.int 11)) ao))) (mC (.int 5))) (mC (.int 0)))) (aC (mSl (aa 1) moN (moS (ak bj (aB bN (aj (aa 0) (aj (mC (.int 12)) ao))) (ak aF (aJ aP (aj (aa 1) ao)) (mC (.int 1))))))) aK)
  (aC (aa 1)))))
def m7:=aL 2 Qoj
def QmW:ZV G "_law_piece" ["_law_cell_here"] 3 [.s] m7:=by
 have:=Qnt G
 have:=rH G
 exists G.f99,["_law_cell_here","_law_piece_here"],[.v]
def Qi5 :=
 (aq (aD (cI (cN (bx (fY "list" (aa 0)))) (az (ak gNe (aJ aP (aj (aa 0) ao)) (aJ aP (aj (aa 4) ao))))) (aC (mC (.bl false))) aK)
  (aq (cF (fZ (aj (aJ aP (aj (aa 4) ao)) ao)) (mgN 5) (aD (cN (bx (aB vB (aj (ak gIx (aa 0) (aa 5)) (aj (ak gIx (aV (aj (mC (.int 0)) (aj (ak aF (aa 1) (aa 5)) ao))) (aJ fV (aj (ak gGt (aa 1) (mC (.int 0))) ao))) (aj (aa 2) (aj (aa 3) (aj (ak gIx (aa 4) (aa 5)) ao)))))))) (aC (mC (.bl false))) aK))
  (aC (mC (.bl true)))))
def rJ:=aL 6 Qi5
def J7:ZV G "_law_rows_right" ["_law_rows","_law_number","_law_name","_law_wide","_law_parts_here"] 11 [.s,.s,.s,.s,.s] rJ:=by
 have:=Qjz G
 exists G.f100,["_law_rows","_law_number","_law_name","_law_wide","_law_parts_here","_law_k"],[.v]
def Av :=
 (aq (aA 1 (ak gIx (aV (aj (mC (.int 40)) (aj (mC (.int 120)) (aj (mC (.int 200)) ao)))) (ak bj (aB bN (aj (aB oZ (aj (aa 0) (aj (mC (.int 0)) ao))) (aj (mC (.int 37)) ao))) (mC (.int 3)))))
  (aq (aA 2 (mC (.str [])))
  (aq (cF (bL (mSl (aa 0) (moS (mC (.int 1))) (moS (mC (.int 21))))) (mgN 3) (aq (aA 4 (aV (aj (mC (.str [])) (aj (ak aF (ak aF (mC (.str [91])) (ak gIx (mC (.str [97,98,46])) (ak bj (aB bN (aj (aa 3) (aj (mC (.int 14)) ao))) (mC (.int 3))))) (mC (.str [93]))) (aj (ak aF (ak aF (mC (.str [91,47])) (ak gIx (mC (.str [97,98,46])) (ak bj (aB bN (aj (aa 3) (aj (mC (.int 15)) ao))) (mC (.int 3))))) (mC (.str [93]))) (aj (mC (.str [91,93])) (aj (mC (.str [10])) ao)))))))
  (aA 2 (ak aF (ak aF (aa 2) (ak gIx (aa 4) (ak bj (ak bj (aB bN (aj (aa 3) (aj (mC (.int 16)) ao))) (mC (.int 8))) (mC (.int 5))))) (ak dD (ak gIx (mC (.str [97,120,32,65])) (ak bj (aB bN (aj (aa 3) (aj (mC (.int 17)) ao))) (mC (.int 4)))) (ak aF (mC (.int 1)) (ak bj (aB bN (aj (aa 3) (aj (mC (.int 18)) ao))) (mC (.int 20)))))))))
  (aq (aA 5 (dj "Roll" vm (maD (aj (aV (aj (mC (.str [97])) ao)) (aj (aa 1) ao)) (.bl false))))
  (aq (aA 6 (ak aF (aU "Roll" "feed" rF (aa 5) (aj (mC (.str [97])) (aj (aa 2) ao))) (aU "Roll" "close" rG (aa 5) (aj (mC (.str [97])) ao))))
  (aC (aB rJ (aj (aa 6) (aj (mC (.int 0)) (aj (mC (.str [97])) (aj (mC (.int 1)) (aj (ak gIx (aB iQ (aj (aa 2) (aj (aa 1) (aj (mC (.bl true)) ao)))) (mC (.int 0))) ao))))))))))))
def Aw:=aL 7 Av
def Qor:ZV G "_law_long" ["_law_script"] 12 [.s] Aw:=by
 have:=rH G
 have:=J1 G
 have:=Af G
 have:=JZ G
 have:=J0 G
 have:=J7 G
 have:=J5 G
 exists G.f101,["_law_script","_law_most","_law_text","_law_one","_law_some","_law_roll","_law_rows"],[.v,.v,.v,.v,.v,.v]
def Ay :=
 (aq (aA 1 (aB oZ (aj (aa 0) (aj (mC (.int 0)) ao))))
  (aq (aA 2 (aB Ao (aj (aa 1) (aj (ak aF (mC (.int 1)) (ak bj (aB bN (aj (aa 1) (aj (mC (.int 33)) ao))) (mC (.int 6)))) ao))))
  (aq (aA 3 (ak aF (mC (.int 1)) (ak bj (aB bN (aj (aa 1) (aj (mC (.int 34)) ao))) (mC (.int 9)))))
  (aq (aA 4 (ak gEq (ak bj (aB bN (aj (aa 1) (aj (mC (.int 35)) ao))) (mC (.int 2))) (mC (.int 0))))
  (aq (aA 5 (dj "Roll" vm (aj (aJ jE (aj (aa 2) ao)) (aj (aa 3) (aj (aa 4) ao)))))
  (aq (aA 6 (aJ mF (aj (bW (bL (aa 2)) 1 [] (mgN 0) b8 (aJ aP (aj (aa 0) ao))) ao)))
  (aq (aA 7 (uy (aj (bW (bL (aa 2)) 1 [] (mgN 0) b8 (aX (aj (aa 0) (aj (mC (.str [])) ao)))) ao)))
  (aq (aA 8 (aV ao))
  (aq (aA 9 (aV ao))
  (aq (cF (bL (mSl (aa 0) (moS (mC (.int 1))) (moS (mC (.int 31))))) (mgN 10) (aq (aA 11 (bW (bL (aa 2)) 1 [8] (mgN 0) (az (ak (gIn true) (aa 0) (aa 1))) (aa 0)))
  (aq (aD (az (ak gEq (aa 11) (aV ao))) w5 aK)
  (aq (aA 12 (ak gIx (aa 11) (ak bj (aB bN (aj (aa 10) (aj (mC (.int 3)) ao))) (aJ aP (aj (aa 11) ao)))))
  (aq (aA 13 (aJ aP (aj (ak gIx (aB iQ (aj (gO (aa 7) (aa 12)) (aj (aa 3) (aj (mC (.bl false)) ao)))) (mC (.int 0))) ao)))
  (aq (aD (az (ak gEq (ak bj (aB bN (aj (aa 10) (aj (mC (.int 4)) ao))) (mC (.int 12))) (mC (.int 0)))) (aq (cW 8 (aa 12))
  (aA 14 (aU "Roll" "close" rG (aa 5) (aj (aa 12) ao)))) (aq (lu (aa 7) (aa 12) (ak aF (gO (aa 7) (aa 12)) (aB m7 (aj (aa 10) ao))))
  (aA 14 (aU "Roll" "feed" rF (aa 5) (aj (aa 12) (aj (aB m7 (aj (aa 10) ao)) ao))))))
  (aq (aA 15 (mSl (ak gIx (aB iQ (aj (gO (aa 7) (aa 12)) (aj (aa 3) (aj (ak (gIn false) (aa 12) (aa 8)) ao)))) (mC (.int 0))) (moS (aa 13)) moN))
  (aq (aD (cN (bx (aB rJ (aj (aa 14) (aj (ak dD (aJ fV (aj (aa 4) ao)) (ak aF (aJ aP (aj (aa 9) ao)) (mC (.int 1)))) (aj (aa 12) (aj (aa 6) (aj (aa 15) ao)))))))) (aC (mC (.bl false))) aK)
  (aq (aA 9 (ak aF (aa 9) (aa 14)))
  (aq (tX 14)
  (aq (aD (az (ak gNe (aU "Roll" "told_rows" lJ (aa 5) ao) (aa 9))) (aC (mC (.bl false))) aK)
  (qt (aU "Roll" "told_rows" lJ (aa 5) ao)))))))))))))
  (aC (c7 (ak gEq (aU "Roll" "told_rows" lJ (aa 5) ao) (aa 9)) (aB Aw (aj (aa 0) ao))))))))))))))
def J8:=aL 16 Ay
def Qx3:ZV G "law" ["_law_script"] 13 [.s] J8:=by
 have:=J1 G
 have:=Qmv G
 have:=rH G
 have:=Af G
 have:=(Af G).canC
 have:=J5 G
 have:=J0 G
 have:=QmW G
 have:=JZ G
 have:=J7 G
 have:=QiI G
 have:=Qor G
 exists G.f102,["_law_script","_law_cell_here","_law_names_here","_law_most","_law_numbered","_law_roll","_law_wide","_law_texts","_law_ended","_law_every","_law_one","_law_left","_law_name","_law_ahead","_law_rows","_law_parts_here"],[.v,.v,.v,.v,.v,.v,.v,.o,.v,.v,.v,.v,.v,.o,.v]
 refine gK (bf gY) ["_law_script","_law_cell_here","_law_names_here","_law_most","_law_numbered","_law_roll","_law_wide","_law_texts","_law_ended","_law_every","_law_one","_law_left","_law_name","_law_ahead","_law_rows","_law_parts_here"] ["_law_name"] [] rfl ?_ (λ_ _ _ _ P=>?_) (λ_ _ _ _ P=>?_) (λ_ _ _ _ P=>?_)
 symm
 refine gK (bf gY) ["_law_script","_law_cell_here","_law_names_here","_law_most","_law_numbered","_law_roll","_law_wide","_law_texts","_law_ended","_law_every","_law_one","_law_left","_law_name","_law_ahead","_law_rows","_law_parts_here"] ["_law_name"] [] rfl ?_ (λ_ _ _ _ P=>?_) (λ_ _ _ _ P=>?_) (λ_ _ _ _ P=>?_)
 symm
 refine FN (i:=11) (bf gY) ["_law_script","_law_cell_here","_law_names_here","_law_most","_law_numbered","_law_roll","_law_wide","_law_texts","_law_ended","_law_every","_law_one","_law_left","_law_name","_law_ahead","_law_rows","_law_parts_here"] ["_law_name"] [8] Qy7.nd rfl (.inl rfl) rfl ?_ (λ_ _ _ _ P=>?_) (λ_ _ _ _ P=>?_) (λ_ _ _ _ P=>?_)
 symm
end
def aM      (d:a ρ O=.ok x O)(hb:b ρ O=.ok y O)(h:g (aY O x) (aY O y)=some z):ak g a b ρ O=.ok z O:=by
 rw[ym,d,aW,hb,aW,h,gQ]
def ma1     (h:a ρ O=.ok x O):aj a ao ρ O=.ok [x] O:=by
 rw[iJ,h,aW,lC,aW]
def maS       (h:a ρ O=.ok x O)(h2:r ρ O=.ok xs O):aj a r ρ O=.ok (x::xs) O:=by
 rw[iJ,h,aW,h2,aW]
def rK     (h:m ρ O=.ok xs O)(b:xs.length<=1000000):aX m ρ O=.ok (.tup xs) O:=by
 rw[Hx,h,aW,if_pos b]
def Az     (h:m ρ O=.ok xs O)(b:xs.length<=1000000):aV m ρ O=.ok (.lst xs) O:=by
 rw[Hw,h,aW,if_pos b]
def eU       (h:m ρ O=.ok xs O)(b:g (xs.map (aY O))=some z):aJ g m ρ O=.ok z O:=by
 rw[yo,h,aW,b,gQ]
def rM       (b:m ρ O=.ok d O)(h:ρ[i]?=some (some (.lst ds)))(f:ds.length<1000000):cW i m ρ O=.nx (ρ.set i (some (.lst (ds++[d])))) O:=by
 rw[uI,b,uJ h f]
def bc      (h:m ρ O=.ok d O):aA i m ρ O=.nx (ρ.set i (some d)) O:=by
 rw[qK,h,qL]
def bz      (h:ma ρ O=.ok ds O):aB c ma ρ O=c ds O:=by
 rw[mQ,h,aW]
def bU     (h:m ρ O=.ok (.bl b) O):az m ρ O=.ok b O:=by
 rw[QzW,h,aW,QAc]
def cT     (h:t ρ O=.ok true O):aD t a b ρ O=a ρ O:=by
 rw[jO,h,qI,if_pos rfl]
def cC     (h:t ρ O=.ok false O):aD t a b ρ O=b ρ O:=by
 rw[jO,h,qI,if_neg zx]
def m8     (h:m ρ O=.ok (.lst l) O):aJ aP (aj m ao) ρ O=.ok (.int (l.length:Int)) O:=eU (ma1 h) rfl
def J9     (h:m ρ O=.ok (.int (n:Int)) O)(b:n<=1000000):fZ (aj m ao) ρ O=.ok (gq 0 n) O:=by
 rw[QxY,ma1 h];show(if(n:Int)<=1000000000/\-1000000000<=(n:Int) then Res.ok _ O else .no)=_;rw[if_pos ⟨by omega,by omega⟩,Int.toNat_natCast]
def cg     (f:a ρ O=.ok (.int i) O)(hb:b ρ O=.ok (.int j) O)(d:0<j):ak bj a b ρ O=.ok (.int (i % j)) O:=aM f hb (by rw[jK,jK,QAe,if_pos d])
def m9     (d:a ρ O=.ok (.int i) O)(hb:b ρ O=.ok (.int j) O):ak aF a b ρ O=.ok (.int (i+j)) O:=aM d hb rfl
def Ba     (d:a ρ O=.ok (.int i) O)(hb:b ρ O=.ok (.int j) O):ak gn a b ρ O=.ok (.int (i - j)) O:=aM d hb rfl
def Ka     (d:a ρ O=.ok (.int i) O)(hb:b ρ O=.ok (.int j) O):az (ak gLt a b) ρ O=.ok (decide (i<j)) O:=bU (aM d hb rfl)
def jU     (d:a ρ O=.ok (.int i) O)(hb:b ρ O=.ok (.int j) O):az (ak gEq a b) ρ O=.ok (decide (i=j)) O:=bU (aM d hb rfl)
def Kc       (h:a ρ O=.ok x O1)(h2:r ρ O1=.ok xs b):aj a r ρ O=.ok (x::xs) b:=by
 rw[iJ,h,aW,h2,aW]
def jV     (h:a ρ O=.ok x O1):aj a ao ρ O=.ok [x] O1:=Kc h rfl
def jW      (h:m ρ O=.ok d O1):aA i m ρ O=.nx (ρ.set i (some d)) O1:=by
 rw[qK,h,qL]
def Kd    (h:m ρ O=.ok (.bl true) O'):cN (bx m) ρ O=.ok false O':=by
 rw[lB,jM,h];rfl
def ifN     (h:t ρ O=.ok false O'):aD t a aK ρ O=.nx ρ O':=by
 rw[jO,h];rfl
def ifY     (h:t ρ O=.ok true O'):aD t a b ρ O=a ρ O':=by
 rw[jO,h];rfl
def Bb      (h:ma ρ O=.ok ds O1):aB c ma ρ O=c ds O1:=by
 rw[mQ,h,aW]
def nj      (d:a ρ O=.ok x O1)(hb:b ρ O1=.ok y f)(h:g (aY f x) (aY f y)=some z):ak g a b ρ O=.ok z f:=by
 rw[ym,d,aW,hb,aW,h,gQ]
def iR       (f:g d ρ=some ρ1)(hb:b ρ1 O=.nx ρ2 j):bB g b (d::ds) ρ O=bB g b ds ρ2 j:=by
 conv=>lhs;unfold bB
 rw[f]
 dsimp
 rw[hb]
def st(c:Nat):D:=.str [c]
def kz(ks:List Nat):List (List Nat):=ks.map λc=>[c]
def Bc  :[c]∈kz ks↔c∈ks:=by simp[kz]
theorem Ke:∀ks:List Nat,strsT (ks.map st)=some (kz ks)
 | []=>rfl
 |c::ks=>by
  show(strsT _).map _=_;rw[Ke];rfl
def nu(ks:List Nat):List Nat:=(jJ (kz ks)).map λl=>l.headD 0
def Kf   (h:l∈kz ks):∃c,l=[c]/\c∈ks:=by
 obtain⟨c,b,rfl⟩:=zw.mp h;exact⟨c,rfl,b⟩
def Bd(ks:List Nat):jJ (kz ks)=kz (nu ks):=by
 unfold nu kz;rw[zQ]
 conv=>lhs;rw[<-List.map_id (jJ _)]
 refine jj λl b=>?_
 obtain⟨c,rfl,_⟩:=Kf ((um l _).mp b);rfl
def Be(ks:List Nat)(c:Nat):c∈nu ks↔c∈ks:=by
 rw[<-Bc,<-Bd,um,Bc]
def Kg(ks:List Nat):(nu ks).Nodup:=by
 have h:=xX (kz ks);rw[Bd] at h;unfold kz at h;rw[List.pairwise_map] at h
 exact h.imp λ{a b} hab e=>by
  subst e;exact List.lt_irrefl _ hab
theorem sub_len{α:Type}[DecidableEq α]:∀(l m:List α),l.Nodup->(∀x∈l,x∈m)->l.length<=m.length
 | [],_,_,_=>Nat.zero_le _
 |x::l,m,h,hs=>by
  obtain⟨h1,h2⟩:=List.nodup_cons.mp h;have hx:=hs x zd
  have:=sub_len l (m.erase x) h2 λy b=>(List.mem_erase_of_ne λe=>h1 (by rw[<-e];exact b)).mpr (hs y (zp _ b))
  rw[List.length_erase_of_mem hx] at this;have d:=List.length_pos_of_mem hx;rw[zA];omega
def QtV{M:List Nat}(h:∀c∈ks,c∈M):(nu ks).length<=M.length:=sub_len _ _ (Kg ks) λc b=>h c ((Be ks c).mp b)
def Qxi{M:List Nat}(h:∀c∈ks,c∈M):((kz ks).foldl stepT []).length<=M.length:=by
 have:=sub_len _ _ (xY _ [] .nil) λl b=>by
  rcases(uq l _ []).mp b with z | z
  ·cases z
  ·obtain⟨c,rfl,d⟩:=Kf z;exact Bc.mpr (h c d)
 unfold kz at this ⊢
 rwa [zf] at this
def Qw7{M:List Nat}(h0:ks≠[])(b:ks.length<4000)(h:∀c∈ks,c∈M)(d:M.length<64):uv [.lst (ks.map st)]=some (.lst ((nu ks).map st)):=by
 show ur (.lst _)=_;unfold ur
 dsimp
 rw[Ke]
 dsimp
 have hl':(kz ks).length<4000:=by unfold kz;rw[zf];exact b
 have h0':kz ks≠[]:=λe=>h0 (by exact List.map_eq_nil_iff.mp e)
 rw[if_pos ⟨hl',h0',Nat.lt_of_le_of_lt (Qxi h) d⟩,Bd];unfold kz;rw[zQ];rfl
def gZ         (hv:u ρ O=.ok d O1)(b:mo ρ O1=.ok (.ob n) O1)(q:O1[n]?=some (.ins c fs))(m:c∈x)(j:fs.length<900):
  bI x f mo u ρ O=.nx ρ (O1.set n (.ins c (putD f d fs))):=by
 rw[yw,hv,yx,b];unfold puF
 dsimp
 rw[q]
 dsimp
 rw[if_pos ⟨m,j⟩]
def dX         (d:m ρ O=.ok (.ob n) O)(q:O[n]?=some (.ins c fs))(j:c∈u)(b:fs.lookup f=some y):
  bu u f m ρ O=.ok y O:=by
 rw[Ik,d];unfold dW
 dsimp
 rw[q]
 dsimp
 rw[if_pos j,b]
def cY          (b:mo ρ O=.ok (.ob n) O)(j:O[n]?=some (.ins c fs))(d:(fs.lookup m).isNone=true)(f:ma ρ O=.ok ds O):
  aU c m cf mo ma ρ O=cf (.ob n::ds) O:=by
 rw[uH,b];unfold meF
 dsimp
 rw[j]
 dsimp
 rw[if_pos ⟨rfl,d⟩,f,aW]
def dO{O:au} :(O++[o])[O.length]?=some o:=by
 rw[zK (zc _),Nat.sub_self];rfl
def nC{O:au}{o:Ob}:(O++[o]).set O.length b=O++[b]:=by
 rw[List.set_append_right _ _ (zc _),Nat.sub_self];rfl
def eV     (h:m ρ O=.ok (.lst l) O):bL m ρ O=.ok l O:=by
 rw[oK,h,aW,Qsl,yq]
def lL  {own:Nat}        (h:m ρ O=.ok ds O)(b:ds.length<=1000000)(h0:d8 own cap ρ=f)(d:cG g t e ds f O []=.ok ys O1):bW m own cap g t e ρ O=.ok (.lst ys) O1:=by
 rw[qO,h,aW,if_pos b,h0,d,aW]
def vC      (h:m ρ O=.ok d O)(hd:aY O d=.lst l):aJ jE (aj m ao) ρ O=.ok (.lst l) O:=by
 rw[yo,ma1 h,aW,zg,zV,hd,Qwu,gQ]
def not_no     (h:m ρ O=.ok (.bl true) O):aD (cN (bx m)) s aK ρ O=.nx ρ O:=by
 rw[jO,lB,jM,h,aW,mK,mO,oJ,aW];rfl
def Bf    (h:m ρ O=.ok (.bl true) O):cN (bx m) ρ O=.ok false O:=by
 rw[lB,jM,h,aW,mK,mO];rfl
def or_f    (h1:t1 ρ O=.ok false O)(h2:t2 ρ O=.ok false O):cI t1 t2 ρ O=.ok false O:=by
 rw[qG,h1,aW,if_neg zx,h2]
def vD      (h:m ρ O=.ok d O1):aA i m ρ O=.nx (ρ.set i (some d)) O1:=by
 rw[qK,h,qL]
def Bg     (h:m ρ O=.ok (.bl b) O):bx m ρ O=.ok b O:=by
 rw[jM,h,aW,mK,mO,oJ]
def Bh      (h:m ρ O=.ok d O)(b:tyD (aY O d)=some t):fY n m ρ O=.ok (.bl (dF t n)) O:=by
 rw[Hz,h,aW,b,Hy]
def fD     (h:m ρ O=.ok d O1):aC m ρ O=.rt d O1:=by rw[dU,h];rfl
def aQ    (h:a ρ O=.nx ρ' O'):aq a b ρ O=b ρ' O':=by rw[cX,h,gU]
def lM     (h:t ρ O=.ok false O):aD t a aK ρ O=.nx ρ O:=by rw[cC h];rfl
def Kh     (h:t ρ O=.ok true O)(d:a ρ O=.nx ρ' O'):aD t a b ρ O=.nx ρ' O':=by rw[cT h];exact d
def and_f    (h1:t1 ρ O=.ok false O):bR t1 t2 ρ O=.ok false O:=by rw[uz,h1,aW,if_neg zx]
def Kl     (h1:t1 ρ O=.ok true O)(h2:t2 ρ O=.ok b O):bR t1 t2 ρ O=.ok b O:=by rw[uz,h1];exact h2
abbrev L3:=Nat×Nat×Nat
def dK(x:L3):D:=.tup [st x.1,st x.2.1,st x.2.2]
def pr(p:Nat×Nat):D:=.tup [st p.1,st p.2]
def sgn(c:Nat):List Nat:=if c=91 then[91,91] else[c]
def Qy9(c:Nat)(O:au):jT [.str bG,st c] O=.ok (.str (sgn c)) O:=by
 unfold sgn
 by_cases h:c=91
 ·subst h;rfl
 ·have e:gEq (.str [c]) (.str [91])=some (.bl false):=by rw[HS,zl λz=>h (by injection z)]
  rw[if_neg h];show bw _=_;unfold Ju;rw[cX,cT rfl,dU,jN,bU (aM rfl rfl e)];rfl
def QEi(c:Nat)(O:au):jT [.str eG,st c] O=.ok (.str [91,c,93]) O:=rfl
def QCt(c:Nat)(O:au):jT [.str fc,st c] O=.ok (.str [91,47,c,93]) O:=rfl
def QwP(O:au):jT [.str jQ,.str []] O=.ok (.str [91,93]) O:=rfl
def vG(a b:Nat):gEq (st a) (st b)=some (.bl (decide (a=b))):=by
 show some _=_;rw[show decide _=decide (a=b) from decide_eq_decide.mpr ⟨λh=>by injection h,λh=>by rw[h]⟩]
def add_l     (d:a ρ O=.ok (.lst l) O)(hb:b ρ O=.ok (.lst m) O)(h:l.length+m.length<=1000000):ak aF a b ρ O=.ok (.lst (l++m)) O:=aM d hb (by
 show(if l.length+m.length<=1000000 then some _ else none)=_
 rw[if_pos h])
def QAS  {i:Nat}  (h:(i=1/\c=x.2.1)\/(i=2/\c=x.2.2)):gIx (dK x) (.int (i:Int))=some (st c):=by
 rcases h with⟨rfl,rfl⟩ | ⟨rfl,rfl⟩<;>rfl
def Qzh(l:List L3)(i:Nat)(f:L3->Nat)(j:∀x,(i=1/\f x=x.2.1)\/(i=2/\f x=x.2.2)){M:List Nat}(u:l.length<=1000)(q:M.length<64)(d:46∈M)(h:∀x∈l,f x∈M)(O:au):
  rE [.lst (l.map dK),.int (i:Int)] O=.ok (.lst ((nu (46::l.map f)).map st)) O:=by
 show bw (Ab [some _,some _] O)=_;unfold Ab
 have c:=iK (g:=mgN 0) (t:=b8) (m:=ak _ (aa 0) (aa 1)) (λρ=>∃a,ρ=[a,some _]) dK _ l [none,some (.int _)] O [] ⟨_,rfl⟩ (by
  rintro x hx ρ ⟨a,rfl⟩
  exact⟨_,rfl,⟨_,rfl⟩,rfl,aM rfl rfl (QAS (j x))⟩)
 rw[zO] at c;have e:=lL (m:=bL (aa 0)) (ρ:=[some _,some _]) (own:=1) (cap:=[1]) (eV rfl) (by rw[zf];omega) rfl c;rw[dU,eU (ma1 (add_l rfl e (by rw[zf];show 1+_<=_;omega)))]
 ·rfl
 ·have:=Qw7 (ks:=46::l.map f) (by simp) (by rw[zA,zf];omega) (λc b=>by
   rcases zk.mp b with rfl | b
   ·exact d
   ·obtain⟨x,hx,rfl⟩:=zw.mp b
    exact h x hx) q
  rw[zg,zQ] at this;exact this
def Bj    (h:T ρ O=.ok true O):bR T U ρ O=U ρ O:=by rw[uz,h];rfl
def QB4    (h:T ρ O=.ok true O):cI T U ρ O=.ok true O:=by rw[qG,h];rfl
def Km    (h:T ρ O=.ok false O):cI T U ρ O=U ρ O:=by rw[qG,h];rfl
def Bk     (h:m ρ O=.ok d O):kI m ρ O=.ok (.bl (isNon d)) O:=by rw[QBq,h];rfl
def jX     (h:T ρ O=.ok b O)(h2:U ρ O=.ok c O):bR T U ρ O=.ok (b&&c) O:=by
 rw[uz,h,aW,h2];cases b<;>rfl
def Ko     (h:r ρ O=.ok ds O)(b:ds.length<=1000000):aX r ρ O=.ok (.tup ds) O:=by rw[Hx,h,aW,if_pos b]
def drp     (h:m ρ O=.ok d O1):eZ m ρ O=.nx ρ O1:=by rw[qH,h];rfl
def orb     (h:T ρ O=.ok b O)(h2:U ρ O=.ok c O):cI T U ρ O=.ok (b || c) O:=by
 rw[qG,h,aW,h2];cases b<;>rfl
def wA     (h:m ρ O=.ok (.bl b) O):bx m ρ O=.ok b O:=by rw[jM,h];rfl
def QAE(a b:List Nat):(S a == S b)=decide (a=b):=by
 by_cases h:a=b
 ·subst h;rw[zv rfl];exact beq_self_eq_true _
 ·rw[zl h]
  refine beq_eq_false_iff_ne.mpr λz=>h ?_
  have:=congrArg (λx =>x.cps.toList) z
  simpa [km]
def sq    (h:a ρ O=.nx ρ' O'):aq a b ρ O=b ρ' O':=by
 rw[cX,h,gU]
def iT        (h:m ρ O=.ok ds O1)(d:bB g b ds ρ O1=r):cF m g b ρ O=r:=by rw[qM,h,qN,d]
def Bl      (h:m ρ O=.ok d O'):aA i m ρ O=.nx (ρ.set i (some d)) O':=by
 rw[qK,h,qL]
abbrev Nd:=Int×(Nat×Nat)
def dN(n:Nd):D:=.tup [.int n.1,pr n.2]
def key(n:Nd):NK:=(n.1,[.inr (S [n.2.1]),.inr (S [n.2.2])])
def Bm(n:Nd):qz (dN n)=some (key n):=rfl
def qe  (h:S [a]=S [b]):a=b:=by
 have:=QAE [a] [b]
 rw[h,beq_self_eq_true] at this;have q:=zW this.symm
 injection q
def rN :key a=key b↔a=b:=by
 constructor
 ·intro h;have h1:=congrArg Prod.fst h;have h2:=congrArg Prod.snd h;have h2' :=h2
  injection h2' with f d
  injection f with f
  injection d with d _
  injection d with d
  exact Prod.ext h1 (Prod.ext (qe f) (qe d))
 ·intro h;rw[h]
structure M3 where
 cost:Int
 name:List Nat
 other:Nd
def d3(m:M3):D:=.tup [.int m.cost,.str m.name,dN m.other]
def pD:Option Int->D
 |none=>.non
 |some i=>.int i
abbrev Tb:=List (Nd×Option Int)
def tab(ps:Tb):List (NK×D):=ps.map λx=>(key x.1,pD x.2)
def lk(ps:Tb)(n:Nd):Option (Option Int):=(ps.find? λx=>decide (x.1=n)).map (·.2)
def put(ps:Tb)(n:Nd)(v:Option Int):Tb:=if(ps.any λx=>decide (x.1=n))=true then ps.map (λx=>if x.1=n then(x.1,v) else x) else ps++[(n,v)]
theorem Kq(n:Nd):∀ps:Tb,valN (tab ps) (key n)=(lk ps n).map pD
 | []=>rfl
 |x::ps=>by
  have b:=Kq n ps;unfold valN lk tab;rw[zg,List.find?_cons,List.find?_cons]
  by_cases h:x.1=n
  ·simp[h]
  ·have h':¬key _=key n:=λz=>h (rN.mp z)
   simp only[h,h'];exact b
theorem Kr(n:Nd):∀ps:Tb,((tab ps).any λp=>decide (p.1=key n))=ps.any λx=>decide (x.1=n)
 | []=>rfl
 |x::ps=>by
  have b:=Kr n ps;unfold tab;rw[zg,List.any_cons];congr 1;exact decide_eq_decide.mpr rN
def Qwv(ps:Tb)(n:Nd)(v:Option Int):putN (tab ps) (key n) (pD v)=tab (put ps n v):=by
 unfold putN put;rw[Kr]
 split
 ·unfold tab;rw[zQ,zQ]
  refine jj λx _=>?_
  by_cases h:x.1=n
  ·simp[h]
  ·have h':¬key _=key n:=λz=>h (rN.mp z)
   simp[h,h']
 ·unfold tab;rw[zM];rfl
theorem Bo :∀{ps:Tb},(ps.any λx=>decide (x.1=n))=false->lk ps n=none
 | [],_=>rfl
 |x::ps,h=>by
  rw[List.any_cons,Bool.or_eq_false_iff] at h
  have:=Bo h.2
  unfold lk;rw[List.find?_cons,h.1];exact this
def pq(x:Nd×Option Int)(ps:Tb)(n:Nd):lk (x::ps) n=if x.1=n then some x.2 else lk ps n:=by
 unfold lk
 by_cases h:x.1=n
 ·simp[h]
 ·simp[h]
theorem Ks(n:Nd)(y:Nd×Option Int):∀ps:Tb,lk (ps++[y]) n=if(lk ps n).isSome=true then lk ps n else if y.1=n then some y.2 else none
 | []=>by
  rw[zO,pq];rfl
 |x::ps=>by
  rw[List.cons_append,pq,pq,Ks ]
  by_cases h:x.1=n
  ·simp[h]
  ·simp[h]
theorem Ku(n m:Nd)(v:Option Int):∀ps:Tb,lk (ps.map λx=>if x.1=n then(x.1,v) else x) m=if m=n then(lk ps m).map λ_=>v else lk ps m
 | []=>by simp[lk]
 |x::ps=>by
  rw[zg,pq,pq,Ku ]
  by_cases h:x.1=n
  ·by_cases b:m=n
   ·subst b;simp[h]
   ·have:¬n=m:=λz=>b z.symm
    simp[h,this]
  ·by_cases hx:x.1=m
   ·have:¬m=n:=λz=>h (hx.trans z)
    simp[h,this]
   ·simp[h,hx]
theorem Kv :∀{ps:Tb},(ps.any λx=>decide (x.1=n))=true->(lk ps n).isSome=true
 |x::ps,h=>by
  rw[pq]
  by_cases hx:x.1=n
  ·simp[hx]
  ·rw[if_neg hx];rw[List.any_cons,zl hx] at h;exact Kv h
def Kw(ps:Tb)(n m:Nd)(v:Option Int):lk (put ps n v) m=if m=n then some v else lk ps m:=by
 unfold put
 split
 ·rename_i h;rw[Ku]
  split
  ·rename_i b;subst b
   have:=Kv h
   cases e:lk ps m with
   |none=>rw[e] at this;cases this
   |some w=>rfl
  ·rfl
 ·rename_i h;have h0:=Bo (Bool.eq_false_iff.mpr h);rw[Ks]
  by_cases b:m=n
  ·subst b;simp[h0]
  ·have:¬n=m:=λz=>b z.symm
   simp[b,this]
   cases lk ps m<;>simp
def QvU(ps:Tb)(n:Nd)(v:Option Int):(put ps n v).length<=ps.length+1:=by
 unfold put
 split
 ·rw[zf];omega
 ·rw[ze];exact zc _
def Qwe    (h:(lk ps n).isSome=true):(put ps n v).length=ps.length:=by
 unfold put
 split
 ·rw[zf]
 ·rename_i b;rw[Bo (Bool.eq_false_iff.mpr b)] at h;cases h
def nD        (h1:mo ρ O=.ok (.ob p) O)(h2:O[p]?=some (.dn (tab ps)))(h3:my ρ O=.ok (dN n) O)(h4:lk ps n=some v):eE mo my ρ O=.ok (pD v) O:=by
 unfold eE;rw[h1]
 dsimp
 rw[h3]
 dsimp
 unfold nsG;rw[Bm,h2]
 dsimp
 rw[Kq,h4];rfl
def QAs        (h1:mo ρ O=.ok (.ob q) O)(h2:O[q]?=some (.nf b))(h3:my ρ O=.ok (dN n) O)(h4:valN b (key n)=some d):eE mo my ρ O=.ok d O:=by
 unfold eE;rw[h1]
 dsimp
 rw[h3]
 dsimp
 unfold nsG;rw[Bm,h2]
 dsimp
 rw[h4]
def Ky        (h0:j ρ O=.ok d O)(h1:mo ρ O=.ok (.ob p) O)(h2:O[p]?=some (.dn f))(h3:my ρ O=.ok (dN n) O)(b:f.length<1000000):gD mo my j ρ O=.nx ρ (O.set p (.dn (putN f (key n) d))):=by
 unfold gD;rw[h0]
 dsimp
 rw[h1]
 dsimp
 rw[h3]
 dsimp
 rw[Bm,h2]
 dsimp
 rw[if_pos b]
def Kz        (h0:d ρ O=.ok (pD v) O)(h1:mo ρ O=.ok (.ob p) O)(h2:O[p]?=some (.dn (tab ps)))(h3:my ρ O=.ok (dN n) O)(b:ps.length<1000000):gD mo my d ρ O=.nx ρ (O.set p (.dn (tab (put ps n v)))):=
 (Ky h0 h1 h2 h3 (by unfold tab;rw[zf];exact b)).trans (by rw[Qwv])
def co(ps:Tb)(m:M3):Option Int:=match lk ps m.other with
 |some (some b)=>some (m.cost+b)
 | _=>none
def lc(ps:Tb)(ms:List M3):Option Int:=mdI none (ms.filterMap (co ps))
def KD     (j:O[p]?=some (.dn (tab ps)))(q:(lk ps m.other).isSome=true):oW [d3 m,.ob p] O=.ok (pD (co ps m)) O:=by
 obtain⟨v,d⟩:=Option.isSome_iff_exists.mp q;have f:eE (mG (aa 1)) (ak gIx (aa 0) (mC (.int 2))) [some (d3 m),some (.ob p),none] O=.ok _ O:=nD rfl j (aM rfl rfl rfl) d;show bw (yR [some _,some _,none] O)=_;unfold yR;rw[sq (bc f)];unfold co;rw[d]
 cases v with
 | none
 |some b=>rfl
theorem ints_map:∀b:List Int,fX (b.map D.int)=some b
 | []=>rfl
 |i::b=>by
  show(fX _).map _=_;rw[ints_map];rfl
theorem KH(ps:Tb):∀ms:List M3,(ms.map λm=>pD (co ps m)).filter (λd=>!isNon d)=(ms.filterMap (co ps)).map D.int
 | []=>rfl
 |m::ms=>by
  rw[zg,List.filter_cons,List.filterMap_cons,KH ]
  cases co ps m<;>rfl
def KJ     (q:O[p]?=some (.dn (tab ps)))(u:∀m∈ms,(lk ps m.other).isSome=true)(C:ms.length<=1000):qZ [.lst (ms.map d3),.ob p] O=.ok (pD (lc ps ms)) O:=by
 have y:cG (mgN 0) b8 (aB oW (aj (aa 0) (aj (aa 1) ao))) (ms.map d3) [none,some (.ob p)] O []=.ok (ms.map λm=>pD (co ps m)) O:=by
  rw[iK (λρ=>∃a,ρ=[a,some _]) d3 _ ms _ _ _ ⟨none,rfl⟩ (by
   rintro m hm' ρ ⟨a,rfl⟩
   exact⟨_,rfl,⟨_,rfl⟩,rfl,(bz (maS rfl (ma1 rfl))).trans (KD q (u m hm'))⟩)]
  rw[zO]
 have j:bW (bL (aa 0)) 1 [1] _ _ _ [some _,some _,none] O=.ok _ O:=lL (eV rfl) (by rw[zf];omega) rfl y
 have x:cG (mgN 0) (az (kJ (aa 0))) (aa 0) (ms.map λm=>pD (co ps m)) [none] O []=.ok ((ms.filterMap (co ps)).map D.int) O:=by
  rw[Ie (λρ=>∃a,ρ=[a]) _ _ _ _ _ ⟨none,rfl⟩ (by
   rintro d hd ρ ⟨a,rfl⟩
   exact⟨_,rfl,⟨_,rfl⟩,rfl,rfl⟩)]
  rw[zO,KH]
 have f:bW (bL (aa 2)) 1 [] _ _ _ [some (.lst (ms.map d3)),some (.ob p),some _] O=.ok _ O:=lL (eV rfl) (by rw[zf];omega) rfl x
 have b:aJ t8 _ _ O=.ok (pD (lc ps ms)) O:=eU (ma1 f) (by
  show(fX _).map _=_;rw[ints_map];show some (match mdI _ _ with | some m=>D.int m | none=>D.non)=some (pD (mdI _ _))
  cases mdI _ _<;>rfl)
 show bw (yS [some _,some _,none] O)=_;unfold yS;rw[sq (bc j)];exact congrArg (λr=>bw (lD r)) b
theorem KQ :∀{ms:List M3},(∀m∈ms,lk ps' m.other=lk ps m.other)->ms.filterMap (co ps')=ms.filterMap (co ps)
 | [],_=>rfl
 |m::ms,h=>by
  have e:co ps' m=co ps m:=by
   unfold co;rw[h m zd]
  rw[List.filterMap_cons,List.filterMap_cons,e,KQ λx hx=>h x (zp _ hx)]
def vH   (h:∀m∈ms,lk b m.other=lk ps m.other):lc b ms=lc ps ms:=by
 unfold lc;rw[KQ h]
structure Trl(t:Nat)(fs:List (Str×D))(N:Nat)(nodes:Nat->List Nd)(mv:Nd->List M3)(fin:Nd->Bool):Prop where
 na:∀(O:au) (a:Nat),O[t]?=some (.ins "Leaps" fs)->a<=N->oX [.ob t,.int a] O=.ok (.lst ((nodes a).map dN)) O
 mf:∀(O:au) (a:Nat) (n:Nd),O[t]?=some (.ins "Leaps" fs)->a<=N->n∈nodes a->m6 [.ob t,dN n] O=.ok (.lst ((mv n).map d3)) O
 ie:∀(O:au) (a:Nat) (n:Nd),O[t]?=some (.ins "Leaps" fs)->a<=N->n∈nodes a->lH [.ob t,dN n] O=.ok (.bl (fin n)) O
 la:∀O:au,O[t]?=some (.ins "Leaps" fs)->lG [.ob t] O=.ok (.int N) O
 fi:∀O:au,O[t]?=some (.ins "Leaps" fs)->z8 [.ob t] O=.ok (dN (0,(46,46))) O
 f0:((0,(46,46)):Nd)∈nodes 0
 nd:∀a,(nodes a).Nodup
 ln:∀a,(nodes a).length<=10
 fw:∀(a:Nat) (n:Nd),a<=N->n∈nodes a->∀m∈mv n,∃b,a<b/\b<=N/\m.other∈nodes b
 sp:∀(a b:Nat) (n:Nd),n∈nodes a->n∈nodes b->a=b
 ml:∀n,(mv n).length<=1000
 fe:∀n,fin n=true->mv n=[]
 u1:(fs.lookup ("nodes_at":Str)).isNone=true
 u2:(fs.lookup ("moves_from":Str)).isNone=true
 u3:(fs.lookup ("is_end":Str)).isNone=true
 u4:(fs.lookup ("last_at":Str)).isNone=true
 u5:(fs.lookup ("first_node":Str)).isNone=true
 hN:N<=1000
def cL(b:Nd->List M3)(ns:List Nd):List (NK×D):=ns.map λn=>(key n,D.lst ((b n).map d3))
theorem KR(b:Nd->List M3)(n:Nd):∀ns:List Nd,((cL b ns).any λp=>decide (p.1=key n))=decide (n∈ns)
 | []=>rfl
 |x::ns=>by
  have d:=KR b n ns;unfold cL at *;rw[zg,List.any_cons,d]
  by_cases h:x=n
  ·subst h;simp
  ·have h1:¬key x=key n:=λz=>h (rN.mp z)
   have h2:¬n=x:=λz=>h z.symm
   simp[h1,h2]
def Qtq    (h:n∉ns):putN (cL b ns) (key n) (.lst ((b n).map d3))=cL b (ns++[n]):=by
 unfold putN;rw[KR,zl h];unfold cL;rw[zM];rfl
theorem KY(b:Nd->List M3)(n:Nd):∀ns:List Nd,n∈ns->valN (cL b ns) (key n)=some (.lst ((b n).map d3))
 |x::ns,h=>by
  unfold valN cL;rw[zg,List.find?_cons]
  by_cases hx:x=n
  ·subst hx;simp
  ·have h1:¬key x=key n:=λz=>hx (rN.mp z)
   simp only[h1]
   rcases zk.mp h with rfl | h
   ·exact absurd rfl hx
   ·exact KY b n ns h
def QsC(b:Nd->List M3)(ns:List Nd):(cL b ns).map Ho=ns.map dN:=by
 unfold cL;rw[zQ];rfl
def B_1:MS:=(aq (gD (aa 3) (aa 4) (aU "Leaps" "moves_from" m6 (mG (aa 0)) (aj (aa 4) ao)))
  (gD (mG (aa 2)) (aa 4) (mIf (bx (aU "Leaps" "is_end" lH (mG (aa 0)) (aj (aa 4) ao))) (mC (.int 0)) (mC .non))))
def ini(fin:Nd->Bool)(n:Nd):Option Int:=if fin n=true then some 0 else none
def gf{O:au}{i:Nat}  (h1:O[i]?=some x)(h2:O[j]?=some y)(h:x≠y):i≠j:=λz=>by
 rw[z,h2] at h1;exact h (zC h1).symm
def rP{O:au}   (e:O[i]?=some x):(O.set i y)[i]?=some y:=by
 obtain⟨h⟩:=zu.mp e;simp[h]
def QtG(T:Trl t fs N P Q fin)  (F:a<=N)  (E:n∈P a)  (u:n∉pre)   (b:O[t]?=some (.ins "Leaps" fs))(G:O[p]?=some (.dn (tab L)))(C:O[q]?=some (.dn (cL Q pre)))(j:p≠q)(I:L.length<1000000)(x:pre.length<1000000)(f d:Option D):
  B_1 [some (.ob t),some (.int a),some (.ob p),some (.ob q),some (dN n),f,d] O=.nx [some (.ob t),some (.int a),some (.ob p),some (.ob q),some (dN n),f,d] ((O.set q (.dn (cL Q (pre++[n])))).set p (.dn (tab (put L n (ini fin n))))):=by
 have ht':(O.set q (.dn (cL Q (pre++[n]))))[t]?=some (.ins "Leaps" fs):=by rw[zh (gf C b λz=>nomatch z)];exact b
 have m:(O.set q (.dn (cL Q (pre++[n]))))[p]?=some (.dn (tab L)):=by rw[zh (Ne.symm j)];exact G
 have J:∀ρ,mIf (bx (aU _ _ _ (mG (aa 0)) (aj (aa 4) _))) (mC _) (mC _) ([some (.ob t),some (.int a),some (.ob p),some (.ob q),some _]++ρ) _=.ok (pD (ini fin n)) _:=λρ=>by
  rw[jN,jM,(cY rfl ht' T.u3 (ma1 rfl)).trans (T.ie _ a n ht' F E),aW,mK,mO,oJ];unfold ini
  cases fin n<;>rfl
 have y:=Ky (my:=aa 4) (mo:=aa 3) (ρ:=[some (.ob t),some (.int a),some (.ob p),some _,some _,f,d]) ((cY (mo:=mG (aa 0)) rfl b T.u2 (ma1 (a:=aa 4) rfl)).trans (T.mf O a n b F E)) rfl C rfl (by unfold cL;rw[zf];exact x);rw[Qtq u] at y;exact .trans (sq y) (Kz (J _) rfl m rfl I)
theorem KZ{fs:List (Str×D)}{N:Nat}{nodes:Nat->List Nd}{F:Nd->List M3}{fin:Nd->Bool}{p q:Nat}(T:Trl t fs N nodes F fin){a:Nat}(L:a<=N)(f:p≠q)(x y:Option D):∀(rest pre:List Nd) (O:au) (b:Tb) (C:Option D),(∀n∈rest,n∈nodes a)->(pre++rest).Nodup->O[t]?=some (.ins "Leaps" fs)->O[p]?=some (.dn (tab b))->O[q]?=some (.dn (cL F pre))->b.length+rest.length<1000000->pre.length+rest.length<1000000 ->
  ∃O' d u,bB (mgN 4) B_1 (rest.map dN) [some (.ob t),some (.int a),some (.ob p),some (.ob q),C,x,y] O=.nx [some (.ob t),some (.int a),some (.ob p),some (.ob q),u,x,y] O'/\O'[p]?=some (.dn (tab d))/\O'[q]?=some (.dn (cL F (pre++rest)))/\(∀j,j≠p->j≠q->O'[j]?=O[j]?)/\(∀n,lk d n=if n∈rest then some (ini fin n) else lk b n)/\d.length<=b.length+rest.length
 | [],pre,O,b,C,_,_,_,hp,hq,_,_=>⟨O,b,C,rfl,hp,by rw[zJ];exact hq,λ_ _ _=>rfl,λn=>by simp,zc _⟩
 |n::rest,pre,O,b,C,hr,hd,ht,hp,hq,hl,hl2=>by
  rw[zA] at hl hl2;have R:=hr n zd
  have G :=λz=>(jm.mp hd).2.2 n z n zd rfl
  have U:=QtG T L R G ht hp hq f (by omega) (by omega) x
  have P :=gf ht hq λz=>nomatch z
  have Q :=gf ht hp λz=>nomatch z
  have W:=QvU b n (ini fin n);obtain⟨O',d,u,e,h1,h2,h3,h4,X⟩:=KZ T L f x y _ (pre++[n]) ((O.set q (.dn _)).set p _) (put b n (ini fin n)) _ (λm E=>hr m (zp _ E)) (by rw[zD];exact hd)
   (by rw[zh (Ne.symm Q),zh (Ne.symm P)];exact ht) (rP (by rw[zh (Ne.symm f)];exact hp)) (by rw[zh f];exact rP hq) (by omega) (by rw[ze,zR];omega)
  refine⟨O',d,u,?_,h1,by rw[zD] at h2;exact h2,λj J I=>?_,λm=>?_,by rw[zA];omega⟩
  ·show(match B_1 [some _,some _,some _,some _,some _,x,y] O with
    | .nx ρ' O'=>bB _ _ _ _ O' | .ct ρ' O'=>bB _ _ _ _ O' | .bk ρ' O'=>Fl.nx _ O' | r=>r)=_
   rw[U];exact e
  ·rw[h3 j J I,zh (Ne.symm J),zh (Ne.symm I)]
  ·rw[h4,Kw]
   by_cases E:m=n
   ·subst E;simp
   ·simp[E]
def B_r:MS:=(aq (aA 6 (aB qZ (aj (eE (aa 3) (aa 4)) (aj (aa 2) ao))))
  (aD (bR (az (kJ (aa 6))) (cI (az (kI (eE (mG (aa 2)) (aa 4)))) (az (ak gLt (aa 6) (eE (mG (aa 2)) (aa 4)))))) (aq (gD (mG (aa 2)) (aa 4) (aa 6))
  (aA 5 (mC (.bl true)))) aK))
def better(v L:Option Int):Bool:=match L with
 |none=>false
 |some c=>match v with
  |none=>true
  |some w=>decide (c<w)
section
variable {t:Nat}{fs:List (Str×D)}{N:Nat}{nodes:Nat->List Nd}{mv:Nd->List M3}{fin:Nd->Bool}{p q:Nat}
def QyM   (y:n∈ns)    (d:O[p]?=some (.dn (tab cur)))(x:O[q]?=some (.nf (cL mv ns)))(hv:lk cur n=some v)(C:∀m∈mv n,(lk cur m.other).isSome=true)(j:(mv n).length<=1000)(E:cur.length<1000000)(b:Bool)(a0 a1 u:Option D):
  B_r [a0,a1,some (.ob p),some (.ob q),some (dN n),some (.bl b),u] O=.nx [a0,a1,some (.ob p),some (.ob q),some (dN n),some (.bl (b || better v (lc cur (mv n)))),some (pD (lc cur (mv n)))] (if better v (lc cur (mv n))=true then O.set p (.dn (tab (put cur n (lc cur (mv n))))) else O):=by
 refine .trans (sq (bc ((bz (maS (QAs rfl x rfl (KY mv n ns y)) (ma1 rfl))).trans (KJ d C j)))) ?_
 cases  lc _ _ with
 |none=>exact .trans (cC rfl) (by simp[better])
 |some c =>
  have P:aq (gD (mG (aa 2)) (aa 4) (aa 6)) (aA 5 (mC (.bl true))) [a0,a1,some (.ob p),some (.ob q),some (dN n),some (.bl b),some (pD (some c))] O=_:=sq (Kz rfl rfl d rfl E)
  cases v with
  |none=>exact .trans (cT (.trans (Bj rfl) (QB4 (bU (Bk (nD rfl d rfl hv)))))) (P.trans (by simp[better]))
  |some w =>
   by_cases f:c<w
   ·exact .trans (cT (.trans (Bj rfl) (.trans (Km (bU (Bk (nD rfl d rfl hv)))) (.trans (bU (aM rfl (nD rfl d rfl hv) rfl)) (by simp[f]))))) (P.trans (by simp[better,f]))
   ·exact .trans (cC (.trans (Bj rfl) (.trans (Km (bU (Bk (nD rfl d rfl hv)))) (.trans (bU (aM rfl (nD rfl d rfl hv) rfl)) (by simp[f]))))) (by simp[better,f])
def fnl(fin:Nd->Bool)(L:Nd->Option Int)(n:Nd):Option Int:=if fin n=true then some 0 else L n
def Qqd     (b:fin n=true->L n=none)(hv:v=ini fin n\/v=fnl fin L n):(if better v (L n)=true then L n else v)=fnl fin L n:=by
 unfold fnl ini at *
 cases h:fin n with
 |true =>
  have:=b h
  rw[this];rw[h] at hv
  rcases hv with rfl | rfl<;>rfl
 |false =>
  rw[h] at hv
  rcases hv with rfl | rfl
  ·cases L n<;>rfl
  ·simp only[Bool.false_eq_true,if_false]
   split<;>rfl
def Qn8    (b:fin n=true->L n=none):better (fnl fin L n) (L n)=false:=by
 unfold fnl
 cases h:fin n with
 |true =>
  rw[b h];rfl
 |false =>
  cases L n with
  | none
  |some c=>simp[better]
theorem K1(T:Trl t fs N nodes mv fin){a:Nat}(Z:a<=N){base:Tb}(hb:∀n∈nodes a,∀m∈mv n,(lk base m.other).isSome=true)(st:Nd->Option Int)(Q:∀n∈nodes a,st n=ini fin n\/st n=fnl fin (λn=>lc base (mv n)) n)(a0 a1:Option D):
  ∀(rest:List Nd) (O:au) (d:Tb) (b:Bool) (I F:Option D),(∀n∈rest,n∈nodes a)->rest.Nodup->O[p]?=some (.dn (tab d))->O[q]?=some (.nf (cL mv (nodes a)))->p≠q->(∀m,m∉nodes a->lk d m=lk base m)->(∀n∈rest,lk d n=some (st n))->d.length<1000000 ->
  ∃O' f C y,bB (mgN 4) B_r (rest.map dN) [a0,a1,some (.ob p),some (.ob q),I,some (.bl b),F] O=.nx [a0,a1,some (.ob p),some (.ob q),C,some (.bl (b || rest.any λn=>better (st n) (lc base (mv n)))),y] O'/\O'[p]?=some (.dn (tab f))/\(∀j,j≠p->O'[j]?=O[j]?)/\(∀m,lk f m=if m∈rest then some (fnl fin (λn=>lc base (mv n)) m) else lk d m)/\f.length<=d.length
 | [],O,d,b,I,F,_,_,hp,_,_,_,_,_=>⟨O,d,I,F,by simp[bB],hp,λ_ _=>rfl,λm=>by simp,zc _⟩
 |n::rest,O,d,b,I,F,hr,hd,hp,hq,hpq,hc,hs,hl=>by
  have J:=hr n zd;have hd':=List.nodup_cons.mp hd
  have R:∀m∈mv n,m.other∉nodes a:=λm x z=>by
   obtain⟨b,b1,b2,b3⟩:=T.fw a n Z J m x
   have:=T.sp a b _ z b3
   omega
  have eL:lc d (mv n)=lc base (mv n):=vH λm x=>hc _ (R m x)
  have x:∀m∈mv n,(lk d m.other).isSome=true:=λm x=>by rw[hc _ (R m x)];exact hb n J m x
  have eb:=QyM J hp hq (hs n zd) x (T.ml n) hl b a0 a1 F;rw[eL] at eb;have W:=Qqd (L:=λn=>lc base (mv n)) (λh=>by show lc base (mv n)=none;rw[T.fe n h];rfl) (Q n J)
  have G:(lk d n).isSome=true:=by rw[hs n zd];rfl
  have go:∀(P:au) (u:Tb),P[p]?=some (.dn (tab u))->(∀j,j≠p->P[j]?=O[j]?)->(∀m,lk u m=if m=n then some (fnl fin (λn=>lc base (mv n)) n) else lk d m)->u.length<=d.length->(if better (st n) (lc base (mv n))=true then O.set p (.dn (tab (put d n (lc base (mv n))))) else O)=P ->
    ∃O' f C y,bB (mgN 4) B_r ((n::rest).map dN) [a0,a1,some (.ob p),some (.ob q),I,some (.bl b),F] O=.nx [a0,a1,some (.ob p),some (.ob q),C,some (.bl (b || (n::rest).any λn=>better (st n) (lc base (mv n)))),y] O'/\O'[p]?=some (.dn (tab f))/\(∀j,j≠p->O'[j]?=O[j]?)/\(∀m,lk f m=if m∈n::rest then some (fnl fin (λn=>lc base (mv n)) m) else lk d m)/\f.length<=d.length:=λP u k1 Y X k4 k5=>by
   obtain⟨O',f,C,y,e,g1,g2,g3,g4⟩:=K1 T Z hb st Q a0 a1 rest P u (b || better (st n) (lc base (mv n))) (some (dN n)) (some (pD (lc base (mv n)))) (λm x=>hr m (zp _ x)) hd'.2 k1 ((Y q (Ne.symm hpq)).trans hq) hpq (λm x=>by
     rw[X m,if_neg (λz:m=n=>x (by rw[z];exact J))]
     exact hc m x) (λm x=>by
     rw[X m,if_neg (λz:m=n=>hd'.1 (by rw[<-z];exact x))]
     exact hs m (zp _ x)) (by omega)
   refine⟨O',f,C,y,?_,g1,λj U=>(g2 j U).trans (Y j U),λm=>?_,by omega⟩
   ·rw[zg];unfold bB;rw[mg_n];dsimp only
    show(match B_r [a0,a1,some (.ob p),some (.ob q),some (dN n),some (.bl b),F] O with
     | .nx ρ' O'=>bB _ _ (rest.map dN) ρ' O' | .ct ρ' O'=>bB _ _ (rest.map dN) ρ' O' | .bk ρ' O'=>Fl.nx ρ' O' | r=>r)=_
    rw[eb,k5];rw[List.any_cons,<-Bool.or_assoc];exact e
   ·rw[g3 m,X m]
    by_cases E:m=n
    ·subst E;simp[hd'.1]
    ·simp[E]
  cases hbt:better (st n) (lc base (mv n)) with
  |true =>
   rw[hbt] at W;refine go (O.set p (.dn (tab (put d n (lc base (mv n)))))) (put d n (lc base (mv n))) (rP hp) (λj U=>by rw[zh (Ne.symm U)]) (λm=>?_) (Nat.le_of_eq (Qwe G)) (by rw[hbt];rfl);rw[Kw,<-W];rfl
  |false =>
   rw[hbt] at W;refine go O d hp (λ_ _=>rfl) (λm=>?_) (zc _) (by rw[hbt];rfl)
   split
   ·rename_i E;rw[E,<-W];exact hs n zd
   ·rfl
end
def B_n:MS:=(aq (aA 5 (mC (.bl false)))
  (qC 3 (cF (oF (aa 3)) (mgN 4) B_r)))
def K3(T:Trl t fs N nodes mv fin)  (ha:a<=N)  (hb:∀n∈nodes a,∀m∈mv n,(lk base m.other).isSome=true)(st:Nd->Option Int)(G:∀n∈nodes a,st n=ini fin n\/st n=fnl fin (λn=>lc base (mv n)) n)(a0 a1 y U x:Option D)
  (X:O[p]?=some (.dn (tab cur))) (F:O[q]?=some (.dn (cL mv (nodes a)))) (u:p≠q) (P:∀m,m∉nodes a->lk cur m=lk base m) (hs:∀n∈nodes a,lk cur n=some (st n)) (Z:cur.length<1000000):
  ∃O' b f d,B_n [a0,a1,some (.ob p),some (.ob q),y,U,x] O=.nx [a0,a1,some (.ob p),some (.ob q),f,some (.bl ((nodes a).any λn=>better (st n) (lc base (mv n)))),d] O'/\O'[p]?=some (.dn (tab b))/\O'[q]?=some (.dn (cL mv (nodes a)))/\(∀j,j≠p->j≠q->O'[j]?=O[j]?)/\(∀m,m∉nodes a->lk b m=lk base m)/\(∀n∈nodes a,lk b n=some (fnl fin (λn=>lc base (mv n)) n))/\b.length<=cur.length:=by
 have E:(O.set q _)[q]?=some (.nf (cL mv (nodes a))):=rP F
 have I:(O.set q (.nf (cL mv (nodes a))))[p]?=some (.dn (tab cur)):=by rw[zh (Ne.symm u)];exact X
 obtain⟨O',b,f,d,e,g1,R,Q,g4⟩:=K1 T ha hb st G a0 a1 _ _ _ _ y x (λn h=>h) (T.nd a) I E u P hs Z;rw[Bool.false_or] at e;have C :=(R q (Ne.symm u)).trans E;refine⟨O'.set q _,b,f,d,?_,?_,rP C,λj W J=>?_,λm L=>?_,λn Y=>?_,g4⟩
 ·have ek:oF (aa 3) [a0,a1,some (.ob p),some (.ob q),y,some (.bl false),x] O=.ok ((nodes a).map dN) (O.set q (.nf (cL mv (nodes a)))):=by
   unfold oF;rw[show aa 3 _ O=.ok _ O from rfl]
   dsimp
   rw[F]
   dsimp
   rw[QsC]
  have ef:cF (oF (aa 3)) (mgN 4) B_r [a0,a1,some (.ob p),some (.ob q),y,some (.bl false),x] O=.nx [a0,a1,some (.ob p),some (.ob q),f,some (.bl ((nodes a).any λn=>better (st n) (lc base (mv n)))),d] O':=by
   rw[qM,ek,qN,e]
  show qC 3 _ [a0,a1,some _,some (.ob q),y,some _,x] O=_;show(match O[q]? with | some (.dn _)=>_ | _=>Fl.no)=_;rw[F];rw[ef]
  dsimp
  rw[C]
 ·rw[zh (Ne.symm u)];exact g1
 ·rw[zh (Ne.symm J),R j W,zh (Ne.symm J)]
 ·rw[Q,if_neg L];exact P m L
 ·rw[Q,if_pos Y]
def vI      (h:t ρ O=.ok true O)(hb:b ρ O=.nx ρ2 d):dh t b (k+1) ρ O=dh t b k ρ2 d:=by
 show(match t ρ O with | .ok true O1=>(match b ρ O1 with | .nx _ d=>dh t b k _ d | .ct _ d=>dh t b k _ d | .bk _ d=>Fl.nx _ d | r=>r) | .ok false O1=>.nx ρ O1 | .ex x O'=>.ex x O' | .no=>.no)=_;rw[h]
 dsimp
 rw[hb]
def Bp      (h:t ρ O=.ok false O):dh t b (k+1) ρ O=.nx ρ O:=by
 show(match t ρ O with | .ok true O1=>(match b ρ O1 with | .nx _ O2=>dh t b k _ O2 | .ct _ O2=>dh t b k _ O2 | .bk _ O2=>Fl.nx _ O2 | r=>r) | .ok false O1=>.nx ρ O1 | .ex x O'=>.ex x O' | .no=>.no)=_;rw[h]
def Qxm(T:Trl t fs N nodes mv fin)  (F:a<=N)   (W:O[t]?=some (.ins "Leaps" fs))(X:O[p]?=some (.dn (tab cur)))(hb:∀n∈nodes a,∀m∈mv n,(lk cur m.other).isSome=true)(hl:cur.length<900000):
  ∃O' b,rm [.ob t,.int a,.ob p] O=.ok .non O'/\O'[p]?=some (.dn (tab b))/\(∀(j:Nat) (x:Ob),j≠p->O[j]?=some x->O'[j]?=some x)/\(∀m,m∉nodes a->lk b m=lk cur m)/\(∀n∈nodes a,lk b n=some (fnl fin (λn=>lc cur (mv n)) n))/\b.length<=cur.length+10:=by
 have hln:=T.ln a;have y:=(zu.mp X).1;have P:=(zu.mp W).1;have q :=zq y
 have f:(O++[Ob.dn []])[t]?=some (.ins "Leaps" fs):=by rw[zE P];exact W
 have R:(O++[Ob.dn []])[p]?=some (.dn (tab cur)):=by rw[zE y];exact X
 have Q:(O++[Ob.dn []])[O.length]?=some (.dn (cL mv [])):=by simp[cL]
 obtain⟨O1,cur1,U,e1,f1,f2,f3,f4,f5⟩:=KZ T F q none none _ [] _ cur none (λn h=>h) (T.nd a) f R Q (by omega) (by simp;omega)
 have hf:∀n,fin n=true->lc cur (mv n)=none:=λn h=>by rw[T.fe n h];rfl
 obtain⟨O2,E,L,J,G,g1,g2,g3,Z,Y,g6⟩:=K3 T F hb _ (λn _=>.inl rfl) _ _ U _ none f1 f2 q (λm hm=>by rw[f4 m,if_neg hm]) (λn hn=>by rw[f4 n,if_pos hn]) (by omega);obtain⟨O3,C,o4'',o6'',e3,k1,k2,k3,k4,k5,k6⟩:=K3 T F hb _ (λn _=>.inr rfl) _ _ L _ J g1 g2 q Z Y (by omega)
 have z3:((nodes a).any λn=>better (fnl fin (λn=>lc cur (mv n)) n) (lc cur (mv n)))=false:=by
  rw[List.any_eq_false];intro n _;rw[Qn8 (hf n)];exact zx
 rw[z3] at e3
 have u:∀(j:Nat) (x:Ob),j≠p->O[j]?=some x->O1[j]?=some x:=λj x d hx=>by
  have:=(zu.mp hx).1
  rw[f3 j d (by omega),zE this];exact hx
 have I:∀(j:Nat) (x:Ob),O[j]?=some x->j≠O.length:=λj x hx=>zq (zu.mp hx).1
 have fin':∀{O' x4 x6},dh _ B_n 10 [some (.ob t),some _,some (.ob p),some _,U,some _,none] O1=.nx [some (.ob t),some (.int a),some (.ob p),some (.ob O.length),x4,some (.bl false),x6] O'->rm [.ob t,.int a,.ob p] O=.ok .non O':=λhw=>congrArg bw (Eq.trans (a:=JQ [some (.ob t),some (.int a),some (.ob p),none,none,none,none] O) (sq (Bl rfl)) (.trans (sq (iT (eV ((cY rfl f T.u1 (ma1 rfl)).trans (T.na _ a f F))) e1)) (.trans (sq (bc m_c)) hw)))
 cases hb1:(nodes a).any _ with
 |true =>
  rw[hb1] at G;exact⟨O3,C,fin' (by rw[vI rfl G,vI rfl e3,Bp rfl]),k1,λj x d hx=>by rw[k3 j d (I j x hx),g3 j d (I j x hx)];exact u j x d hx,k4,k5,by omega⟩
 |false =>
  rw[hb1] at G;exact⟨O2,E,fin' (by rw[vI rfl G,Bp rfl]),g1,λj x d hx=>by rw[g3 j d (I j x hx)];exact u j x d hx,Z,Y,by omega⟩
theorem Bq{α:Type}{g:MG}{t:L2.M Bool}{m:L2.M D}(d:aR->Prop)(p:α->Bool)(f:α->D):∀(xs:List α) (ρ:aR) (O:au) (b:List D),d ρ->(∀x∈xs,∀ρ,d ρ->∃ρ1,g (f x) ρ=some ρ1/\d ρ1/\t ρ1 O=.ok (p x) O/\m ρ1 O=.ok (f x) O)->cG g t m (xs.map f) ρ O b=.ok (b++(xs.filter p).map f) O
 | [],ρ,O,b,_,_=>by simp
 |x::xs,ρ,O,b,h,hs=>by
  obtain⟨ρ1,E,h1,C,y⟩:=hs x zd ρ h
  have u:=λb=>Bq d p f xs _ O b h1 λF j=>hs F (zp _ j)
  rw[zg];unfold cG;rw[E]
  dsimp
  rw[C]
  cases q:p x with
  |true =>
   dsimp
   rw[y]
   dsimp
   rw[u,List.filter_cons,q];simp
  |false =>
   dsimp
   rw[u,List.filter_cons,q];simp
def Quf(b:Nat):jH (((b+1:Nat):Int) - 1) (b+1)=.int (b:Int)::jH ((b:Int) - 1) b:=by
 unfold jH;rw[List.range_succ_eq_map,zg,zQ];congr 1
 ·congr 1;omega
 ·refine jj λi _=>?_
  show D.int _=D.int _;congr 1;omega
def Pri(N:Nat)(nodes:Nat->List Nd)(f:Nd->List M3)(fin:Nd->Bool)(b:Nat)(d:Tb):Prop:=∀c,b<=c->c<=N->∀n∈nodes c,lk d n=some (fnl fin (λn=>lc d (f n)) n)
def B_p:MS:=(eZ (aB rm (aj (aa 0) (aj (aa 2) (aj (aa 1) ao)))))
theorem K4(T:Trl t fs N nodes mv fin):∀(b:Nat) (O:au) (f:Tb) (E:Option D),b<=N+1->O[t]?=some (.ins "Leaps" fs)->O[p]?=some (.dn (tab f))->Pri N nodes mv fin b f->f.length+10 * b<=800000 ->
  ∃O' q u,bB (mgN 2) B_p (jH ((b:Int) - 1) b) [some (.ob t),some (.ob p),E] O=.nx [some (.ob t),some (.ob p),u] O'/\O'[p]?=some (.dn (tab q))/\(∀(j:Nat) (x:Ob),j≠p->O[j]?=some x->O'[j]?=some x)/\Pri N nodes mv fin 0 q
 | 0,O,f,E,_,_,hp,hP,_=>⟨O,f,E,rfl,hp,λ_ _ _ h=>h,hP⟩
 |a+1,O,f,E,hb,ht,hp,hP,hl=>by
  have R:a<=N:=by omega
  have I:∀n∈nodes a,∀m∈mv n,(lk _ _).isSome=true:=λn y m G=>by
   obtain⟨c,c1,F,c3⟩:=T.fw a n R y m G;rw[hP c (by omega) F _ c3];rfl
  obtain⟨X,C,e,g1,W,U,g4,g5⟩:=Qxm T R ht hp I (by omega)
  have Y :=gf ht hp λz=>nomatch z
  have J:Pri N _ mv _ a _:=λc c1 F n y=>by
   have L :=λm G=>U _ λz=>by
    obtain⟨d,d1,d2,d3⟩:=T.fw c n F y m G
    have:=T.sp a d _ z d3
    omega
   have eL :=vH L
   have eF:fnl fin (λn=>lc C (mv n)) n=fnl fin (λn=>lc f (mv n)) n:=by
    show(if fin n=true then some 0 else lc _ _)=_;rw[eL];rfl
   rw[eF]
   by_cases Q:c=a
   ·subst Q;exact g4 n y
   ·rw[U n λz=>Q (T.sp c a n y z)];exact hP c (by omega) F n y
  obtain⟨O',q,u,e2,k1,k2,Z⟩:=K4 T a X _ _ (by omega) (W t _ Y ht) g1 J (by omega);refine⟨O',q,u,?_,k1,λj x P hx=>k2 j x P (W j x P hx),Z⟩;rw[Quf]
  have eb:B_p [some (.ob t),some (.ob p),some (.int a)] O=.nx [some (.ob t),some (.ob p),some (.int a)] X:=by
   unfold B_p;rw[qH,bz (maS rfl (maS rfl (ma1 rfl))),e,uB]
  show(match B_p [some _,some _,some _] O with
   | .nx ρ' O'=>bB _ _ _ _ O' | .ct ρ' O'=>bB _ _ _ _ O' | .bk ρ' O'=>Fl.nx _ O' | r=>r)=_
  rw[eb];exact e2
def QuI(T:Trl t fs N I J fin)  (m:O[t]?=some (.ins "Leaps" fs)):∃O' b,yZ [.ob t] O=.ok (.ob O.length) O'/\O'[O.length]?=some (.dn (tab b))/\(∀(j:Nat) (x:Ob),O[j]?=some x->O'[j]?=some x)/\Pri N I J fin 0 b:=by
 have hN:=T.hN;have f:=(zu.mp m).1
 have d:(O++[Ob.dn []])[t]?=some (.ins "Leaps" fs):=by rw[zE f];exact m
 obtain⟨O',b,F,e,y,u,q⟩:=K4 (p:=O.length) T _ _ [] _ (zc _) d (by simp[tab]) (λc E G=>absurd E (by omega)) (by simp;omega);refine⟨O',b,?_,y,λj x hx=>?_,q⟩
 ·have C:uc (aj (aU "Leaps" "last_at" lG (mG (aa 0)) ao) (aj (mUn kY (mC (.int 1))) (aj (mUn kY (mC (.int 1))) ao))) [some (.ob t),some (.ob O.length),none] (O++[Ob.dn []])=.ok (jH ((N+1:) - 1) (N+1)) (O++[Ob.dn []]):=by
   unfold uc;rw[maS ((cY rfl d T.u4 rfl).trans (T.la _ d)) (maS rfl (ma1 rfl))];dsimp only[aW];rw[if_pos ⟨rfl,by omega⟩];rw[show((N:Int) - -1).toNat=N+1 by omega,show((N+1:) - 1)=(N:Int) by omega]
  unfold B_p at e;show bw (aq _ _ [some _,some _,none] _)=_;rw[cX,qM,C,qN,e];rfl
 ·have:=(zu.mp hx).1
  exact u j x (by omega) (by rw[zE this];exact hx)
theorem Br:∀(l:List Int) (b:Option Int) (c:Int),mdI b l=some c->b=some c\/c∈l
 | [],b,c,h=>.inl (by cases b<;>exact h)
 |n::r,none,c,h=>by
  rcases Br r _ c h with h | h
  ·exact .inr (by rw[zC h];exact zd)
  ·exact .inr (zp _ h)
 |n::r,some m,c,h=>by
  rcases Br r _ c h with h | h
  ·split at h
   ·exact .inr (by rw[zC h];exact zd)
   ·exact .inl h
  ·exact .inr (zp _ h)
theorem K5:∀(l:List Int) (b:Int),∃c,mdI (some b) l=some c
 | [],b=>⟨b,rfl⟩
 |n::r,b=>K5 r _
def QzX  (h:l≠[]):∃c,mdI none l=some c:=by
 cases l with
 |nil=>exact absurd rfl h
 |cons n r=>exact K5 r n
def Qz8(x y:Option Int):gEq (pD x) (pD y)=some (.bl (decide (x=y))):=by
 cases x with
 |none=>cases y<;>rfl
 |some i =>
  cases y with
  |none=>rfl
  |some j =>
   show some _=_;congr 2;exact decide_eq_decide.mpr ⟨λh=>by rw[h],λh=>zC h⟩
theorem K6{α:Type}(f:α->Bool)(g:α->D)(h:α->Bool):∀(ms:List α) (m:α),ms.find? f=some m->((ms.filter f).map g)[0]?=some (g m)
 |x::ms,m,e=>by
  rw[List.find?_cons] at e
  cases hx:f x with
  |true =>
   rw[hx] at e;cases e;simp[hx]
  |false =>
   rw[hx] at e;rw[List.filter_cons,hx];exact K6 f g h ms m e
def Qxt     (u:O[p]?=some (.dn (tab ps)))(y:∀m∈ms,(lk ps m.other).isSome=true)(G:ms.length<=1000)(d:lc ps ms=some c):
  ∃m,ms.find? (λm=>decide (co ps m=lc ps ms))=some m/\m∈ms/\co ps m=some c/\vd [.lst (ms.map d3),.ob p] O=.ok (d3 m) O:=by
 obtain⟨x,hx,f⟩:∃x∈ms,co ps x=some c:=by
  rcases Br _ _ _ d with h | h
  ·cases h
  ·exact List.mem_filterMap.mp h
 obtain⟨m,b⟩:∃m,ms.find? (λm=>decide (co ps m=lc ps ms))=some m:=by
  cases e:ms.find? _ with
  |some m=>exact⟨m,rfl⟩
  |none =>
   have:=List.find?_eq_none.mp e x hx
   rw[f,d] at this;simp at this
 have j:=List.mem_of_find?_eq_some b
 have q:co ps m=some c:=by
  have:=List.find?_some b
  rw[<-d];exact zW this
 refine⟨m,b,j,q,?_⟩;have F:aB _ (aj (aa 0) (aj (aa 1) _)) [some _,some _,none] O=.ok _ O:=(bz (maS rfl (ma1 rfl))).trans (KJ u y G)
 have I:cG (mgN 0) (az (ak gEq (aB oW (aj (aa 0) (aj (aa 1) ao))) (aa 2))) (aa 0) (ms.map d3) [none,some (.ob p),some (pD (lc ps ms))] O []=.ok ((ms.filter λm=>decide (co ps m=lc ps ms)).map d3) O:=by
  rw[Bq (λρ=>∃a,ρ=[a,some _,some _]) _ d3 ms _ _ _ ⟨none,rfl⟩ (by
   rintro m' hm' ρ ⟨a,rfl⟩
   exact⟨_,rfl,⟨_,rfl⟩,bU (aM ((bz (maS rfl (ma1 rfl))).trans (KD u (y m' hm'))) rfl (by
    rw[show aY O _=pD (co ps m') by cases co ps m'<;>rfl,show aY O _=pD (lc ps ms) by cases lc ps ms<;>rfl,Qz8])),rfl⟩)]
  rw[zO]
 have E:bW (bL (aa 0)) 1 [1,2] _ _ _ [some _,some _,some _] O=.ok _ O:=lL (eV rfl) (by rw[zf];omega) rfl I
 have C:ak gIx _ (mC (.int 0)) _ O=.ok _ O:=aM E m_c (by
  exact mR.trans (K6 _ d3 (λ_=>true) ms m b))
 show bw (z7 [some _,some _,none] O)=_;unfold z7;rw[sq (bc F)];exact congrArg (λr=>bw (lD r)) C
def Wy(ps:Tb)(b:Nd->List M3)(fin:Nd->Bool):Nd->List M3->Prop
 |n,[]=>fin n=true
 |n,m::ms=>fin n=false/\m∈b n/\(b n).find? (λm=>decide (co ps m=lc ps (b n)))=some m/\Wy ps b fin m.other ms
def B_y:MS:=(aq (aA 5 (aB vd (aj (aU "Leaps" "moves_from" m6 (mG (aa 0)) (aj (aa 2) ao)) (aj (aa 1) ao))))
  (aq (cW 4 (ak gIx (aa 5) (mC (.int 1))))
  (aA 2 (ak gIx (aa 5) (mC (.int 2))))))
def Qzk{fs:List (Str×D)}{N:Nat}{nodes:Nat->List Nd}{E:Nd->List M3}{fin:Nd->Bool}{p:Nat}(T:Trl t fs N nodes E fin){ps:Tb}(Q:Pri N nodes E fin 0 ps){O:au}(F:O[t]?=some (.ins "Leaps" fs))(X:O[p]?=some (.dn (tab ps)))(u:Option D):∀(k a:Nat) (n:Nd) (c:Int) (nm:List D) (f:Nat) (q:Option D),a+k=N->n∈nodes a->lk ps n=some (some c)->k<f->nm.length+k<1000000 ->
  ∃ms G d,dh (cN (bx (aU "Leaps" "is_end" lH (mG (aa 0)) (aj (aa 2) ao)))) B_y f [some (.ob t),some (.ob p),some (dN n),u,some (.lst nm),q] O=.nx [some (.ob t),some (.ob p),some (dN G),u,some (.lst (nm++ms.map λm=>.str m.name)),d] O/\Wy ps E fin n ms/\ms.length<=k:=by
 intro k
 induction k using Nat.strongRecOn with
 | _ k ih =>
  intro a n c nm f q hak x Y hf hl;obtain⟨J,rfl⟩:∃J,f=J+1:=⟨f - 1,by omega⟩
  have te:cN (bx (aU "Leaps" "is_end" lH (mG (aa 0)) (aj (aa 2) ao))) [some (.ob t),some (.ob p),some (dN n),u,some (.lst nm),q] O=.ok (!fin n) O:=by
   rw[lB,jM,(cY rfl F T.u3 (ma1 rfl)).trans (T.ie O a n F (by omega) x),aW,mK,mO,oJ,aW]
  cases hfin:fin n with
  |true =>
   rw[hfin] at te;exact⟨[],n,q,by rw[Bp te];simp,hfin,Nat.zero_le _⟩
  |false =>
   rw[hfin] at te
   have Z :=by
    have:=Q a (Nat.zero_le _) (by omega) n x
    rw[Y] at this;have h2 :=zC this;unfold fnl at h2;rw[hfin] at h2;exact h2.symm
   have I:∀m∈E n,(lk ps m.other).isSome=true:=λm I=>by
    obtain⟨b,b1,R,L⟩:=T.fw a n (by omega) x m I;rw[Q b (Nat.zero_le _) R _ L];rfl
   obtain⟨m,e1,C,j,e2⟩:=Qxt X I (T.ml n) Z;obtain⟨b,b1,R,L⟩:=T.fw a n (by omega) x m C
   obtain⟨y,P⟩:∃y,lk ps m.other=some (some y):=by
    unfold co at j;split at j
    ·rename_i y e;exact⟨y,e⟩
    ·cases j
   have W:aB _ (aj (aU "Leaps" _ _ (mG (aa 0)) (aj (aa 2) ao)) (aj (aa 1) ao)) [some (.ob t),some (.ob p),some (dN n),u,some (.lst nm),q] O=.ok (d3 m) O:=(bz (maS ((cY rfl F T.u2 (ma1 rfl)).trans (T.mf O a n F (by omega) x)) (ma1 rfl))).trans e2
   have eb:B_y [some (.ob t),some (.ob p),some (dN n),u,some (.lst nm),q] O=.nx [some (.ob t),some (.ob p),some (dN m.other),u,some (.lst (nm++[.str m.name])),some (d3 m)] O:=by
    unfold B_y;rw[sq (bc W)];rw[sq (rM (aM rfl rfl rfl) rfl (by omega))];rfl
   obtain⟨ms,G,d,e3,U,l3⟩:=ih (N - b) (by omega) b m.other y (nm++[.str m.name]) J _ (by omega) L P (by omega) (by rw[ze,zR];omega);refine⟨m::ms,G,d,?_,⟨hfin,C,e1,U⟩,by rw[zA];omega⟩;rw[vI te eb,e3,zD];rfl
def QtB{fs:List (Str×D)}{N:Nat}{nodes:Nat->List Nd}{d:Nd->List M3}{fin:Nd->Bool}(T:Trl t fs N nodes d fin)(j:∀(a:Nat) (n:Nd),a<=N->n∈nodes a->fin n=false->d n≠[]){ps:Tb}(C:Pri N nodes d fin 0 ps):∀(k a:Nat) (n:Nd),a+k=N->n∈nodes a->∃c,lk ps n=some (some c):=by
 intro k
 induction k using Nat.strongRecOn with
 | _ k ih =>
  intro a n G f;have h1:=C a (Nat.zero_le _) (by omega) n f
  cases hfin:fin n with
  |true =>
   refine⟨0,?_⟩;rw[h1];unfold fnl;rw[hfin,if_pos rfl]
  |false =>
   have h2:lk ps n=some (lc ps (d n)):=by
    rw[h1];unfold fnl;rw[hfin,if_neg zx]
   obtain⟨m,x⟩:=List.exists_mem_of_ne_nil _ (j a n (by omega) f hfin);obtain⟨b,J,I,F⟩:=T.fw a n (by omega) f m x;obtain⟨c,y⟩:=ih (N - b) (by omega) b _ (by omega) F
   have q:co ps m=some (m.cost+c):=by
    unfold co;rw[y]
   obtain⟨E,u⟩:=QzX (l:=(d n).filterMap _) λz=>by
    have:=List.mem_filterMap.mpr ⟨m,x,q⟩
    rw[z] at this;cases this
   exact⟨E,by rw[h2];exact congrArg _ u⟩
def QBF(T:Trl t fs N U W fin)(f:∀(a:Nat) (n:Nd),a<=N->n∈U a->fin n=false->W n≠[])(R:N<300)  (q:O[t]?=some (.ins "Leaps" fs)):
  ∃O' ps c ms,Aa [.ob t] O=.ok (.tup [.int c,.lst (ms.map λm=>.str m.name)]) O'/\(∀(j:Nat) (x:Ob),O[j]?=some x->O'[j]?=some x)/\Pri N U W fin 0 ps/\lk ps (0,(46,46))=some (some c)/\Wy ps W fin (0,(46,46)) ms:=by
 obtain⟨O',ps,J,y,u,d⟩:=QuI T q;obtain⟨c,b⟩:=QtB T f d N 0 _ (jk _) T.f0;have ht':=u t _ q;obtain⟨ms,P,L,C,E,Q⟩:=Qzk T d ht' y _ N 0 _ c [] _ _ (jk _) T.f0 b (by omega) (by simp;omega);refine⟨O',ps,c,ms,?_,u,d,b,E⟩;have I:aB _ (aj (aa 0) _) [some _,none,none,none,none,none] O=.ok _ O':=(bz (ma1 rfl)).trans J;have G:aU _ _ _ (mG (aa 0)) ao [some (.ob t),some (.ob O.length),none,none,none,none] O'=.ok _ O':=(cY rfl ht' T.u5 rfl).trans (T.fi O' ht');have F:eE (aa 1) (aa 2) [some (.ob t),some _,some _,none,none,none] O'=.ok _ O':=nD rfl y rfl b
 unfold B_y at C;show bw (z9 [some _,none,none,none,none,none] O)=_;unfold z9;rw[sq (Bl I)];show bw (aq _ _ [some _,some _,none,none,none,none] O')=_;rw[sq (bc G)];show bw (aq _ _ [some _,some _,some _,none,none,none] O')=_;rw[sq (bc F)];show bw (aq _ _ [some _,some _,some _,some _,some _,none] O')=_;unfold jD;rw[sq C];rfl
def jY     (h:m ρ O=.ok (.str t) O)(hz:t.length<=1000000):aJ aP (aj m ao) ρ O=.ok (.int (t.length:Int)) O:=eU (ma1 h) (by
 show aP [D.str t]=_
 rw[yt,if_pos hz])
def cZ     (f:a ρ O=.ok (.str x) O)(hb:b ρ O=.ok (.str y) O)(d:x.length+y.length<=1000000):ak aF a b ρ O=.ok (.str (x++y)) O:=aM f hb (by rw[mL,mL,QyX,if_pos d])
def mi(p:Nat×Nat)(c:Nat):List Nat:=if p.1=c then[] else[91,c,93]
noncomputable def mg'(p:Nat×Nat)(c:Nat):List Nat:=if p.2=c then[] else[91,47,c,93]
def mbS(p q:Nat×Nat):List Nat:=mi p q.1++mg' p q.2
def mbA(q:Nat×Nat):List Nat:=[91,93]++mi (46,46) q.1++mg' (46,46) q.2
def mb(p q:Nat×Nat):List Nat:=if(mbA q).length<(mbS p q).length then mbA q else mbS p q
def vJ(p:Nat×Nat)(c:Nat):(mi p c).length<=3:=by unfold mi;split<;>simp
def vK(p:Nat×Nat)(c:Nat):(mg' p c).length<=4:=by unfold mg';split<;>simp
def QwZ(p q:Nat×Nat):(mbS p q).length<=7:=by
 unfold mbS;rw[ze]
 have:=vJ p q.1
 have:=vK p q.2
 omega
def K7(q:Nat×Nat):(mbA q).length<=9:=by
 unfold mbA;rw[ze,ze]
 have:=vJ (46,46) q.1
 have:=vK (46,46) q.2
 show 2+_+_<=9;omega
def K8(p q:Nat×Nat):(mb p q).length<=9:=by
 unfold mb
 have:=K7 q
 split<;>omega
def K9(p:Nat×Nat)(c:Nat)(O:au):m5 [pr p,.str [105,110,107],st c] O=.ok (.str (mi p c)) O:=by
 have b:aA 3 (mIf (az (ak gEq (aa 1) (mC (.str [105,110,107])))) (mC _) (mC (.int 1))) [some (pr p),some (.str [105,110,107]),some (st c),none] O=.nx [some _,some _,some _,some (.int 0)] O:=rfl;have t1:az (ak _ (ak gIx (aa 0) (aa 3)) (aa 2)) [some (pr p),some (.str [105,110,107]),some (st c),some (.int 0)] O=.ok _ O:=bU (aM rfl rfl (vG _ _));show bw (q9 [some _,some _,some _,none] O)=_;unfold q9 mi;rw[sq b,dU,jN,t1]
 by_cases h:p.1=c
 ·rw[zv h,if_pos h];rfl
 ·rw[zl h,if_neg h];rfl
def La(p:Nat×Nat)(c:Nat)(O:au):m5 [pr p,.str [103,114,111,117,110,100],st c] O=.ok (.str (mg' p c)) O:=by
 have b:aA 3 (mIf (az (ak gEq (aa 1) (mC (.str [105,110,107])))) (mC (.int 0)) (mC (.int 1))) [some _,some (.str [103,114,111,117,110,100]),some (st c),none] O=.nx [some (pr p),some _,some _,some _] O:=rfl;have t1:az (ak _ (ak gIx (aa 0) (aa 3)) (aa 2)) [some (pr p),some (.str [103,114,111,117,110,100]),some (st c),some (.int 1)] O=.ok _ O:=bU (aM rfl rfl (vG _ _));show bw (q9 [some _,some _,some _,none] O)=_;unfold q9 mg';rw[sq b,dU,jN,t1]
 by_cases h:p.2=c
 ·rw[zv h,if_pos h];rfl
 ·rw[zl h,if_neg h];rfl
def QrU(p q:Nat×Nat)(O:au):u9 [pr p,pr q] O=.ok (.str (mb p q)) O:=by
 have j:=QwZ p q;have m:=K7 q;have l1:=vJ p q.1;have f:=vK p q.2;have l3:=vJ (46,46) q.1;have l4:=vK (46,46) q.2;have d:ak aF (aB _ (aj (aa 0) (aj (mC _) (aj (ak gIx (aa 1) (mC (.int 0))) ao)))) (aB _ (aj (aa 0) (aj (mC _) (aj (ak gIx (aa 1) (mC (.int 1))) ao)))) [some _,some (pr q),none,none] O=.ok (.str (mbS p q)) O :=
  cZ ((bz (maS rfl (maS rfl (ma1 (aM rfl rfl rfl))))).trans (K9 p q.1 O)) ((bz (maS rfl (maS rfl (ma1 (aM rfl rfl rfl))))).trans (La p q.2 O)) (by omega)
 have b:ak aF (ak aF (aB _ (aj (mC (.str [112,108,97,105,110])) (aj (mC _) ao))) (aB _ (aj (mC (.tup [.str [46],.str [46]])) (aj (mC _) (aj (ak gIx (aa 1) (mC (.int 0))) ao))))) (aB _ (aj (mC (.tup [.str [46],.str [46]])) (aj (mC _) (aj (ak gIx (aa 1) (mC (.int 1))) ao)))) [some (pr p),some (pr q),some (.str (mbS p q)),none] O=.ok _ O :=
  cZ (cZ ((bz (maS rfl (ma1 rfl))).trans (QwP O)) ((bz (maS rfl (maS rfl (ma1 (aM rfl rfl rfl))))).trans (K9 (46,46) q.1 O)) (by show 2+_<=_;omega)) ((bz (maS rfl (maS rfl (ma1 (aM rfl rfl rfl))))).trans (La (46,46) q.2 O)) (by rw[ze];show 2+_+_<=_;omega)
 have t1:az (ak gLt (aJ aP (aj (aa 3) ao)) (aJ aP (aj (aa 2) ao))) [some (pr p),some (pr q),some (.str (mbS p q)),some (.str (mbA q))] O=.ok _ O:=Ka (jY rfl (by omega)) (jY rfl (by omega));show bw (yV [some _,some (pr q),none,none] O)=_;unfold yV mb;rw[sq (bc d)];show bw (aq _ _ [some (pr p),some (pr q),some _,none] O)=_;rw[sq (bc b)];show bw (aC _ [some (pr p),some (pr q),some _,some (.str (mbA q))] O)=_;rw[dU,jN,t1]
 by_cases h:(mbA q).length<(mbS p q).length
 ·rw[zv (by omega),if_pos h];rfl
 ·rw[zl (by omega),if_neg h];rfl
def lfs(l:List L3)(b:List Nat):List (Str×D):=[("look",.lst (l.map dK)),("inks",.lst (b.map st))]
def nds(l:List L3)(b:List Nat)(a:Nat):List Nd:=if a=0\/a=l.length+1 then[((a:Int),(46,46))] else match l[a - 1]? with
 |some x=>if x.1=32 then b.map λc=>((a:Int),(c,x.2.2)) else[((a:Int),(x.2.1,x.2.2))]
 |none=>[]
def sg(l:List L3)(a:Nat):List Nat:=match l[a]? with
 |some x=>sgn x.1
 |none=>[]
def lmv(l:List L3)(d:List Nat)(n:Nd):List M3:=if n.1=(l.length:Int)+1 then[] else(nds l d (n.1.toNat+1)).map λb=>⟨((mb n.2 b.2).length:Int),mb n.2 b.2++sg l n.1.toNat,b⟩
def pA(l:List L3)(n:Nd):Bool:=decide (n.1=(l.length:Int)+1)
def lN     (h:n∈nds l b a):n.1=(a:Int):=by
 unfold nds at h;split at h
 ·rw[zj.mp h]
 ·split at h
  ·split at h
   ·obtain⟨c,_,rfl⟩:=zw.mp h;rfl
   ·rw[zj.mp h]
  ·cases h
def Qwo(c:Nat):(sgn c).length<=2:=by unfold sgn;split<;>simp
def Lb(l:List L3)(a:Nat):(sg l a).length<=2:=by
 unfold sg
 split
 ·exact Qwo _
 ·exact Nat.zero_le _
def rQ(d:O[t]?=some (.ins "Leaps" (lfs l f))):lG [.ob t] O=.ok (.int ((l.length:Int)+1)) O:=by
 have h:bu ["Leaps"] "look" (aa 0) [some _] O=.ok _ O:=dX rfl d zd rfl;have b:=m8 h;rw[zf] at b;show bw (yU [some _] O)=_;unfold yU;rw[dU,m9 b rfl];rfl
def Ld{l:List L3}{k:Nat}  (h:l[k]?=some x):gIx (.lst (l.map dK)) (.int (k:Int))=some (dK x):=by
 rw[uD,mR,zF,h];rfl
def sqr     (h:a ρ O=.rt d O'):aq a b ρ O=.rt d O':=by rw[cX,h];rfl
def Le{O:au}{t:Nat}(d:O[t]?=some (.ins "Leaps" (lfs l y)))(q:y.length<=100)  (u:a<=l.length+1):oX [.ob t,.int (a:Int)] O=.ok (.lst ((nds l y a).map dN)) O:=by
 unfold nds
 by_cases h:a=0\/a=l.length+1
 ·rw[if_pos h];exact congrArg bw (Eq.trans (sqr (.trans (cT (.trans (orb (jU rfl rfl) (jU rfl ((cY rfl d rfl rfl).trans (rQ d)))) (by simp;omega))) rfl)) rfl)
 ·rw[if_neg h]
  have f:a - 1<l.length:=by omega
  have hx :=zy f
  generalize l[a - 1]=x at hx
  rw[hx]
  suffices g:JL _ O=.rt (.lst ((if x.1=32 then y.map _ else[((a:Int),(x.2.1,x.2.2))]).map dN)) O from congrArg bw g
  refine .trans (sq (cC (.trans (orb (jU rfl rfl) (jU rfl ((cY rfl d rfl rfl).trans (rQ d)))) (by simp;omega)))) (.trans (sq (bc (aM (dX rfl d zd rfl) (Ba rfl rfl) (by
   rw[show a - 1=((a - 1:Nat):Int) by omega]
   exact Ld hx)))) ?_)
  by_cases h3:x.1=32
  ·rw[if_pos h3];have j:bu ["Leaps"] "inks" (aa 0) [some _,some (dK x)] O=.ok _ O:=dX rfl d zd rfl
   have cl:=iK (g:=mgN 0) (t:=b8) (m:=aX (aj (mG (aa 1)) (aj (aX (aj (aa 0) (aj (ak gIx (aa 2) (mC (.int 2))) ao))) ao))) (λρ=>∃b,ρ=[b,some _,some (dK x)]) st _ y [none,some (.int a),some (dK x)] O [] ⟨_,rfl⟩ (by
    rintro c _ ρ ⟨b,rfl⟩
    exact⟨_,rfl,⟨_,rfl⟩,rfl,rfl⟩)
   exact sqr (.trans (cT (.trans (bU (aM rfl rfl (vG _ _))) (by simp[h3]))) (.trans (fD (lL (eV j) (by rw[zf];omega) rfl cl)) (by rw[zQ];rfl)))
  ·rw[if_neg h3];exact .trans (sq (cC (.trans (bU (aM rfl rfl (vG _ _))) (by simp[h3])))) rfl
def vL:MS:=(aq (aA 6 (aB u9 (aj (ak gIx (aa 1) (mC (.int 1))) (aj (ak gIx (aa 5) (mC (.int 1))) ao))))
  (cW 4 (aX (aj (aJ aP (aj (aa 6) ao)) (aj (ak aF (aa 6) (aa 3)) (aj (aa 5) ao))))))
theorem Lf(n:Nd)(s:List Nat)(hs:s.length<=2)(a0 a2:Option D):∀(bs:List Nd) (d:List D) (q m:Option D),d.length+bs.length<1000000->∃j f,bB (mgN 5) vL (bs.map dN) [a0,some (dN n),a2,some (.str s),some (.lst d),q,m] O=.nx [a0,some (dN n),a2,some (.str s),some (.lst (d++bs.map λb=>d3 ⟨((mb n.2 b.2).length:Int),mb n.2 b.2++s,b⟩)),j,f] O
 | [],d,q,m,_=>⟨q,m,by rw[zV,zV,zJ];rfl⟩
 |b::bs,d,q,m,hl=>by
  rw[zA] at hl;have x:=K8 n.2 b.2;obtain⟨j,f,e⟩:=Lf n s hs a0 a2 bs (d++[d3 _]) _ _ (by rw[ze,zR];omega);refine⟨j,f,?_⟩
  have u:vL [a0,some (dN n),a2,some (.str s),some (.lst d),some (dN b),m] O=.nx [a0,some (dN n),a2,some (.str s),some (.lst (d++[d3 ⟨(mb n.2 b.2).length,mb n.2 b.2++s,b⟩])),some (dN b),some (.str (mb n.2 b.2))] O:=by
   unfold vL;rw[sq (bc ((bz (maS (aM rfl rfl rfl) (ma1 (aM rfl rfl rfl)))).trans (QrU _ _ O)))];rw[rM (rK (maS (jY rfl (by omega)) (maS (cZ rfl rfl (by omega)) (ma1 rfl))) (show 3<=1000000 by decide)) rfl (by omega)];rfl
  rw[zg,iR rfl u,e,zD];rfl
def Qv0(b:O[t]?=some (.ins "Leaps" (lfs l L)))(j:L.length<=100)  (J:a<=l.length+1)  (E:n∈nds l L a):m6 [.ob t,dN n] O=.ok (.lst ((lmv l L n).map d3)) O:=by
 have h1:=lN E;have x:aA 2 (ak gIx (aa 1) (mC (.int 0))) [some (.ob t),some (dN n),none,none,none,none,none] O=.nx [some (.ob t),some (dN n),some (.int n.1),none,none,none,none] O:=rfl;have C:aU "Leaps" "last_at" _ (aa 0) ao [some (.ob t),some (dN n),some (.int n.1),none,none,none,none] O=.ok _ O:=(cY rfl b rfl rfl).trans (rQ b);have t1:az (ak gEq (aa 2) _) _ O=.ok _ O:=jU rfl C;show bw (yW [some (.ob t),some (dN n),none,none,none,none,none] O)=_;unfold yW lmv;rw[sq x]
 by_cases h:n.1=(l.length:Int)+1
 ·rw[zv h] at t1;rw[if_pos h,cX,ifY t1];rfl
 ·rw[zl h] at t1;rw[if_neg h,sq (ifN t1)];have m:bu ["Leaps"] "look" (aa 0) [some (.ob t),some (dN n),some (.int n.1),none,none,none,none] O=.ok _ O:=dX (n:=t) rfl b zd rfl;have f:=m8 m;rw[zf] at f
  have q:n.1.toNat=a:=by omega
  have u:mIf (az (ak gLt (aa 2) (aJ aP (aj (bu ["Leaps"] "look" (aa 0)) ao)))) (aB jT (aj (mC (.str [115,105,103,110])) (aj (ak gIx (ak gIx (bu ["Leaps"] "look" (aa 0)) (aa 2)) (mC (.int 0))) ao))) (mC (.str [])) [some (.ob t),some (dN n),some (.int n.1),none,none,none,none] O=.ok (.str (sg l n.1.toNat)) O:=by
   rw[jN,Ka rfl f,aW,q];unfold sg
   by_cases d:a<l.length
   ·rw[zv (by omega),zy d];exact(bz (maS rfl (ma1 (aM (aM m rfl (by rw[h1];exact Ld (zy d))) rfl rfl)))).trans (Qy9 _ O)
   ·rw[zl (by omega),jp (by omega)];rfl
  rw[sq (bc u)];show bw (aq _ _ [some (.ob t),some (dN n),some (.int n.1),some _,none,none,none] O)=_;rw[sq (show aA 4 _ _ O=.nx [some (.ob t),some (dN n),some (.int n.1),some _,some (.lst []),none,none] O from rfl)]
  have y:aU "Leaps" "nodes_at" oX (aa 0) (aj (ak aF (aa 2) (mC (.int 1))) ao) [some (.ob t),some (dN n),some (.int n.1),some (.str (sg l n.1.toNat)),some (.lst []),none,none] O=.ok (.lst ((nds l L (n.1.toNat+1)).map dN)) O:=by
   refine(cY rfl b rfl (ma1 ((m9 rfl rfl).trans ?_))).trans (Le b j (by omega));congr 2;omega
  have F:(nds l L (n.1.toNat+1)).length<=100:=by
   unfold nds
   split
   ·show 1<=100;decide
   ·split
    ·split
     ·rw[zf];exact j
     ·show 1<=100;decide
    ·exact Nat.zero_le _
  obtain⟨I,G,e⟩:=Lf (O:=O) n _ (Lb _ _) _ _ (nds l L (n.1.toNat+1)) [] none none (by rw[jb];omega);unfold vL at e;rw[cX,qM,eV y,qN,e,gU,zQ];rfl
def QvO(b:O[t]?=some (.ins "Leaps" (lfs l f)))(n:Nd):lH [.ob t,dN n] O=.ok (.bl (pA l n)) O:=by
 have d:aU _ "last_at" _ (aa 0) ao [some _,some (dN n)] O=.ok _ O:=(cY rfl b rfl rfl).trans (rQ b);show bw (yX [some _,some _] O)=_;unfold yX;rw[dU,aM (aM rfl rfl rfl) d rfl];rfl
def vM(t:Nat)   (hl:l.length<=250)(hc:cs.length<=10)(hcn:cs.Nodup):Trl t (lfs l cs) (l.length+1) (nds l cs) (lmv l cs) (pA l) where
 na:=λO a ht ha=>Le ht (by omega) ha
 mf:=λO a n ht ha hn=>Qv0 ht (by omega) ha hn
 ie:=λO a n ht _ _=>QvO ht n
 la:=λO ht=>rQ ht
 fi:=λO ht=>rfl
 f0:=by
  unfold nds;rw[if_pos (.inl rfl)];exact zd
 nd:=λa=>by
  unfold nds
  split
  ·exact List.pairwise_singleton _ _
  ·split
   ·split
    ·refine List.Pairwise.map _ (R:=λa b=>a≠b) (λa b h z=>h ?_) hcn;exact congrArg (λn:Nd=>n.2.1) z
    ·exact List.pairwise_singleton _ _
   ·exact List.nodup_nil
 ln:=λa=>by
  unfold nds
  split
  ·show 1<=10;decide
  ·split
   ·split
    ·rw[zf];exact hc
    ·show 1<=10;decide
   ·exact Nat.zero_le _
 fw:=λa n ha hn m hm=>by
  have h1:=lN hn;unfold lmv at hm;split at hm
  ·cases hm
  ·rename_i hne;obtain⟨b,hb,rfl⟩:=zw.mp hm
   have ta:n.1.toNat=a:=by omega
   rw[ta] at hb;exact⟨a+1,by omega,by omega,hb⟩
 sp:=λa b n h1 h2=>by
  have:=lN h1
  have:=lN h2
  omega
 ml:=λn=>by
  unfold lmv
  split
  ·exact Nat.zero_le _
  ·rw[zf];unfold nds
   split
   ·show 1<=1000;decide
   ·split
    ·split
     ·rw[zf];omega
     ·show 1<=1000;decide
    ·exact Nat.zero_le _
 fe:=λn h=>by
  unfold lmv;rw[if_pos (zW h)]
 u1:=rfl
 u2:=rfl
 u3:=rfl
 u4:=rfl
 u5:=rfl
 hN:=by omega
structure LkT(l:List L3)(cs:List Nat):Prop where
 ll:l.length<=250
 cl:cs.length<=10
 cn:cs.Nodup
 c0:cs≠[]
def txt(ms:List M3):List Nat:=(ms.map (·.name)).flatten
def Bs(m:M3)(ms:List M3):txt (m::ms)=m.name++txt ms:=rfl
def Qyr   (h:LkT l d)(a:Nat)(b:a<=l.length+1):nds l d a≠[]:=by
 unfold nds
 split
 ·exact List.cons_ne_nil _ _
 ·rw[zy (show a - 1<l.length by omega)]
  dsimp
  split
  ·intro z;exact h.c0 (List.map_eq_nil_iff.mp z)
  ·exact List.cons_ne_nil _ _
def Qyl   (h:LkT l m)(a:Nat)(n:Nd)(j:a<=l.length+1)(d:n∈nds l m a)(f:pA l n=false):lmv l m n≠[]:=by
 have h1:=lN d;have b :=of_decide_eq_false f;unfold lmv;rw[if_neg b];intro z;exact Qyr h _ (by omega) (List.map_eq_nil_iff.mp z)
theorem Lg:∀ms:List M3,gw (ms.map λm=>D.str m.name)=some (ms.map (·.name))
 | []=>rfl
 |m::ms=>by
  show(gw _).map _=_;rw[Lg];rfl
theorem Lh:∀ms:List M3,((ms.map (·.name)).map List.length).sum=(txt ms).length
 | []=>rfl
 |m::ms=>by
  rw[Bs,ze,<-Lh];rfl
def Li(l:List L3):List (Str×D):=[("look",.lst (l.map dK))]
def pfl(l:List L3):putD "look" (.lst (l.map dK)) []=Li l:=rfl
def Qxn(O:au)   (b:∀O,rE [.lst (l.map dK),.int 1] O=.ok (.lst (d.map st)) O):vf [.ob O.length,.lst (l.map dK)] (O++[.ins "Leaps" []])=.ok .non (O++[.ins "Leaps" (lfs l d)]):=by
 show bw _=_;unfold JR;rw[sq (gZ (c:="Leaps") (fs:=[]) (vC rfl rfl) rfl dO zd (by decide)),nC,pfl];rw[gZ (c:="Leaps") (fs:=Li l) ((bz (maS rfl (ma1 rfl))).trans (b _)) rfl dO zd (by show 1<900;decide),nC];rfl
theorem Bt   :∀(ms:List M3) (a:Nat) (n:Nd),a<=l.length+1->n∈nds l cs a->Wy ps (lmv l cs) (pA l) n ms->(txt ms).length<=11 * (l.length+1 - a)
 | [],a,n,ha,hn,w=>Nat.zero_le _
 |m::ms,a,n,ha,hn,⟨hf,hm,_,w⟩=>by
  have h1:=lN hn;have d :=of_decide_eq_false hf;unfold lmv at hm;rw[if_neg d] at hm;obtain⟨b,f,rfl⟩:=zw.mp hm;have i:=Bt ms _ b (by omega) f w;have lb:=K8 n.2 b.2;have ls:=Lb l n.1.toNat;rw[Bs];rw[ze,ze];omega
def Kp(O O':au):Prop:=∀(j:Nat) (x:Ob),O[j]?=some x->O'[j]?=some x
def QuJ{fs:List (Str×D)}{N:Nat}{nodes:Nat->List Nd}{f:Nd->List M3}{fin:Nd->Bool}(T:Trl t fs N nodes f fin){ps d:Tb}(h:Pri N nodes f fin 0 ps)(h':Pri N nodes f fin 0 d):∀(k a:Nat) (n:Nd),a+k=N->n∈nodes a->lk d n=lk ps n:=by
 intro k
 induction k using Nat.strongRecOn with
 | _ k ih =>
  intro a n x j
  have e :=vH λm q=>by
   obtain⟨b,C,y,u⟩:=T.fw a n (by omega) j m q;exact ih (N - b) (by omega) b _ (by omega) u
  rw[h a (Nat.zero_le _) (by omega) n j,h' a (Nat.zero_le _) (by omega) n j];unfold fnl
  dsimp
  rw[e]
theorem Lj{α:Type}{f g:α->Bool}:∀{l:List α},(∀x∈l,f x=g x)->l.find? f=l.find? g
 | [],_=>rfl
 |x::l,h=>by
  rw[List.find?_cons,List.find?_cons,h x zd,Lj λy b=>h y (zp _ b)]
theorem Ln{fs:List (Str×D)}{N:Nat}{nodes:Nat->List Nd}{f:Nd->List M3}{fin:Nd->Bool}(T:Trl t fs N nodes f fin){ps j:Tb}(h:Pri N nodes f fin 0 ps)(h':Pri N nodes f fin 0 j):∀(ms d:List M3) (a:Nat) (n:Nd),a<=N->n∈nodes a->Wy ps f fin n ms->Wy j f fin n d->d=ms
 | [],[],_,_,_,_,_,_=>rfl
 | [],m'::d,a,n,_,_,w,w'=>by
  have y :=w;have q :=w'.1;rw[y] at q;cases q
 |m::ms,[],a,n,_,_,w,w'=>by
  have y :=w';have q :=w.1;rw[y] at q;cases q
 |m::ms,m'::d,a,n,ha,hn,⟨_,hm,f1,w⟩,⟨_,hm',f2,w'⟩=>by
  have u:∀x∈f n,lk _ _=lk ps _:=λx hx=>by
   obtain⟨b,I,E,C⟩:=T.fw a n ha hn x hx;exact QuJ T h h' (N - b) b _ (by omega) C
  have e :=vH u
  have G:(f n).find? (λm=>decide (co _ m=lc _ _))=(f n).find? _:=Lj λx hx=>by
   have:co j x=co ps x:=by
    unfold co;rw[u x hx]
   rw[this,e]
  rw[G,f1] at f2;have F:=zC f2;subst F;obtain⟨b,I,E,C⟩:=T.fw a n ha hn m hm;rw[Ln T h h' ms _ b _ E C w w']
def QtQ   (h:LkT l P)(I:∀O,rE [.lst (l.map dK),.int 1] O=.ok (.lst (P.map st)) O):∃ms ps,Wy ps (lmv l P) (pA l) (0,(46,46)) ms/\∀O,∃O',oY [.lst (l.map dK)] O=.ok (.str (txt ms)) O'/\Kp O O':=by
 have L:=h.ll
 have b:=λO:au=>QBF (vM O.length h.ll h.cl h.cn) (Qyl h) (by omega) dO
 obtain⟨_,q,_,d,_,_,u,_,f⟩:=b [];have h0:=(vM 0 h.ll h.cl h.cn).f0;refine⟨d,q,f,λO=>?_⟩;obtain⟨O',ps,c,ms,e,k,J,_,C⟩:=b O;obtain rfl :=Ln (vM 0 h.ll h.cl h.cn) u J d ms 0 _ (Nat.zero_le _) h0 f C;have hlen:=Bt ms 0 _ (Nat.zero_le _) h0 C;refine⟨O',?_,λj x y=>k j x (by rw[zE (zu.mp y).1];exact y)⟩
 have mk:dj "Leaps" vf (aj (aa 0) ao) [some (.lst (l.map dK)),none] O=.ok (.ob O.length) (O++[.ins "Leaps" (lfs l P)]):=by
  rw[Il,ma1 rfl,aW,Qxn O I,Im]
 have F :=(Bb (jV mk)).trans e
 have G:mq (ak gIx (aa 1) (mC (.int 1))) [some (.lst (l.map dK)),some (.tup [.int c,.lst (ms.map λm=>.str m.name)])] O'=.ok (.str (txt ms)) O':=by
  unfold mq;rw[show ak gIx (aa 1) _ _ O'=.ok _ O' from rfl,aW];dsimp only[jL];rw[Lg];dsimp only;rw[if_pos (by rw[Lh];omega)];rfl
 have E:Ad [.lst (l.map dK)] O=.ok (.tup [.int c,.str (txt ms)]) O':=by
  show bw (Ac [some _,none] O)=_;unfold Ac;rw[sq (Bl F)];show bw (aC _ [some _,some _] O')=_;rw[dU,rK (maS rfl (ma1 G)) (show 2<=1000000 by decide)];rfl
 show bw _=_;unfold JS;rw[dU,nj ((Bb (jV rfl)).trans E) rfl rfl];rfl
structure Okt(t:List Nat):Prop where
 len:t.length<=5000
 ok:∀c∈t,(32<=c/\c<=125)\/c=10\/c=9
def Okt.lt  (h:Okt t):∀c∈t,c<128:=λc b=>by
 have:=h.ok c b
 omega
def Okt.asc  (h:Okt t):ascii t=true:=by
 unfold ascii;rw[je];intro c b;exact zv (h.lt c b)
@[simp] theorem QEh :gIx (.str [a]) (.int 0)=some (.str [a]):=rfl
@[simp] theorem QD1 :gIx (.str [a,b]) (.int 0)=some (.str [a]):=rfl
@[simp] theorem QEx :gIx (.str [a,b]) (.int 1)=some (.str [b]):=rfl
@[simp] theorem QEe :gIx (.str [a,b,c]) (.int 0)=some (.str [a]):=rfl
@[simp] theorem QEp :gIx (.str [a,b,c]) (.int 1)=some (.str [b]):=rfl
@[simp] theorem QEr :gIx (.str [a,b,c]) (.int 2)=some (.str [c]):=rfl
@[simp] theorem QD2 :gIx (.str [a,b,c,d]) (.int 0)=some (.str [a]):=rfl
@[simp] theorem QEj :gIx (.str [a,b,c,d]) (.int 1)=some (.str [b]):=rfl
@[simp] theorem QEs :gIx (.str [a,b,c,d]) (.int 2)=some (.str [c]):=rfl
@[simp] theorem QEc :gIx (.str [a,b,c,d]) (.int 3)=some (.str [d]):=rfl
@[simp] theorem QEq :gIx (.tup [a,b]) (.int 0)=some a:=rfl
@[simp] theorem QEv :gIx (.tup [a,b]) (.int 1)=some b:=rfl
@[simp] theorem QEn :gIx (.tup [a,b,c]) (.int 0)=some a:=rfl
@[simp] theorem QEb :gIx (.tup [a,b,c]) (.int 1)=some b:=rfl
@[simp] theorem QEk :gIx (.tup [a,b,c]) (.int 2)=some c:=rfl
def vN(c:Nat)(O:au):mW [.str [c]] O=.ok (.bl (col c)) O:=by
 simp[mW,Jj,col]
def QpY(c:Nat)(O:au):oR [.str [c]] O=.ok (.bl (decide (32<=c/\c<=125))) O:=by
 simp[oR,Ji]
 grind
def Lp   {i:Nat}(h:(cV 0 (cB t))[i]?=some d):∃c,c∈t/\d=.tup [.int i,.str [c]]:=by
 rw[tV] at h;unfold cB at h
 grind
def QrZ(t:List Nat)(h:Okt t)(O:au):uO [.str t] O=.ok .non O:=by
 obtain⟨u,m,j⟩:=uE (g:=dg 2 (bF (mgN 1) (bF (mgN 2) dC)))
  (b:=aD (cN (cI (bx (aB oR (aj (aa 2) ao))) (cI (az (ak gEq (aa 2) (mC (.str [10])))) (az (ak gEq (aa 2) (mC (.str [9]))))))) _ aK)
  (λi ρ f=>f=O/\∃m j,ρ=[some (.str t),m,j]) _ 0 _ O ⟨rfl,none,none,rfl⟩ (by
   rintro i d ρ f hi ⟨rfl,m,j,rfl⟩;obtain⟨c,q,rfl⟩:=Lp hi;refine⟨_,rfl,_,_,.inl ?_,rfl,some (.int i),some (.str [c]),rfl⟩
   have:=h.ok c q
   have e:cI (bx (aB oR (aj (aa 2) ao))) (cI (az (ak gEq (aa 2) (mC (.str [10])))) (az (ak gEq (aa 2) (mC (.str [9]))))) [some (.str t),some (.int i),some (.str [c])] f=.ok true f:=by
    simp[QpY]
    omega
   show aD _ gm _ [some _,some _,some _] f=_;simp only[jO,lB,e]
   rfl)
 simp  [uO,Jl,Ir h.asc]
 simp_all
def mkD:Option (List Nat×List Nat)->D
 |some (k,v)=>.tup [.str k,.str v]
 |none=>.non
def Qy1(s:List Nat)(h0:1<=s.length)(h4:s.length<=4)(O:au):mX [.str s] O=.ok (mkD (markB s)) O:=by
 match s,h0,h4 with
 | [a],_,_=>simp[mX,qR,markB,mkD]
 | [a,b],_,_ =>
  simp[mX,qR,markB]
  by_cases h1:a=91/\b=93
  ·simp[h1,mkD,jQ]
  ·by_cases h2:a=91/\b=91
   ·simp[h2,mkD,bG]
   ·simp[h1,h2,mkD]
 | [a,b,c],_,_ =>
  simp[mX,qR,markB,vN]
  by_cases h1:a=91
  ·by_cases h2:col b=true
   ·by_cases h3:c=93
    ·simp[h1,h2,h3,mkD,eG]
    ·simp[h1,h2,h3,mkD]
   ·simp[h1,h2,mkD]
  ·simp[h1,mkD]
 | [a,b,c,d],_,_ =>
  simp[mX,qR,markB,vN]
  by_cases h1:a=91
  ·by_cases f:b=47
   ·by_cases h2:col c=true
    ·by_cases h3:d=93
     ·simp[h1,h2,h3,f,mkD,fc]
     ·simp[h1,h2,h3,f,mkD]
    ·simp[h1,h2,f,mkD]
   ·simp[h1,f,mkD]
  ·simp[h1,mkD]
def QBA(s:List Nat)(h0:1<=s.length)(h4:s.length<=4)(O:au):mY [.str s] O=.ok (.bl (bh s)) O:=by
 match s,h0,h4 with
 | [a],_,_ =>
  simp[mY,qT,bh]
  grind
 | [a,b],_,_ =>
  simp[mY,qT,bh,vN]
  grind
 | [a,b,c],_,_ =>
  simp[mY,qT,bh,vN]
  grind
 | [a,b,c,d],_,_ =>
  simp[mY,qT,bh]
def QA4(p:Int)(c:Nat)(O:au):qU [.int p,.str [c]] O=.ok (own p c) O:=by
 simp[qU,Jm,own,item]
 by_cases h1:c=10
 ·simp[h1,jP]
 ·by_cases h2:c=9
  ·simp[h2,mU]
  ·simp[h1,h2,bG]
theorem Lq(p:Int):∀(l:List Nat) (k:Nat),(cV k (cB l)).map (λd=>match d with | .tup [.int i,.str [c]]=>own (p+i) c | _=>.non)=owns (p+k) l
 | [],k=>rfl
 |c::l,k=>by
  show own _ c::(cV _ (cB l)).map _=own _ c::owns _ l;rw[Lq ]
  grind
def Bu(p:Int)(l:List Nat)(j:ascii l=true)(q:l.length<=100000)(O:au):oU [.int p,.str l] O=.ok (.lst (owns p l)) O:=by
 have hl':(cV 0 (cB l)).length<=1000000:=by rw[tU];unfold cB;grind
 have m:cG (dg 2 (bF (mgN 0) (bF (mgN 1) dC))) b8 (aB qU (aj (ak aF (aa 2) (aa 0)) (aj (aa 1) ao))) (cV 0 (cB l)) [none,none,some (.int p)] O []=.ok (owns p l) O:=by
  rw[Ib (λρ=>∃a b,ρ=[a,b,some _]) (λd=>match d with | .tup [.int i,.str [c]]=>own (p+i) c | _=>.non) _ _ _ _ ⟨none,none,rfl⟩ (by
   rintro d hd ρ ⟨a,b,rfl⟩;obtain⟨i,f⟩:=List.mem_iff_getElem?.mp hd;obtain⟨c,u,rfl⟩:=Lp f;refine⟨_,rfl,⟨_,_,rfl⟩,rfl,?_⟩
   simp[QA4])]
  rw[Lq ];simp
 simp[oU,Jo,Ir j,hl',m]
def RO(h:List Nat)(p:Int):Ob:=.ins "Reader" [("held",.str h),("place",.int p)]
def fh     (e:O[n]?=some (RO h p)):dW ["Reader"] "held" (.ob n) O=.ok (.str h) O:=by
 unfold dW;dsimp ;rw[e];rfl
def fp     (e:O[n]?=some (RO h p)):dW ["Reader"] "place" (.ob n) O=.ok (.int p) O:=by
 unfold dW;dsimp ;rw[e];rfl
def ph      (e:O[n]?=some (RO h p)):puF ["Reader"] "held" (.str h') ρ (.ok (.ob n) O)=.nx ρ (O.set n (RO h' p)):=by
 unfold puF;dsimp ;rw[e];rfl
def pp      (e:O[n]?=some (RO h p)):puF ["Reader"] "place" (.int b) ρ (.ok (.ob n) O)=.nx ρ (O.set n (RO h b)):=by
 unfold puF;dsimp ;rw[e];rfl
def gs{O:au}   (e:O[n]?=some x):(O.set n y)[n]?=some y:=by
 grind
def Bv  (H:bM h):ascii h=true:=by
 cases H with
 | h0
 | h1
 |h2=>rfl
 | h3 x hx
 |h4 x hx =>
  have :=zW hx
  have q:∀c∈[97,98,99,100,101,102,103,104,46],c<128:=by decide
  simp[ascii,q x this]
def QwD   (h:ascii a=true)(b:c<128):ascii (a++[c])=true:=by
 unfold ascii at *
 grind
def Qzt     (e:O[n]?=some (RO h p))(H:bM h)(c:Nat)(u:c<128):iM [.ob n,.str [c]] O=.ok (.lst (tk h c (p - h.length)).1) (O.set n (RO (tk h c (p - h.length)).2 (p+1))):=by
 have C:=H.len;have b:(O.set n _)[n]?=some (RO h (p+1)):=gs e
 have q:h.length+1<=1000000:=by omega
 have m:h.length<=1000000:=by omega
 have s0:1<=(h++[c]).length:=by simp
 have d:(h++[c]).length<=4:=by simp;omega
 have y:=QBA _ s0 d;have x:=Qy1 _ s0 d
 have f3:=λO=>Bu (p - h.length) h (Bv H) (by omega) O
 have f4:=λO=>Bu (p - h.length) _ (QwD (Bv H) u) (by omega) O
 unfold tk;simp[iM,Jr,fh e,fp e,pp e,q,m,y]
 by_cases j:bh (h++[c])=true
 ·simp[j,ph b]
 ·simp[j,x]
  cases  markB _ with
  |some  =>
   simp[mkD,ph b,item]
  |none =>
   simp[mkD]
   by_cases f:c=91
   ·subst f;simp[fh b,f3,ph b]
   ·simp[f,ph b,f4]
theorem Lr:∀(l:List Nat) (p:Int),(owns p l).length=l.length
 | [],_=>rfl
 |c::l,p=>by show(owns _ l).length+1=l.length+1;rw[Lr]
def QyY  (H:bM h)(c:Nat)(p:Int):(tk h c p).1.length<=4:=by
 have:=H.len
 unfold tk
 split
 ·simp
 ·split
  ·simp
  ·split<;>simp[Lr]<;>omega
def Quu{O:au}  :(O.set n x).set n y=O.set n y:=by simp
theorem Ls{n:Nat}{t0:List Nat}:∀(t:List Nat) (h:List Nat) (_:bM h) (p:Int) (b:List D) (O:au) (j:Option D),O[n]?=some (RO h p)->(∀c∈t,c<128)->b.length+4 * t.length<=1000000 ->
  ∃f,bB (mgN 3) (gC 2 (aU "Reader" "take" iM (aa 0) (aj (aa 3) ao))) (cB t) [some (.ob n),some (.str t0),some (.lst b),j] O=.nx [some (.ob n),some (.str t0),some (.lst (b++(aO h p t).1)),f] (O.set n (RO (aO h p t).2 (p+t.length)))
 | [],h,H,p,b,O,j,e,_,_=>by
  refine⟨j,?_⟩;obtain⟨C,y⟩:=zu.mp e;show Fl.nx _ O=_;simp only[aO,zJ,jb]
  have:O.set n (RO h p)=O:=by rw[<-y];exact List.set_getElem_self _
  simp[this]
 |c::t,h,H,p,b,O,j,e,hc,hl=>by
  have u:=Qzt e H c (hc c zd)
  have m:meF "Reader" "take" iM (aj (aa 3) ao [some (.ob n),some (.str t0),some (.lst b),some (.str [c])]) (.ob n) O=iM [.ob n,.str [c]] O:=by
   unfold meF;dsimp only;rw[e];rfl
  have tl:=QyY H c (p - h.length);simp only[zA] at hl;obtain⟨f,q⟩:=Ls t (tk h c (p - h.length)).2 (Iw H c (p - h.length) []).1 (p+1) (b++(tk h c (p - h.length)).1) (O.set n (RO (tk h c (p - h.length)).2 (p+1))) (some (.str [c])) (gs e) (λd hd=>hc d (zp _ hd)) (by rw[ze];omega);refine⟨f,?_⟩
  have x:(gC 2 (aU "Reader" "take" iM (aa 0) (aj (aa 3) ao))) [some (.ob n),some (.str t0),some (.lst b),some (.str [c])] O=.nx [some (.ob n),some (.str t0),some (.lst (b++(tk h c (p - h.length)).1)),some (.str [c])] (O.set n (RO (tk h c (p - h.length)).2 (p+1))):=by
   rw[Io,uH,gb];show exF 2 (meF "Reader" "take" iM _ (.ob n) O) _=_;rw[m,u,Ip (ds:=b) rfl (by omega)];rfl
  show bB _ _ (D.str [c]::cB t) _ O=_;unfold bB;rw[mg_n];dsimp only
  show(match(gC 2 (aU "Reader" "take" iM (aa 0) (aj (aa 3) ao))) [some (.ob n),some (.str t0),some (.lst b),some (.str [c])] O with
   | .nx ρ' O'=>bB _ _ (cB t) ρ' O' | .ct ρ' O'=>bB _ _ (cB t) ρ' O' | .bk ρ' O'=>Fl.nx ρ' O' | r=>r)=_
  rw[x];dsimp only;rw[q,Quu];simp only[aO,zD,zA];congr 3
  push_cast
  omega
def Qyp     (e:O[n]?=some (RO h p))(H:bM h)(t:List Nat)(b:Okt t):uP [.ob n,.str t] O=.ok (.lst (aO h p t).1) (O.set n (RO (aO h p t).2 (p+t.length))):=by
 have f:=b.len;obtain⟨d,q⟩:=Ls (t0:=t) t h H p [] O none e b.lt (by simp;omega);have q' :=q;simp only[uP,Js,QBc,zg,zV,zA,jb,List.replicate,List.cons_append,zO,cX,qH,mQ,iJ,lC,gb,jc,jf,aW,QrZ t b,uB,gU,qK,Hw,Nat.zero_le,if_true,qL,List.set_cons_succ,List.set_cons_zero,qM,oK,HQ b.asc,yq,qN,q',dU,HF,Qxc]
def Qt7     (e:O[n]?=some (RO h p))(H:bM h):uQ [.ob n] O=.ok (.lst (owns (p - h.length) h)) (O.set n (RO [] p)):=by
 have d:=H.len
 have b:h.length<=1000000:=by omega
 have f3:=λO=>Bu (p - h.length) h (Bv H) (by omega) O
 simp[uQ,Jt,fh e,fp e,b,f3,ph e]
def QzF(O:au):qW [.ob O.length] (O++[.ins "Reader" []])=.ok .non (O++[RO [] 0]):=by
 have a:(O++[Ob.ins "Reader" []])[O.length]?=some (.ins "Reader" []):=by simp
 have f:∀ρ,puF ["Reader"] "held" (.str []) ρ (.ok (.ob _) _)=.nx ρ (O++[.ins "Reader" [("held",.str [])]]):=λρ=>by
  unfold puF
  dsimp
  rw[a];simp[putD]
 have b:(O++[Ob.ins "Reader" [("held",.str [])]])[O.length]?=some (.ins "Reader" [("held",.str [])]):=by simp
 have d:∀ρ,puF ["Reader"] _ _ ρ (.ok (.ob _) _)=.nx ρ (O++[RO [] 0]):=λρ=>by
  unfold puF
  dsimp
  rw[b]
  dsimp
  have:putD "place" (.int 0) [("held",.str [])]=[(("held":Str),D.str []),("place",.int 0)]:=by rfl
  rw[this];simp[RO]
 simp[qW,Jq,f,d]
def QBb(ρ:aR)(O:au):dj "Reader" qW ao ρ O=.ok (.ob O.length) (O++[RO [] 0]):=by
 simp[QzF]
def vO  (l:List α)(a b:Nat):cA l (some (a:Int)) (some (b:Int))=(l.drop a).take (b - a):=by
 unfold cA;rw[HT.sIx_nat,HT.sIx_nat]
 by_cases h:a<=l.length
 ·rw[Nat.min_eq_left h]
  by_cases  b<=l.length
  ·grind
  ·rw[List.take_of_length_le (by grind),List.take_of_length_le (by grind)]
 ·rw[Nat.min_eq_right (show l.length<=a by omega),List.drop_eq_nil_of_le (show l.length<=a by omega)];simp
def Bw  (l:List α)(b:Nat):cA l none (some (b:Int))=l.take b:=by
 unfold cA;rw[HT.sIx_nat,HT.sIx_none];simp
def Bx  (l:List α)(a:Nat):cA l (some (a:Int)) none=l.drop a:=by
 unfold cA;rw[HT.sIx_nat,HT.sIx_none]
 by_cases h:a<=l.length
 ·rw[Nat.min_eq_left h,List.take_of_length_le (by simp)]
 ·rw[List.drop_eq_nil_of_le (by omega),List.drop_eq_nil_of_le (by omega)];simp
@[simp] theorem QCI{a:Nat}:cA [a] none (some 2)=[a]:=rfl
@[simp] theorem QCB{a:Nat}:cA [a,b] none (some 2)=[a,b]:=rfl
@[simp] theorem QCg{a:Nat}:cA [a,b,c] none (some 2)=[a,b]:=rfl
@[simp] theorem QCa{a:Nat}:cA [a,b,c,d] none (some 2)=[a,b]:=rfl
def By :gIn false (.str [c]) (.str [97,98,99,100,101,102,103,104,46])=some (.bl (col c)):=by
 simp[col]
def itF(b:Nat)(x:List Nat×List Nat×Nat):D:=.tup [item b x.1 x.2.1,.int (x.2.2+1:Nat)]
def ifc         (h:T ρ O=.ok b O)(h1:b=true->∃x,e ρ O=.ok (itF p x) O/\x=y)(h2:b=false->r ρ O=.rt (itF p y) O):aq (aD T (aC e) aK) r ρ O=.rt (itF p y) O:=by
 cases b
 ·simp_all
 simp_all
def BJ      (h:e ρ O=.ok (itF p x) O)(h2:x=y):aC e ρ O=.rt (itF p y) O:=by simp_all
def eqS     (d:m ρ O=.ok (.str a) O)(hb:q ρ O=.ok (.str b) O):az (ak gEq m q) ρ O=.ok (decide (a=b)) O:=bU (aM d hb rfl)
def inC     (b:m ρ O=.ok (.str [c]) O)(hb:q ρ O=.ok (.str [97,98,99,100,101,102,103,104,46]) O):az (ak (gIn false) m q) ρ O=.ok (col c) O:=bU (aM b hb By)
def Lw(t:List Nat)(y:t.length<=1000000)(j:Nat)(c:Nat)(r:List Nat)(m:t.drop j=c::r)(O:au):o9 [.str t,.int j] O=.ok (.tup [item j (one c r).1 (one c r).2.1,.int ((one c r).2.2+1:Nat)]) O:=by
 have hs:mSl (aa 0) (moS (mG (aa 1))) (moS (ak aF (aa 1) (mC (.int 4)))) [some (.str t),some (.int j),some (.str [97,98,99,100,101,102,103,104,46]),none] O=.ok (.str ((c::r).take 4)) O:=by
  show ofO (gSl (.str t) (some (j:Int)) (some ((j:Int)+4))) O=_;rw[HD,if_pos (by omega),show(j:Int)+4=((j+4:Nat):Int) by push_cast;rfl,vO,m,show j+4 - j=4 by omega];rfl
 suffices h:Ak [some (.str t),some (.int j),none,none] O=.rt (itF j (one c r)) O from congrArg bw h
 unfold Ak;refine(sq (bc m_c)).trans ((sq (bc hs)).trans ?_)
 rcases r with _ | ⟨d,_ | ⟨e,_ | ⟨f,g⟩⟩⟩<;>refine ifc (eqS rfl rfl) (λh=>⟨(jP,[],0),rfl,?_⟩) λh1=>ifc (eqS rfl rfl) (λh=>⟨(mU,[],0),rfl,?_⟩) λh2=>ifc (eqS rfl rfl) (λh=>⟨(jQ,[],1),rfl,?_⟩) λh3=>ifc (eqS rfl rfl) (λh=>⟨(bG,[91],1),rfl,?_⟩) λh4=>?_
 all_goals first
  |refine ifc (jX (b:=true) rfl (jX (eqS rfl rfl) (jX (inC rfl rfl) (eqS rfl rfl)))) (λh=>⟨(eG,[_],2),rfl,?_⟩) λu=>ifc (jX (b:=true) rfl (jX (eqS rfl rfl) (jX (inC rfl rfl) (eqS rfl rfl)))) (λh=>⟨(fc,[_],3),rfl,?_⟩) λq=>BJ (x:=(bG,[c],0)) rfl ?_
  |refine ifc (jX (b:=true) rfl (jX (eqS rfl rfl) (jX (inC rfl rfl) (eqS rfl rfl)))) (λh=>⟨(eG,[_],2),rfl,?_⟩) λu=>ifc (b:=false) rfl nofun λq=>BJ (x:=(bG,[c],0)) rfl ?_
  |refine ifc (b:=false) rfl nofun λu=>ifc (b:=false) rfl nofun λq=>BJ (x:=(bG,[c],0)) rfl ?_
  | skip
 all_goals
  clear hs m y
  simp only[List.take_succ_cons,List.take_nil,List.take_zero,QCI,QCB,QCg,QCa,decide_eq_true_eq,decide_eq_false_iff_not,List.cons.injEq,and_true,zB,Bool.true_and] at *
  grind [one,cu,gG,eO,fj,fB]
def one_le(c:Nat)(r:List Nat):(one c r).2.2<=r.length:=by
 unfold one
 split
 ·simp
 split
 ·simp
 split
 ·unfold cu
  cases r with
  |nil=>simp
  |cons d r =>
   dsimp
   split
   ·simp
   split
   ·simp
   split
   ·unfold gG
    grind
   split
   ·unfold eO
    cases r with
    |nil=>simp
    |cons  =>
     dsimp
     split
     ·unfold fj
      grind
     ·simp
   ·simp
 ·simp
def Lx(t:List Nat)(E:t.length<=5000)(O:au):vq [.str t] O=.ok (.lst (items 0 t)) O:=by
 obtain⟨C,f,e,rfl,pre,d,q,m,rfl,h1,h2,h3,h4⟩:=Iv (t:=az (ak gLt (aa 2) (aJ aP (aj (aa 0) ao))))
  (b:=aq (jC (aB o9 (aj (aa 0) (aj (aa 2) ao))) (dg 2 (bF (mgN 3) (bF (mgN 4) dC)))) (aq (cW 1 (aa 3)) (aA 2 (ak aF (aa 2) (aa 4)))))
  (λk ρ f=>f=O/\∃(pre:List D) (d:Nat) (q m:Option D),ρ=[some (.str t),some (.lst pre),some (.int d),q,m]/\d<=t.length/\k=t.length - d/\pre++items d (t.drop d)=items 0 t/\pre.length<=d)
  wF t.length [some (.str t),some (.lst []),some (.int 0),none,none] O (by unfold wF;omega) ⟨rfl,[],0,none,none,rfl,Nat.zero_le _,by omega,by simp,by simp⟩ (by
   rintro k ρ f ⟨rfl,pre,d,q,m,rfl,h1,h2,h3,h4⟩
   have u:t.length<=1000000:=by omega
   have j:d<t.length:=by omega
   refine⟨by simp[u,j],?_⟩
   cases hd:t.drop d with
   |nil =>
    simp_all
   |cons c r =>
    have x:=congrArg List.length hd;simp at x;have F:=one_le c r;have y:=Lw t u d c r hd f;refine⟨t.length - (d+((one c r).2.2+1)),[some (.str t),some (.lst (pre++[item d (one c r).1 (one c r).2.1])),some _,some (item d (one c r).1 (one c r).2.1),some (.int ((one c r).2.2+1:Nat))],f,by omega,?_,rfl,_,_,_,_,rfl,by omega,rfl,?_,?_⟩
    ·rw[cX,yz];simp only[mQ,iJ,lC,gb,jc,jf,aW,y];rw[yC Iu];simp only[gU,cX,uI,gb,List.set_cons_succ,List.set_cons_zero,jc,jf];rw[uJ (ds:=pre) rfl (by omega)];simp
    ·rw[hd,oO] at h3;rw[<-h3,zD];congr 1
     have:t.drop (d+((one c r).2.2+1))=r.drop (one c r).2.2:=by
      rw[<-List.drop_drop,hd,Nat.add_comm,<-List.drop_drop];rfl
     rw[this];simp
    ·simp
     omega) (by
   rintro ρ f ⟨rfl,pre,d,q,m,rfl,h1,h2,h3,h4⟩
   have u:t.length<=1000000:=by omega
   have j:t.length<=d:=by omega
   simp[u,j])
 have hd:t.drop d=[]:=List.drop_eq_nil_of_le (by omega);rw[hd,jR,zJ] at h3;subst h3;show bw (gR (jD wF _ _ [some (.str t),some (.lst []),some (.int 0),none,none] f) _)=_;unfold jD;rw[e];rfl
theorem Ly:∀(a:List Nat) (h:List Nat) (p:Int) (b:List Nat),aO h p (a++b)=((aO h p a).1++(aO (aO h p a).2 (p+a.length) b).1,(aO (aO h p a).2 (p+a.length) b).2)
 | [],h,p,b=>by simp[aO]
 |c::a,h,p,b=>by
  have e:p+1+a.length=p+(c::a).length:=by simp;omega
  simp  [aO]
  rw[Ly,e];simp
def QtS  (h3:r.length<=3)(h:bh r=true)(p:Int):aO [] p r=([],r):=by
 match r,h3 with
 | [],_=>cases h
 | [a],_ =>
  have h1 :=by simpa [bh] using h
  subst h1;rfl
 | [a,b],_ =>
  simp[bh] at h
  simp[aO,tk,bh,h]
 | [a,b,c],_ =>
  simp[bh] at h
  simp[aO,tk,bh,h]
def Qvx(c:Nat)(tl:List Nat)(p:Int)(b:¬((c::tl).length<=3/\bh (c::tl)=true)):
  aO [] p (c::tl)=(item p (one c tl).1 (one c tl).2.1::(aO [] (p+(((one c tl).2.2+1:Nat):Int)) (tl.drop (one c tl).2.2)).1,(aO [] (p+(((one c tl).2.2+1:Nat):Int)) (tl.drop (one c tl).2.2)).2):=by
 have f:p+1 - 1=p:=by omega
 have j:p+1+1 - 2=p:=by omega
 have L:p+1+1+1 - 3=p:=by omega
 have q2':p+(1+1) - 2=p:=by omega
 have q3':p+(1+(1+1)) - 3=p:=by omega
 by_cases G:c=91
 ·subst G
  match tl,b with
  | [],b=>exact absurd ⟨by simp,by simp[bh]⟩ b
  |d::tl2,b =>
   by_cases F:d=93
   ·subst F;simp[aO,tk,bh,markB,one,cu,yD,f]
    constructor<;>congr 2<;>omega
   by_cases E:d=91
   ·subst E;simp[aO,tk,bh,markB,one,cu,qP,f]
    constructor<;>congr 2<;>omega
   by_cases d3:col d=true
   ·obtain⟨O,T,J,u,q⟩:=mV d3
    match tl2,b with
    | [],b=>exact absurd ⟨by simp,by simp[bh,d3]⟩ b
    |e::tl3,b =>
     by_cases C:e=93
     ·subst C;simp[aO,tk,bh,markB,one,cu,gG,F,E,d3,J,f,j,q2']
      constructor<;>congr 2<;>omega
     by_cases y:e=91
     ·subst y;simp[aO,tk,bh,markB,one,cu,gG,owns,own,item,F,E,d3,J,u,q,f,j,q2']
     ·simp[aO,tk,bh,markB,one,cu,gG,owns,own,item,F,E,d3,C,y,J,u,q,f,j,q2']
   by_cases Q:d=47
   ·subst Q
    match tl2,b with
    | [],b=>exact absurd ⟨by simp,by simp[bh]⟩ b
    |x::tl3,b =>
     by_cases m:col x=true
     ·obtain⟨O,T,J,u,q⟩:=mV m
      match tl3,b with
      | [],b=>exact absurd ⟨by simp,by simp[bh,m]⟩ b
      |e::tl4,b =>
       by_cases C:e=93
       ·subst C;simp[aO,tk,bh,markB,one,cu,eO,fj,fB,m,f,j,L,q2',q3']
        constructor<;>congr 2<;>omega
       by_cases y:e=91
       ·subst y;simp[aO,tk,bh,markB,one,cu,eO,fj,fB,owns,own,item,m,O,u,q,f,j,L,q2',q3']
       ·simp[aO,tk,bh,markB,one,cu,eO,fj,fB,owns,own,item,m,C,y,O,u,q,f,j,L,q2',q3']
     ·by_cases P:x=91
      ·subst P;simp[aO,tk,bh,markB,one,cu,eO,fj,fB,qP,owns,own,item,f,j,q2']
      ·simp[aO,tk,bh,markB,one,cu,eO,fj,fB,owns,own,item,m,P,f,j,q2']
   ·simp[aO,tk,bh,markB,one,cu,owns,own,item,F,E,d3,Q,f]
 ·by_cases I:c=10
  ·subst I;simp[aO,tk,bh,markB,one,owns,own]
  by_cases R:c=9
  ·subst R;simp[aO,tk,bh,markB,one,owns,own]
  ·simp[aO,tk,bh,markB,one,owns,own,G,I,R]
def Lz(s:List Nat)(h1:1<=s.length)(h3:s.length<=3)(O:au):lK [.str s] O=.ok (.bl (bh s)) O:=by
 match s,h1,h3 with
 | [a],_,_ =>
  by_cases h:a=91<;>simp[lK,vz,bh,h]
 | [a,b],_,_ =>
  by_cases h:a=91<;>by_cases h2:b=47<;>simp[-HY,By,lK,vz,bh,h,h2]
 | [a,b,c],_,_ =>
  by_cases h:a=91<;>by_cases h2:b=47<;>simp[-HY,By,lK,vz,bh,h,h2]
def rR:M Bool:=az (ak gLt (aa 2) (aJ aP (aj (aa 0) ao)))
def rT:MS:=aq (aD (bR (az (ak gLt (ak gn (aJ aP (aj (aa 0) ao)) (aa 2)) (mC (.int 4)))) (bx (aB lK (aj (mSl (aa 0) (moS (aa 2)) moN) ao)))) (jG (aC (aX (aj (aa 1) (aj (mSl (aa 0) (moS (aa 2)) moN) ao))))) aK)
  (aq (jC (aB o9 (aj (aa 0) (aj (aa 2) ao))) (dg 2 (bF (mgN 3) (bF (mgN 4) dC))))
  (aq (cW 1 (aa 3))
  (aA 2 (ak aF (aa 2) (aa 4)))))
theorem LC(t:List Nat)(F:t.length<=5000)(O:au):∀(n b:Nat) (pre:List D) (f d:Option D),t.length - b<n->b<=t.length->pre++(aO [] (b:Int) (t.drop b)).1=(aO [] 0 t).1->(aO [] (b:Int) (t.drop b)).2=(aO [] 0 t).2->pre.length<=b ->
  bw (gR (dh rR rT n [some (.str t),some (.lst pre),some (.int (b:Int)),f,d] O) (jG (aC (aX (aj (aa 1) (aj (mC (.str [])) ao))))))=.ok (.tup [.lst (aO [] 0 t).1,.str (aO [] 0 t).2]) O
 | 0,b,pre,f,d,h,_,_,_,_=>absurd h (Nat.not_lt_zero _)
 |n+1,b,pre,f,d,h,hat,h1,h2,h3=>by
  have m:t.length<=1000000:=by omega
  have hz':t.length<=16777216:=by omega
  unfold dh
  by_cases E:b<t.length
  ·have x:rR [some (.str t),some (.lst pre),some (.int (b:Int)),f,d] O=.ok true O:=by
    unfold rR;simp[m,E]
   rw[x];dsimp only
   cases hd:t.drop b with
   |nil =>
    have:=congrArg List.length hd
    simp at this
    omega
   |cons c r =>
    have G:=congrArg List.length hd;simp at G
    have j:cA t (some (b:Int)) none=c::r:=by rw[Bx,hd]
    by_cases q:(c::r).length<=3/\bh (c::r)=true
    ·have y:=Lz (c::r) (by simp) q.1 O
     have h4:(t.length:Int) - (b:Int)<4:=by have:=q.1;simp at this;omega
     have C:rT [some (.str t),some (.lst pre),some (.int (b:Int)),f,d] O=.rt (.tup [.lst pre,.str (c::r)]) O:=by
      unfold rT;simp[m,hz',h4,j,y,q.2]
     rw[C];rw[hd,QtS q.1 q.2] at h1 h2;simp at h1 h2;rw[<-h1,<-h2];rfl
    ·have R:=one_le c r;have P:=Lw t m b c r hd O
     have Q:(bR (az (ak gLt (ak gn (aJ aP (aj (aa 0) ao)) (aa 2)) (mC (.int 4)))) (bx (aB lK (aj (mSl (aa 0) (moS (aa 2)) moN) ao)))) [some (.str t),some (.lst pre),some (.int (b:Int)),f,d] O=.ok false O:=by
      by_cases h4:(t.length:Int) - (b:Int)<4
      ·have J:(c::r).length<=3:=by simp;omega
       have I:bh (c::r)=false:=by
        grind
       have y:=Lz (c::r) (by simp) J O;simp[m,hz',h4,j,y,I]
      ·simp[m,h4]
     have C:rT [some (.str t),some (.lst pre),some (.int (b:Int)),f,d] O=.nx [some (.str t),some (.lst (pre++[item b (one c r).1 (one c r).2.1])),some (.int ((b+((one c r).2.2+1):Nat):Int)),some (item b (one c r).1 (one c r).2.1),some (.int ((one c r).2.2+1:Nat))] O:=by
      unfold rT;rw[cX,jO,Q];simp only[qI,Bool.false_eq_true,if_false,yp,gU];rw[cX,yz];simp only[mQ,iJ,lC,gb,jc,jf,aW,P];rw[yC Iu];simp only[gU,cX,uI,gb,List.set_cons_succ,List.set_cons_zero,jc,jf];rw[uJ (ds:=pre) rfl (by omega)];simp
     rw[C];dsimp only;rw[hd,Qvx c r _ q] at h1 h2
     have u:t.drop (b+((one c r).2.2+1))=r.drop (one c r).2.2:=by
      rw[<-List.drop_drop,hd,Nat.add_comm,<-List.drop_drop];rfl
     have L:(b:Int)+(((one c r).2.2+1:Nat):Int)=((b+((one c r).2.2+1):Nat):Int):=by push_cast;rfl
     rw[L] at h1 h2;refine LC t F O n _ _ _ _ (by omega) (by omega) ?_ ?_ (by simp;omega)
     ·rw[u,zD];exact h1
     ·rw[u];exact h2
  ·have x:rR [some (.str t),some (.lst pre),some (.int (b:Int)),f,d] O=.ok false O:=by
    unfold rR;simp[m];omega
   rw[x];dsimp only;have hd:t.drop b=[]:=List.drop_eq_nil_of_le (by omega);rw[hd] at h1 h2;simp[aO] at h1 h2;rw[<-h1,h2];simp
def LK(t:List Nat)(b:t.length<=5000)(O:au):Al [.str t] O=.ok (.tup [.lst (aO [] 0 t).1,.str (aO [] 0 t).2]) O:=by
 have:=LC t b O wF 0 [] none none (by unfold wF;omega) (Nat.zero_le _) (by simp) (by simp) (by simp)
 exact this
abbrev LT:=Nat×Nat×Nat×Int
def dL(x:LT):D:=.tup [.str [x.1],.str [x.2.1],.str [x.2.2.1],.int x.2.2.2]
def LQ  (h:col c=true):c<=125:=by
 have q:∀c∈[97,98,99,100,101,102,103,104,46],c<=125:=by decide
 exact q c (zW h)
def OkL(x:LT):Prop:=(x.1<=125/\x.1≠9/\x.1≠10)/\col x.2.1=true/\col x.2.2.1=true
def LR  (h:OkL x):fQ (dL x)=true/\(toP (dL x)).canLay0=true/\(toP (dL x)).depth<=5:=by
 obtain⟨h1,h2,h3⟩:=h;have h2:=LQ h2;have h3:=LQ h3;refine⟨rfl,?_,?_⟩
 ·have a:=oN (l:=[x.1]) (by simp;omega);have b:=oN (l:=[x.2.1]) (by simp;omega);have c:=oN (l:=[x.2.2.1]) (by simp;omega);show PyData.canLay0 (.tuple [.str _,.str _,.str _])=true;simp[PyData.canLay0,PyData.canLayAll0]
  try exact⟨a,b,c⟩
 ·show PyData.depth (.tuple [])<=5;simp[PyData.depth,PyData.depthAll]
def Qos(l:List LT)(h:∀x∈l,OkL x):okE (.lst (l.map dL))=true:=uG (n:=5) (by decide) λd hd=>by
 obtain⟨x,hx,rfl⟩:=zw.mp hd;exact LR (h x hx)
def bJ:List Nat:=[119,104,111,108,101]
def cD:List Nat:=[109,111,114,101]
def mkO(M:Int)(b:List Nat)(n:Nat)(i g:Nat)(st:Bool):Ob:=.ins "Maker" [("most",.int M),("last_word",.str b),("letters",.ob n),("pair",.tup [.str [i],.str [g]]),("stale",.bl st)]
def fM{M:Int}{st:Bool}(e:O[o]?=some (mkO M b n i g st)):dW ["Maker"] "most" (.ob o) O=.ok (.int M) O:=by
 unfold dW;dsimp ;rw[e];rfl
def fW{M:Int}{st:Bool}(e:O[o]?=some (mkO M b n i g st)):dW ["Maker"] "last_word" (.ob o) O=.ok (.str b) O:=by
 unfold dW;dsimp ;rw[e];rfl
def fL{M:Int}{st:Bool}(e:O[o]?=some (mkO M b n i g st)):dW ["Maker"] "letters" (.ob o) O=.ok (.ob n) O:=by
 unfold dW;dsimp ;rw[e];rfl
def fP{M:Int}{st:Bool}(e:O[o]?=some (mkO M b n i g st)):dW ["Maker"] "pair" (.ob o) O=.ok (.tup [.str [i],.str [g]]) O:=by
 unfold dW;dsimp ;rw[e];rfl
def fS{M:Int}{st:Bool}(e:O[o]?=some (mkO M b n i g st)):dW ["Maker"] "stale" (.ob o) O=.ok (.bl st) O:=by
 unfold dW;dsimp ;rw[e];rfl
def pW{M:Int}{st:Bool}   (e:O[o]?=some (mkO M b n i g st)):puF ["Maker"] "last_word" (.str w) ρ (.ok (.ob o) O)=.nx ρ (O.set o (mkO M w n i g st)):=by
 unfold puF;dsimp ;rw[e];rfl
def pL{M:Int}{st:Bool}   (e:O[o]?=some (mkO M b n i g st)):puF ["Maker"] "letters" (.ob m) ρ (.ok (.ob o) O)=.nx ρ (O.set o (mkO M b m i g st)):=by
 unfold puF;dsimp ;rw[e];rfl
def pP{M:Int}{st:Bool}   (e:O[o]?=some (mkO M b n i g st)):puF ["Maker"] "pair" (.tup [.str [d],.str [g']]) ρ (.ok (.ob o) O)=.nx ρ (O.set o (mkO M b n d g' st)):=by
 unfold puF;dsimp ;rw[e];rfl
def pS{M:Int}{st:Bool}   (e:O[o]?=some (mkO M d n i g st)):puF ["Maker"] "stale" (.bl b) ρ (.ok (.ob o) O)=.nx ρ (O.set o (mkO M d n i g b)):=by
 unfold puF;dsimp ;rw[e];rfl
def gs'{O:au}  (e:O[o]?=some x):(O.set o y)[o]?=some y:=by
 obtain⟨h⟩:=zu.mp e;simp[h]
def ap1{O:au}{o:Nat}  (e:O[o]?=some x):(O++[y])[o]?=some x:=by
 rw[zE (zu.mp e).1];exact e
def apN{O:au} :(O++[y])[O.length]?=some y:=by simp
@[simp] theorem QED  :mMl m ρ O=(m ρ O).bind λd O1=>match d with
 | .lst ds=>.ok (.ob O1.length) (O1++[.ml ds])
 |d=>.ok d O1:=rfl
def BK{M:Int}{st:Bool}  (e:O[o]?=some (mkO M f n i g st)):oV [.ob o,.str w] O=.ok (.lst [.tup [.ob n,.str w]]) ((O++[Ob.ml []]).set o (mkO M w O.length i g st)):=by
 have b:(O++[Ob.ml []])[o]?=some _:=ap1 e;have d:((O++[Ob.ml []]).set o _)[o]?=some (mkO M f O.length i g st):=gs' b;simp[oV,Jy,fL e,pL b,pW d]
def Qw6{M:Int}{st:Bool}(e:O[o]?=some (mkO M lw n i g st)):mZ [.ob o] O=.ok .non (if st=true then(O++[Ob.ml []]).set o (mkO M lw O.length i g false) else O):=by
 have b:(O++[Ob.ml []])[o]?=some _:=ap1 e;have d:((O++[Ob.ml []]).set o (mkO M lw O.length i g st))[o]?=some _:=gs' b
 cases st with
 |true=>simp[mZ,yJ,fS e,pL b,pS d]
 |false=>simp[mZ,yJ,fS e]
def vP     (h1:mo ρ O=.ok (.ob n) O)(h2:O[n]?=some (.ml ds))(h3:m ρ O=.ok d O)(h4:ds.length<1000000):gM mo m ρ O=.nx ρ (O.set n (.ml (ds++[d]))):=by
 unfold gM
 grind
def iU  (h:O[n]?=some (.ml ds)):aY O (.ob n)=.lst ds:=by
 unfold aY
 dsimp
 rw[h]
structure Sta where
 row:List LT
 st:Bool
 i:Nat
 g:Nat
structure OkS(M:Int)(s:Sta):Prop where
 len:(s.row.length:Int)<=M
 ok:∀x∈s.row,OkL x
 i:col s.i=true
 g:col s.g=true
def Mk(O:au)(o:Nat)(M:Int)(b:List Nat)(s:Sta):Prop:=∃n,O[o]?=some (mkO M b n s.i s.g s.st)/\O[n]?=some (.ml (s.row.map dL))
def Prt(O:au)(told:List D)(due:List (List LT×List Nat)):Prop:=(told=[]/\due=[])\/∃n r w,told=[.tup [.ob n,.str w]]/\due=[(r,w)]/\O[n]?=some (.ml (r.map dL))/\(w=bJ\/w=cD)/\(∀x∈r,OkL x)/\r.length<=1000
inductive Itm:List Nat->List Nat->Prop where
 | anew:Itm mU []
 | end_:Itm jP []
 | plain:Itm jQ []
 | ink (c:Nat) (h:col c=true):Itm eG [c]
 | ground (c:Nat) (h:col c=true):Itm fc [c]
 | sign (c:Nat) (h:c<=125/\c≠9/\c≠10):Itm bG [c]
def bare(s:Sta):List LT:=if s.st=true then[] else s.row
def stS(M:Int)(s:Sta)(p:Int)(c:Nat):Sta:=if((bare s).length:Int)=M then⟨[(c,s.i,s.g,p)],false,s.i,s.g⟩ else⟨bare s++[(c,s.i,s.g,p)],false,s.i,s.g⟩
def iV(M:Int)(s:Sta):List (List LT×List Nat):=if((bare s).length:Int)=M then[(bare s,cD)] else[]
def stp(M:Int)(s:Sta)(p:Int)(k v:List Nat):Sta :=
 if k=mU then⟨s.row,true,46,46⟩ else if k=jP then⟨[],false,46,46⟩ else if k=bG then stS M s p (v.headD 0) else if k=eG then⟨bare s,false,v.headD 0,s.g⟩ else if k=fc then⟨bare s,false,s.i,v.headD 0⟩ else⟨bare s,false,46,46⟩
def due(M:Int)(s:Sta)(k:List Nat):List (List LT×List Nat):=if k=jP then[(s.row,bJ)] else if k=bG then iV M s else[]
def lwS(M:Int)(s:Sta)(b k:List Nat):List Nat:=match due M s k with
 | [(_,w)]=>w
 | _=>b
def bD(x:List LT×List Nat):D:=.tup [.lst (x.1.map dL),.str x.2]
@[simp] theorem QEA   :dg 3 (bF (mgN i) (bF (mgN j) (bF (mgN k) dC))) (.tup [a,b,c]) ρ=some (((ρ.set i (some a)).set j (some b)).set k (some c)):=rfl
def fG{O:au}  (e:O[o]?=some x):o<O.length:=(zu.mp e).1
def QBy{M:Int}{st:Bool}    (e:O[o]?=some (mkO M q n i g st))(d:O[n]?=some (.ml ds))(j:ds.length<1000000):
  uW [.ob o,item p bG [c]] O=if(ds.length:Int)=M then .ok (.lst [.tup [.ob n,.str cD]]) (((O++[Ob.ml []]).set o (mkO M cD O.length i g st)).set O.length (.ml [dL (c,i,g,p)])) else .ok (.lst []) (O.set n (.ml (ds++[dL (c,i,g,p)]))):=by
 by_cases b:ds.length=M
 ·rw[if_pos b];have f:((O++[Ob.ml []]).set o (mkO M cD O.length i g st))[o]?=some _:=gs' (ap1 e)
  have m:((O++[Ob.ml []]).set o (mkO M cD O.length i g st))[O.length]?=some (.ml []):=by
   rw[zh (zq (fG e))];exact apN
  suffices h:yK _ O=.rt _ _ from congrArg bw h
  exact .trans (sq rfl) (.trans (sq (.trans (cT (.trans (bU (aM (eU (ma1 (fL e)) (by rw[zg,iU d];rfl)) (fM e) rfl)) (by rw[zv b]))) (vD ((cY rfl e rfl rfl).trans (BK e))))) (.trans (sq (vP (fL f) m (Ko (maS rfl (maS (aM (fP f) rfl rfl) (maS (aM (fP f) rfl rfl) (ma1 rfl)))) (by simp)) (by decide))) rfl))
 ·rw[if_neg b]
  suffices h:yK _ O=.rt _ _ from congrArg bw h
  exact .trans (sq rfl) (.trans (sq (cC (.trans (bU (aM (eU (ma1 (fL e)) (by rw[zg,iU d];rfl)) (fM e) rfl)) (by rw[zl b])))) (.trans (sq (vP (fL e) d (Ko (maS rfl (maS (aM (fP e) rfl rfl) (maS (aM (fP e) rfl rfl) (ma1 rfl)))) (by simp)) j)) rfl))
def QAi   (h:Itm k v)(O:au):uR [.tup [.str [i],.str [g]],.str k,.str v] O=.ok (if k=eG then .tup [.str [v.headD 0],.str [g]] else if k=fc then .tup [.str [i],.str [v.headD 0]] else if k=bG then .tup [.str [i],.str [g]] else .tup [.str [46],.str [46]]) O:=by
 cases h<;>rfl
def Ma{M:Int}{st:Bool}  (e:O[o]?=some (mkO M j n i g st)):lF [.ob o] O=.ok .non ((O++[Ob.ml []]).set o (mkO M j O.length 46 46 false)):=by
 have b:(O++[Ob.ml []])[o]?=some _:=ap1 e;have f:((O++[Ob.ml []]).set o (mkO M j O.length i g st))[o]?=some _:=gs' b;have d:((O++[Ob.ml []]).set o (mkO M j O.length 46 46 st))[o]?=some _:=gs' b;simp[lF,uU,pL b,pP f,pS d]
def Qxe{M:Int}{st:Bool}(e:O[o]?=some (mkO M b n i g st)):yL [.ob o] O=.ok (.bl (decide (b=cD))) O:=congrArg (λr=>bw (lD r)) (aM (fW e) rfl rfl)
def g8{O:au}{o:Nat}{M:Int}   {st:Bool}  (e:O[o]?=some (mkO M d m i g st))(b:O[n]?=some (.ml ds)):o≠n:=λz=>by
 rw[z,b] at e;cases e
def Prt.set{O:au}{o:Nat}{M:Int}{b:List Nat}{m i g:Nat}{st:Bool}{told:List D}{du:List (List LT×List Nat)}{x:Ob}(h:Prt O told du)(e:O[o]?=some (mkO M b m i g st)):Prt (O.set o x) told du:=by
 rcases h with h | ⟨n,r,w,h1,h2,h3,h4⟩
 ·exact .inl h
 ·exact .inr ⟨n,r,w,h1,h2,by rw[zh (g8 e h3)];exact h3,h4⟩
def Sep(O:au)(o:Nat)(told:List D):Prop:=∀n w,told=[.tup [.ob n,.str w]]->∀(M:Int) (b:List Nat) (m i g:Nat) (st:Bool),O[o]?=some (mkO M b m i g st)->m≠n
def BL{M:Int}   {st:Bool}(h:mkO M f n i g st=mkO q d m j g' b):n=m:=by
 cases h;rfl
def Sep.nil{O:au}{o:Nat}:Sep O o []:=λn w h=>nomatch h
def Sep.one{O:au}{o n:Nat}{w:List Nat}{M:Int}{d:List Nat}{m i g:Nat}{st:Bool}(e:O[o]?=some (mkO M d m i g st))(h:m≠n):Sep O o [.tup [.ob n,.str w]]:=λu q C F j x y E f b=>by
 rw[e] at b
 have:=BL (zC b)
 grind
def Old(O:au)(o n:Nat)(ds:List D):Prop:=O[n]?=some (.ml ds)/\∀(M:Int) (b:List Nat) (m i g:Nat) (st:Bool),O[o]?=some (mkO M b m i g st)->m≠n
def Keeps(O O':au)(o:Nat):Prop:=(∀n b,Old O o n b->Old O' o n b)/\∀(r:Nat) (x:Ob),r≠o->(∀b,x≠.ml b)->O[r]?=some x->O'[r]?=some x
def Keeps.refl{O:au}{o:Nat}:Keeps O O o:=⟨λ_ _ h=>h,λ_ _ _ _ h=>h⟩
def Keeps.trans{O O1 m:au}{o:Nat}(a:Keeps O O1 o)(b:Keeps O1 m o):Keeps O m o:=⟨λn j h=>b.1 n j (a.1 n j h),λr c f d h=>b.2 r c f d (a.2 r c f d h)⟩
def pB    {M:Int}   {st:Bool}(d:O[n]?=some (.ml ds))(e:O[o]?=some (mkO M C m i g st))(h:m≠n):Old O o n ds:=⟨d,λy j q u x f b=>by
 rw[e] at b;rw[<-BL (zC b)]
 exact h⟩
def pC   {M:Int}   {st:Bool}(e:O[o]?=some (mkO M x n i g st))    :Keeps O ((O++[Ob.ml []]).set o (mkO C u O.length y g' q)) o:=by
 refine⟨λm j h=>?_,λr c b f h=>by grind⟩;have d:=(zu.mp h.1).1;refine pB (by rw[zh (g8 e h.1)];exact ap1 h.1) (gs' (ap1 e)) (by omega)
def Mf   {M:Int}   {st:Bool}(e:O[o]?=some (mkO M q n i g st))    :Keeps O (O.set o (mkO x j n u g' d)) o:=⟨λm ds h =>
 pB (by rw[zh (g8 e h.1)];exact h.1) (gs' e) (h.2 _ _ _ _ _ _ e),λr c b f h=>by rw[zh (Ne.symm b)];exact h⟩
def Mg   {M:Int}   {st:Bool}  (e:O[o]?=some (mkO M u n i g st))(b:O[n]?=some (.ml q)):Keeps O (O.set n (.ml j)) o:=⟨λm ds h =>
 pB (by rw[zh (h.2 _ _ _ _ _ _ e)];exact h.1) (by rw[zh (Ne.symm (g8 e b))];exact e) (h.2 _ _ _ _ _ _ e),λr c d f h=>by rw[zh λz=>by rw[z,h] at b;exact f _ (zC b)];exact h⟩
def QvV   {M:Int}   (h:Mk O o M lw s):∃O1,mZ [.ob o] O=.ok .non O1/\Mk O1 o M lw ⟨bare s,false,s.i,s.g⟩/\Keeps O O1 o:=by
 obtain⟨n,e,b⟩:=h;have q:=Qw6 e
 cases hs:s.st with
 |true =>
  rw[hs,if_pos rfl] at q;refine⟨_,q,⟨O.length,gs' (ap1 e),?_⟩,pC e⟩;rw[zh (zq (fG e))];unfold bare;rw[hs];exact apN
 |false =>
  rw[hs] at q;refine⟨_,q,⟨n,by rw[hs] at e;exact e,?_⟩,Keeps.refl⟩;unfold bare;rw[hs];exact b
def QA0   {M:Int}     (h:Mk O o M u s)(j:s.row.length<=1000)(hok:∀x∈s.row,OkL x):∃O1 told,uW [.ob o,item p bG [c]] O=.ok (.lst told) O1 /\
  Mk O1 o M (if(s.row.length:Int)=M then cD else u) ⟨if(s.row.length:Int)=M then[(c,s.i,s.g,p)] else s.row++[(c,s.i,s.g,p)],s.st,s.i,s.g⟩/\Prt O1 told (if(s.row.length:Int)=M then[(s.row,cD)] else[])/\Sep O1 o told/\Keeps O O1 o:=by
 obtain⟨n,e,d⟩:=h;have q:=QBy (p:=p) (c:=c) e d (by grind);rw[zf] at q;have m:=fG d
 by_cases b:s.row.length=M
 ·rw[if_pos b] at q;rw[if_pos b,if_pos b,if_pos b]
  have f:(((O++[Ob.ml []]).set o (mkO M cD O.length s.i s.g s.st)).set O.length (.ml [dL (c,s.i,s.g,p)]))[o]?=some (mkO M cD O.length s.i s.g s.st):=by
   grind
  refine⟨_,_,q,⟨O.length,f,?_⟩,.inr ⟨n,s.row,cD,rfl,rfl,?_,.inr rfl,hok,j⟩,Sep.one f (by omega),(pC e).trans (Mg (gs' (ap1 e)) (by rw[zh (zq (fG e))];exact apN))⟩
  ·simp
  ·rw[zh (by omega),zh (g8 e d)];exact ap1 d
 ·rw[if_neg b] at q;rw[if_neg b,if_neg b,if_neg b];refine⟨_,_,q,⟨n,?_,?_⟩,.inl ⟨rfl,rfl⟩,Sep.nil,Mg e d⟩
  ·rw[zh (Ne.symm (g8 e d))];exact e
  grind
def rY(s:Sta)(k v:List Nat):Nat×Nat:=if k=eG then(v.headD 0,s.g) else if k=fc then(s.i,v.headD 0) else if k=bG then(s.i,s.g) else(46,46)
def pF   {M:Int}       (h:Mk O o M Q s)(it:Itm k v)(C:Prt O told du)(b:Sep O o told):
  ∃O',(aq (bI ["Maker"] "pair" (aa 0) (aB uR (aj (bu ["Maker"] "pair" (aa 0)) (aj (aa 2) (aj (ak gIx (aa 1) (mC (.int 2))) ao))))) (aC (aa 3))) [some (.ob o),some (item p k v),some (.str k),some (.lst told)] O=.rt (.lst told) O'/\Mk O' o M Q ⟨s.row,s.st,(rY s k v).1,(rY s k v).2⟩/\Prt O' told du/\Sep O' o told/\Keeps O O' o:=by
 obtain⟨n,e,f⟩:=h;have x:gIx (item p k v) (.int 2)=some _:=rfl;have d:=QAi (i:=s.i) (g:=s.g) it
 have q:(if k=eG then D.tup [.str [v.headD 0],.str [s.g]] else if k=fc then .tup [.str [s.i],.str [v.headD 0]] else if k=bG then .tup [.str [s.i],.str [s.g]] else .tup [.str [46],.str [46]])=.tup [.str [(rY s k v).1],.str [(rY s k v).2]]:=by
  unfold rY
  split
  ·rfl
  ·split
   ·rfl
   ·split<;>rfl
 rw[q] at d;have E:aY O (item p k v)=item p k v:=rfl;refine⟨O.set o _,?_,⟨n,gs' e,by rw[zh (g8 e f)];exact f⟩,C.set e,?_,Mf e⟩
 rotate_left
 ·intro u m y P G I J L F j;rw[gs' e] at j;rw[<-BL (zC j)];exact b u m y _ _ _ _ _ _ e
 simp only[cX,yw,mQ,iJ,lC,Ik,gb,jc,jf,aW,fP e,ym,m_c,E,jK,x,gQ,d,yx,pP e,gU,dU,HF]
def fSt   {M:Int}  {st:Bool}{ρ:aR}(e:O[o]?=some (mkO M d n i g st)):bI ["Maker"] "stale" (aa 0) (mC (.bl b)) (some (.ob o)::ρ) O=.nx (some (.ob o)::ρ) (O.set o (mkO M d n i g b)):=pS e
def QAK   {M:Int}     (h:Mk O o M lw s)(hs:OkS M s)(X:M<=200)(it:Itm k v):∃O' told,qX [.ob o,item p k v] O=.ok (.lst told) O'/\Mk O' o M (lwS M s lw k) (stp M s p k v)/\Prt O' told (due M s k)/\Sep O' o told/\Keeps O O' o:=by
 have hlen:=hs.len
 have I:s.row.length<=1000:=by omega
 have L:∀x∈bare s,OkL x:=λx hx=>by
  unfold bare at hx;split at hx
  ·cases hx
  ·exact hs.ok x hx
 have G:(bare s).length<=1000:=by
  unfold bare
  split
  ·simp
  ·exact I
 obtain⟨n,e,u⟩:=id h;obtain⟨Z,J,h1,C⟩:=QvV h
 have F:=λρ=>(cY (ρ:=some (.ob o)::ρ) (m:="empty_stale") (cf:=mZ) (mo:=aa 0) (ma:=ao) rfl e rfl rfl).trans J
 have fin:∀{told:List D}{O':au},Jz [some (.ob o),some (item p k v),none,none] O=.rt (.lst told) O'->qX [.ob o,item p k v] O=.ok (.lst told) O':=λh=>congrArg bw h
 cases it with
 |anew =>
  have h2:Mk (O.set o (mkO M lw n s.i s.g true)) o M lw ⟨s.row,true,s.i,s.g⟩:=⟨n,gs' e,by rw[zh (g8 e u)];exact u⟩;obtain⟨O',t1,t2,j,f,d⟩:=pF (p:=p) (told:=[]) (du:=[]) h2 Itm.anew (.inl ⟨rfl,rfl⟩) Sep.nil;exact⟨O',[],fin (.trans (sq rfl) (.trans (sq rfl) (.trans (sq (.trans (cC rfl) (.trans (cT rfl) (fSt e)))) (.trans (sq (cC rfl)) t1)))),t2,j,f,(Mf e).trans d⟩
 |end_ =>
  have E:=fSt (b:=false) (ρ:=[some (item p jP []),some (.str jP),some (.lst [.tup [.ob n,.str bJ]])]) (gs' (O:=O++[.ml []]) (y:=mkO M bJ O.length s.i s.g s.st) (ap1 e));have h2:Mk _ o M bJ ⟨[],false,s.i,s.g⟩:=⟨O.length,gs' (ap1 e),by rw[zh (zq (fG e))];exact apN⟩;obtain⟨O',t1,t2,j,f,d⟩:=pF (p:=p) (told:=[.tup [.ob n,.str bJ]]) (du:=[(s.row,bJ)]) h2 Itm.end_ (.inr ⟨n,s.row,bJ,rfl,rfl,by rw[zh (g8 e u)];exact ap1 u,.inl rfl,hs.ok,I⟩) (Sep.one (gs' (ap1 e)) (Nat.ne_of_gt (fG u)));rw[List.set_set] at E;exact⟨O',[.tup [.ob n,.str bJ]],fin (.trans (sq rfl) (.trans (sq rfl) (.trans (sq (.trans (cT rfl) (.trans (sq (vD ((cY rfl e rfl rfl).trans (BK (w:=bJ) e)))) E))) (.trans (sq (cC rfl)) t1)))),t2,j,f,(pC e).trans d⟩
 |plain =>
  obtain⟨O',t1,t2,j,f,d⟩:=pF (p:=p) (told:=[]) (du:=[]) h1 Itm.plain (.inl ⟨rfl,rfl⟩) Sep.nil;exact⟨O',[],fin (.trans (sq rfl) (.trans (sq rfl) (.trans (sq (.trans (cC rfl) (.trans (cC rfl) (drp (F _))))) (.trans (sq (cC rfl)) t1)))),t2,j,f,C.trans d⟩
 |ink c hc =>
  obtain⟨O',t1,t2,j,f,d⟩:=pF (p:=p) (told:=[]) (du:=[]) h1 (Itm.ink c hc) (.inl ⟨rfl,rfl⟩) Sep.nil;exact⟨O',[],fin (.trans (sq rfl) (.trans (sq rfl) (.trans (sq (.trans (cC rfl) (.trans (cC rfl) (drp (F _))))) (.trans (sq (cC rfl)) t1)))),t2,j,f,C.trans d⟩
 |ground c hc =>
  obtain⟨O',t1,t2,j,f,d⟩:=pF (p:=p) (told:=[]) (du:=[]) h1 (Itm.ground c hc) (.inl ⟨rfl,rfl⟩) Sep.nil;exact⟨O',[],fin (.trans (sq rfl) (.trans (sq rfl) (.trans (sq (.trans (cC rfl) (.trans (cC rfl) (drp (F _))))) (.trans (sq (cC rfl)) t1)))),t2,j,f,C.trans d⟩
 |sign c hc =>
  obtain⟨Y,told,a1,a2,U,T,R⟩:=QA0 (p:=p) (c:=c) h1 G L;obtain⟨O',t1,t2,j,f,d⟩:=pF (p:=p) a2 (Itm.sign c hc) U T;obtain⟨W,E,_⟩:=id h1;refine⟨O',told,fin (.trans (sq rfl) (.trans (sq rfl) (.trans (sq (.trans (cC rfl) (.trans (cC rfl) (drp (F _))))) (.trans (sq (.trans (cT rfl) (vD ((cY rfl E rfl rfl).trans a1)))) t1)))),?_,?_,f,(C.trans R).trans d⟩
  ·have Q:stp M s p bG [c]=stS M s p c:=rfl
   have P:lwS M s lw bG=if((bare s).length:Int)=M then cD else lw:=by
    show(match iV M s with | [(_,w)]=>w | _=>lw)=_;unfold iV
    by_cases q:((bare s).length:Int)=M
    ·rw[if_pos q,if_pos q]
    ·rw[if_neg q,if_neg q]
   rw[Q,P];have t2' :=t2;unfold stS
   by_cases q:((bare s).length:Int)=M
   ·rw[if_pos q,if_pos q] at t2' ⊢;exact t2'
   ·rw[if_neg q,if_neg q] at t2' ⊢;exact t2'
  ·have d3:due M s bG=iV M s:=rfl;rw[d3];unfold iV;exact j
def OkS.stp{M:Int}  (h:OkS M s)(j:1<=M)   (it:Itm k v):OkS M (stp M s p k v):=by
 have f:∀x∈bare s,OkL x:=λx hx=>by
  unfold bare at hx;split at hx
  ·cases hx
  ·exact h.ok x hx
 have b:(bare s).length<=M:=by
  unfold bare
  split
  ·simp;omega
  ·exact h.len
 cases it with
 |anew=>exact⟨h.len,h.ok,(rfl),(rfl)⟩
 |end_=>exact⟨(show 0<=M by omega),(λx hx=>nomatch hx),(rfl),(rfl)⟩
 |plain=>exact⟨b,f,(rfl),(rfl)⟩
 |ink c d=>exact⟨b,f,d,h.g⟩
 |ground c d=>exact⟨b,f,h.i,d⟩
 |sign c d =>
  show OkS M (stS M s p c);unfold stS
  split
  ·refine⟨by omega,?_,h.i,h.g⟩;intro x hx;rw[zj.mp hx];exact⟨d,h.i,h.g⟩
  ·refine⟨by simp  ;omega,?_,h.i,h.g⟩;intro x hx
   rcases zt.mp hx with hx | hx
   ·exact f x hx
   ·rw[zj.mp hx];exact⟨d,h.i,h.g⟩
def ixS   (d:l.length<=1000000)(h:(l.length:Int)=n)(b:0<n):∃c,c∈l/\gIx (.str l) (.int (v % n))=some (.str [c]):=by
 obtain⟨c,h1,h2⟩:=Ia (i:=v % n) (jt _ (by omega)) (by rw[h];exact ju _ b);exact⟨c,h2,by rw[H9,if_pos d,h1];rfl⟩
def ixL   (h:(l.length:Int)=n)(b:0<n):∃c,c∈l/\gIx (.lst l) (.int (v % n))=some c:=by
 obtain⟨c,h1,h2⟩:=Ia (i:=v % n) (jt _ (by omega)) (by rw[h];exact ju _ b);exact⟨c,h2,h1⟩
def Mh(n k:Int)(h0:0<=k)(h1:k<=1000000)(O:au):bN [.int n,.int k] O=.ok (.int (mix n k)) O:=Qz6 n k h0 h1 O
abbrev It3:=Int×List Nat×List Nat
def itD(x:It3):D:=item x.1 x.2.1 x.2.2
def pG       (e:O[o]?=some (.ins "Maker" fs))(h:fs.length<900):puF ["Maker"] f d ρ (.ok (.ob o) O)=.nx ρ (O.set o (.ins "Maker" (putD f d fs))):=by
 unfold puF
 dsimp
 rw[e]
 dsimp
 rw[if_pos ⟨by simp,h⟩]
def QtA   {M:Int}  (e:O[o]?=some (.ins "Maker" [("most",.int M),("last_word",.str C)])):lF [.ob o] O=.ok .non ((O++[Ob.ml []]).set o (mkO M C O.length 46 46 false)):=by
 have b:(O++[Ob.ml []])[o]?=some _:=ap1 e
 have q:=λρ=>pG (f:="letters") (d:=.ob O.length) (ρ:=ρ) b (by simp)
 have x:=gs' (y:=.ins "Maker" (putD "letters" (.ob O.length) [("most",.int M),("last_word",.str C)])) b
 have m:=λρ=>pG (f:="pair") (d:=.tup [.str [46],.str [46]]) (ρ:=ρ) x (by show 3<900;decide)
 have u:=gs' (y:=.ins "Maker" (putD "pair" (.tup [.str [46],.str [46]]) (putD "letters" (.ob O.length) [("most",.int M),("last_word",.str C)]))) b
 have j:=λρ=>pG (f:="stale") (d:=.bl false) (ρ:=ρ) u (by show 4<900;decide)
 have fe:Ob.ins _ (putD "stale" _ (putD "pair" _ (putD "letters" _ [("most",.int M),("last_word",.str C)])))=mkO M C O.length 46 46 false:=rfl;rw[fe] at j;show bw (uU [some _] O)=_;unfold uU;simp  [q,m,j,HN]
def Qud(M:Int)(h:1<=M/\M<=200)(O:au):uT [.int M,.int 1,.int 200] O=.ok (.bl true) O:=by
 simp[uT,Jw,yG,Jv,h]
def QxF(M:Int)(h:1<=M/\M<=200)(O:au)(ρ:aR)(q:∀O,aa 2 ρ O=.ok (.int M) O):∃O' n,dj "Maker" uV (aj (aa 2) ao) ρ O=.ok (.ob O.length) O'/\O'[O.length]?=some (mkO M bJ n 46 46 false)/\O'[n]?=some (.ml [])/\O.length<n/\∀(m:Nat) (x:Ob),O[m]?=some x->O'[m]?=some x:=by
 have E:(O++[Ob.ins "Maker" []])[O.length]?=some _:=apN
 have G:=λρ=>pG (f:="most") (d:=.int M) (ρ:=ρ) E (by decide)
 have C:=gs' (y:=.ins "Maker" (putD "most" (.int M) [])) E
 have F:=λρ=>pG (f:="last_word") (d:=.str bJ) (ρ:=ρ) C (by show 1<900;decide)
 have j:(((O++[Ob.ins _ []]).set _ _).set _ (.ins "Maker" (putD "last_word" (.str bJ) (putD "most" (.int M) []))))[O.length]?=some _:=gs' C;have L:=QtA j
 have J:∀(O' ) (a1 ),O'[O.length]?=some (.ins "Maker" [("most",.int M),("last_word",.str bJ)])->(aU "Maker" "begin_row" lF (aa 0) ao) [some (.ob _),a1] O'=lF _ O':=λO' a1 I=>by
  rw[uH];simp  [gb,jc,aW];unfold meF
  dsimp
  rw[I];rfl
 have u:uV [.ob O.length,.int M] (O++[Ob.ins "Maker" []])=.ok .non ((((O++[Ob.ins "Maker" []]).set O.length (.ins "Maker" (putD "most" (.int M) []))).set O.length (.ins "Maker" (putD "last_word" (.str bJ) (putD "most" (.int M) [])))++[Ob.ml []]).set O.length (mkO M bJ (((O++[Ob.ins "Maker" []]).set O.length (.ins "Maker" (putD "most" (.int M) []))).set O.length (.ins "Maker" (putD "last_word" (.str bJ) (putD "most" (.int M) [])))).length 46 46 false)):=by
  show bw (yH [some _,some _] _)=_;unfold yH;have p1':∀ρ,puF _ _ (.str [119,104,111,108,101]) ρ _=_:=F;simp only[cX,jO,lB,jM,mQ,iJ,lC,gb,m_c,jc,jf,aW,Qud M h,mK,mO,oJ,Bool.not_true,qI,Bool.false_eq_true,if_false,yp,gU,yw,m_g,QzB,yx,G,p1',qH,J _ _ j,L,uB,HN]
 obtain⟨O',b⟩:∃O',O'=(((O++[Ob.ins "Maker" []]).set O.length (.ins "Maker" (putD "most" (.int M) []))).set O.length (.ins "Maker" (putD "last_word" (.str bJ) (putD "most" (.int M) [])))++[Ob.ml []]).set O.length (mkO M bJ (((O++[Ob.ins "Maker" []]).set O.length (.ins "Maker" (putD "most" (.int M) []))).set O.length (.ins "Maker" (putD "last_word" (.str bJ) (putD "most" (.int M) [])))).length 46 46 false):=⟨_,rfl⟩;rw[<-b] at u;refine⟨O',_,?_,by rw[b];exact gs' (ap1 j),?_,by simp,λm x hx=>?_⟩
 ·rw[Il];simp only[iJ,lC,q,aW,u,Im]
 ·rw[b,zh (by simp)];exact apN
 ·have P:=(zu.mp hx).1;rw[b,zh (by omega),zE (by simp;omega),zh (by omega),zh (by omega)];exact ap1 hx
def Qxj   (h:∀x∈c::r,x<=125):Itm (one c r).1 (one c r).2.1:=by
 have f:=h c zd;have b :=Itm.sign 91 (by decide);unfold one
 split
 ·exact Itm.end_
 split
 ·exact Itm.anew
 split
 ·unfold cu
  cases r with
  |nil=>exact b
  |cons d r =>
   dsimp
   split
   ·exact Itm.plain
   split
   ·exact b
   split
   ·unfold gG
    cases r with
    |nil=>exact b
    |cons  =>
     dsimp
     split
     ·exact Itm.ink d (by assumption)
     ·exact b
   split
   ·unfold eO
    cases r with
    |nil=>exact b
    |cons e r =>
     dsimp
     split
     ·unfold fj
      cases r with
      |nil=>exact b
      |cons  =>
       dsimp
       split
       ·exact Itm.ground e (by assumption)
       ·exact b
     ·exact b
   ·exact b
 ·exact Itm.sign c (by omega)
theorem Mi:∀(n:Nat) (t:List Nat) (p:Int),t.length<=n->(∀c∈t,c<=125)->∃b:List It3,items p t=b.map itD/\(∀x∈b,Itm x.2.1 x.2.2)/\b.length<=t.length
 | 0,[],p,_,_=>⟨[],by rw[jR];rfl,by simp⟩
 | 0,c::t,p,h,_=>by simp at h
 |n+1,[],p,_,_=>⟨[],by rw[jR];rfl,by simp⟩
 |n+1,c::t,p,h,hc=>by
  simp   at h
  obtain⟨b,e,f,d⟩:=Mi n (t.drop (one c t).2.2) _ (by rw[List.length_drop];omega) λx hx=>hc x (zp _ (List.mem_of_mem_drop hx))
  refine⟨(p,(one c t).1,(one c t).2.1)::b,by rw[oO,e];rfl,λx hx=>?_,by rw[List.length_drop] at d;simp  ;omega⟩
  rcases zk.mp hx with rfl | hx
  ·exact Qxj hc
  ·exact f x hx
abbrev Du:=List LT×List Nat
def rn(M:Int):Sta->List It3->Sta×List Du
 |s,[]=>(s,[])
 |s,x::xs=>((rn M (stp M s x.1 x.2.1 x.2.2) xs).1,due M s x.2.1++(rn M (stp M s x.1 x.2.1 x.2.2) xs).2)
def s0:Sta:=⟨[],false,46,46⟩
def nF{M:Int}(h:1<=M):OkS M s0:=⟨(show 0<=M by omega),(λx hx=>nomatch hx),(rfl),(rfl)⟩
def vQ(M:Int)(s:Sta)(k:List Nat):(due M s k).length<=1:=by
 unfold due iV
 split
 ·simp
 ·split
  ·split<;>simp
  ·simp
theorem ig{M:Int}(d:1<=M):∀(b:List It3) (s:Sta),OkS M s->(∀x∈b,Itm x.2.1 x.2.2)->OkS M (rn M s b).1/\(rn M s b).2.length<=b.length
 | [],s,h,_=>⟨h,zc _⟩
 |x::xs,s,h,hi=>by
  obtain⟨a⟩:=ig d xs _ (h.stp d (hi x zd)) λy f=>hi y (zp _ f)
  have:=vQ M s x.2.1
  refine⟨a,?_⟩;simp  [rn,zA];omega
def BP:MS:=(aq (aD (bR (bx (aa 4)) (bR (az (ak gNe (aa 7) (mC (.str [101,110,100])))) (az (ak gNe (aa 7) (mC (.str [97,110,101,119])))))) (aq (aA 3 (aV ao))
  (aA 4 (mC (.bl false)))) aK)
  (aq (aD (az (ak gEq (aa 7) (mC (.str [115,105,103,110])))) (aq (aD (az (ak gEq (aJ aP (aj (aa 3) ao)) (aa 1))) (aq (gM (aa 2) (aX (aj (aa 3) (aj (mC (.str [109,111,114,101])) ao))))
  (aA 3 (aV ao))) aK)
  (aA 3 (ak aF (aa 3) (aV (aj (aX (aj (aa 8) (aj (ak gIx (aa 5) (mC (.int 0))) (aj (ak gIx (aa 5) (mC (.int 1))) (aj (aa 6) ao))))) ao))))) (aD (az (ak gEq (aa 7) (mC (.str [105,110,107])))) (iD 5 (mC (.int 0)) (aa 8)) (aD (az (ak gEq (aa 7) (mC (.str [103,114,111,117,110,100])))) (iD 5 (mC (.int 1)) (aa 8)) (aA 5 (aV (aj (mC (.str [46])) (aj (mC (.str [46])) ao)))))))
  (aq (aD (az (ak gEq (aa 7) (mC (.str [97,110,101,119])))) (aA 4 (mC (.bl true))) aK)
  (aD (az (ak gEq (aa 7) (mC (.str [101,110,100])))) (aq (gM (aa 2) (aX (aj (aa 3) (aj (mC (.str [119,104,111,108,101])) ao))))
  (aq (aA 3 (aV ao))
  (aA 4 (mC (.bl false))))) aK))))
def cR{b:MS}    (h:b ρ O=.rt d O'):bw (b ρ O)=.ok d O':=by rw[h];rfl
def apP(a0 a1 m j f d b:Option D)(r:D)(w:List Nat)(ds:List D)(O:au)(h:ds.length<1000000):gM (aa 2) (aX (aj (aa 3) (aj (mC (.str w)) ao))) [a0,a1,some (.ob O.length),some r,m,j,f,d,b] (O++[.ml ds])=.nx [a0,a1,some (.ob O.length),some r,m,j,f,d,b] (O++[.ml (ds++[.tup [r,.str w]])]):=by
 rw[vP rfl dO rfl h,nC]
def Mj{R:List LT}{M:Int}  {ρ:aR} :az (ak gEq (aJ aP (aj (aa 3) ao)) (aa 1)) (a0::some (.int M)::a2::some (.lst (R.map dL))::ρ) O=.ok (decide ((R.length:Int)=M)) O:=by
 rw[<-zf];rfl
def Qvt(s:Sta)(M p:Int)(k v:List Nat)(h:Itm k v)(q:s.row.length<=1000)(b:List Du)(u:b.length<=10000)(a0:Option D)(O:au):
  BP [a0,some (.int M),some (.ob O.length),some (.lst (s.row.map dL)),some (.bl s.st),some (.lst [.str [s.i],.str [s.g]]),some (.int p),some (.str k),some (.str v)] (O++[.ml (b.map bD)])=.nx [a0,some (.int M),some (.ob O.length),some (.lst ((stp M s p k v).row.map dL)),some (.bl (stp M s p k v).st),some (.lst [.str [(stp M s p k v).i],.str [(stp M s p k v).g]]),some (.int p),some (.str k),some (.str v)] (O++[.ml ((b++due M s k).map bD)]):=by
 have f:b.length<1000000:=by omega
 unfold BP
 cases h with
 |anew=>rw[show due M s mU=[] from rfl,zJ];obtain⟨_,st,_,_⟩:=s;cases st<;>rfl
 |end_ =>
  rw[zM];obtain⟨_,st,_,_⟩:=s
  cases st<;>exact(sq rfl).trans ((sq rfl).trans ((sq rfl).trans ((cT rfl).trans ((sq (apP _ _ _ _ _ _ _ _ _ (b.map bD) _ (by rw[zf];exact f))).trans rfl))))
 |plain=>rw[show due M s jQ=[] from rfl,zJ];obtain⟨_,st,_,_⟩:=s;cases st<;>rfl
 |ink c j=>rw[show due M s eG=[] from rfl,zJ];obtain⟨_,st,_,_⟩:=s;cases st<;>rfl
 |ground c j=>rw[show due M s fc=[] from rfl,zJ];obtain⟨_,st,_,_⟩:=s;cases st<;>rfl
 |sign c j =>
  obtain⟨R,st,i,g⟩:=s
  have m:(bare ⟨R,st,i,g⟩).length<=1000:=by cases st<;>simp_all [bare]
  refine(sq (ρ':=[a0,some (.int M),some (.ob O.length),some (.lst ((bare ⟨R,st,i,g⟩).map dL)),some (.bl false),some (.lst [.str [i],.str [g]]),some (.int p),some (.str bG),some (.str [c])]) (by cases st<;>rfl)).trans ?_;rw[show stp M ⟨R,st,i,g⟩ p bG [c]=stS M ⟨R,st,i,g⟩ p c from rfl,show due M ⟨R,st,i,g⟩ bG=iV M ⟨R,st,i,g⟩ from rfl];unfold stS iV
  generalize bare ⟨R,st,i,g⟩=R' at m ⊢
  by_cases d:(R'.length:Int)=M
  ·rw[if_pos d,if_pos d,zM];exact .trans (sq (.trans (cT rfl) (.trans (sq (.trans (cT (Mj.trans (by rw[zv d]))) (.trans (sq (apP _ _ _ _ _ _ _ _ _ (b.map bD) _ (by rw[zf];exact f))) rfl))) rfl))) rfl
  ·rw[if_neg d,if_neg d,zJ,zM];exact .trans (sq (.trans (cT rfl) (.trans (sq (cC (Mj.trans (by rw[zl d])))) (bc (aM rfl rfl (if_pos (by rw[zf];exact zI (Nat.succ_le_succ m) (by decide)))))))) rfl
theorem Ml{M:Int}(E:1<=M/\M<=200)(a0:Option D)(O:au):∀(b:List It3) (s:Sta) (d:List Du) (C u q:Option D),OkS M s->(∀x∈b,Itm x.2.1 x.2.2)->d.length+b.length<=10000 ->
  ∃m j f,bB (dg 3 (bF (mgN 6) (bF (mgN 7) (bF (mgN 8) dC)))) BP (b.map itD) [a0,some (.int M),some (.ob O.length),some (.lst (s.row.map dL)),some (.bl s.st),some (.lst [.str [s.i],.str [s.g]]),C,u,q] (O++[.ml (d.map bD)])=.nx [a0,some (.int M),some (.ob O.length),some (.lst ((rn M s b).1.row.map dL)),some (.bl (rn M s b).1.st),some (.lst [.str [(rn M s b).1.i],.str [(rn M s b).1.g]]),m,j,f] (O++[.ml ((d++(rn M s b).2).map bD)])
 | [],s,d,C,u,q,_,_,_=>⟨C,u,q,by show Fl.nx _ _=_;simp[rn]⟩
 |x::b,s,d,C,u,q,hs,hi,hl=>by
  have it:=hi x zd;simp   at hl;have hlen:=hs.len;have J:=vQ M s x.2.1;have I:=Qvt s M x.1 _ _ it (by omega) d (by omega) a0 O;obtain⟨m,j,f,G⟩:=Ml E a0 O _ _ (d++due M s x.2.1) _ _ _ (hs.stp E.1 it) (λy F=>hi y (zp _ F)) (by rw[ze];omega);refine⟨m,j,f,?_⟩;refine(iR rfl I).trans ?_;rw[G,zD];rfl
def Mm{M:Int}(d:1<=M/\M<=200)(b:List It3)(f:∀x∈b,Itm x.2.1 x.2.2)(u:b.length<=5000)(O:au):Am [.lst (b.map itD),.int M] O=.ok (.tup [.ob O.length,.lst ((rn M s0 b).1.row.map dL)]) (O++[.ml ((rn M s0 b).2.map bD)]):=by
 obtain⟨q,m,j,e⟩:=Ml d _ O _ s0 [] _ _ _ (nF d.1) f (by simp;omega);have e' :=e;refine cR ?_;refine(aQ (iT (eV rfl) e')).trans ?_;rfl
def QAx{M:Int}  (h:OkS M s)(k:List Nat):∀x∈due M s k,(x.1.length:Int)<=M:=by
 intro x hx;unfold due iV at hx;split at hx
 ·rw[zj.mp hx];exact h.len
 ·split at hx
  ·split at hx
   ·rename_i b;rw[zj.mp hx];exact Int.le_of_eq b
   ·cases hx
  ·cases hx
theorem vR{M:Int}(d:1<=M):∀(b:List It3) (s:Sta),OkS M s->(∀x∈b,Itm x.2.1 x.2.2)->∀x∈(rn M s b).2,(x.1.length:Int)<=M
 | [],s,_,_,x,hx=>nomatch hx
 |y::b,s,h,hi,x,hx=>by
  have hx' :=hx
  rcases zt.mp hx' with hx | hx
  ·exact QAx h _ x hx
  ·exact vR d _ _ (h.stp d (hi y zd)) (λz f=>hi z (zp _ f)) x hx
theorem pH(M:Int):∀(a b:List It3) (s:Sta),rn M s (a++b)=((rn M (rn M s a).1 b).1,(rn M s a).2++(rn M (rn M s a).1 b).2)
 | [],b,s=>rfl
 |x::a,b,s=>by
  show((rn M _ (a++b)).1,due M s _++(rn M _ (a++b)).2)=_;rw[pH ];show _=(_,due M s _++_++_);rw[zD];rfl
def lwO(b:List Nat)(ds:List Du):List Nat:=(ds.map (·.2)).getLastD b
def BR(d:List Nat)(a b:List Du):lwO d (a++b)=lwO (lwO d a) b:=by
 unfold lwO
 cases b with
 | nil
 |cons =>simp
def QBO(M:Int)(s:Sta)(b k:List Nat):lwS M s b k=lwO b (due M s k):=by
 have f:=vQ M s k;unfold lwS lwO
 generalize due M s k=d at *
 match d,f with
 | [],_=>rfl
 | [_],_=>rfl
 | _::_::_,h=>simp at h
def unI:D->It3
 | .tup [.int p,.str k,.str v]=>(p,k,v)
 | _=>(0,[],[])
def BV(l:List It3):(l.map itD).map unI=l:=by
 rw[zQ]
 exact List.map_id' _ |>.symm ▸ jj λ_ _=>rfl
def sI(t:List Nat):List It3:=(aO [] 0 t).1.map unI
def hI(t:List Nat):List It3:=(owns (t.length - (aO [] 0 t).2.length) (aO [] 0 t).2).map unI
structure SI(t:List Nat):Prop where
 s:(aO [] 0 t).1=(sI t).map itD
 h:owns (t.length - (aO [] 0 t).2.length) (aO [] 0 t).2=(hI t).map itD
 i:∀x∈sI t++hI t,Itm x.2.1 x.2.2
 l:(sI t++hI t).length<=t.length
 a:items 0 t=(sI t++hI t).map itD
 H:bM (aO [] 0 t).2
def si  (u:Okt t):SI t:=by
 obtain⟨E,e,y,x⟩:=Mi _ t 0 (zc _) λc C=>by have:=u.ok c C;omega
 obtain⟨H,q⟩:=Qxd t;have e':=e;rw[q] at e';obtain⟨a,b,rfl,m,j⟩:=List.map_eq_append_iff.mp e'.symm
 have f:sI t=a:=by unfold sI;rw[<-m,BV]
 have d:hI t=b:=by unfold hI;rw[<-j,BV]
 refine⟨by rw[f,m],by rw[d,j],?_,?_,?_,H⟩
 all_goals rw[f,d]
 ·exact y
 ·exact x
 ·exact e
def jI(t p:List Nat):List It3:=(aO (aO [] 0 t).2 (t.length) p).1.map unI
def BW  (h:Okt (t++p)):sI (t++p)=sI t++jI t p/\(aO (aO [] 0 t).2 (t.length) p).1=(jI t p).map itD/\(aO [] 0 (t++p)).2=(aO (aO [] 0 t).2 (t.length) p).2:=by
 have e:=Ly t [] 0;rw[Int.zero_add] at e
 have f:sI (t++p)=sI t++jI t p:=by unfold sI jI;rw[e,zM]
 have q:=(si h).s;rw[e] at q;refine⟨f,?_,by rw[e]⟩;obtain⟨a,b,m,j,d⟩:=List.map_eq_append_iff.mp q.symm
 have:jI t p=b:=by unfold jI;rw[<-d,BV]
 rw[this,d]
def eX(x:List LT×List Nat):Prop:=(∀y∈x.1,OkL y)/\(x.2=bJ\/x.2=cD)
def TD(O:au)(o:Nat):List D->List Du->Prop
 | [],[]=>True
 |d::T,x::Ds=>(∃n,d=.tup [.ob n,.str x.2]/\Old O o n (x.1.map dL))/\eX x/\TD O o T Ds
 | _,_=>False
theorem TD.keeps{O O':au}{o:Nat}(k:Keeps O O' o):∀{T:List D}{Ds:List Du},TD O o T Ds->TD O' o T Ds
 | [],[],_=>True.intro
 |d::T,x::Ds,h=>by
  obtain⟨⟨n,e,f⟩,j,b⟩:=h;exact⟨⟨n,e,k.1 n _ f⟩,j,TD.keeps k b⟩
 | [],_::_,h=>h.elim
 | _::_,[],h=>h.elim
theorem TD.app{O:au}{o:Nat}{f:List D}{b:List Du}(h':TD O o f b):∀{T:List D}{Ds:List Du},TD O o T Ds->TD O o (T++f) (Ds++b)
 | [],[],_=>h'
 |d::T,x::Ds,h=>⟨h.1,h.2.1,TD.app h' h.2.2⟩
 | [],_::_,h=>h.elim
 | _::_,[],h=>h.elim
theorem TD.len{O:au}{o:Nat}:∀{T:List D}{Ds:List Du},TD O o T Ds->T.length=Ds.length
 | [],[],_=>rfl
 |d::T,x::Ds,h=>by simp[TD.len h.2.2]
 | [],_::_,h=>h.elim
 | _::_,[],h=>h.elim
def Qzq   {M:Int}    {du:List Du}(m:Mk O o M d s)(p:Prt O told du)(sp:Sep O o told):TD O o told du:=by
 rcases p with⟨rfl,rfl⟩ | ⟨n,r,w,rfl,rfl,h3,h4,b,_⟩
 ·exact True.intro
 ·obtain⟨k,e,_⟩:=m;exact⟨⟨n,rfl,pB h3 e (sp n w rfl _ _ _ _ _ _ e)⟩,⟨b,h4⟩,True.intro⟩
def TE(O:au):List D->List Du->Prop
 | [],[]=>True
 |d::T,x::Ds=>(∃n,d=.tup [.ob n,.str x.2]/\O[n]?=some (.ml (x.1.map dL)))/\eX x/\TE O T Ds
 | _,_=>False
theorem TD.te{O:au}{o:Nat}:∀{T:List D}{Ds:List Du},TD O o T Ds->TE O T Ds
 | [],[],_=>True.intro
 |d::T,x::Ds,h=>by
  obtain⟨⟨n,e,f⟩,j,b⟩:=h;exact⟨⟨n,e,f.1⟩,j,TD.te b⟩
 | [],_::_,h=>h.elim
 | _::_,[],h=>h.elim
def Qut   {M:Int}   (h:Mk O o M F s)(hok:∀x∈s.row,OkL x)(E:s.row.length<=1000):∃O' told,yM [.ob o] O=.ok (.lst told) O'/\Mk O' o M (if s.row≠[]\/F=cD then bJ else F) ⟨[],false,46,46⟩/\Prt O' told (if s.row≠[]\/F=cD then[(s.row,bJ)] else[])/\Keeps O O' o:=by
 obtain⟨n,e,u⟩:=h;have C:(cI (az (ak gGt (aJ aP (aj (bu _ _ (aa 0)) _)) (mC (.int 0)))) (bx (aU _ "going_on" _ (aa 0) ao))) [some _] O=.ok (decide (s.row≠[]\/F=cD)) O :=
  (orb (b:=decide (s.row≠[])) (.trans (bU (aM (eU (ma1 (fL e)) (by rw[zg,iU u];rfl)) rfl rfl)) (by cases s.row<;>simp)) (wA ((cY rfl e rfl rfl).trans (Qxe e)))).trans (by rw[Bool.decide_or])
 by_cases f:s.row≠[]\/F=cD
 ·rw[if_pos f,if_pos f];have y:=BK (w:=bJ) e;obtain⟨m,d⟩:∃m,m=(O++[Ob.ml []]).set o (mkO M bJ O.length s.i s.g s.st):=⟨_,rfl⟩
  have j:m[o]?=some (mkO M bJ O.length s.i s.g s.st):=by rw[d];exact gs' (ap1 e)
  have q:m[n]?=some (.ml (s.row.map dL)):=by rw[d,zh (g8 e u)];exact ap1 u
  rw[<-d] at y;exact⟨(m++[Ob.ml []]).set o _,[.tup _],cR (.trans (sq rfl) (.trans (sq (.trans (cT (C.trans (by rw[zv f]))) (vD ((cY rfl e rfl rfl).trans y)))) (.trans (sq (drp ((cY rfl j rfl rfl).trans (Ma j)))) rfl))),⟨m.length,gs' (ap1 j),by rw[zh (zq (fG j))];exact apN⟩,.inr ⟨n,s.row,bJ,rfl,rfl,by rw[zh (g8 j q)];exact ap1 q,.inl rfl,hok,E⟩,(d ▸ pC e).trans (pC j)⟩
 ·rw[if_neg f,if_neg f];exact⟨(O++[Ob.ml []]).set o _,[],cR (.trans (sq rfl) (.trans (sq (cC (C.trans (by rw[zl f])))) (.trans (sq (drp ((cY rfl e rfl rfl).trans (Ma e)))) rfl))),⟨O.length,gs' (ap1 e),by rw[zh (zq (fG e))];exact apN⟩,.inl ⟨rfl,rfl⟩,pC e⟩
def dG          (b:mo ρ O=.ok (.ob n) O1)(j:O1[n]?=some (.ins c fs))(d:(fs.lookup m).isNone=true)(f:ma ρ O1=.ok ds q):
  aU c m cf mo ma ρ O=cf (.ob n::ds) q:=by
 rw[uH,b];unfold meF
 dsimp
 rw[j]
 dsimp
 rw[if_pos ⟨rfl,d⟩,f,aW]
def Mp      (h:m ρ O=.ok (.lst es) O1)(d:ρ[i]?=some (some (.lst ds)))(b:ds.length+es.length<=1000000):gC i m ρ O=.nx (ρ.set i (some (.lst (ds++es)))) O1:=by
 rw[Io,h,Ip d b]
def Fr(O O':au)(S:List Nat):Prop:=∀(m:Nat) (x:Ob),m∉S->O[m]?=some x->O'[m]?=some x
def Fr.trans{O O1 f:au}{S T U:List Nat}(a:Fr O O1 S)(b:Fr O1 f T)(hs:∀x∈S,x∈U)(j:∀x∈T,x∈U):Fr O f U:=λm x d h=>b m x (λz=>d (j _ z)) (a m x (λz=>d (hs _ z)) h)
def Fr.set{O:au}{n:Nat}{y:Ob}:Fr O (O.set n y) [n]:=λm x b h=>by
 rw[zh (λz=>b (by rw[z];exact List.mem_singleton_self _))];exact h
def Kp.fr{O O':au}(k:Kp O O'):Fr O O' []:=λm x _ h=>k m x h
def MkA(O:au)(o n:Nat)(M:Int)(b:List Nat)(s:Sta):Prop:=O[o]?=some (mkO M b n s.i s.g s.st)/\O[n]?=some (.ml (s.row.map dL))
def MkA.mk{O:au}{o n:Nat}{M:Int}{b:List Nat}{s:Sta}(h:MkA O o n M b s):Mk O o M b s:=⟨n,h⟩
def Keeps.fr{O O':au}{o n:Nat}{M:Int}{f:List Nat}{s:Sta}(k:Keeps O O' o)(h:MkA O o n M f s):Fr O O' [o,n]:=λm x d hx=>by
 by_cases z:∃b,x=.ml b
 ·obtain⟨b,rfl⟩:=z;exact(k.1 m b (pB hx h.1 (λe=>d (by rw[e];simp)))).1
 ·exact k.2 m x (λe=>d (by rw[e];simp)) (λb e=>z ⟨b,e⟩) hx
def Nw(O:au)(n b:Nat):Prop:=∀(m:Nat) (d:List D),m≠n->O[m]?=some (.ml d)->b≠m
def Keeps.nw{O O':au}{o n:Nat}{M:Int}{q d:List Nat}{s j:Sta}(k:Keeps O O' o)(h:MkA O o n M q s)(h':Mk O' o M d j):∃f,MkA O' o f M d j/\Nw O n f:=by
 obtain⟨f,a,b⟩:=h';exact⟨f,⟨a,b⟩,λm x e u=>(k.1 m x (pB u h.1 (Ne.symm e))).2 _ _ _ _ _ _ a⟩
def lO(nm:List Nat)(rd mk:Nat)(c:Bool):Ob:=.ins "Hand" [("name",.str nm),("reader",.ob rd),("maker",.ob mk),("closed",.bl c)]
theorem Mq{rd mk:Nat}{c:Bool}{nm:List Nat}{M:Int}(C:1<=M/\M<=200)(a1:Option D):∀(b:List It3) (O:au) (m:List Nat) (s:Sta) (T:List D) (Ds:List Du) (j:Option D),(∀x∈b,Itm x.2.1 x.2.2)->T.length+b.length<=10000->O[hd]?=some (lO nm rd mk c)->Mk O mk M m s->OkS M s->TD O mk T Ds ->
  ∃O' u d,bB (mgN 3) (gC 2 (aU "Maker" "put" qX (bu ["Hand"] "maker" (aa 0)) (aj (aa 3) ao))) (b.map itD) [some (.ob hd),a1,some (.lst T),j] O=.nx [some (.ob hd),a1,some (.lst u),d] O'/\Mk O' mk M (lwO m (rn M s b).2) (rn M s b).1/\TD O' mk u (Ds++(rn M s b).2)/\Keeps O O' mk
 | [],O,m,s,T,Ds,j,_,_,_,h,_,td=>⟨O,T,j,rfl,h,by simpa [rn] ,Keeps.refl⟩
 |x::b,O,m,s,T,Ds,j,hi,hl,hh,h,hs,td=>by
  have it:=hi x zd;rw[zA] at hl;obtain⟨J,told,q,E,F,sp,kp⟩:=QAK h hs C.2 it;obtain⟨n,e,_⟩:=id h;have f:=Qzq E F sp;have tl:=f.len;have P:=vQ M s x.2.1;obtain⟨O',u,d,I,h2,h3,h4⟩:=Mq C a1 _ J _ _ _ _ _ (λy G=>hi y (zp _ G)) (by rw[ze];omega) (kp.2 hd _ (λz=>by rw[z,e] at hh;cases hh) (λL z=>nomatch z) hh) E (hs.stp C.1 it) (TD.app f (td.keeps kp));rw[QBO,<-BR] at h2;rw[zD] at h3;refine⟨O',u,d,(iR (ρ1:=[some _,a1,some _,some _]) rfl (Mp ((dG (dX rfl hh zd rfl) e rfl (ma1 rfl)).trans q) rfl (by omega))).trans I,h2,h3,kp.trans h4⟩
def Mr    {M:Int}(m:1<=M/\M<=200)    (f:∀x∈y,Itm x.2.1 x.2.2)(u:y.length<=5000)(j:O[hd]?=some (lO nm rd mk c))(h:MkA O mk n M C s)(hs:OkS M s):
  ∃O' d T,uZ [.ob hd,.lst (y.map itD)] O=.ok (.lst T) O'/\MkA O' mk d M (lwO C (rn M s y).2) (rn M s y).1/\Nw O n d/\TD O' mk T (rn M s y).2/\Fr O O' [mk,n]:=by
 obtain⟨O',T,q,e,h1,h2,h3⟩:=Mq m _ _ O C s [] [] _ f (by simp;omega) j h.mk hs True.intro;obtain⟨d,a,b⟩:=h3.nw h h1;refine⟨O',d,T,cR ?_,a,b,h2,h3.fr h⟩;exact(aQ (bc rfl)).trans ((aQ (iT (eV rfl) e)).trans rfl)
def cls:Ob->Str
 | .ins c _=>c
 | _=>""
def aN{O:au}{i:Nat}  (c d:Str)(h1:O[i]?=some x)(h2:O[j]?=some y)(hx:cls x=c:=by rfl)(b:cls y=d:=by rfl)(h:c≠d:=by decide):i≠j:=λz=>by
 rw[z,h2] at h1;rw[<-zC h1,b] at hx;exact h hx.symm
def bA{a:Nat}(h:a≠b):a∉[b]:=λz=>h (zj.mp z)
def jZ{a:Nat}(h:a≠b)(h2:a≠c):a∉[b,c]:=λz=>by simp at z;omega
def HnA(O:au)(M:Int)(hd rd mk n:Nat)(nm t:List Nat):Prop:=O[hd]?=some (lO nm rd mk false)/\O[rd]?=some (RO (aO [] 0 t).2 t.length)/\MkA O mk n M (lwO bJ (rn M s0 (sI t)).2) (rn M s0 (sI t)).1
def MkA.fr{O O':au}{o n:Nat}{M:Int}{b:List Nat}{s:Sta}{S:List Nat}(h:MkA O o n M b s)(f:Fr O O' S)(h1:o∉S)(h2:n∉S):MkA O' o n M b s:=⟨f _ _ h1 h.1,f _ _ h2 h.2⟩
def Ms    (h:O[hd]?=some (lO nm rd mk false)):uY [.ob hd] O=.ok .non O:=by
 show bw _=_;unfold JB;rw[cC (Bg (dX rfl h zd rfl))];rfl
def BX     (h:m ρ O=.ok d O1):eZ m ρ O=.nx ρ O1:=by rw[qH,h,uB]
def il{M:Int}(b:1<=M)  (d:Okt t):OkS M (rn M s0 (sI t)).1:=(ig b _ s0 (nF b) λx hx=>(si d).i x (ja _ hx)).1
def Qxx  {M:Int}   (P:1<=M/\M<=200)(h:HnA O M hd rd mk n nm t)(L:Okt t)(W:Okt p)(q:Okt (t++p)):
  ∃O' E T,yO [.ob hd,.str p] O=.ok (.lst T) O'/\HnA O' M hd rd mk E nm (t++p)/\Nw O n E/\TE O' T (rn M (rn M s0 (sI t)).1 (jI t p)).2/\Fr O O' [rd,mk,n]:=by
 obtain⟨d,j,u⟩:=h;have S:=si L;obtain⟨G,U,R⟩:=BW q;have Q:=si q;have f:=Qyp j S.H p W;have F:Fr O (O.set rd (RO (aO (aO [] 0 t).2 t.length p).2 (t.length+p.length))) _:=Fr.set;have y :=aN "Maker" "Reader" u.1 j;have J :=aN "" "Reader" u.2 j;have C:=F _ _ (bA (aN "Hand" "Reader" d j)) d
 obtain⟨O',E,T,e,a,b,te,fr⟩:=Mr P (λx hx=>Q.i x (ja _ (by rw[G];exact zN _ hx))) (by
  have l:=Q.l
  have:=q.len
  rw[ze,G,ze] at l
  omega) C (u.fr F (bA y) (bA J)) (il P.1 L)
 have I:=fr rd _ (jZ (Ne.symm y) (Ne.symm J)) (gs j);refine⟨O',E,T,cR ?_,⟨fr hd _ (jZ (aN "Hand" "Maker" d u.1) (aN "Hand" "" d u.2)) C,?_,?_⟩,λm X h1 h2=>b m X h1 (F m _ (bA (aN "" "Reader" h2 j)) h2),te.te,F.trans fr (by simp) (by simp)⟩
 ·refine(aQ (BX ((dG rfl d rfl rfl).trans (Ms d)))).trans (fD (dG rfl d rfl (jV ((dG (dX rfl d zd rfl) j rfl (ma1 rfl)).trans (f.trans (by rw[U])))) |>.trans e))
 ·rw[R,ze];exact I
 ·rw[G,pH,BR];exact a
theorem TE.fr{O O':au}{S:List Nat}(f:Fr O O' S)(hs:∀(m:Nat) (ds:List D),O[m]?=some (.ml ds)->m∉S):∀{T:List D}{Ds:List Du},TE O T Ds->TE O' T Ds
 | [],[],_=>True.intro
 |d::T,x::Ds,h=>by
  obtain⟨⟨n,e,b⟩,q,j⟩:=h;exact⟨⟨n,e,f n _ (hs n _ b) b⟩,q,TE.fr f hs j⟩
 | [],_::_,h=>h.elim
 | _::_,[],h=>h.elim
theorem TE.app{O:au}{f:List D}{b:List Du}(h':TE O f b):∀{T:List D}{Ds:List Du},TE O T Ds->TE O (T++f) (Ds++b)
 | [],[],_=>h'
 |d::T,x::Ds,h=>⟨h.1,h.2.1,TE.app h' h.2.2⟩
 | [],_::_,h=>h.elim
 | _::_,[],h=>h.elim
theorem TE.len{O:au}:∀{T:List D}{Ds:List Du},TE O T Ds->T.length=Ds.length
 | [],[],_=>rfl
 |d::T,x::Ds,h=>by simp[TE.len h.2.2]
 | [],_::_,h=>h.elim
 | _::_,[],h=>h.elim
def Prt.te{O:au}{told:List D}{du:List Du}(p:Prt O told du):TE O told du:=by
 rcases p with⟨rfl,rfl⟩ | ⟨n,r,w,rfl,rfl,h3,h4,b,_⟩
 ·exact True.intro
 ·exact⟨⟨n,rfl,h3⟩,⟨b,h4⟩,True.intro⟩
def HnC(O:au)(M:Int)(hd rd mk n:Nat)(nm:List Nat):Prop:=O[hd]?=some (lO nm rd mk true)/\(∃p,O[rd]?=some (RO [] p))/\∃b,MkA O mk n M b ⟨[],false,46,46⟩
def lstP(M:Int)(t:List Nat):List Du:=if(rn M s0 (sI t++hI t)).1.row≠[]\/lwO bJ (rn M s0 (sI t++hI t)).2=cD then[((rn M s0 (sI t++hI t)).1.row,bJ)] else[]
def QsU  {M:Int}   (J:1<=M/\M<=200)(h:HnA O M hd rd mk n nm t)(W:Okt t):
  ∃O' n' T,yP [.ob hd] O=.ok (.lst T) O'/\HnC O' M hd rd mk n' nm/\Nw O n n'/\TE O' T ((rn M (rn M s0 (sI t)).1 (hI t)).2++lstP M t)/\Fr O O' [hd,rd,mk,n]:=by
 obtain⟨C,E,u⟩:=h;have S:=si W;have f:=Qt7 E S.H;have L:Fr O (O.set rd (RO [] t.length)) [rd]:=Fr.set;have Q:mk≠rd:=aN "Maker" "Reader" u.1 E;have nn:n≠rd:=aN "" "Reader" u.2 E;have U:=L _ _ (bA (aN "Hand" "Reader" C E)) C
 have hi :=λx hx=>S.i x (zN _ hx)
 have hl:=S.l;have hl2:=W.len;rw[ze] at hl;obtain⟨O2,n2,T,e,a,b,td,fr⟩:=Mr J hi (by omega) U (u.fr L (bA Q) (bA nn)) (il J.1 W);have F:=fr rd _ (jZ (Ne.symm Q) (Ne.symm nn)) (gs E);have j:=fr hd _ (jZ (aN "Hand" "Maker" C u.1) (aN "Hand" "" C u.2)) U;have ok:=ig J.1 _ s0 (nF J.1) S.i;have ra:=pH
 have P:OkS M (rn M (rn M s0 (sI t)).1 (hI t)).1:=by
  have:=ok.1
  rw[ra] at this;exact this
 obtain⟨O3,told,q,m3,p3,Y⟩:=Qut a.mk P.ok (by have:=P.len;omega);obtain⟨n3,Z,b3⟩:=Y.nw a m3;have I:=Y.fr a;have d:=I hd _ (jZ (aN "Hand" "Maker" j a.1) (aN "Hand" "" j a.2)) j;have R:=I rd _ (jZ (aN "Reader" "Maker" F a.1) (aN "Reader" "" F a.2)) F;have X:Fr O3 (O3.set hd (lO nm rd mk true)) [hd]:=Fr.set;have tl:=td.len;have dl:=(ig J.1 (hI t) _ (il J.1 W) hi).2
 have tl2:told.length<=1:=by
  rw[p3.te.len]
  split<;>simp
 have te:TE O3 (T++told) ((rn M (rn M s0 (sI t)).1 (hI t)).2++lstP M t):=by
  unfold lstP;rw[ra,BR];exact TE.app p3.te (td.keeps Y).te
 refine⟨_,n3,T++told,cR ?_,⟨gs d,⟨_,X _ _ (bA (aN "Reader" "Hand" R d)) R⟩,_,Z.fr X (bA (aN "Maker" "Hand" Z.1 d)) (bA (aN "" "Hand" Z.2 d))⟩,λm ds h1 h2=>?_,TE.fr X (λm ds u=>bA (aN "" "Hand" u d)) te,?_⟩
 ·refine(aQ (BX ((dG rfl C rfl rfl).trans (Ms C)))).trans ?_;refine(aQ (jW (dG (n:=hd) rfl C rfl (jV ((dG (n:=rd) (dX (n:=hd) rfl C zd rfl) E rfl rfl).trans (f.trans (by rw[S.h])))) |>.trans e))).trans ?_;refine(aQ (Mp (ds:=T) ((dG (n:=mk) (dX (n:=hd) rfl j zd rfl) a.1 rfl rfl).trans q) rfl (by omega))).trans ?_;exact(aQ (gZ (n:=hd) rfl rfl d zd (by show 4<900;decide))).trans rfl
 ·have z:=L m _ (bA (aN "" "Reader" h2 E)) h2;exact b3 m ds (Ne.symm (b m ds h1 z)) (fr m _ (jZ (aN "" "Maker" h2 u.1) h1) z)
 ·intro m x hx G;simp only[zk,List.not_mem_nil,or_false,not_or] at hx;have z:=fr m x (jZ hx.2.2.1 hx.2.2.2) (L m x (bA hx.2.1) G)
  by_cases y:m=n2
  ·have e':=a.2;rw[<-y,z] at e';rw[zC e'] at G;exact absurd y.symm (b m _ hx.2.2.2 (L m _ (bA hx.2.1) G))
  ·exact X m x (bA hx.1) (I m x (jZ hx.2.2.1 y) z)
def pI     (h:m ρ O=.ok (.int i) O):moS m ρ O=.ok (some i) O:=by rw[QB5,h,aW,QA7]
def BZ     (d:a ρ O=.ok (.str i) O)(hb:b ρ O=.ok (.str j) O):az (ak gEq a b) ρ O=.ok (decide (i=j)) O:=bU (aM d hb rfl)
def rZ       (d:m ρ O=.ok (.str t) O)(f:a ρ O=.ok x O)(hb:b ρ O=.ok y O)(hz:t.length<=1000000):mSl m a b ρ O=.ok (.str (cA t x y)) O:=by
 rw[HB,d,aW,f,aW,hb,aW,mL,HD,if_pos (by omega),gQ]
theorem Mt{α:Type}(f:α->Int):∀l:List α,fX (l.map λx=>.int (f x))=some (l.map f)
 | []=>rfl
 |x::l=>by
  show(fX _).map _=_;rw[Mt ];rfl
structure NOk(n:List Nat):Prop where
 l1:1<=n.length
 l8:n.length<=8
 ok:∀c∈n,97<=c/\c<=122
structure Nms(N:List (List Nat)):Prop where
 ok:∀n∈N,NOk n
 ne:N≠[]
 l4:N.length<=6
 nd:N.Nodup
def wd:List (List Nat)->Nat
 | []=>0
 |n::r=>max n.length (wd r)
theorem vU:∀{N:List (List Nat)}{n:List Nat},n∈N->n.length<=wd N
 |m::r,n,h=>by
  rcases zk.mp h with rfl | h
  ·exact Nat.le_max_left _ _
  ·exact zI (vU h) (Nat.le_max_right _ _)
theorem Ca:∀{N:List (List Nat)},N≠[]->∃n∈N,n.length=wd N
 | [m],_=>⟨m,by simp[wd]⟩
 |m::k::r,_=>by
  obtain⟨n,h1,h2⟩:=Ca (N:=k::r) (by simp);unfold wd
  rcases Nat.le_total _ _ with h | h
  ·exact⟨n,zp _ h1,by rw[Nat.max_eq_right h];exact h2⟩
  ·exact⟨m,zd,by rw[Nat.max_eq_left h]⟩
def wd8  (h:Nms N):wd N<=8:=by
 obtain⟨n,h1,h2⟩:=Ca h.ne;rw[<-h2];exact(h.ok n h1).l8
def dNm(N:List (List Nat)):D:=.lst (N.map D.str)
def Mu  (h:Nms N)    (d:ρ[i]?=some (some (dNm N))):aJ mF (aj (bW (bL (aa i)) 1 [] (mgN 0) b8 (aJ aP (aj (aa 0) ao))) ao) ρ O=.ok (.int (wd N:Int)) O:=by
 have z:=iK (g:=mgN 0) (t:=b8) (m:=aJ _ (aj (aa 0) _)) (λρ=>∃a,ρ=[a]) D.str _ N _ O [] ⟨none,rfl⟩ (by
  rintro y hy ρ ⟨a,rfl⟩
  exact⟨_,rfl,⟨_,rfl⟩,rfl,jY rfl (by have:=(h.ok y hy).l8;omega)⟩)
 rw[zO] at z;have l4:=h.l4
 have j:bW (bL (aa i)) 1 [] (mgN 0) b8 (aJ aP (aj (aa 0) ao)) ρ O=.ok (.lst (N.map λn=>.int n.length)) O:=by
  rw[qO,oK,gb,d];show(if(N.map _).length<=1000000 then _ else _)=_;rw[if_pos (by rw[zf];omega),show d8 1 [] ρ=[none] from rfl,z,aW]
 refine eU (ma1 j) ?_;show mF [.lst _]=_;unfold mF
 dsimp
 rw[Mt]
 dsimp
 obtain⟨n,h1,h2⟩:=Ca h.ne
 rw[xO (zw.mpr ⟨n,h1,by rw[h2]⟩) λa f=>by
  obtain⟨m,b,rfl⟩:=zw.mp f
  have:=vU b
  omega]
 rfl
def pad(w:Nat)(n:List Nat):List Nat:=n++List.replicate (w - n.length) 32
def Cd   (h:n∈N):(pad (wd N) n).length=wd N:=by
 have:=vU h
 unfold pad;rw[ze,List.length_replicate];omega
def kW:List Nat:=[119,104,111,108,101]
def QyP  (h:Nms N)  (d:n∈N)(W:List Nat)(O:au):vh [.str n,dNm N,.str W] O=.ok (.str (pad (wd N) n++[if W=kW then 124 else 62])) O:=by
 have u:=wd8 h;have x:=Cd d;show bw _=_;unfold JV;rw[fC (bc (Mu h rfl))];refine congrArg bw (a₂:=.rt _ O) ?_
 have q:uw (mG (aa 0)) (aa 3) [some (.str n),some (dNm N),some (.str W),some (.int (wd N))] O=.ok (.str (pad (wd N) n)) O:=by
  unfold uw;rw[show mG _ _ O=.ok _ O from rfl,aW,show aa 3 _ O=.ok _ O from rfl,aW]
  dsimp
  rw[if_pos (by omega)];rfl
 have m:mIf (az (ak gEq (aa 2) (mC (.str [119,104,111,108,101])))) (mC (.str [124])) (mC (.str [62])) [some (.str n),some (dNm N),some (.str W),some (.int (wd N))] O=.ok (.str [if W=kW then 124 else 62]) O:=by
  rw[jN,BZ (j:=kW) rfl rfl]
  by_cases b:W=kW
  ·rw[zv b,if_pos b];rfl
  ·rw[zl b,if_neg b];rfl
 rw[dU];have f:=cZ q m (by rw[zR];omega);exact congrArg _ f
def slT{a:Nat}(d:m ρ O=.ok (.str t) O)(b:q ρ O=.ok (.int (a:Int)) O)(hz:t.length<=1000):mSl m moN (moS q) ρ O=.ok (.str (t.take a)) O:=(rZ d rfl (pI b) (by omega)).trans (by rw[Bw])
def add_n(d:m ρ O=.ok (.int (a:Int)) O)(hb:q ρ O=.ok (.int (b:Int)) O):ak aF m q ρ O=.ok (.int ((a+b:Nat):Int)) O:=(m9 d hb).trans (by rfl)
def Mv   (h:T ρ O=.ok true O)(h2:m ρ O=.ok d O):aD T (aC m) aK ρ O=.rt d O:=(cT h).trans (by rw[dU,h2];rfl)
def vV   (h:T ρ O=.ok false O):aD T x aK ρ O=.nx ρ O:=cC h
def Ce  (b:m ρ O=.ok (.int i) O)(hb:q ρ O=.ok (.int j) O)(h:i=j):az (ak gEq m q) ρ O=.ok true O:=(jU b hb).trans (by rw[zv h])
def eq_n  (b:m ρ O=.ok (.int i) O)(hb:q ρ O=.ok (.int j) O)(h:¬i=j):az (ak gEq m q) ρ O=.ok false O:=(jU b hb).trans (by rw[zl h])
def dz  (b:m ρ O=.ok (.int c) O)(hb:q ρ O=.ok (.int k) O)(h0:0<=k)(h1:k<=1000000):aB bN (aj m (aj q ao)) ρ O=.ok (.int (mix c k)) O:=(bz (maS b (ma1 hb))).trans (Mh c k h0 h1 O)
def pJ(v:Int){n:Nat}(h:0<n):∃a:Nat,v % (n:Int)=(a:Int)/\a<n:=⟨(v % n).toNat,by have:=jt v (b:=n);have:=ju v (b:=n);omega⟩
def abc:List Nat:=[97,98,99,100,101,102,103,104,105,106,107,108,109,110,111,112,113,114,115,116,117,118,119,120,121,122]
def QxM:∀i:Nat,i<26->abc[i]?=some (97+i):=by decide
def Mw{i:Nat}(h:i<26):gIx (.str abc) (.int (i:Int))=some (.str [97+i]):=by
 rw[H9,mR,QxM i h];rfl
def lb(c:Int)(k:Nat):Nat:=97+(mix c (20+(0+(k:Int))) % 26).toNat
theorem Mx{α:Type}(f:α->Nat):∀l:List α,(l.map λi=>[f i]).flatten=l.map f
 | []=>rfl
 |x::l=>by rw[zg,List.flatten_cons,Mx ];rfl
theorem My{α:Type}(f:α->Nat):∀l:List α,((l.map λi=>[f i]).map List.length).sum=l.length
 | []=>rfl
 |x::l=>by rw[zg,zg,List.sum_cons,My ];simp;omega
def Mz   {ρc:aR}   (d:d8 1 cap ρ=none::ρc)(b:∀k:Nat,k<8->e (some (.int (0+(k:Int)))::ρc) O=.ok (.str [g k]) O):mq (bW (fZ (aj (mC (.int 8)) ao)) 1 cap (mgN 0) b8 e) ρ O=.ok (.str ((List.range 8).map g)) O:=by
 have z:=iK (g:=mgN 0) (t:=b8) (λρ=>∃a,ρ=a::ρc) _ _ _ _ O [] ⟨none,rfl⟩ (by
  rintro k hk ρ ⟨a,rfl⟩
  exact⟨_,rfl,⟨_,rfl⟩,rfl,b k (List.mem_range.mp hk)⟩)
 rw[zO] at z;rw[QzV,qO,d];show((cG _ _ _ ((List.range 8).map _) _ O []).bind _).bind _=_;rw[z,aW,aW,jL,QAY,Ig,Qtm,My,if_pos (by decide),Mx]
def Qwq(c:Int):((List.range 8).map (lb c)).length=8/\∀x∈(List.range 8).map (lb c),97<=x/\x<=122:=by
 refine⟨by simp,λx hx=>?_⟩;obtain⟨k,_,rfl⟩:=zw.mp hx;unfold lb;omega
def nA(base:List Nat)(k:Nat):List Nat:=base.take (8 - k)
def nB(base:List Nat)(a s f k:Nat):List Nat:=base.take a++[97+(f+k)]++(base.drop (a+1)).take (s - (a+1))
def MF  (h1:1<=m)(h4:m<=6)  (ok:∀k,k<m->NOk (g k))(ne:∀j k,j<k->k<m->g j≠g k):Nms ((List.range m).map g):=by
 refine⟨λn d=>?_,?_,by simpa ,?_⟩
 ·obtain⟨k,f,rfl⟩:=zw.mp d;exact ok k (List.mem_range.mp f)
 ·intro z
  have:=congrArg List.length z
  simp at this
  omega
 ·show List.Pairwise _ _;rw[List.pairwise_map];exact List.Pairwise.imp_of_mem (λ{a b} ha hb hab=>ne a b hab (List.mem_range.mp hb)) List.pairwise_lt_range
def Nms.rev  (h:Nms N):Nms N.reverse:=⟨λn d=>h.ok n (List.mem_reverse.mp d),by simpa using h.ne,by simpa using h.l4,List.pairwise_reverse.mpr (List.Pairwise.imp (λ{a b} z=>Ne.symm z) h.nd)⟩
def QBn  (d:base.length=8)(hb:∀x∈base,97<=x/\x<=122)  (h1:1<=m)(h4:m<=6):Nms ((List.range m).map (nA base)):=MF h1 h4 (λk b=>⟨by unfold nA;rw[List.length_take];omega,by unfold nA;rw[List.length_take];omega,λx hx=>hb x (List.mem_of_mem_take hx)⟩) λj k f b e=>by
 have:=congrArg List.length e
 unfold nA at this;rw[List.length_take,List.length_take] at this;omega
def QBm  (q:base.length=8)(hb:∀x∈base,97<=x/\x<=122)  (C:a<s)(hs:s<=8)(y:f<20)  (h1:1<=m)(h4:m<=6):Nms ((List.range m).map (nB base a s f)):=by
 have len:∀k,(nB base a s f k).length=s:=λk=>by
  unfold nB;rw[ze,ze,List.length_take,List.length_take,List.length_drop,zR];omega
 have b:∀k,(nB base a s f k)[a]?=some _:=λk=>by
  unfold nB;rw[zD,zK (by rw[List.length_take];omega),List.length_take,show a - min a _=0 by omega];rfl
 refine MF h1 h4 (λk d=>⟨by rw[len];omega,by rw[len];omega,λx hx=>?_⟩) λj k u d e=>?_
 ·rcases zt.mp hx with hx | hx
  ·rcases zt.mp hx with hx | hx
   ·exact hb x (List.mem_of_mem_take hx)
   ·rw[zj.mp hx];omega
  ·exact hb x (List.mem_of_mem_drop (List.mem_of_mem_take hx))
 ·have h1:=b j;rw[e,b] at h1
  have:=zC h1
  omega
def Cg  (f:m<=6)   {ρc:aR}   (h1:ρ[1]?=some (some (.int (m:Int))))(d:d8 1 cap ρ=none::ρc)(b:∀k,k<m->e (some (.int (0+(k:Int)))::ρc) O=.ok (.str (g k)) O):bW (fZ (aj (aa 1) ao)) 1 cap (mgN 0) b8 e ρ O=.ok (dNm ((List.range m).map g)) O:=by
 have z:=iK (g:=mgN 0) (t:=b8) (λρ=>∃a,ρ=a::ρc) _ _ _ _ O [] ⟨none,rfl⟩ (by
  rintro k hk ρ ⟨a,rfl⟩
  exact⟨_,rfl,⟨_,rfl⟩,rfl,b k (List.mem_range.mp hk)⟩)
 rw[qO,J9 (by rw[gb,h1]) (by omega),aW,if_pos (by unfold gq;rw[zf,List.length_range];omega),d];show(cG _ _ _ ((List.range m).map _) _ O []).bind _=_;rw[z];unfold dNm;rw[zQ];rfl
def MJ{T:L2.M Bool}     (h:T [a,b,c,d,some (dNm N),e,f,g] O=.ok bb O):aD T (uf 4) aK [a,b,c,d,some (dNm N),e,f,g] O=.nx [a,b,c,d,some (dNm (if bb then N.reverse else N)),e,f,g] O:=by
 cases bb with
 |true=>exact(cT h).trans (by unfold dNm;rw[if_pos rfl,List.map_reverse];rfl)
 |false=>exact cC h
def QwM(c:Int){m:Nat}(h1:1<=m)(h4:m<=6)(O:au):∃N,Nms N/\Ao [.int c,.int (m:Int)] O=.ok (dNm N) O:=by
 obtain⟨u,F⟩:=Qwq c
 have q:∀{N:List (List Nat)} (d:Bool),Nms N->Nms (if d then N.reverse else N):=λd h=>by
  cases d with
  |true=>exact h.rev
  |false=>exact h
 suffices h:∃N,Nms N/\An [some (.int c),some (.int (m:Int)),none,none,none,none,none,none] O=.rt (dNm N) O by
  obtain⟨N,h1,h2⟩:=h;exact⟨N,h1,congrArg bw h2⟩
 unfold An
 have G:∀k:Nat,k<8->ak gIx (aa 2) (ak bj (aB bN (aj (aa 1) (aj (ak aF (mC (.int 20)) (aa 0)) ao))) (mC (.int 26))) [some (.int (0+(k:Int))),some (.int c),some (.str abc)] O=.ok (.str [lb c k]) O:=λk C=>aM (x:=.str abc) rfl (cg (dz rfl (m9 rfl rfl) (by omega) (by omega)) rfl (by decide)) (by
  rw[mL,jK,show mix c (20+(0+(k:Int))) % 26=((mix c (20+(0+(k:Int))) % 26).toNat:Int) by omega,Mw (by omega)]
  rfl)
 have I:∀k:Nat,k<m->mSl (aa 1) moN (moS (ak gn (mC (.int 8)) (aa 0))) [some (.int (0+(k:Int))),some (.str ((List.range 8).map (lb c)))] O=.ok (.str (nA ((List.range 8).map (lb c)) k)) O:=λk C=>slT (a:=8 - k) rfl ((Ba rfl rfl).trans (by rw[show(8:Int) - (0+(k:Int))=((8 - k:Nat):Int) by omega])) (by omega)
 by_cases E:mix c 28 % 3>0
 ·obtain⟨s,hs,Q⟩:=pJ (mix c 29) (n:=8) (by omega);obtain⟨a,L,P⟩:=pJ (mix c 30) (n:=1+s) (by omega);obtain⟨f,J,f20⟩:=pJ (mix c 31) (n:=20) (by omega);refine⟨_,q (decide (mix c 32 % 2=0)) (QBm u F (s:=1+s) P (by omega) f20 h1 h4),(fC (bc rfl)).trans ((fC (bc (Mz (ρc:=[some (.int c),some (.str abc)]) rfl G))).trans ((fC (bc (Cg h4 (ρc:=[some (.str ((List.range 8).map (lb c)))]) rfl rfl I))).trans ((fC ((cT (bU (aM (cg (dz rfl rfl (by decide) (by decide)) rfl (by decide)) (y:=.int 0) rfl (show gGt (.int (mix c 28 % 3)) (.int 0)=some (.bl true) from congrArg (λx=>some (D.bl x)) (zv E))))).trans ((fC (bc (add_n (a:=1) rfl ((cg (dz rfl rfl (by decide) (by decide)) rfl (by decide)).trans (congrArg (λx=>Res.ok (D.int x) O) hs))))).trans ((fC (bc ((cg (dz rfl rfl (by decide) (by decide)) rfl (by omega)).trans (congrArg (λx=>Res.ok (D.int x) O) L)))).trans ((fC (bc ((cg (dz rfl rfl (by decide) (by decide)) rfl (by decide)).trans (congrArg (λx=>Res.ok (D.int x) O) J)))).trans (bc (Cg h4 rfl rfl λk C=>?_))))))).trans ((fC (MJ (jU (cg (dz rfl rfl (by decide) (by decide)) rfl (by decide)) rfl))).trans rfl))))⟩
  have j:=rZ (m:=aa 2) (b:=moS (aa 3)) (ρ:=[some (.int (0+(k:Int))),some (.str abc),some (.str ((List.range 8).map (lb c))),some (.int ((1+s:Nat):Int)),some (.int (a:Int)),some (.int (f:Int))]) (O:=O) (t:=(List.range 8).map (lb c)) (x:=some ((a+1:Nat):Int)) (y:=some ((1+s:Nat):Int)) rfl (pI (m:=ak aF (aa 4) (mC (.int 1))) (add_n (b:=1) rfl rfl)) rfl (by omega);rw[vO] at j;exact cZ (cZ (slT rfl rfl (by omega)) (aM (x:=.str abc) (y:=.int ((f+k:Nat):Int)) rfl ((m9 rfl rfl).trans (by rw[show(f:Int)+(0+(k:Int))=((f+k:Nat):Int) by omega])) (Mw (by omega))) (by rw[List.length_take,zR];omega)) j (by rw[ze,List.length_take,List.length_take,List.length_drop,zR];omega)
 ·exact⟨_,q (decide (mix c 32 % 2=0)) (QBn u F h1 h4),(fC (bc rfl)).trans ((fC (bc (Mz (ρc:=[some (.int c),some (.str abc)]) rfl G))).trans ((fC (bc (Cg h4 (ρc:=[some (.str ((List.range 8).map (lb c)))]) rfl rfl I))).trans ((fC (vV (bU (aM (cg (dz rfl rfl (by decide) (by decide)) rfl (by decide)) (y:=.int 0) rfl (show gGt (.int (mix c 28 % 3)) (.int 0)=some (.bl false) from congrArg (λx=>some (D.bl x)) (zl E)))))).trans ((fC (MJ (jU (cg (dz rfl rfl (by decide) (by decide)) rfl (by decide)) rfl))).trans rfl))))⟩
def NOk.asc{n:List Nat}(h:NOk n):ascii n=true:=by
 unfold ascii;rw[je];intro c b
 have:=h.ok c b
 exact zv (by omega)
def QyS  (h:NOk n)(O:au):uN [.str n] O=.ok (.bl true) O:=by
 have h1:=h.l1;have h2:=h.l8
 have j:cG (mgN 0) b8 (fO gLe gLe (mC (.str [97])) (aa 0) (mC (.str [122]))) (cB n) [none] O []=.ok (n.map λ_=>.bl true) O:=by
  have z:=iK (g:=mgN 0) (t:=b8) (m:=fO gLe gLe (mC (.str [97])) (aa 0) (mC (.str [122]))) (λρ=>∃a,ρ=[a]) (λc =>D.str [c]) (λ_=>.bl true) n _ O [] ⟨none,rfl⟩ (by
   rintro c hc ρ ⟨a,rfl⟩;have q:=h.ok c hc;refine⟨_,rfl,⟨_,rfl⟩,rfl,?_⟩
   simp[q])
  exact z
 have u:∀n:List Nat,jF (n.map λ_=>D.bl true)=some (n.map λ_=>true):=λn=>by
  induction n with
  |nil=>rfl
  |cons c n f=>simp only[zg,jF,f];rfl
 have x:tL [.lst (n.map λ_=>.bl true)]=some (.bl true):=by
  show(jF _).map _=_;rw[u];simp
 show bw (yE [some _] O)=_;unfold yE;have d:(n.length:Int)<=8/\(1:Int)<=n.length:=⟨by omega,by omega⟩
 have hs:(cB n).length<=1000000:=by unfold cB;rw[zf];omega
 have b:n.length<=1000000:=by omega
 simp only[cX,jO,lB,jM,Hz,gb,jc,aW,mL,QwN,Hy,QzL,mK,mO,oJ,Bool.not_true,qI,Bool.false_eq_true,if_false,yp,gU,dU,Hv,Hu,m_c,yo,iJ,lC,jK,zg,zV,yt,if_pos b,gQ,QAN,zv d.1,zv d.2,QAD,if_true,qO,oK,HQ h.asc,yq,if_pos hs,show d8 1 [] _=[none] from rfl,j,jL,x];rfl
theorem MK{α:Type}{g:MG}{t:L2.M Bool}{m:L2.M D}(d:aR->Prop)(f h:α->D)(xs:List α)(O:au)(n:Nat)(j:O[n]?=some (.ml (xs.map f)))
  (hs:∀x∈xs,∀ρ,d ρ->∃ρ1,g (f x) ρ=some ρ1/\d ρ1/\t ρ1 O=.ok true O/\m ρ1 O=.ok (h x) O):∀(k:Nat) (ρ:aR) (b:List D),k<=xs.length->d ρ->iI n xs.length g t m k ρ O b=.ok (b++(xs.drop (xs.length - k)).map h) O
 | 0,ρ,b,_,_=>by
  unfold iI;rw[j];dsimp only;rw[if_pos (zf _),Nat.sub_zero,List.drop_length,zV,zJ]
 |k+1,ρ,b,hk,hp=>by
  have q:xs.length - (k+1)<xs.length:=by omega
  unfold iI;rw[j]
  dsimp
  rw[zF,zy]
  dsimp
  obtain⟨ρ1,C,h1,y,u⟩:=hs _ (jh _) ρ hp;rw[C]
  dsimp
  rw[y]
  dsimp
  rw[u]
  dsimp
  rw[MK d f h xs O n j hs k _ _ (by omega) h1,zD,List.drop_eq_getElem_cons q,show xs.length - (k+1)+1=xs.length - k by omega];rfl
def Qtj{α:Type}{mi:L2.M D}{own:Nat}     (b:aR->Prop)(f h:α->D)(xs:List α)    (q:mi ρ O=.ok (.ob n) O)(d:O[n]?=some (.ml (xs.map f)))(j:xs.length<=1000000)(h0:b (d8 own cap ρ))
  (hs:∀x∈xs,∀ρ,b ρ->∃ρ1,g (f x) ρ=some ρ1/\b ρ1/\t ρ1 O=.ok true O/\m ρ1 O=.ok (h x) O):qy mi own cap g t m ρ O=.ok (.lst (xs.map h)) O:=by
 unfold qy;rw[q,aW];dsimp only;rw[d];dsimp only;rw[if_pos (by rw[zf];exact j),zf,MK b f h xs O n d hs _ _ [] (zc _) h0,aW,Nat.sub_self,List.drop_zero,zO]
def sgl:List Nat:=[32,33,34,35,36]++List.range' 38 88
structure Tok(l:List Nat):Prop where
 len:l.length<=9
 ok:∀c∈l,(32<=c/\c<=125)\/c=10\/c=9
def pK:List Nat:=[97,98,99,100,101,102,103,104,46]
def TR(r:MS)(ρ:aR):Prop:=∃l,Tok l/\∀O,r ρ O=.rt (.str l) O
def Tk(m:L2.M D)(ρ:aR):Prop:=∃l,Tok l/\∀O,m ρ O=.ok (.str l) O
def sqk(h:∀O,s ρ O=.nx ρ' O)(h2:TR r ρ'):TR (aq s r) ρ:=let ⟨l,k,e⟩:=h2;⟨l,k,λO=>(sq (h O)).trans (e O)⟩
def trR(h:Tk e ρ):TR (aC e) ρ:=let ⟨l,k,e⟩:=h;⟨l,k,λO=>fD (e O)⟩
def tkc(h:∀O,T ρ O=.ok b O)(h1:Tk e ρ)(h2:TR r ρ):TR (aq (aD T (aC e) aK) r) ρ:=by
 cases b with
 |true=>exact let ⟨l,k,e⟩:=h1;⟨l,k,λO=>by rw[cX,cT (h O),fD (e O)];rfl⟩
 |false=>exact sqk (λO=>cC (h O)) h2
def tkS  (f:∀O,m ρ O=.ok (.str l) O)(hv:∀O,aa 3 ρ O=.ok (.int v) O)(d:∀c∈l,32<=c/\c<=125)(h:(l.length:Int)=n)(b:0<n)(j:n<=1000000):Tk (ak gIx m (ak bj (aa 3) (mC (.int n)))) ρ :=
 let ⟨c,hc,e⟩:=ixS (by omega) h b
 ⟨[c],⟨by simp,by simp[d c hc]⟩,λO=>aM (f O) (cg (hv O) rfl b) e⟩
def tkL  (C:32<=c/\c<=125)(W:List (List Nat))(q:∀O,m ρ O=.ok (.lst (W.map λw=>.str (w.map λx=>if x=0 then c else x))) O)(hv:∀O,aa 3 ρ O=.ok (.int v) O)(j:∀w∈W,w.length<=9/\∀x∈w,x=0\/(32<=x/\x<=125)\/x=10\/x=9)(h:(W.length:Int)=n)(b:0<n):Tk (ak gIx m (ak bj (aa 3) (mC (.int n)))) ρ:=by
 obtain⟨d,hd,e⟩:=ixL (l:=W.map λw=>.str _) (by rw[zf];exact h) b;obtain⟨w,f,rfl⟩:=zw.mp hd;refine⟨w.map _,⟨by rw[zf];exact(j w f).1,λy u=>?_⟩,λO=>aM (q O) (cg (hv O) rfl b) e⟩
 grind
def Ci(n:Int):∃l,Tok l/\∀O,vp [.int n] O=.ok (.str l) O:=by
 obtain⟨c,f,j⟩:=ixS (l:=pK) (v:=mix n 2) (n:=9) (by decide) (by decide) (by decide)
 have b:32<=c/\c<=125:=by
  have:∀c∈pK,32<=c/\c<=125:=by decide
  exact this c f
 have d:∀{k:Int}{ρ:aR}{O:au},0<=k->k<=1000000->aB bN (aj (aa 0) (aj (mC (.int k)) ao)) (some (.int n)::ρ) O=.ok (.int (mix n k)) O:=dz rfl rfl
 suffices h:TR Aj _ from let ⟨l,k,e⟩:=h;⟨l,k,λO=>congrArg bw (e O)⟩
 unfold Aj;refine sqk (λO=>bc (aM rfl (cg (d (by decide) (by decide)) rfl (by decide)) j)) (sqk (λO=>bc (cg (d (by decide) (by decide)) rfl (by decide))) (sqk (λO=>bc (d (by decide) (by decide))) (sqk (λO=>bc rfl) (sqk (λO=>bc rfl) (sqk (λO=>rM rfl rfl (by simp)) ?_)))));refine tkc (λ_=>rfl) (tkS (l:=sgl) (λ_=>rfl) (λ_=>rfl) (by decide) rfl (by decide) (by decide)) (tkc (λ_=>rfl) (tkS (λ_=>rfl) (λ_=>rfl) (by decide) rfl (by decide) (by decide)) (tkc (λ_=>rfl) ⟨[91,c,93],⟨by simp,by simp[b]⟩,λ_=>rfl⟩ (tkc (λ_=>rfl) ⟨[91,47,c,93],⟨by simp,by simp[b]⟩,λ_=>rfl⟩ (tkc (λ_=>rfl) (tkL b [[91,93],[91,91],[91,93,93],[91,91,93]] (λ_=>rfl) (λ_=>rfl) (by decide) rfl (by decide)) (tkc (λ_=>rfl) (tkL b [[10],[9],[10]] (λ_=>rfl) (λ_=>rfl) (by decide) rfl (by decide)) (tkc (λ_=>rfl) ⟨[c],⟨by simp,by simp[b]⟩,λ_=>rfl⟩ (tkc (λ_=>rfl) ?_ (trR (tkL b [[91],[91,47],[91,0],[91,47,0],[91,105,93],[91,47,93],[91,0,0,93],[91,65,93],[91,47,105,93],[91,91,91],[91,47,91],[91,0,91],[91,47,0,47,93],[91,47,47,0,93],[91,0,10],[93],[47],[91,47,0,9,93]] (λ_=>rfl) (λ_=>rfl) (by decide) rfl (by decide))))))))))
 refine⟨cA _ none (some (2+mix n 1 % 8)),⟨?_,λx hx=>?_⟩,λO=>rZ rfl rfl (pI (m9 rfl (cg rfl rfl (by decide)))) (by decide)⟩
 ·unfold cA;simp;omega
 ·have q:∀x∈[111,117,116,119,101,97,118,101,115],32<=x/\x<=125:=by decide
  exact .inl (q x (List.mem_of_mem_drop (List.mem_of_mem_take hx)))
noncomputable def tok(n:Int):List Nat:=(Ci n).choose
def Qzw(n:Int):Tok (tok n):=(Ci n).choose_spec.1
def Qyj(n:Int)(O:au):vp [.int n] O=.ok (.str (tok n)) O:=(Ci n).choose_spec.2 O
def MN(ns:List Int)(O:au):∃v,oZ [.lst (ns.map D.int),.int 0] O=.ok (.int v) O:=by
 cases ns with
 |nil=>exact⟨0,by simp[oZ,Ai]⟩
 |cons n ns =>
  have b:gIx (.lst (D.int n::ns.map D.int)) (.int 0)=some (.int n):=by
   have:=mR (xs:=D.int n::ns.map D.int) (j:=0)
   exact this
  simp[oZ,Ai,b]
def bSh:MS:=(aD (az (ak gEq (aa 4) (mC (.str [115,105,103,110])))) (cW 1 (aX (aj (aa 5) (aj (ak gIx (aV (aj (ak gIx (aa 2) (mC (.int 0))) (aj (mC (.str [46])) ao))) (aJ fV (aj (ak gEq (aa 5) (mC (.str [32]))) ao))) (aj (ak gIx (aa 2) (mC (.int 1))) ao))))) (aD (az (ak gEq (aa 4) (mC (.str [105,110,107])))) (iD 2 (mC (.int 0)) (aa 5)) (aD (az (ak gEq (aa 4) (mC (.str [103,114,111,117,110,100])))) (iD 2 (mC (.int 1)) (aa 5)) (aD (az (ak gEq (aa 4) (mC (.str [112,108,97,105,110])))) (aA 2 (aV (aj (mC (.str [46])) (aj (mC (.str [46])) ao)))) (aC (mG (mC .non)))))))
def gSh:MG:=(dg 3 (bF (mgN 3) (bF (mgN 4) (bF (mgN 5) dC))))
def eS(T:List Nat)(b:List D)(p:Nat×Nat)(j f d:Option D):aR:=[some (.str T),some (.lst b),some (.lst [st p.1,st p.2]),j,f,d]
def MP     (d:a ρ O=.ok (st i) O)(hb:b ρ O=.ok (st c) O):ak gIx (aV (aj a (aj (mC (.str [46])) ao))) (aJ fV (aj (ak gEq b (mC (.str [32]))) ao)) ρ O=.ok (st (if c=32 then 46 else i)) O:=by
 refine aM (Az (maS d (ma1 rfl)) (by show 2<=_;decide)) (eU (ma1 (aM hb rfl rfl)) rfl) ?_
 by_cases e:c=32
 ·rw[e];rfl
 ·rw[if_neg e,zl λz=>e (List.singleton_inj.mp z)];rfl
def Rg(T:List Nat)(O:au)(F:List D)(t:List Nat)(p:Nat×Nat)(b:List D):Prop:=∀(k:Int) (u q m:Option D),∃j f d,bB gSh bSh (items k t) (eS T b p u q m) O=.nx (eS T F (46,46) j f d) O
def sr   (h1:one c r=(k,v,n))(hb:∀x:Option D,bSh (eS T u p x (some (.str k)) (some (.str v))) O=.nx (eS T acc' y x (some (.str k)) (some (.str v))) O)(h:Rg T O F (r.drop n) y acc'):Rg T O F (c::r) p u:=λi q m j=>by
 obtain⟨f,d,b,e⟩:=h _ _ _ _;refine⟨f,d,b,?_⟩;rw[oO,h1];exact(iR rfl (hb _)).trans e
def Qw3(h:col c=true):one 91 (c::93::r)=(eG,[c],2):=by
 have q:=mV h;show(if c=93 then _ else if c=91 then _ else if col c=true then gG c _ else _)=_;rw[if_neg q.2.1,if_neg q.1,if_pos h];rfl
def QqJ(h:col c=true):one 91 (47::c::93::r)=(fc,[c],3):=by
 show(if col c=true then fj c _ else _)=_;rw[if_pos h];rfl
def MT  (h:col c=true)(k:Rg T O F t (c,j) b):Rg T O F (mi p c++t) (p.1,j) b:=by
 unfold mi
 by_cases e:p.1=c
 ·rw[if_pos e,e];exact k
 ·rw[if_neg e];exact sr (Qw3 h) (λ_=>rfl) k
def M4  (h:col c=true)(k:Rg T O F t (j,c) b):Rg T O F (mg' p c++t) (j,p.2) b:=by
 unfold mg'
 by_cases e:p.2=c
 ·rw[if_pos e,e];exact k
 ·rw[if_neg e];exact sr (QqJ h) (λ_=>rfl) k
def M5(h1:col b.1=true)(h2:col b.2=true)(k:Rg T O F t b d):Rg T O F (mb p b++t) p d:=by
 unfold mb
 split
 ·unfold mbA;rw[zD];exact sr rfl (λ_=>rfl) (MT h1 (M4 h2 k))
 ·unfold mbS;rw[zD];exact MT h1 (M4 h2 k)
def QyB(h:c≠9/\c≠10)(d:f.length<1000000)(k:Rg T O F t p (f++[dK (c,if c=32 then 46 else p.1,p.2)])):Rg T O F (sgn c++t) p f:=by
 have b:∀x ,bSh (eS T _ p x (some (.str bG)) (some (.str [c]))) O=.nx _ O:=λx=>(cT rfl).trans (rM (rK (maS rfl (maS (MP rfl rfl) (ma1 rfl))) (by show 3<=_;decide)) rfl d)
 unfold sgn
 by_cases e:c=91
 ·rw[if_pos e];rw[e] at b k;exact sr rfl b k
 ·rw[if_neg e];exact sr (show one c t=(bG,[c],0) by unfold one;rw[if_neg (by omega),if_neg (by omega),if_neg e]) b k
structure LkR(l:List L3)(cs:List Nat):Prop where
 lo:∀x∈l,(x.1<=125/\x.1≠9/\x.1≠10)/\(x.1=32->x.2.1=46)
 cc:∀c∈cs,col c=true
 li:∀x∈l,col x.2.1=true
 lg:∀x∈l,col x.2.2=true
def QvY   (h:LkR l j)   (b:n∈nds l j a):col n.2.1=true/\col n.2.2=true:=by
 unfold nds at b;split at b
 ·rw[zj.mp b];exact⟨rfl,rfl⟩
 ·split at b
  ·rename_i x hx;have d:=zL hx;split at b
   ·obtain⟨c,f,rfl⟩:=zw.mp b;exact⟨h.cc c f,h.lg x d⟩
   ·rw[zj.mp b];exact⟨h.li x d,h.lg x d⟩
  ·cases b
def vW  (h:col c=true):c<128:=by
 have :=zW h
 have q:∀c∈[97,98,99,100,101,102,103,104,46],c<128:=by decide
 exact q c this
def QBh(p:Nat×Nat)  (h1:col q.1=true)(h2:col q.2=true):∀x∈mb p q,x<128:=by
 have a:=vW h1;have b:=vW h2
 have i:∀p ,∀x∈mi p q.1,x<128:=λp x hx=>by unfold mi at hx;split at hx<;>simp at hx;omega
 have g:∀p ,∀x∈mg' p q.2,x<128:=λp x hx=>by unfold mg' at hx;split at hx<;>simp at hx;omega
 intro x hx;unfold mb mbA mbS at hx;split at hx
 ·rw[zt,zt] at hx
  rcases hx with(hx | hx) | hx
  ·simp at hx;omega
  ·exact i _ x hx
  ·exact g _ x hx
 ·exact(zt.mp hx).elim (i _ x) (g _ x)
theorem Cj  {O:au}{l:List L3}{G:List Nat}(h:LkR l G)(u:l.length<=250){ps:Tb}:∀(ms:List M3) (a:Nat) (n:Nd) (d:List D),a<=l.length+1->n∈nds l G a->Wy ps (lmv l G) (pA l) n ms->d.length<=a->Rg T O (d++(l.drop a).map dK) (txt ms) n.2 d/\∀x∈txt ms,x<128
 | [],a,n,d,ha,hn,w,_=>by
  have h1:=lN hn;have R :=zW w
  have e:a=l.length+1:=by omega
  unfold nds at hn;rw[if_pos (.inr e)] at hn;rw[zj.mp hn,List.drop_eq_nil_of_le (by omega),zV,zJ];exact⟨λk X W U=>⟨X,W,U,by show bB gSh bSh (items k []) _ _=_;rw[jR];rfl⟩,λx hx=>(nomatch hx)⟩
 |m::ms,a,n,d,ha,hn,⟨R,hm,_,w⟩,hac=>by
  have h1:=lN hn;have L :=of_decide_eq_false R;unfold lmv at hm;rw[if_neg L] at hm;obtain⟨b,j,rfl⟩:=zw.mp hm
  have P:n.1.toNat=a:=by omega
  rw[P] at j;obtain⟨J,I⟩:=QvY h j;have Q:=QBh n.2 J I;rw[Bs];rw[P,zD]
  by_cases E:a<l.length
  ·have hx :=zy E;have ok:=h.lo _ (jh E);have hd :=List.drop_eq_getElem_cons E
   generalize l[a]=x at hx ok hd
   have F:sg l a=sgn x.1:=by unfold sg;rw[hx]
   obtain⟨q,C⟩:=Cj h u ms _ b (d++[dK x]) (by omega) j w (by rw[ze];show _+1<=_;omega)
   have Y:(x.1,if x.1=32 then 46 else b.2.1,b.2.2)=x:=by
    unfold nds at j;rw[if_neg (by omega),Nat.add_sub_cancel,hx] at j;dsimp only at j
    by_cases h3:x.1=32
    ·rw[if_pos h3] at j;obtain⟨c,_,rfl⟩:=zw.mp j;rw[if_pos h3,<-ok.2 h3]
    ·rw[if_neg h3] at j;rw[zj.mp j,if_neg h3]
   rw[F,hd];rw[zD] at q;refine⟨M5 J I (QyB ok.1.2 (by omega) (by rw[Y];exact q)),λy f=>?_⟩
   rcases zt.mp f with f | f
   ·exact Q y f
   ·rcases zt.mp f with f | f
    ·unfold sgn at f
     split at f<;>simp at f<;>omega
    ·exact C y f
  ·obtain⟨q,C⟩:=Cj h u ms _ b d (by omega) j w (by omega)
   have F:sg l a=[]:=by unfold sg;rw[jp (by omega)]
   rw[List.drop_eq_nil_of_le (by omega)] at q;rw[F,List.drop_eq_nil_of_le (by omega)];exact⟨M5 J I q,λy f=>(zt.mp f).elim (Q y) (C y)⟩
def okS  (h:∀d∈L,∃t,d=.str t/\∀c∈t,c<1114112):okE (.lst L)=true:=uG (n:=5) (by decide) λd hd=>by
 obtain⟨t,rfl,b⟩:=h d hd;exact⟨rfl,oN b,by show PyData.depth (.str _)<=5;simp[PyData.depth]⟩
def M6  (h:okE (.lst L)=true):gNe (.lst L) (.lst L)=some (.bl false):=by
 rw[yr,h,Ih h];rfl
def M7  (h:okE (.lst L)=true):gEq (.lst L) (.lst L)=some (.bl true):=by
 rw[HW,h,Bool.and_self,if_pos rfl,Ih h]
def QvK    (b:T.length<=5000)(h:Rg T O F T (46,46) []):vA [.str T] O=.ok (.lst F) O:=by
 obtain⟨m,j,f,e⟩:=h 0 _ _ _;refine cR ?_;exact(aQ (bc rfl)).trans ((aQ (bc rfl)).trans ((aQ (iT (eV ((bz (ma1 rfl)).trans (Lx T b O))) e)).trans ((aQ (lM (bU (aM rfl rfl (M6 (okS λd hd=>⟨[46],by simpa [st] using hd⟩)))))).trans rfl)))
def l3(x:LT):L3:=(x.1,if x.1=32 then 46 else x.2.1,x.2.2.1)
def QBp(c i:Nat)(O:au):yQ [.str [c],.str [i]] O=.ok (.str [if c=32 then 46 else i]) O:=by
 show bw _=_;unfold JG;rw[dU,jN,BZ rfl rfl,aW]
 by_cases h:c=32
 ·subst h;rfl
 ·rw[if_neg (by simp[h]),if_neg h];rfl
def QyC   {r:List LT}(h:O[n]?=some (.ml (r.map dL)))(b:r.length<=1000):u0 [.ob n] O=.ok (.lst ((r.map l3).map dK)) O:=by
 refine cR ?_;rw[zQ];refine fD (Qtj (λρ=>∃a,ρ=[a]) dL _ r rfl h (by omega) ⟨_,rfl⟩ ?_);rintro x hx ρ ⟨a,rfl⟩;exact⟨_,rfl,⟨_,rfl⟩,rfl,rK (maS rfl (maS ((bz (maS rfl (ma1 rfl))).trans (QBp _ _ _)) (ma1 rfl))) (by simp)⟩
def QyE  (h:col c=true):c∈pK:=zW h
structure SH(r:List LT)(T:List Nat):Prop where
 l:T.length<=5000
 c:∀x∈T,x<1114112
 s:∀O,∃O',oY [.lst ((r.map l3).map dK)] O=.ok (.str T) O'/\Kp O O'
 w:∀O,vA [.str T] O=.ok (.lst ((r.map l3).map dK)) O
def QC8  (E:r.length<=200)(f:∀x∈r,OkL x):∃T,SH r T:=by
 have j:∀x∈r.map l3,x.2.1∈pK:=λx hx=>by
  obtain⟨y,b,rfl⟩:=zw.mp hx;show(if y.1=32 then 46 else y.2.1)∈pK
  split
  ·decide
  ·exact QyE (f y b).2.1
 have cc:=Qzh _ 1 _ (λx=>.inl ⟨rfl,rfl⟩) (by rw[zf];omega) (by decide) (by decide) j
 have u:∀c∈46::(r.map l3).map λx=>x.2.1,c∈pK:=λc hx=>by
  rcases zk.mp hx with rfl | hx
  ·decide
  ·obtain⟨y,b,rfl⟩:=zw.mp hx;exact j y b
 have ll:(r.map l3).length<=250:=by rw[zf];omega
 have K:LkT _ _:=⟨ll,zI (QtV u) (by decide),Kg _,λz=>by
  have:=(Be (46::(r.map l3).map λx=>x.2.1) 46).mpr zd
  rw[z] at this
  cases this⟩
 obtain⟨d,C,q,hs⟩:=QtQ K cc
 have R:LkR _ _:=⟨λx hx=>by
  obtain⟨y,b,rfl⟩:=zw.mp hx
  exact⟨(f y b).1,λz=>if_pos z⟩,λc h=>zv (u c ((Be _ c).mp h)),λx hx=>zv (j x hx),λx hx=>by
  obtain⟨y,b,rfl⟩:=zw.mp hx
  exact(f y b).2.2⟩
 have h0:=(vM 0 K.ll K.cl K.cn).f0;have len:=Bt d 0 _ (Nat.zero_le _) h0 q
 have m:=λT O=>Cj (T:=T) (O:=O) R ll d 0 _ [] (Nat.zero_le _) h0 q (zc _)
 exact⟨txt d,by omega,λx hx=>zH ((m [] []).2 x hx) (by decide),hs,λO=>QvK (by omega) (m _ O).1⟩
open Classical in
noncomputable def shT(r:List LT):List Nat:=if h:∃T,SH r T then h.choose else[]
def Ck  (d:r.length<=200)(b:∀x∈r,OkL x):SH r (shT r):=by
 unfold shT;rw[dif_pos];exact(QC8 d b).choose_spec
def pM(k:Nat):List Nat:=(Nat.toDigits 10 k).map Char.toNat
def QA1(k:Nat):∀c∈pM k,c<1114112:=λc b=>by
 obtain⟨x,_,rfl⟩:=zw.mp b
 rcases x.valid with h | h
 ·exact zH h (by decide)
 ·exact h.2
def Cm  (h:k<=100000):(pM k).length<=6:=by
 unfold pM;rw[zf];exact(Nat.length_toDigits_le_iff (by decide) (by decide)).mpr (by omega)
def M8     (b:m ρ O=.ok (.int (k:Int)) O)(d:k<=100000):aJ mD (aj m ao) ρ O=.ok (.str (pM k)) O:=eU (ma1 b) (by
 show mD [.int _]=_;unfold mD
 dsimp
 rw[if_pos (by omega)]
 rfl)
def ahT(b:Bool)(k:Nat):List Nat:=if b=true then pM k++[32] else[]
def hdT(N:List (List Nat))(nm W:List Nat):List Nat:=pad (wd N) nm++[if W=kW then 124 else 62]
noncomputable def lQ(b:Bool)(N:List (List Nat))(nm:List Nat)(k:Nat)(x:Du):List Nat:=(ahT b k++hdT N nm x.2)++shT x.1
noncomputable def cj(b:Bool)(N:List (List Nat))(nm:List Nat):Nat->List Du->List D
 | _,[]=>[]
 |k,x::l=>.str (lQ b N nm (k+1) x)::cj b N nm (k+1) l
theorem M9    :∀{k:Nat}{l:List Du},cj b N nm k (l++m)=cj b N nm k l++cj b N nm (k+l.length) m
 | _,[]=>rfl
 |k,x::l=>by
  show D.str _::cj b N nm _ (l++m)=D.str _::(cj b N nm _ l++_);rw[M9,zA,show k+1+l.length=k+(l.length+1) by omega]
theorem ir   :∀{k:Nat}{l:List Du},(cj b N nm k l).length=l.length
 | _,[]=>rfl
 |k,x::l=>congrArg _ ir
def Nb   (h:k<=100000):(ahT b k).length<=7:=by
 have:=Cm h
 unfold ahT
 split
 ·rw[ze];show _+1<=_;omega
 ·exact Nat.zero_le _
def QxA(b:Bool){k:Nat}(h:k<=100000)(O:au):vg [.int (k:Int),.bl b] O=.ok (.str (ahT b k)) O:=by
 have:=Cm h
 refine cR ?_;refine fD ?_;rw[jN,show bx _ _ O=.ok b O from rfl,aW]
 cases b with
 |true=>exact(if_pos rfl).trans (cZ (M8 rfl h) rfl (by show _+1<=_;omega))
 |false=>exact if_neg zx
def su(b:Bool)(N:List (List Nat))(d hs:Nat):Ob:=.ins "Roll" [("names",dNm N),("numbered",.bl b),("rows",.ob d),("hands",.ob hs)]
def bAr:MS:=(aq (aA 5 (aB vg (aj (ak aF (ak aF (aJ aP (aj (bu ["Roll"] "rows" (aa 0)) ao)) (aJ aP (aj (aa 3) ao))) (mC (.int 1))) (aj (bu ["Roll"] "numbered" (aa 0)) ao))))
  (cW 3 (ak aF (ak aF (aa 5) (aB vh (aj (aa 1) (aj (bu ["Roll"] "names" (aa 0)) (aj (ak gIx (aa 4) (mC (.int 1))) ao))))) (aB oY (aj (aB u0 (aj (ak gIx (aa 4) (mC (.int 0))) ao)) ao)))))
theorem Nf  {N:List (List Nat)}(hN:Nms N){nm:List Nat}(I:nm∈N){F L hs:Nat}{R:List D}(a2:Option D):∀(T:List D) (Ds:List Du) (O:au) (f:List D) (E C:Option D),O[F]?=some (su b N L hs)->O[L]?=some (.ml R)->TE O T Ds->(∀x∈Ds,x.1.length<=200)->R.length+f.length+T.length<100000 ->
  ∃O' q j,bB (mgN 4) bAr T [some (.ob F),some (.str nm),a2,some (.lst f),E,C] O=.nx [some (.ob F),some (.str nm),a2,some (.lst (f++cj b N nm (R.length+f.length) Ds)),q,j] O'/\Kp O O'
 | [],[],O,f,E,C,_,_,_,_,_=>⟨O,E,C,by rw[cj,zJ];rfl,λ_ _ h=>h⟩
 |d::T,x::Ds,O,f,E,C,hr,hR,⟨⟨n,e,W⟩,hk,ht⟩,hb,ha=>by
  subst e;rw[zA] at ha;have h2:=hb x zd;have J:=Ck h2 hk.1;obtain⟨X,Q,u⟩:=J.s O;have w:=wd8 hN;have Y:=Cd I;have Z:=Nb (b:=b) (k:=R.length+f.length+1)
  have hl':(hdT N nm x.2).length<=9:=by unfold hdT;rw[ze];show _+1<=_;omega
  have sl:=J.l;obtain⟨O',q,j,P,U⟩:=Nf hN I a2 T Ds X (f++[.str _]) _ _ (u _ _ hr) (u _ _ hR) (TE.fr u.fr (λ_ _ _ z=>nomatch z) ht) (λy G=>hb y (zp _ G)) (by rw[ze,zR];omega);rw[ze,zD] at P;refine⟨O',q,j,(iR rfl ?_).trans P,λm y G=>U m y (u m y G)⟩;refine(aQ (bc ((bz (maS (add_n (b:=1) (add_n (eU (ma1 (dX rfl hr zd rfl)) (by show aP [aY O _]=_;rw[iU hR];rfl)) (m8 rfl)) rfl) (ma1 (dX rfl hr zd rfl)))).trans (QxA b (by omega) O)))).trans ?_;rw[uI,nj (cZ rfl ((bz (maS rfl (maS (dX rfl hr zd rfl) (ma1 rfl)))).trans (QyP hN I _ O)) (by show _+(hdT N nm _).length<=_;omega)) ((bz (ma1 ((bz (ma1 rfl)).trans (QyC W (by omega))))).trans Q) (by exact if_pos (by rw[ze];show _+(hdT N nm x.2).length+_<=_;omega))]
  exact uJ rfl (by omega)
 | [],_::_,_,_,_,_,_,_,h,_,_=>h.elim
 | _::_,[],_,_,_,_,_,_,h,_,_=>h.elim
def QyU      (h1:mo ρ O=.ok (.ob n) O)(h2:O[n]?=some (.ml ds))(h3:m ρ O=.ok (.lst es) O)(h4:ds.length+es.length<=1000000):qx mo m ρ O=.nx ρ (O.set n (.ml (ds++es))):=by
 unfold qx;simp_all
def Ng   (hN:Nms N)  (q:nm∈N)     (f:O[G]?=some (su b N F hs))(j:O[F]?=some (.ml R))(te:TE O T Ds)(hb:∀x∈Ds,x.1.length<=200)(E:R.length+T.length<100000):
  ∃O',vo [.ob G,.str nm,.lst T] O=.ok (.lst (cj b N nm R.length Ds)) O'/\O'[F]?=some (.ml (R++cj b N nm R.length Ds))/\Fr O O' [F]:=by
 obtain⟨u,C,y,m,d⟩:=Nf hN q _ T Ds O [] _ _ f j te hb (by omega);have h1:=d _ _ j;refine⟨u.set F _,cR ?_,gs h1,d.fr.trans Fr.set (by simp) (by simp)⟩;refine(aQ (bc rfl)).trans ((aQ (iT (eV rfl) m)).trans ?_);exact(aQ (QyU (dX rfl (d _ _ f) zd rfl) h1 rfl (by rw[ir,<-te.len];omega))).trans rfl
def pN(p:Key×D)(r:List (Key×D))(k:Key):cH (p::r) k=if p.1=k then some p.2 else cH r k:=by
 unfold cH
 grind
theorem Cq :∀b:List (Key×D),(b.any λp=>decide (p.1=k))=false->cH b k=none
 | [],_=>rfl
 |p::r,h=>by
  rw[List.any_cons,Bool.or_eq_false_iff] at h;rw[pN,if_neg (of_decide_eq_false h.1)];exact Cq r h.2
theorem Cr  :∀b:List (Key×D),(b.any λp=>decide (p.1=k))=true->cH (b.map λp=>if p.1=k then(p.1,d) else p) k'=if k'=k then some d else cH b k'
 | [],h=>absurd h zx
 |p::r,h=>by
  rw[zg,pN,pN]
  by_cases h1:p.1=k
  ·rw[if_pos h1]
   by_cases h2:k'=k
   ·grind
   ·have h3:¬p.1=k':=λz=>h2 (by rw[<-z,h1])
    rw[if_neg h2,if_neg h3,if_neg h3]
    cases hr:r.any _ with
    |true=>rw[Cr r hr,if_neg h2]
    |false =>
     rw[show r.map _=r from ?_];exact(jj λq f=>if_neg (of_decide_eq_false (List.any_eq_false.mp hr q f |> λz=>by simpa using z))).trans (List.map_id _)
  ·rw[List.any_cons,zl h1] at h;rw[Cr r h]
   grind
theorem Nh  :∀b:List (Key×D),cH (b++[(k,d)]) k'=match cH b k' with
  |some x=>some x
  |none=>if k'=k then some d else none
 | []=>by
  rw[zO,pN]
  by_cases h:k'=k
  ·rw[if_pos h.symm];exact(if_pos h).symm
  grind
 |p::r=>by
  rw[List.cons_append,pN,pN,Nh]
  grind
def Cu(b:List (Key×D))(k f:Key)(d:D):cH (dq b k d) f=if f=k then some d else cH b f:=by
 unfold dq
 cases h:b.any _ with
 |true=>rw[if_pos rfl,Cr _ h]
 |false =>
  rw[if_neg zx,Nh]
  by_cases h1:f=k
  ·subst h1;rw[Cq _ h]
  grind
def Ni(b:List (Key×D))(k:Key)(d:D):(dq b k d).length<=b.length+1:=by
 unfold dq
 grind
def vX        (f:mo ρ O=.ok (.ob n) O)(b:my ρ O=.ok y O)(j:keyOf y=some k)(m:O[n]?=some (.dk q))(hv:cH q k=some d):gO mo my ρ O=.ok d O:=by
 unfold gO;simp_all
def Nj        (hv:x ρ O=.ok d O1)(f:mo ρ O1=.ok (.ob n) O1)(b:my ρ O1=.ok y O1)(m:keyOf y=some k)(q:O1[n]?=some (.dk u))(j:u.length<1000000):lu mo my x ρ O=.nx ρ (O1.set n (.dk (dq u k d))):=by
 unfold lu
 grind
structure Ix where
 hd:Nat
 rd:Nat
 mr:Nat
 n:Nat
def kyN(n:List Nat):Key:=.inr (S n)
def Cv  (h:kyN a=kyN b):a=b:=by
 have:=congrArg (λx =>x.cps.toList) (Sum.inr.inj h)
 simpa [km]
def HX(O:au)(M:Int)(i:Ix)(nm t:List Nat)(c:Bool):Prop:=if c=true then HnC O M i.hd i.rd i.mr i.n nm else HnA O M i.hd i.rd i.mr i.n nm t
def HX.ex{O:au}{M:Int}{i:Ix}{nm t:List Nat}{c:Bool}(h:HX O M i nm t c):(∃c,O[i.hd]?=some (lO nm i.rd i.mr c))/\(∃h p,O[i.rd]?=some (RO h p))/\∃f s,MkA O i.mr i.n M f s:=by
 unfold HX at h;split at h
 ·obtain⟨a,⟨p,b⟩,f,d⟩:=h;exact⟨⟨_,a⟩,⟨_,p,b⟩,f,_,d⟩
 ·exact⟨⟨_,h.1⟩,⟨_,_,h.2.1⟩,_,_,h.2.2⟩
def HX.fr{O O':au}{M:Int}{i:Ix}{nm t:List Nat}{c:Bool}{S:List Nat}(h:HX O M i nm t c)(f:Fr O O' S)(h1:i.hd∉S)(h2:i.rd∉S)(h3:i.mr∉S)(h4:i.n∉S):HX O' M i nm t c:=by
 unfold HX at *
 by_cases e:c=true
 ·rw[if_pos e] at h ⊢;obtain⟨a,⟨p,b⟩,j,d⟩:=h;exact⟨f _ _ h1 a,⟨p,f _ _ h2 b⟩,j,d.fr f h3 h4⟩
 ·rw[if_neg e] at h ⊢;exact⟨f _ _ h1 h.1,f _ _ h2 h.2.1,h.2.2.fr f h3 h4⟩
def up{α:Type}(f:List Nat->α)(a:List Nat)(v:α):List Nat->α:=λn=>if n=a then v else f n
def dR    :up f a v a=v:=if_pos rfl
def cU  {f:List Nat->α}  {v:α}(h:n≠a):up f a v n=f n:=if_neg h
structure RW(O:au)(M:Int)(N G:List (List Nat))(ro rl hs:Nat)(q:List Nat->Ix)(tt:List Nat->List Nat)(cl:List Nat->Bool)(bn:Bool)(K:List D):Prop where
 r:O[ro]?=some (su bn G rl hs)
 rows:O[rl]?=some (.ml K)
 hs:∃kv,O[hs]?=some (.dk kv)/\kv.length<=N.length/\∀n∈N,cH kv (kyN n)=some (.ob (q n).hd)
 hx:∀n∈N,HX O M (q n) n (tt n) (cl n)
 ne:∀a∈N,∀b∈N,a≠b->(q a).hd≠(q b).hd/\(q a).rd≠(q b).rd/\(q a).mr≠(q b).mr/\(q a).n≠(q b).n
 nl:∀a∈N,(q a).n≠rl
def RW.kp{O O':au}{M:Int}{N G:List (List Nat)}{d f hs:Nat}{bn:Bool}{K:List D}{q:List Nat->Ix}{b:List Nat->List Nat}{cl:List Nat->Bool}(w:RW O M N G d f hs q b cl bn K)(k:Kp O O'):RW O' M N G d f hs q b cl bn K:=by
 have l1:=w.rows;obtain⟨j,x,y,u⟩:=w.hs;exact⟨k _ _ w.r,k _ _ l1,⟨j,k _ _ x,y,u⟩,λn m=>(w.hx n m).fr k.fr (λz=>nomatch z) (λz=>nomatch z) (λz=>nomatch z) (λz=>nomatch z),w.ne,w.nl⟩
def RW.turn{O O':au}{M:Int}{N G:List (List Nat)}{ro E hs:Nat}{bn:Bool}{K K':List D}{q:List Nat->Ix}{tt:List Nat->List Nat}{cl:List Nat->Bool}(w:RW O M N G ro E hs q tt cl bn K){a t':List Nat}(Q:a∈N){c':Bool}{n':Nat}
  (hx:HX O' M ⟨(q a).hd,(q a).rd,(q a).mr,n'⟩ a t' c') (nw:Nw O (q a).n n') (hl:O'[E]?=some (.ml K')) (f:Fr O O' [(q a).hd,(q a).rd,(q a).mr,(q a).n,E]):
  RW O' M N G ro E hs (up q a ⟨(q a).hd,(q a).rd,(q a).mr,n'⟩) (up tt a t') (up cl a c') bn K':=by
 have l1:=w.rows;obtain⟨kv,I,d0,d2⟩:=w.hs;obtain⟨⟨c0,L⟩,⟨h0,p0,J⟩,lw0,s0',x⟩:=(w.hx a Q).ex
 have j:∀{m:Nat},m≠(q a).hd->m≠(q a).rd->m≠(q a).mr->m≠(q a).n->m≠E->m∉[(q a).hd,(q a).rd,(q a).mr,(q a).n,E]:=λh1 h2 h3 h4 h5 z=>by
  simp only[zk,List.not_mem_nil,or_false] at z
  rcases z with z | z | z | z | z
  ·exact h1 z
  ·exact h2 z
  ·exact h3 z
  ·exact h4 z
  ·exact h5 z
 refine⟨f _ _ (j (aN "Roll" "Hand" w.r L) (aN "Roll" "Reader" w.r J) (aN "Roll" "Maker" w.r x.1) (aN "Roll" "" w.r x.2) (aN "Roll" "" w.r l1)) w.r,hl,⟨kv,f _ _ (j (aN "" "Hand" I L) (aN "" "Reader" I J) (aN "" "Maker" I x.1) (gf I x.2 (λz=>nomatch z)) (gf I l1 (λz=>nomatch z))) I,d0,λn F=>?_⟩,λn F=>?_,λb P d hd X=>?_,λb P=>?_⟩
 ·rw[d2 n F]
  by_cases e:n=a
  ·rw[e,dR]
  ·rw[cU e]
 ·by_cases e:n=a
  ·rw[e,dR,dR,dR];exact hx
  ·rw[cU e,cU e,cU e];obtain⟨⟨c1,Z⟩,⟨h1,p1,Y⟩,W,s1,u⟩:=(w.hx n F).ex;obtain⟨U,y,T,R⟩:=w.ne n F a Q e;exact(w.hx n F).fr f (j U (aN "Hand" "Reader" Z J) (aN "Hand" "Maker" Z x.1) (aN "Hand" "" Z x.2) (aN "Hand" "" Z l1)) (j (aN "Reader" "Hand" Y L) y (aN "Reader" "Maker" Y x.1) (aN "Reader" "" Y x.2) (aN "Reader" "" Y l1))
    (j (aN "Maker" "Hand" u.1 L) (aN "Maker" "Reader" u.1 J) T (aN "Maker" "" u.1 x.2) (aN "Maker" "" u.1 l1)) (j (aN "" "Hand" u.2 L) (aN "" "Reader" u.2 J) (aN "" "Maker" u.2 x.1) R (w.nl n F))
 ·by_cases e:b=a
  ·have y:d≠a:=λz=>X (by rw[e,z])
   obtain⟨_,_,W,s1,u⟩:=(w.hx d hd).ex;obtain⟨U,C,T,R⟩:=w.ne a Q d hd (λz=>y z.symm);rw[e,dR,cU y];exact⟨U,C,T,nw _ _ (Ne.symm R) u.2⟩
  ·by_cases y:d=a
   ·obtain⟨_,_,W,s1,u⟩:=(w.hx b P).ex;obtain⟨U,C,T,R⟩:=w.ne b P a Q e;rw[y,dR,cU e];exact⟨U,C,T,Ne.symm (nw _ _ R u.2)⟩
   ·rw[cU e,cU y];exact w.ne b P d hd X
 ·by_cases e:b=a
  ·rw[e,dR];exact nw _ _ (Ne.symm (w.nl a Q)) l1
  ·rw[cU e];exact w.nl b P
def Qtz     (h:O[hs]?=some (.dk b))(hv:cH b (kyN a)=some (.ob hd)):qY [.ob hs,.str a] O=.ok (.ob hd) O:=by
 have k:ue true (mG (aa 1)) (mG (aa 0)) [some (.ob hs),some (.str a)] O=.ok (.bl false) O:=by
  show(match keyOf _,O[hs]? with
   |some k,some (.dk _)=>Res.ok _ O
   | _,_=>.no)=_
  rw[h];show Res.ok (D.bl (true != (cH b (kyN a)).isSome)) O=_;rw[hv];rfl
 refine cR ?_;exact(aQ (lM (or_f (Bf (Bh (t:="str") rfl rfl)) (bU k)))).trans (fD (vX rfl rfl rfl h hv))
def pO       (h:a ρ O=.ok x O)(h2:r ρ O=.ok xs O1):aj a r ρ O=.ok (x::xs) O1:=Kc h h2
section
variable {O:au}{M:Int}{N G:List (List Nat)}{ro rl hs:Nat}{bn:Bool}{K:List D}{q:List Nat->Ix}{tt:List Nat->List Nat}{cl:List Nat->Bool}{a:List Nat}
def RW.opn(w:RW O M N G ro rl hs q tt cl bn K)(d:a∈N)(b:cl a=false):HnA O M (q a).hd (q a).rd (q a).mr (q a).n a (tt a):=by
 have:=w.hx a d
 unfold HX at this;rw[b,if_neg zx] at this;exact this
def RW.nm(w:RW O M N G ro rl hs q tt cl bn K)(f:a∈N){m:L2.M D}{ρ:aR}(d:m ρ O=.ok (.str a) O){mo:L2.M D}(b:mo ρ O=.ok (.ob ro) O):aB qY (aj (bu ["Roll"] "hands" mo) (aj m ao)) ρ O=.ok (.ob (q a).hd) O:=by
 obtain⟨x,u,C,j⟩:=w.hs;exact(bz (maS (dX (y:=.ob hs) b w.r zd rfl) (ma1 d))).trans (Qtz u (j a f))
def RW.feed(w:RW O M N G ro rl hs q tt cl bn K)(E:1<=M/\M<=200)(hN:Nms G)(Z:a∈G)(C:a∈N)(hc:cl a=false){p:List Nat}(L:Okt (tt a))(Y:Okt p)(u:Okt (tt a++p))(hK:K.length+((tt a).length+p.length)<=90000):
  ∃O' J,rF [.ob ro,.str a,.str p] O=.ok (.lst (cj bn G a K.length (rn M (rn M s0 (sI (tt a))).1 (jI (tt a) p)).2)) O'/\RW O' M N G ro rl hs (up q a ⟨(q a).hd,(q a).rd,(q a).mr,J⟩) (up tt a (tt a++p)) (up cl a false) bn (K++cj bn G a K.length (rn M (rn M s0 (sI (tt a))).1 (jI (tt a) p)).2)/\Fr O O' [(q a).hd,(q a).rd,(q a).mr,(q a).n,rl]:=by
 have h:=w.opn C hc;have l1:=w.rows;obtain⟨O1,J,T,e1,y,nw,te,P⟩:=Qxx E h L Y u
 have d:∀{m:Nat},m≠(q a).rd->m≠(q a).mr->m≠(q a).n->m∉[(q a).rd,(q a).mr,(q a).n]:=λh1 h2 h3 z=>by simp at z;omega
 have X:=P ro _ (d (aN "Roll" "Reader" w.r h.2.1) (aN "Roll" "Maker" w.r h.2.2.1) (aN "Roll" "" w.r h.2.2.2)) w.r;have l3:=P rl _ (d (aN "" "Reader" l1 h.2.1) (aN "" "Maker" l1 h.2.2.1) (Ne.symm (w.nl a C))) l1;have U:=si u;have j:=(BW u).1
 have R:∀x∈jI (tt a) p,Itm x.2.1 x.2.2:=λx hx=>U.i x (ja _ (by rw[j];exact zN _ hx))
 have dl:=(ig E.1 (jI (tt a) p) _ (il E.1 L) R).2
 have jl:(jI (tt a) p).length<=(tt a).length+p.length:=by
  have l:=U.l;rw[ze,j,ze,ze] at l;omega
 obtain⟨W,e2,Q,I⟩:=Ng hN Z X l3 te (λx hx=>by have:=vR E.1 _ _ (il E.1 L) R x hx;omega) (by rw[te.len];omega);have f:Fr O W [(q a).hd,(q a).rd,(q a).mr,(q a).n,rl]:=P.trans I (by simp) (by simp)
 have F:∀{m:Nat},m≠rl->m∉[rl]:=λh=>bA h
 refine⟨W,J,cR (b:=Ag) (ρ:=[some (.ob ro),some (.str a),some (.str p)]) ?_,w.turn C ?_ nw Q f,f⟩
 ·unfold Ag;exact fD ((dG (n:=ro) rfl w.r rfl (pO rfl (jV ((dG (n:=(q a).hd) (w.nm C rfl rfl) h.1 rfl (ma1 (x:=.str p) rfl)).trans e1)))).trans e2)
 ·unfold HX;rw[if_neg zx];exact⟨I _ _ (F (aN "Hand" "" y.1 l3)) y.1,I _ _ (F (aN "Reader" "" y.2.1 l3)) y.2.1,y.2.2.fr I (F (aN "Maker" "" y.2.2.1 l3)) (F (nw _ _ (Ne.symm (w.nl a C)) l1))⟩
end
def Qy4(r:List LT)(w:List Nat)(q:∀x∈r,OkL x)(m:w=bJ\/w=cD):fQ (bD (r,w))=true/\(toP (bD (r,w))).canLay0=true/\(toP (bD (r,w))).depth<=10:=by
 have j:∀c∈w,c<1114112:=by
  rcases m with rfl | rfl
  ·decide
  ·decide
 have lay:∀d∈(r.map dL).map toP,d.canLay0=true/\d.depth<=5:=λd hd=>by
  obtain⟨f,b,rfl⟩:=zw.mp hd;obtain⟨x,hx,rfl⟩:=zw.mp b;exact(LR (q x hx)).2
 refine⟨?_,?_,?_⟩
 ·refine uF λd hd=>?_
  rcases zk.mp hd with rfl | hd
  ·exact uF λd hd=>by
    obtain⟨x,hx,rfl⟩:=zw.mp hd;rfl
  ·rw[zj.mp hd];rfl
 ·show PyData.canLayAll0 (iC [.lst _,.str w])=true;rw[oM]
  refine tD λd hd=>?_
  obtain⟨f,b,rfl⟩:=zw.mp hd
  rcases zk.mp b with rfl | b
  ·show PyData.canLayAll0 _=true;rw[oM]
   exact tD λd hd=>(lay d hd).1
  ·rw[zj.mp b];exact oN j
 ·show PyData.depthAll (iC [.lst (r.map dL),.str w])+1<=10;rw[oM]
  have:=tE (ds:=[D.lst (r.map dL),.str w].map toP) λd hd=>by
   obtain⟨f,b,rfl⟩:=zw.mp hd
   rcases zk.mp b with rfl | b
   ·show PyData.depthAll _+1<=8;rw[oM]
    have:=tE λd hd=>(lay d hd).2
    omega
   ·rw[zj.mp b];show PyData.depth (.str _)<=8;simp[PyData.depth]
  omega
def Qwy(l:List (List LT×List Nat))(h:∀x∈l,eX x):okE (.lst (l.map bD))=true:=uG (n:=10) (by decide) λd hd=>by
 obtain⟨x,hx,rfl⟩:=zw.mp hd;exact Qy4 _ _ (h x hx).1 (h x hx).2
def QyQ(d:D)(ds:List D):kZ (.lst (d::ds)) (.lst [])=false:=rfl
def okn:okE (.lst [])=true:=rfl
def QCR(l:List LT)(h:∀x∈l,OkL x):gNe (.lst (l.map dL)) (.lst [])=some (.bl (decide (l≠[]))):=by
 rw[yr,Qos l h]
 cases l with
 | nil
 |cons =>rfl
def Qxp{M:Int}  (h:OkS M s)(k:List Nat):∀x∈due M s k,eX x:=by
 intro x hx;unfold due iV at hx;split at hx
 ·rw[zj.mp hx];exact⟨h.ok,.inl rfl⟩
 ·split at hx
  ·split at hx
   ·rw[zj.mp hx];refine⟨λy b=>?_,.inr rfl⟩;unfold bare at b;split at b
    ·cases b
    ·exact h.ok y b
   ·cases hx
  ·cases hx
theorem Cw{M:Int}(d:1<=M):∀(b:List It3) (s:Sta),OkS M s->(∀x∈b,Itm x.2.1 x.2.2)->∀x∈(rn M s b).2,eX x
 | [],s,_,_,x,hx=>nomatch hx
 |y::b,s,h,hi,x,hx=>by
  have hx' :=hx
  rcases zt.mp hx' with hx | hx
  ·exact Qxp h _ x hx
  ·exact Cw d _ _ (h.stp d (hi y zd)) (λz f=>hi z (zp _ f)) x hx
section
variable {O:au}{M:Int}{N G:List (List Nat)}{ro rl hs:Nat}{bn:Bool}{K:List D}{q:List Nat->Ix}{tt:List Nat->List Nat}{cl:List Nat->Bool}{a:List Nat}
def Nk{M:Int} :(lstP M t).length<=1:=by
 unfold lstP
 split<;>simp
def RW.close(w:RW O M N G ro rl hs q tt cl bn K)(j:1<=M/\M<=200)(hN:Nms G)(Z:a∈G)(y:a∈N)(hc:cl a=false)(u:Okt (tt a))(hK:K.length+(tt a).length<=90000):
  ∃O' E,rG [.ob ro,.str a] O=.ok (.lst (cj bn G a K.length ((rn M (rn M s0 (sI (tt a))).1 (hI (tt a))).2++lstP M (tt a)))) O'/\RW O' M N G ro rl hs (up q a ⟨(q a).hd,(q a).rd,(q a).mr,E⟩) (up tt a (tt a)) (up cl a true) bn (K++cj bn G a K.length ((rn M (rn M s0 (sI (tt a))).1 (hI (tt a))).2++lstP M (tt a)))/\Fr O O' [(q a).hd,(q a).rd,(q a).mr,(q a).n,rl]:=by
 have h:=w.opn y hc;have l1:=w.rows;obtain⟨O1,E,T,e1,U,nw,te,F⟩:=QsU j h u
 have d:∀{m:Nat},m≠(q a).hd->m≠(q a).rd->m≠(q a).mr->m≠(q a).n->m∉[(q a).hd,(q a).rd,(q a).mr,(q a).n]:=λh0 h1 h2 h3 z=>by simp at z;omega
 have W:=F ro _ (d (aN "Roll" "Hand" w.r h.1) (aN "Roll" "Reader" w.r h.2.1) (aN "Roll" "Maker" w.r h.2.2.1) (aN "Roll" "" w.r h.2.2.2)) w.r;have l3:=F rl _ (d (aN "" "Hand" l1 h.1) (aN "" "Reader" l1 h.2.1) (aN "" "Maker" l1 h.2.2.1) (Ne.symm (w.nl a y))) l1;have S:=si u
 have Q:∀x∈hI (tt a),Itm x.2.1 x.2.2:=λx hx=>S.i x (zN _ hx)
 have dl:=(ig j.1 (hI (tt a)) _ (il j.1 u) Q).2;have Y:=S.l;have hl2:=u.len;have ll:=Nk (M:=M) (t:=tt a);rw[ze] at Y
 obtain⟨R,e2,I,C⟩:=Ng hN Z W l3 te (λx hx=>by
  rcases zt.mp hx with hx | hx
  ·have:=vR j.1 _ _ (il j.1 u) Q x hx
   omega
  ·have o:=(ig j.1 _ s0 (nF j.1) S.i).1.len;unfold lstP at hx;split at hx
   ·rw[zj.mp hx];show(rn M s0 (sI (tt a)++hI (tt a))).1.row.length<=200;omega
   ·cases hx) (by rw[te.len,ze];omega)
 have f:Fr O R [(q a).hd,(q a).rd,(q a).mr,(q a).n,rl]:=F.trans C (by simp) (by simp);refine⟨R,E,cR (b:=Ah) (ρ:=[some (.ob ro),some (.str a)]) ?_,w.turn y ?_ nw I f,f⟩
 ·unfold Ah;exact fD ((dG (n:=ro) rfl w.r rfl (pO rfl (jV ((dG (n:=(q a).hd) (w.nm y rfl rfl) h.1 rfl rfl).trans e1)))).trans e2)
 ·unfold HX;rw[if_pos rfl];obtain⟨P,⟨p,L⟩,X,J⟩:=U;exact⟨C _ _ (bA (aN "Hand" "" P l3)) P,⟨p,C _ _ (bA (aN "Reader" "" L l3)) L⟩,X,J.fr C (bA (aN "Maker" "" J.1 l3)) (bA (nw _ _ (Ne.symm (w.nl a y)) l1))⟩
def Nm  (b:O[ro]?=some (su bn N rl hs))(d:O[rl]?=some (.ml L)):lJ [.ob ro] O=.ok (.lst L) O :=
 cR (fD (vC (dX rfl b zd rfl) (iU d)))
end
def Np      (h:m ρ O=.ok d O1)(b:g d ρ=some ρ'):jC m g ρ O=.nx ρ' O1:=by rw[yz,h,yC b]
def Qul(n:Nat):ixN (n+1) (-1)=some n:=by
 unfold ixN
 grind
def Qv9(R:List Du)(c:Du):gIx (.lst ((R++[c]).map bD)) (.int (-1))=some (bD c):=by
 rw[uD];unfold atI;rw[show((R++[c]).map _).length=R.length+1 by simp,Qul];simp
def Quq(l:List Du)(h:∀x∈l,eX x):gNe (.lst (l.map bD)) (.lst [])=some (.bl (decide (l≠[]))):=by
 rw[yr,Qwy l h]
 cases l<;>rfl
def j0(M:Int)(t:List Nat):List Du:=(rn M s0 (sI t++hI t)).2++lstP M t
def Nq{M:Int}(j:1<=M/\M<=200)(d:Okt t)(O:au):iQ [.str t,.int M,.bl false] O=.ok (.tup [.ob O.length,.lst ((rn M s0 (sI t)).1.row.map dL)]) (O++[.ml ((rn M s0 (sI t)).2.map bD)]):=by
 have S:=si d;have f:=S.l;have b:=d.len;rw[ze] at f;refine cR ?_;refine(aQ (bc (aM ((bz (ma1 rfl)).trans (LK t b O)) rfl (by rw[S.s];rfl)))).trans ?_;refine(aQ (Np ((bz (maS rfl (ma1 rfl))).trans (Mm j _ (λx hx=>S.i x (ja _ hx)) (by omega) O)) rfl)).trans ?_;rfl
def Nr{M:Int}(f:1<=M/\M<=200)(C:Okt t)(O:au):∃d,iQ [.str t,.int M,.bl true] O=.ok (.tup [.ob O.length,d]) (O++[.ml ((j0 M t).map bD)]):=by
 have S:=si C;have G:=S.l;have j:=C.len;have ok:=ig f.1 _ s0 (nF f.1) S.i;have E:=Cw f.1 _ s0 (nF f.1) S.i;refine⟨.lst ((rn M s0 (sI t++hI t)).1.row.map dL),cR (b:=Ar) (ρ:=[some (.str t),some (.int M),some (.bl true),none,none,none]) ?_⟩;unfold Ar;refine(aQ (bc (d:=.lst ((sI t).map itD)) (aM ((bz (ma1 (x:=.str t) rfl)).trans (LK t j O)) rfl (by rw[S.s];rfl)))).trans ?_;refine(aQ (Kh (Bg rfl) (bc (d:=.lst ((sI t++hI t).map itD)) ((bz (ma1 (x:=.str t) rfl)).trans (by rw[Lx t j,S.a]))))).trans ?_;refine(aQ (Np ((bz (maS (x:=.lst ((sI t++hI t).map itD)) rfl (ma1 (x:=.int M) rfl))).trans (Mm f (sI t++hI t) S.i (by omega) O)) rfl)).trans ?_
 unfold j0 lstP
 generalize hP:(rn M s0 (sI t++hI t)).2=P at E ok ⊢
 generalize hR:(rn M s0 (sI t++hI t)).1.row=R
 have q:∀x∈R,OkL x:=by rw[<-hR];exact ok.1.ok
 have F:P.length<1000000:=by have:=ok.2;omega
 have at':(O++[Ob.ml (P.map bD)])[O.length]?=some (.ml (P.map bD)):=dO;have t1:az (ak gNe (aa 5) (aV ao)) [some (.str t),some (.int M),some (.bl true),some (.lst ((sI t++hI t).map itD)),some (.ob O.length),some (.lst (R.map dL))] (O++[.ml (P.map bD)])=.ok (decide (R≠[])) (O++[.ml (P.map bD)]):=bU (aM (x:=.lst (R.map dL)) (y:=.lst []) rfl rfl (QCR R q))
 have t2:bR (az (ak gNe (aa 4) (aV ao))) (az (ak gEq (ak gIx (ak gIx (aa 4) (mUn kY (mC (.int 1)))) (mC (.int 1))) (mC (.str [109,111,114,101])))) [some (.str t),some (.int M),some (.bl true),some (.lst ((sI t++hI t).map itD)),some (.ob O.length),some (.lst (R.map dL))] (O++[.ml (P.map bD)])=.ok (decide (lwO bJ P=cD)) (O++[.ml (P.map bD)]):=by
  have u:az (ak gNe (aa 4) (aV ao)) [some (.str t),some (.int M),some (.bl true),some (.lst ((sI t++hI t).map itD)),some (.ob O.length),some (.lst (R.map dL))] (O++[.ml (P.map bD)])=.ok (decide (P≠[])) (O++[.ml (P.map bD)]):=bU (aM (x:=.ob O.length) (y:=.lst []) rfl rfl (by rw[iU at'];exact Quq P E))
  rcases List.eq_nil_or_concat P with rfl | ⟨Q,x,rfl⟩
  ·exact and_f u
  ·rw[List.concat_eq_append] at u at' ⊢;refine(Kl (u.trans (by simp)) (b:=decide (x.2=cD)) (BZ (aM (x:=bD x) (y:=.int 1) (aM (x:=.ob O.length) (y:=.int (-1)) rfl rfl (by rw[iU at'];exact Qv9 Q x)) rfl rfl) rfl)).trans ?_
   have:lwO bJ (Q++[x])=x.2:=by unfold lwO;simp
   rw[this]
 have m:bR (bx (aa 2)) (cI (az (ak gNe (aa 5) (aV ao))) (bR (az (ak gNe (aa 4) (aV ao))) (az (ak gEq (ak gIx (ak gIx (aa 4) (mUn kY (mC (.int 1)))) (mC (.int 1))) (mC (.str [109,111,114,101])))))) [some (.str t),some (.int M),some (.bl true),some (.lst ((sI t++hI t).map itD)),some (.ob O.length),some (.lst (R.map dL))] (O++[.ml (P.map bD)])=.ok (decide (R≠[]\/lwO bJ P=cD)) (O++[.ml (P.map bD)]):=by
  refine Kl (Bg rfl) ?_;rw[qG,t1,aW]
  by_cases h:R≠[]
  ·rw[zv h,if_pos rfl,zv (.inl h)]
  ·rw[zl h,if_neg zx,t2];simp[h]
 by_cases c:R≠[]\/lwO bJ P=cD
 ·rw[if_pos c];rw[zv c] at m;refine(aQ (Kh m (vP (n:=O.length) (ds:=P.map bD) (d:=.tup [.lst (R.map dL),.str bJ]) rfl at' rfl (by rw[zf];exact F)))).trans ?_;rw[nC,show(P++[(R,bJ)]).map bD=P.map bD++[.tup [.lst (R.map dL),.str bJ]] by simp[bD]];rfl
 ·rw[if_neg c,zJ];rw[zl c] at m;exact(aQ (lM m)).trans rfl
section
variable {O:au}{M:Int}{N G:List (List Nat)}{ro rl hs K:Nat}{q:List Nat->Ix}{tt:List Nat->List Nat}{cl:List Nat->Bool}{a:List Nat}
def j4  :Kp O (O++[x]):=λj y h=>by grind
def Kp.trans{O O1 d:au}(a:Kp O O1)(b:Kp O1 d):Kp O d:=λj y h=>b j y (a j y h)
end
def Cy{b:MS}   (h:b ρ O=.nx ρ2 d):bw (b ρ O)=.ok .non d:=by rw[h];rfl
def Nt       (h:ma ρ O=.ok ds O)(b:cf (.ob O.length::ds) (O++[.ins c []])=.ok .non O1):dj c cf ma ρ O=.ok (.ob O.length) O1:=by
 simp_all
def Nu :m∉([]:List Nat):=λz=>nomatch z
def Cz    (k:Kp O O1)(h:O.length<=n):Kp O (O1.set n y):=λj x b=>by
 rw[zh (Nat.ne_of_gt (zH (zu.mp b).1 h))];exact k j x b
def Qx4{M:Int}(P:1<=M/\M<=200)(a:List Nat)(O:au)   (L:ma ρ O=.ok [.str a,.int M] O):
  ∃O' n,dj "Hand" uX ma ρ O=.ok (.ob O.length) O'/\HnA O' M O.length (O.length+1) (O.length+2) n a []/\Kp O O'/\O.length<=n:=by
 have Y:(O++[Ob.ins "Hand" []])[O.length]?=some (.ins "Hand" []):=dO;have R:(O++[Ob.ins "Hand" [("name",.str a)]])[O.length]?=some _:=dO
 have l1:(O++[Ob.ins "Hand" [("name",.str a)]]).length=O.length+1:=by simp
 have J:Kp O (O++[Ob.ins "Hand" [("name",.str a)]]):=j4
 generalize hO1:O++[Ob.ins "Hand" [("name",.str a)]]=f at *
 have r:=λρ=>QBb ρ f
 rw[l1] at r;have a2:(f++[RO [] 0])[O.length]?=some _:=j4 _ _ R
 have X:(f++[RO [] 0])[O.length+1]?=some (RO [] 0):=by rw[<-l1];exact dO
 have Q:Fr (f++[RO [] 0]) ((f++[RO [] 0]).set O.length (.ins "Hand" [("name",.str a),("reader",.ob (O.length+1))])) [O.length]:=Fr.set
 have G:((f++[RO [] 0]).set O.length (.ins "Hand" [("name",.str a),("reader",.ob (O.length+1))])).length=O.length+2:=by grind
 have I:Kp O ((f++[RO [] 0]).set O.length (.ins "Hand" [("name",.str a),("reader",.ob (O.length+1))])):=Cz (J.trans j4) (zc _);have W:=gs (y:=.ins "Hand" [("name",.str a),("reader",.ob (O.length+1))]) a2;have T:=Q _ _ (bA (by omega)) X
 generalize hO2:(f++[RO [] 0]).set O.length _=Z at *
 obtain⟨m,n,u,q,F,E,j⟩:=QxF M P Z [some (.ob O.length),some (.str a),some (.int M)] (λ_=>rfl);rw[G] at u q E;have C:=j _ _ W;have f4:Fr m (m.set O.length (.ins "Hand" [("name",.str a),("reader",.ob (O.length+1)),("maker",.ob (O.length+2))])) [O.length]:=Fr.set;have x:=gs (y:=.ins "Hand" [("name",.str a),("reader",.ob (O.length+1)),("maker",.ob (O.length+2))]) C;have f5:Fr _ ((m.set O.length (.ins "Hand" [("name",.str a),("reader",.ob (O.length+1)),("maker",.ob (O.length+2))])).set O.length (lO a (O.length+1) (O.length+2) false)) [O.length]:=Fr.set;have f6:=f4.trans f5 (U:=[O.length]) (λ_ h=>h) (λ_ h=>h)
 refine⟨_,n,Nt L (Cy (b:=yN) (ρ2:=[some (.ob O.length),some (.str a),some (.int M)]) ?_),⟨gs x,f6 _ _ (bA (by omega)) (j _ _ T),f6 _ _ (bA (by omega)) q,f6 _ _ (bA (by omega)) F⟩,Cz (Cz (I.trans j) (zc _)) (zc _),by omega⟩;unfold yN;refine(aQ (gZ (n:=O.length) (d:=.str a) rfl rfl Y zd (by decide))).trans ?_;rw[nC];show aq _ _ _ (O++[Ob.ins "Hand" [("name",.str a)]])=_;rw[hO1];refine(aQ (gZ (n:=O.length) (r _) rfl a2 zd (by show 1<900;decide))).trans ?_;show aq _ _ _ ((f++[RO [] 0]).set O.length (.ins "Hand" [("name",.str a),("reader",.ob (O.length+1))]))=_
 rw[hO2];refine(aQ (gZ (n:=O.length) u rfl C zd (by show 2<900;decide))).trans ?_;exact gZ (n:=O.length) (d:=.bl false) rfl rfl x zd (by show 3<900;decide)
def Nv(b:Bool)(s:List Nat)(ds:List D):gIn b (.str s) (.lst ds)=if(fU (.str s)&&ds.all fU)=true then some (.bl (b ^^ ds.any λy=>eqF y (.str s))) else none:=by
 cases s with
 |nil=>rfl
 |cons a t=>cases t<;>rfl
def Nx(a b:List Nat):eqF (.str a) (.str b)=decide (a=b):=by
 show decide _=_
 by_cases h:a=b
 ·grind
 ·rw[zl h,zl λz=>h (Cv (congrArg Sum.inr z))]
def QBr{l:List (List Nat)}  (h:s∉l):gIn false (.str s) (.lst (l.map D.str))=some (.bl false):=by
 rw[Nv,if_pos]
 ·rw[Bool.false_xor,(List.any_eq_false.mpr λd hd=>by
   obtain⟨x,hx,rfl⟩:=zw.mp hd;rw[Nx,zl (λz=>h (by grind))]
   simp)]
 ·rw[show fU _=true from rfl,Bool.true_and,je];intro d hd;obtain⟨r,b,rfl⟩:=zw.mp hd;rfl
def bCn:MS:=(aq (aD (cN (bx (aB uN (aj (aa 2) ao)))) gm aK)
  (aD (az (ak (gIn false) (aa 2) (mSl (aa 0) moN (moS (aa 1))))) gm aK))
theorem Ny  (h:Nms N)(O:au):∀(R P:List (List Nat)) (j f:Option D),N=P++R->∃d b,bB (dg 2 (bF (mgN 1) (bF (mgN 2) dC))) bCn (cV P.length (R.map D.str)) [some (dNm N),j,f] O=.nx [some (dNm N),d,b] O
 | [],P,j,f,_=>⟨j,f,rfl⟩
 |n::R,P,j,f,e=>by
  obtain⟨d,b,q⟩:=Ny h O R (P++[n]) _ _ (by rw[e];simp);rw[ze] at q;have nd:=h.nd;rw[e,jm] at nd
  have m :=λz=>nd.2.2 n z n zd rfl
  have u:n∈N:=by rw[e];simp
  have cut:mSl (aa 0) moN (moS (aa 1)) [some (dNm N),some (.int P.length)] O=.ok (.lst (P.map D.str)) O:=by
   show ofO (gSl (aY O (.lst _)) _ _) O=_;rw[jL,uA,gQ,Bw,e,zM,List.take_left' (zf _)]
  refine⟨d,b,(iR rfl ?_).trans q⟩;exact(aQ (not_no ((bz (ma1 rfl)).trans (QyS (h.ok n u) O)))).trans (lM (bU (aM rfl cut (QBr m))))
def Qxy  (h:Nms N)(O:au):Ae [dNm N] O=.ok .non O:=by
 obtain⟨f,b,q⟩:=Ny h O N [] _ _ rfl;refine Cy (ρ:=[some _,none,none]) (ρ2:=[some (dNm N),f,b]) ?_;have l4:=h.l4;have l1 :=List.length_pos_iff.mpr h.ne
 have j:fO gLe gLe (mC (.int 1)) (aJ aP (aj (aa 0) ao)) (mC (.int 6)) [some (dNm N),none,none] O=.ok (.bl true) O:=by
  rw[Hu,show mC _ _ O=.ok _ O from rfl,aW,m8 rfl,aW,zf];show chF (some _) O _=_;rw[zv (by omega)];show Res.ok _ O=_
  grind
 refine(aQ (lM (or_f (Bf (Bh (d:=dNm N) rfl rfl)) ?_))).trans (iT ?_ q)
 ·rw[lB,bU j];rfl
 ·rfl
section
variable {O:au}{M:Int}{N G:List (List Nat)}{ro rl hs:Nat}{bn:Bool}{K:List D}{q:List Nat->Ix}{tt:List Nat->List Nat}{cl:List Nat->Bool}{a:List Nat}
def RW.lt(w:RW O M N G ro rl hs q tt cl bn K){b:List Nat}(hb:b∈N):(q b).hd<O.length/\(q b).rd<O.length/\(q b).mr<O.length/\(q b).n<O.length:=by
 obtain⟨⟨y,j⟩,⟨h1,x,f⟩,m,u,d⟩:=(w.hx b hb).ex;exact⟨fG j,fG f,fG d.1,fG d.2⟩
def RW.add(w:RW O M N G ro rl hs q tt cl bn K)(Z:a∉N){O1:au}{i:Ix}(hx:HnA O1 M i.hd i.rd i.mr i.n a [])(k:Kp O O1)(g1:O.length<=i.hd)(g2:O.length<=i.rd)(g3:O.length<=i.mr)(g4:O.length<=i.n){y:List (Key×D)}(J:O[hs]?=some (.dk y)):
  RW (O1.set hs (.dk (dq y (kyN a) (.ob i.hd)))) M (N++[a]) G ro rl hs (up q a i) (up tt a []) (up cl a false) bn K:=by
 have l1:=w.rows;obtain⟨U,x,d0,Q⟩:=w.hs;rw[J] at x;cases x;have C:=w.kp k;have j:=k _ _ J;have f:Fr O1 (O1.set hs (.dk (dq y (kyN a) (.ob i.hd)))) [hs]:=Fr.set;have X:=Ni y (kyN a) (.ob i.hd);have T:=fG l1;refine⟨f _ _ (bA (aN "Roll" "" C.r j)) C.r,f _ _ (bA (gf (k _ _ l1) j (λz=>nomatch z))) (k _ _ l1),⟨_,gs j,by rw[ze,zR];omega,λn E=>?_⟩,λn E=>?_,λb F d hd u=>?_,λb F=>?_⟩
 ·rw[Cu]
  by_cases e:n=a
  ·rw[e,if_pos rfl,dR]
  ·rw[if_neg (λz=>e (Cv z)),cU e];exact Q n ((zt.mp E).resolve_right λz=>e (zj.mp z))
 ·by_cases e:n=a
  ·rw[e,dR,dR,dR];unfold HX;rw[if_neg zx];exact⟨f _ _ (bA (aN "Hand" "" hx.1 j)) hx.1,f _ _ (bA (aN "Reader" "" hx.2.1 j)) hx.2.1,hx.2.2.fr f (bA (aN "Maker" "" hx.2.2.1 j)) (bA (gf hx.2.2.2 j (λz=>nomatch z)))⟩
  ·rw[cU e,cU e,cU e];have h:=C.hx n ((zt.mp E).resolve_right λz=>e (zj.mp z));obtain⟨⟨c1,P⟩,⟨h1,Y,L⟩,R,W,I⟩:=h.ex;exact h.fr f (bA (aN "Hand" "" P j)) (bA (aN "Reader" "" L j)) (bA (aN "Maker" "" I.1 j)) (bA (gf I.2 j (λz=>nomatch z)))
 ·by_cases e:b=a
  ·have m:d≠a:=λz=>u (by rw[e,z])
   have:=w.lt ((zt.mp hd).resolve_right λz=>m (zj.mp z))
   rw[e,dR,cU m];omega
  ·have hb':=(zt.mp F).resolve_right λz=>e (zj.mp z)
   have:=w.lt hb'
   by_cases m:d=a
   ·rw[m,dR,cU e];omega
   ·rw[cU e,cU m];exact w.ne b hb' d ((zt.mp hd).resolve_right λz=>m (zj.mp z)) u
 ·by_cases e:b=a
  ·rw[e,dR];omega
  ·rw[cU e];exact w.nl b ((zt.mp F).resolve_right λz=>e (zj.mp z))
end
def bRi:MS:=(lu (bu ["Roll"] "hands" (aa 0)) (aa 4) (dj "Hand" uX (aj (aa 4) (aj (aa 2) ao))))
theorem Nz{M:Int}(F:1<=M/\M<=200){G:List (List Nat)}{d E hs:Nat}(a1 j:Option D):∀(R P:List (List Nat)) (O:au) (q:List Nat->Ix) (f:Option D),(P++R).Nodup->(P++R).length<=100->RW O M P G d E hs q (λ_=>[]) (λ_=>false) bn [] ->
  ∃O' u b,bB (mgN 4) bRi (R.map D.str) [some (.ob d),a1,some (.int M),j,f] O=.nx [some (.ob d),a1,some (.int M),j,b] O'/\RW O' M (P++R) G d E hs u (λ_=>[]) (λ_=>false) bn []
 | [],P,O,q,f,_,_,w=>⟨O,q,f,rfl,by rw[zJ];exact w⟩
 |n::R,P,O,q,f,nd,hl,w=>by
  obtain⟨W,I,X⟩:=w.hs;obtain⟨Y,m,e,hx,k,L⟩:=Qx4 F n O (ma:=aj (aa 4) (aj (aa 2) ao)) (ρ:=[some _,a1,some _,j,some _]) rfl
  have J :=λz=>(jm.mp nd).2.2 n z n zd rfl
  have C:=w.add J (i:=⟨O.length,O.length+1,O.length+2,m⟩) hx k (zc _) (Nat.le_add_right _ _) (Nat.le_add_right _ _) L I
  have T:up (λ_ =>([]:List Nat)) n []=λ_=>[]:=by funext x;unfold up;split<;>rfl
  have Q:up (λ_ =>false) n false=λ_=>false:=by funext x;unfold up;split<;>rfl
  rw[T,Q] at C;obtain⟨O',u,b,U,y⟩:=Nz F a1 j R _ _ _ _ (by rw[zD];exact nd) (by rw[zD];exact hl) C;rw[zD] at y;rw[ze] at hl;refine⟨O',u,b,(iR rfl (Nj e (dX rfl (k _ _ w.r) zd rfl) rfl rfl (k _ _ I) (by omega))).trans U,y⟩
def NB{M:Int}(I:1<=M/\M<=200)  (h:Nms N)     (G:ma ρ O=.ok [dNm N,.int M,.bl bn] O):∃O' C hs q,dj "Roll" vm ma ρ O=.ok (.ob O.length) O'/\RW O' M N N O.length C hs q (λ_=>[]) (λ_=>false) bn []:=by
 have R:(O++[Ob.ins "Roll" []])[O.length]?=some _:=dO;have a1:(O++[Ob.ins "Roll" [("names",dNm N)]])[O.length]?=some _:=dO;have a2:(O++[Ob.ins "Roll" [("names",dNm N),("numbered",.bl bn)]])[O.length]?=some _:=dO
 have j:(O++[Ob.ins "Roll" [("names",dNm N),("numbered",.bl bn)]]).length=O.length+1:=by simp
 generalize hO2:O++[Ob.ins "Roll" [("names",dNm N),("numbered",.bl bn)]]=b at *
 have u:(b++[Ob.ml []])[O.length]?=some _:=j4 _ _ a2
 have Q:(b++[Ob.ml []])[O.length+1]?=some (.ml []):=by rw[<-j];exact dO
 have f3:Fr _ ((b++[Ob.ml []]).set O.length (.ins "Roll" [("names",dNm N),("numbered",.bl bn),("rows",.ob (O.length+1))])) _:=Fr.set
 have l3:((b++[Ob.ml []]).set O.length (.ins "Roll" [("names",dNm N),("numbered",.bl bn),("rows",.ob (O.length+1))])).length=O.length+2:=by rw[zY,ze,j];rfl
 have P:=gs (y:=.ins "Roll" [("names",dNm N),("numbered",.bl bn),("rows",.ob (O.length+1))]) u;have d3:=f3 _ _ (bA (by omega)) Q
 generalize hO3:(b++[Ob.ml []]).set O.length _=f at *
 have m:(f++[Ob.dk []])[O.length]?=some _:=j4 _ _ P;have L:(f++[Ob.dk []])[O.length+1]?=some (.ml []):=j4 _ _ d3
 have J:(f++[Ob.dk []])[O.length+2]?=some (.dk []):=by rw[<-l3];exact dO
 have f5:Fr _ ((f++[Ob.dk []]).set O.length (su bn N (O.length+1) (O.length+2))) _:=Fr.set;have w:RW _ M [] N O.length _ _ (λ_=>⟨0,0,0,0⟩) (λ_=>[]) (λ_=>false) bn []:=
  ⟨gs m,f5 _ _ (bA (by omega)) L,⟨[],f5 _ _ (bA (by omega)) J,Nat.zero_le _,λ_ z=>nomatch z⟩,λ_ z=>(nomatch z),λ_ z=>(nomatch z),λ_ z=>(nomatch z)⟩
 have l4:=h.l4;obtain⟨O',E,F,e,x⟩:=Nz I _ _ N [] _ _ none h.nd (by rw[zO];omega) w;refine⟨O',O.length+1,O.length+2,E,Nt G (Cy (ρ2:=[some (.ob O.length),some (dNm N),some (.int M),some (.bl bn),F]) ?_),x⟩;refine(aQ (BX ((bz (ma1 rfl)).trans (Qxy h _)))).trans ?_;refine(aQ (gZ (vC rfl rfl) rfl R zd (by decide))).trans ?_;rw[nC];refine(aQ (gZ rfl rfl a1 zd (by show 1<900;decide))).trans ?_;rw[nC];show aq _ _ _ (O++[Ob.ins "Roll" [("names",dNm N),("numbered",.bl bn)]])=_;rw[hO2];refine(aQ (gZ (d:=.ob (O.length+1)) (by rw[<-j];rfl) rfl u zd (by show 2<900;decide))).trans ?_
 show aq _ _ _ ((b++[Ob.ml []]).set O.length (.ins "Roll" [("names",dNm N),("numbered",.bl bn),("rows",.ob _)]))=_;rw[hO3];refine(aQ (gZ (d:=.ob (O.length+2)) (by rw[<-l3];rfl) rfl m zd (by show 3<900;decide))).trans ?_;exact iT (eV rfl) e
def NP       (h:m ρ O=.ok xs O1)(b:g (xs.map (aY O1))=some z):aJ g m ρ O=.ok z O1:=by
 simp_all
def Qvz(n:Int):∃l,Tok l/\∀O,m7 [.int n] O=.ok (.str l) O:=by
 have tk:=Qzw n;have tl:=tk.len;obtain⟨j,m,u⟩:=pJ _ (n:=(tok n).length+1) (by omega)
 have run:∀O l,(aq _
  _) [some _,some _] O=.rt _ O->m7 [.int n] O=.ok (.str l) O:=λO l h=>by
  refine cR ?_;exact(aQ (bc ((bz (ma1 rfl)).trans (Qyj n O)))).trans h
 have d:∀O,ak _ (aB _ (aj (aa 0) (aj (mC (.int 10)) _))) (mC (.int 4)) [some (.int n),some (.str (tok n))] O=.ok _ O:=λO=>cg (dz rfl rfl (by decide) (by decide)) rfl (by decide)
 have f:∀O,ak _ (aB _ (aj (aa 0) (aj (mC (.int 11)) _))) (mC (.int 5)) [some (.int n),some (.str (tok n))] O=.ok _ O:=λO=>cg (dz rfl rfl (by decide) (by decide)) rfl (by decide)
 by_cases h1:mix n 10 % 4=0
 ·exact⟨[10],⟨by decide,by simp⟩,λO=>run O _ (by
   rw[cX,Mv (Ce (d O) rfl h1) rfl]
   rfl)⟩
 ·by_cases h2:mix n 11 % 5=0
  ·refine⟨(tok n).take j,⟨by grind,λc q=>tk.ok c (List.mem_of_mem_take q)⟩,λO=>run O _ ((aQ (vV (eq_n (d O) rfl h1))).trans ?_)⟩;rw[cX,Mv (Ce (f O) rfl h2) (slT rfl ((cg (dz rfl rfl (by decide) (by decide)) (add_n (b:=1) (jY rfl (by omega)) rfl) (by omega)).trans (by rw[m])) (by omega))];rfl
  ·exact⟨tok n,tk,λO=>run O _ ((aQ (vV (eq_n (d O) rfl h1))).trans ((aQ (vV (eq_n (f O) rfl h2))).trans rfl))⟩
def TX(O:au)(N:List (List Nat))(tx:Nat)(d:List Nat->List Nat):Prop:=∃b,O[tx]?=some (.dk b)/\b.length<=1000/\∀n∈N,cH b (kyN n)=some (.str (d n))
def TX.fr{O O':au}{N:List (List Nat)}{tx:Nat}{b:List Nat->List Nat}{S:List Nat}(h:TX O N tx b)(f:Fr O O' S)(hs:tx∉S):TX O' N tx b:=by
 obtain⟨d,m,q,j⟩:=h;exact⟨d,f _ _ hs m,q,j⟩
section
variable {O:au}{M:Int}{N G:List (List Nat)}{ro rl hs tx:Nat}{bn:Bool}{K:List D}{q:List Nat->Ix}{tt:List Nat->List Nat}{cl:List Nat->Bool}{a:List Nat}
def RW.stx(w:RW O M N G ro rl hs q tt cl bn K){x:List (Key×D)}(d:O[tx]?=some (.dk x))(C:tx≠hs)(y:Ob):RW (O.set tx y) M N G ro rl hs q tt cl bn K:=by
 have l1:=w.rows;obtain⟨b,F,I,E⟩:=w.hs;have f:Fr O (O.set tx y) [tx]:=Fr.set;refine⟨f _ _ (bA (aN "Roll" "" w.r d)) w.r,f _ _ (bA (gf l1 d (λz=>nomatch z))) l1,⟨b,f _ _ (bA (Ne.symm C)) F,I,E⟩,λn h=>?_,w.ne,w.nl⟩;obtain⟨⟨Q,u⟩,⟨h1,P,m⟩,J,L,j⟩:=(w.hx n h).ex;exact(w.hx n h).fr f (bA (aN "Hand" "" u d)) (bA (aN "Reader" "" m d)) (bA (aN "Maker" "" j.1 d)) (bA (gf j.2 d (λz=>nomatch z)))
def RW.apart(w:RW O M N G ro rl hs q tt cl bn K)(u:a∈N){m:List (Key×D)}(d:O[tx]?=some (.dk m)):tx∉[(q a).hd,(q a).rd,(q a).mr,(q a).n,rl]:=by
 have l1:=w.rows;obtain⟨⟨P,j⟩,⟨h1,L,f⟩,I,J,b⟩:=(w.hx a u).ex;have F:=aN "" "Hand" d j;have E:=aN "" "Reader" d f;have C:=aN "" "Maker" d b.1;have y:tx≠(q a).n:=gf d b.2 (λz=>nomatch z);have x:tx≠rl:=gf d l1 (λz=>nomatch z);simp[F,E,C,y,x]
end
def cnt(M:Int)(t:List Nat):Nat:=(rn M s0 (sI t)).2.length
def mTl(x y:L2.M D)(b:Bool):L2.M D:=aJ aP (aj (ak gIx (aB iQ (aj x (aj y (aj (mC (.bl b)) ao)))) (mC (.int 0))) ao)
def tl0{M:Int}(f:1<=M/\M<=200)  (d:Okt t)    (hx:x ρ O=.ok (.str t) O)(b:y ρ O=.ok (.int M) O):∃O',mTl x y false ρ O=.ok (.int (cnt M t:Int)) O'/\Kp O O':=by
 refine⟨_,NP (jV (nj ((bz (maS hx (maS b (ma1 rfl)))).trans (Nq f d O)) rfl rfl)) ?_,j4⟩;show aP [aY _ _]=_;rw[iU dO];show some _=_;rw[zf];rfl
def Qy2   (h:-1000000<n/\n<1000000/\l.length * n.toNat<=16777216):dD (.str l) (.int n)=some (.str (List.replicate n.toNat l).flatten):=by
 show(if -1000000<n/\n<1000000/\l.length * n.toNat<=16777216 then _ else _)=_;rw[if_pos h]
def NQ     (d:a ρ O=.ok (.str [c]) O)(hb:b ρ O=.ok (.int (n:Int)) O)(h:n<1000000):ak dD a b ρ O=.ok (.str (List.replicate n c)) O:=aM d hb (by
 rw[mL,jK,Qy2 ⟨by omega,by rw[zR];omega⟩,Int.toNat_natCast,List.flatten_replicate_singleton])
def CG    (h:a ρ O=.ok (.bl true) O1):c7 a b ρ O=b ρ O1:=by
 rw[Hv,h];rfl
def QvA{r:List LT}(b:r.length<=1000)(O:au):Aq [.lst (r.map dL)] O=.ok (.lst ((r.map l3).map dK)) O:=by
 refine cR (fD ?_);rw[zQ]
 exact lL (eV rfl) (by rw[zf];omega) rfl (iK (λρ=>∃a,ρ=[a]) dL _ r _ O [] ⟨none,rfl⟩ (by
  rintro x hx ρ ⟨a,rfl⟩
  exact⟨_,rfl,⟨_,rfl⟩,rfl,rK (maS rfl (maS (MP rfl rfl) (ma1 rfl))) (by show 3<=_;decide)⟩))
def Qs9{r:List LT}(f:∀x∈r,OkL x):okE (.lst ((r.map l3).map dK))=true:=uG (n:=5) (by decide) λd hd=>by
 obtain⟨y,b,rfl⟩:=zw.mp hd;obtain⟨x,hx,rfl⟩:=zw.mp b;obtain⟨h1,h2,h3⟩:=f x hx;have h2:=vW h2;have h3:=vW h3
 have q:∀c ,c<1114112->(PyData.str _).canLay0=true:=λc j=>oN λx hx=>by rw[zj.mp hx];exact j
 refine⟨rfl,?_,Nat.le_of_ble_eq_true rfl⟩;show((PyData.str (S [x.1])).canLay0&&((PyData.str (S [if x.1=32 then 46 else x.2.1])).canLay0&&((PyData.str (S [x.2.2.1])).canLay0&&true)))=true;rw[q _ (by omega),q _ (by split<;>omega),q _ (by omega)];rfl
def num(b:Bool)(k:Nat):Int:=if b=true then(k:Int) else 0
def QpH(hN:Nms N)(u:nm∈N)  (j:k+1<=100000){x:Du}(hx:eX x)(I:x.1.length<=200)(O:au):∃O',vB [.str (lQ b N nm (k+1) x),.int (num b (k+1)),.str nm,.int (wd N:Int),bD x] O=.ok (.bl true) O'/\Kp O O':=by
 have f:=Ck I hx.1;obtain⟨O',G,F⟩:=f.s O;have J:=wd8 hN;have E:=vU u;have q:=Cd u;have Q:=Nb (b:=b) j;have P:=Cm j
 have hl':(hdT N nm x.2).length<=9:=by unfold hdT;rw[ze,q];show _+1<=_;omega
 have sl:=f.l
 have L:(ahT b (k+1)++hdT N nm x.2).length<=16:=by rw[ze];omega
 have m:(lQ b N nm (k+1) x).length<=1000000:=by show((ahT b (k+1)++hdT N nm x.2)++shT x.1).length<=_;rw[ze];omega
 have C:(if x.2=kW then 124 else 62)=if x.2=cD then 62 else 124:=by rcases hx.2 with e | e<;>rw[e]<;>rfl
 refine⟨O',cR (b:=J6) ?_,F⟩;refine(aQ (bc (d:=.str (hdT N nm x.2)) (cZ (x:=pad (wd N) nm) (cZ (x:=nm) rfl (NQ rfl ((Ba rfl (jY (t:=nm) rfl (by omega))).trans (by rw[<-Int.ofNat_sub E])) (by omega)) (by rw[List.length_replicate];omega)) (aM rfl (eU (ma1 (aM (x:=.str x.2) (y:=.str cD) rfl rfl rfl)) rfl) (by rw[C];by_cases e:x.2=cD<;>simp only[e,if_true,if_false,decide_true,decide_false]<;>rfl)) (by rw[q];show _+1<=_;omega)))).trans ?_;refine(aQ (ρ':=[some (.str (lQ b N nm (k+1) x)),some (.int (num b (k+1))),some (.str nm),some (.int (wd N:Int)),some (bD x),some (.str (ahT b (k+1)++hdT N nm x.2)),none,none]) (O':=O) ?_).trans ?_
 ·cases b with
  |true=>exact(cT (bU (aM (x:=.int ((k+1:Nat):Int)) (y:=.int 0) rfl rfl ((congrArg (λx=>some (D.bl x)) (zv (by omega))))))).trans (bc (cZ (x:=pM (k+1)++[32]) (cZ (M8 (k:=k+1) rfl j) rfl (by show _+1<=_;omega)) rfl (by rw[ze];show _+1+_<=_;omega)))
  |false=>exact lM rfl
 refine(aQ (bc ((bz (ma1 rfl)).trans (QvA (by omega) O)))).trans ?_;refine(aQ (bc ((rZ rfl (pI (jY rfl (by omega))) rfl m).trans (by rw[Bx,lQ,List.drop_left])))).trans (fD ?_);refine(CG (aM ((rZ rfl rfl (pI (jY rfl (by omega))) m).trans (by rw[Bw,lQ,List.take_left])) rfl (by rw[mL,HS,zv rfl]))).trans ((CG (aM ((bz (ma1 (x:=.str (shT x.1)) rfl)).trans (f.w O)) rfl (M7 (Qs9 hx.1)))).trans ?_);exact nj (jY (t:=shT x.1) rfl (by omega)) (NP (jV ((bz (ma1 rfl)).trans G)) (z:=.int ((shT x.1).length:Int)) (by show aP [.str (shT x.1)]=_;rw[yt,if_pos (by omega)])) (congrArg (λx=>some (D.bl x)) (zv rfl))
def bRr:MS:=(aD (cN (bx (aB vB (aj (ak gIx (aa 0) (aa 5)) (aj (ak gIx (aV (aj (mC (.int 0)) (aj (ak aF (aa 1) (aa 5)) ao))) (aJ fV (aj (ak gGt (aa 1) (mC (.int 0))) ao))) (aj (aa 2) (aj (aa 3) (aj (ak gIx (aa 4) (aa 5)) ao)))))))) (aC (mC (.bl false))) aK)
def Qw9 :∀{l:List Du}{j:Nat}{x:Du},l[j]?=some x->(cj b N nm k l)[j]?=some (.str (lQ b N nm (k+j+1) x)):=by
 intro l
 induction l generalizing k with
 |nil=>intro j x h;cases h
 |cons y l ih =>
  intro j x h
  cases j with
  |zero=>cases h;rfl
  |succ j=>exact(ih h).trans (by rw[show k+1+j+1=k+(j+1)+1 by omega])
theorem NT{N:List (List Nat)}{nm:List Nat}(hN:Nms N)(u:nm∈N){k:Nat}{Ds:List Du}(C:k+Ds.length<=100000)(hx:∀x∈Ds,eX x/\x.1.length<=200){pv:D}:∀(n j:Nat) (O:au) (d:Option D),j+n=Ds.length->(∀O',Kp O O'->aY O' pv=.lst (Ds.map bD)) ->
  ∃O' f,bB (mgN 5) bRr ((List.range' j n).map λi:Nat=>D.int (0+(i:Int))) [some (.lst (cj b N nm k Ds)),some (.int (num b (k+1))),some (.str nm),some (.int (wd N:Int)),some pv,d] O=.nx [some (.lst (cj b N nm k Ds)),some (.int (num b (k+1))),some (.str nm),some (.int (wd N:Int)),some pv,f] O'/\Kp O O'
 | 0,j,O,d,_,_=>⟨O,d,rfl,λ_ _ h=>h⟩
 |n+1,j,O,d,hj,hp=>by
  have m:j<Ds.length:=by omega
  have hd :=zy m;obtain⟨h1,h2⟩:=hx _ (jh _);obtain⟨G,F,q⟩:=QpH hN u (k:=k+j) (by omega) h1 h2 O
  obtain⟨O',f,E,y⟩:=NT hN u C hx n (j+1) G _ (by omega) λO' h=>hp O' λ_ _ z=>h _ _ (q _ _ z)
  refine⟨O',f,?_,λ_ _ z=>y _ _ (q _ _ z)⟩;refine(iR rfl (ifN (Kd ((bz (maS ?_ (maS ?_ (maS rfl (maS rfl (ma1 ?_)))))).trans F)))).trans E
  ·exact aM rfl rfl (by rw[jL,jK,uD,Int.zero_add,mR];exact Qw9 hd)
  ·refine aM rfl (eU (ma1 (aM rfl rfl (z:=.bl (decide _)) rfl)) rfl) ?_
   cases b with
   |true =>
    rw[zv (show num _ _>0 by show(k+1:Int)>0;omega)];show some (D.int ((k+1:)+(0+j)))=some (D.int (k+j+1:));rw[show(k+1:)+(0+j)=((k+j+1:):Int) by omega]
   |false=>rfl
  ·exact aM rfl rfl (by rw[hp O λ_ _ z=>z,jK,uD,Int.zero_add,mR,zF,hd];rfl)
def NZ(hN:Nms N)(m:nm∈N)  {Ds:List Du}(q:k+Ds.length<=100000)(hx:∀x∈Ds,eX x/\x.1.length<=200){pv:D}  (d:∀O',Kp O O'->aY O' pv=.lst (Ds.map bD)):∃O',rJ [.lst (cj b N nm k Ds),.int (num b (k+1)),.str nm,.int (wd N:Int),pv] O=.ok (.bl true) O'/\Kp O O':=by
 obtain⟨O',y,e,j⟩:=NT hN m q hx Ds.length 0 O _ (by omega) d
 have u:=d O λ_ _ z=>z
 have ln:∀f,aJ aP (aj (aa 4) _) [some (.lst (cj b N nm k Ds)),some (.int (num b (k+1))),some (.str nm),some (.int (wd N)),some pv,f] O=.ok _ O:=λ_=>eU (ma1 rfl) (by rw[zg,u];show some _=_;rw[zf])
 refine⟨O',cR ?_,j⟩;refine(aQ (lM (or_f (Bf (Bh (t:="list") rfl rfl)) (bU (aM (m8 rfl) (ln _) (by rw[ir,jK,QAQ,zv rfl];rfl)))))).trans ((aQ (iT ((J9 (ln _) (by omega)).trans (by rw[gq,List.range_eq_range'])) e)).trans rfl)
def in_str{l:List (List Nat)}  (b:Bool):gIn b (.str s) (.lst (l.map D.str))=some (.bl (b ^^ decide (s∈l))):=by
 rw[Nv,if_pos]
 ·congr 3;rw[Bool.eq_iff_iff,List.any_eq_true,decide_eq_true_iff];constructor
  ·rintro⟨d,hd,e⟩;obtain⟨x,hx,rfl⟩:=zw.mp hd;rw[Nx] at e;rw[<-zW e];exact hx
  ·exact λh=>⟨_,zw.mpr ⟨s,h,rfl⟩,by exact zv rfl⟩
 ·rw[show fU _=true from rfl,Bool.true_and,je];intro d hd;obtain⟨r,f,rfl⟩:=zw.mp hd;rfl
def QBI       (f:g d ρ=some ρ1)(hb:b ρ1 O=.bk ρ2 j):bB g b (d::ds) ρ O=.nx ρ2 j:=by
 unfold bB;rw[f]
 dsimp
 rw[hb]
def CJ(d:D):Prop:=∃t,d=.str t/\∀c∈t,c<1114112
theorem CK  {N:List (List Nat)}{nm:List Nat}(hN:Nms N)(j:nm∈N):∀{k:Nat}{Ds:List Du},(∀x∈Ds,eX x/\x.1.length<=200)->∀d∈cj b N nm k Ds,CJ d
 |k,[],_,d,hd=>nomatch hd
 |k,x::Ds,h,d,hd=>by
  rcases zk.mp hd with rfl | hd
  ·have hx:=h x zd;refine⟨_,rfl,λc f=>?_⟩;unfold lQ ahT hdT pad at f;rw[zt,zt,zt,zt] at f
   rcases f with(f | (f | f) | f) | f
   ·split at f
    ·rcases zt.mp f with f | f
     ·exact QA1 _ c f
     ·rw[zj.mp f];decide
    ·cases f
   ·have:=(hN.ok nm j).ok c f
    omega
   ·rw[(List.mem_replicate.mp f).2];decide
   ·rw[zj.mp f]
    split<;>decide
   ·exact(Ck hx.2 hx.1.1).c c f
  ·exact CK hN j (λy m=>h y (zp _ m)) d hd
def eL(X:D)(c0:Option D)(N:List (List Nat))(M:Int)(b:Bool)(m tx:Nat)(E:List (List Nat))(K:List D)(x10 j f d x14 x15:Option D):aR:=[some X,c0,some (dNm N),some (.int M),some (.bl b),some (.ob m),some (.int (wd N:Int)),some (.ob tx),some (.lst (E.map D.str)),some (.lst K),x10,j,f,d,x14,x15]
def bRe:MS:=(aq (aA 15 (mSl (ak gIx (aB iQ (aj (gO (aa 7) (aa 12)) (aj (aa 3) (aj (ak (gIn false) (aa 12) (aa 8)) ao)))) (mC (.int 0))) (moS (aa 13)) moN))
  (aq (aD (cN (bx (aB rJ (aj (aa 14) (aj (ak dD (aJ fV (aj (aa 4) ao)) (ak aF (aJ aP (aj (aa 9) ao)) (mC (.int 1)))) (aj (aa 12) (aj (aa 6) (aj (aa 15) ao)))))))) (aC (mC (.bl false))) aK)
  (aq (aA 9 (ak aF (aa 9) (aa 14)))
  (aq (tX 14)
  (aq (aD (az (ak gNe (aU "Roll" "told_rows" lJ (aa 5) ao) (aa 9))) (aC (mC (.bl false))) aK)
  (qt (aU "Roll" "told_rows" lJ (aa 5) ao)))))))
def QA2{M:Int}{P:List Du}(hN:Nms N)(T:a∈N)(w:RW O M N N W Z hs q Y cl b (K++cj b N a K.length (P.drop n)))(G:∀x10 f F x14 x15,gO (aa 7) (aa 12) (eL X c0 N M b W tx E K x10 f (some (.str a)) F x14 x15) O=.ok (.str t) O)(u:∃d,iQ [.str t,.int M,.bl (decide (a∈E))] O=.ok (.tup [.ob O.length,d]) (O++[.ml (P.map bD)]))(hx:∀x∈P.drop n,eX x/\x.1.length<=200)(R:K.length+(P.drop n).length<=100000)(I:okE (.lst (K++cj b N a K.length (P.drop n)))=true):
  ∃O' C,bRe (eL X c0 N M b W tx E K x10 f (some (.str a)) (some (.int (n:Int))) (some (.lst (cj b N a K.length (P.drop n)))) x15) O=.nx (eL X c0 N M b W tx E (K++cj b N a K.length (P.drop n)) x10 f (some (.str a)) (some (.int (n:Int))) (some (.lst [])) C) O'/\Kp O O':=by
 obtain⟨d,u⟩:=u
 generalize hA:cj b N a K.length (P.drop n)=A at *
 have U:(P.drop n).length=A.length:=by rw[<-hA,ir]
 obtain⟨j,L,Q⟩:=NZ (b:=b) hN T R hx (pv:=.lst ((P.drop n).map bD)) (O:=O++[.ml (P.map bD)]) λ_ _=>rfl
 rw[hA] at L;have k:Kp O j:=j4.trans Q;have m:=w.kp k
 have J:∀ρ:aR,ρ[5]?=some (some (.ob W))->aU "Roll" "told_rows" lJ (aa 5) ao ρ j=.ok (.lst (K++A)) j:=λρ h=>(dG (n:=W) (by rw[gb,h]) m.r rfl rfl).trans (Nm m.r m.rows)
 refine⟨j,some (.lst ((P.drop n).map bD)),?_,k⟩;unfold bRe;refine .trans (aQ (jW (d:=.lst ((P.drop n).map bD)) (O1:=O++[.ml (P.map bD)]) ?_)) ?_
 ·rw[HB,nj ((bz (maS (G _ _ _ _ _) (maS (x:=.int M) rfl (ma1 (x:=.bl (decide (a∈E))) (aM (x:=.str a) (y:=.lst (E.map D.str)) rfl rfl ((in_str false).trans (by rw[Bool.false_xor]))))))).trans u) rfl (z:=.ob O.length) rfl,aW,pI (i:=(n:Int)) rfl,aW,QC3,aW,iU dO,uA,Bx,<-List.map_drop,gQ]
 refine .trans (aQ (ifN (Kd (.trans (bz (maS (x:=.lst A) rfl (maS (x:=.int (num b (K.length+1))) ?_ (maS (x:=.str a) rfl (maS (x:=.int (wd N:Int)) rfl (ma1 rfl)))))) L)))) ?_
 ·refine aM (eU (ma1 (x:=.bl b) rfl) (z:=.int (if b=true then 1 else 0)) rfl) (add_n (a:=K.length) (b:=1) (m8 (l:=K) rfl) rfl) ?_
  cases b with
  |true=>exact(uC (.inl (by decide))).trans (by rw[show(if true=true then(1:Int) else 0)=1 from rfl,Int.one_mul];rfl)
  |false=>exact(uC (.inl (by decide))).trans (by rw[show(if false=true then(1:Int) else 0)=0 from rfl,Int.zero_mul];rfl)
 refine .trans (aQ (bc (d:=.lst (K++A)) (aM (x:=.lst K) (y:=.lst A) rfl rfl ?_))) (.trans (aQ rfl) (.trans (aQ (ifN (bU (aM (J _ rfl) (y:=.lst (K++A)) rfl (M6 I))))) ?_))
 ·rw[jL,jL,QAj,if_pos (by omega)]
 ·unfold qt;rw[J _ rfl];rfl
structure Wd(O:au)(M:Int)(N:List (List Nat))(ro rl hs tx:Nat)(q:List Nat->Ix)(tt:List Nat->List Nat)(E:List (List Nat))(b:Bool)(K:List D)(B J:Nat):Prop where
 w:RW O M N N ro rl hs q tt (λn=>decide (n∈E)) b K
 t:TX O N tx tt
 ne:tx≠hs
 ok:∀n∈N,∀c∈tt n,(32<=c/\c<=125)\/c=10\/c=9
 len:∀n∈N,(tt n).length<=B
 kl:K.length<=J
 ks:∀d∈K,CJ d
def Qsh    (h:cH kv k=some e):(dq kv k d).length=kv.length:=by
 unfold dq
 cases z:kv.any _ with
 |true=>simp
 |false=>rw[Cq kv z] at h;cases h
def N5   :up f a (f a)=f:=by
 unfold up
 grind
def QDa  :up (λn=>decide (n∈E)) a true=λn=>decide (n∈E++[a]):=by
 funext x
 unfold up
 split
 ·rename_i h;simp[h]
 ·rename_i h;simp[h]
section
variable {M:Int}{t p:List Nat}
def N6{M:Int}(d:1<=M/\M<=200)   (hs:OkS M s)(b:∀x∈f,Itm x.2.1 x.2.2):∀x∈(rn M s f).2,eX x/\x.1.length<=200:=λx hx=>⟨Cw d.1 _ s hs b x hx,by have:=vR d.1 _ s hs b x hx;omega⟩
def fed(d:1<=M/\M<=200)(m:Okt t)(b:Okt (t++p)):(rn M s0 (sI (t++p))).2.drop (cnt M t)=(rn M (rn M s0 (sI t)).1 (jI t p)).2/\(∀x∈(rn M (rn M s0 (sI t)).1 (jI t p)).2,eX x/\x.1.length<=200)/\(rn M (rn M s0 (sI t)).1 (jI t p)).2.length<=t.length+p.length:=by
 have j:=(BW b).1;have S:=si b
 have f:∀x∈jI t p,Itm x.2.1 x.2.2:=λx hx=>S.i x (ja _ (by rw[j];exact zN _ hx))
 have q:=(ig d.1 (jI t p) _ (il d.1 m) f).2;have l:=S.l;rw[ze,j,ze,ze] at l;refine⟨?_,N6 d (il d.1 m) f,by omega⟩;rw[j,pH];exact List.drop_left
def N7{M:Int}(b:1<=M/\M<=200)(d:Okt t):(j0 M t).drop (cnt M t)=(rn M (rn M s0 (sI t)).1 (hI t)).2++lstP M t/\(∀x∈(rn M (rn M s0 (sI t)).1 (hI t)).2++lstP M t,eX x/\x.1.length<=200)/\((rn M (rn M s0 (sI t)).1 (hI t)).2++lstP M t).length<=t.length+1:=by
 have S:=si d
 have f :=λx hx=>S.i x (zN _ hx)
 have j:=(ig b.1 _ _ (il b.1 d) f).2;have l:=S.l;have ll:=Nk (M:=M) (t:=t);rw[ze] at l;refine⟨?_,λx hx=>?_,by rw[ze];omega⟩
 ·unfold j0;rw[pH,zD];exact List.drop_left
 ·rcases zt.mp hx with hx | hx
  ·exact N6 b (il b.1 d) f x hx
  ·have o:=(ig b.1 _ s0 (nF b.1) S.i).1;unfold lstP at hx;split at hx
   ·rw[zj.mp hx]
    have:=o.len
    exact⟨⟨o.ok,.inl rfl⟩,by show(rn M s0 _).1.row.length<=200;omega⟩
   ·cases hx
end
def bBr:MS:=(aD (az (ak gEq (ak bj (aB bN (aj (aa 10) (aj (mC (.int 4)) ao))) (mC (.int 12))) (mC (.int 0)))) (aq (cW 8 (aa 12))
  (aA 14 (aU "Roll" "close" rG (aa 5) (aj (aa 12) ao)))) (aq (lu (aa 7) (aa 12) (ak aF (gO (aa 7) (aa 12)) (aB m7 (aj (aa 10) ao))))
  (aA 14 (aU "Roll" "feed" rF (aa 5) (aj (aa 12) (aj (aB m7 (aj (aa 10) ao)) ao))))))
section
variable {X:D}{c0 x11 x12 x13 x14 x15:Option D}{M:Int}{N E:List (List Nat)}{b:Bool}{ro rl hs tx B J:Nat}{q:List Nat->Ix}{tt:List Nat->List Nat}{K:List D}{O:au}{a:List Nat}
def QAy(G:1<=M/\M<=200)(hN:Nms N)(w:Wd O M N ro rl hs tx q tt E b K B J)(j:a∈N)(hE:a∉E)(hEl:E.length<=100)(hB:B<=291)(hJ:J<=20000)(i:Int):
  ∃(O':au) (q':List Nat->Ix) (W:List Nat->List Nat) (E':List (List Nat)) (P:List Du) (U:Option D),bBr (eL X c0 N M b ro tx E K (some (.int i)) x11 (some (.str a)) (some (.int (cnt M (tt a):Int))) x14 x15) O=.nx (eL X c0 N M b ro tx E' K (some (.int i)) x11 (some (.str a)) (some (.int (cnt M (tt a):Int))) U x15) O'/\U=some (.lst (cj b N a K.length (P.drop (cnt M (tt a)))))/\Wd O' M N ro rl hs tx q' W E' b (K++cj b N a K.length (P.drop (cnt M (tt a)))) (B+9) (J+300)/\(∃d,iQ [.str (W a),.int M,.bl (decide (a∈E'))] O'=.ok (.tup [.ob O'.length,d]) (O'++[.ml (P.map bD)]))/\(∀x∈P.drop (cnt M (tt a)),eX x/\x.1.length<=200)/\E'.length<=E.length+1:=by
 have F:Okt (tt a):=⟨zI (w.len a j) (by omega),w.ok a j⟩;have tl:=w.len a j;have kl:=w.kl;obtain⟨kv,I,d0,d2⟩:=w.t
 by_cases Z:mix i 4 % 12=0
 ·obtain⟨R,C,c3⟩:=N7 G F;obtain⟨T,n',Q,L,f1⟩:=w.w.close G hN j j (zl hE) F (by omega);rw[N5,QDa,<-R] at L;rw[<-R] at Q C c3;refine⟨T,_,tt,E++[a],j0 M (tt a),_,?_,rfl,⟨L,⟨kv,f1 tx _ (w.w.apart j I) I,d0,d2⟩,w.ne,w.ok,λn u=>zI (w.len n u) (by omega),by rw[ze,ir];omega,λd hd=>(zt.mp hd).elim (w.ks d) (CK hN j C d)⟩,?_,C,by simp⟩
  ·unfold bBr;refine .trans (cT (Ce (cg (dz (c:=i) rfl rfl (by decide) (by decide)) rfl (by decide)) rfl Z)) (.trans (aQ (rM (d:=.str a) (ds:=E.map D.str) rfl rfl (by rw[zf];omega))) (.trans (jW ((dG (n:=ro) rfl w.w.r rfl (ma1 (x:=.str a) rfl)).trans Q)) ?_));unfold eL;rw[zM];rfl
  ·rw[zv (by simp)];exact Nr G F T
 ·obtain⟨p,tk,ep⟩:=Qvz i;have pl:=tk.len;have hp:Okt p:=⟨by omega,tk.ok⟩;have m:Okt (tt a++p):=⟨by rw[ze];omega,λc Z=>(zt.mp Z).elim (F.ok c) (hp.ok c)⟩;obtain⟨R,C,c3⟩:=fed G F m;have g2:=gs (y:=Ob.dk (dq kv (kyN a) (.str (tt a++p)))) I;have r2:=w.w.stx I w.ne (.dk (dq kv (kyN a) (.str (tt a++p))));have pj:=Qsh (d:=.str (tt a++p)) (d2 a j);obtain⟨T,n',Q,L,f1⟩:=r2.feed G hN j j (zl hE) F hp m (by omega);rw[show(false:Bool)=decide (a∈E) from(zl hE).symm,N5 (f:=λn=>decide (n∈E)),<-R] at L;rw[<-R] at Q C c3;have d4:=f1 tx _ (r2.apart j g2) g2
  have Y:up tt a (tt a++p) a=tt a++p:=dR;refine⟨T,_,up tt a (tt a++p),E,(rn M s0 (sI (tt a++p))).2,_,?_,rfl,⟨L,⟨_,d4,by omega,λn u=>?_⟩,w.ne,λn u=>?_,λn u=>?_,by rw[ze,ir];omega,λd hd=>(zt.mp hd).elim (w.ks d) (CK hN j C d)⟩,?_,C,by omega⟩
  ·unfold bBr;exact .trans (cC (eq_n (cg (dz (c:=i) rfl rfl (by decide) (by decide)) rfl (by decide)) rfl Z)) (.trans (aQ (Nj (y:=.str a) (k:=kyN a) (cZ (x:=tt a) (y:=p) (vX (y:=.str a) rfl rfl rfl I (d2 a j)) ((bz (ma1 (x:=.int i) rfl)).trans (ep O)) (by omega)) rfl rfl rfl I (by omega))) (.trans (jW ((dG (n:=ro) rfl r2.r rfl (maS (x:=.str a) rfl (ma1 ((bz (ma1 (x:=.int i) rfl)).trans (ep _))))).trans Q)) rfl))
  ·rw[Cu]
   by_cases e:n=a
   ·rw[e,if_pos rfl,Y]
   ·rw[if_neg (λz=>e (Cv z)),d2 n u,cU e]
  ·by_cases e:n=a
   ·rw[e,Y];exact m.ok
   ·rw[cU e];exact w.ok n u
  ·have l1:=w.len n u
   by_cases e:n=a
   ·rw[e,Y,ze];omega
   ·rw[cU e];omega
  ·rw[Y,zl hE];exact⟨_,Nq G m T⟩
end
def bLw:MS:=(aq (aA 11 (bW (bL (aa 2)) 1 [8] (mgN 0) (az (ak (gIn true) (aa 0) (aa 1))) (aa 0)))
  (aq (aD (az (ak gEq (aa 11) (aV ao))) w5 aK)
  (aq (aA 12 (ak gIx (aa 11) (ak bj (aB bN (aj (aa 10) (aj (mC (.int 3)) ao))) (aJ aP (aj (aa 11) ao)))))
  (aq (aA 13 (mTl (gO (aa 7) (aa 12)) (aa 3) false))
  (aq bBr bRe)))))
theorem N8{c0:Option D}{M:Int}{N:List (List Nat)}{b:Bool}{W rl hs tx:Nat}(hM:1<=M/\M<=200)(hN:Nms N):∀(Y:List Int) (O:au) (q:List Nat->Ix) (U:List Nat->List Nat) (E:List (List Nat)) (K:List D) (B J:Nat) (x10 u j f x14 x15:Option D),B+9 * Y.length<=291->J+300 * Y.length<=20000->E.length+Y.length<=100->Wd O M N W rl hs tx q U E b K B J ->
  ∃O' q' T E' K' R Q I G C F,bB (mgN 10) bLw (Y.map D.int) (eL X c0 N M b W tx E K x10 u j f x14 x15) O=.nx (eL X c0 N M b W tx E' K' R Q I G C F) O'/\RW O' M N N W rl hs q' T (λn=>decide (n∈E')) b K'/\∀d∈K',CJ d
 | [],O,q,U,E,K,B,J,x10,u,j,f,x14,x15,_,_,_,w=>⟨O,q,U,E,K,x10,u,j,f,x14,x15,rfl,w.w,w.ks⟩
 |i::Y,O,q,U,E,K,B,J,x10,u,j,f,x14,x15,hB,hJ,hE,w=>by
  rw[zA] at hB hJ hE;have l6:=hN.l4
  obtain⟨L,hL⟩:∃L,L=N.filter λn=>true ^^ decide (n∈E):=⟨_,rfl⟩
  have cm:bW (bL (aa 2)) 1 [8] (mgN 0) (az (ak (gIn true) (aa 0) (aa 1))) (aa 0) (eL X c0 N M b W tx E K (some (.int i)) u j f x14 x15) O=.ok (.lst (L.map D.str)) O:=by
   rw[hL]
   exact lL (eV (l:=N.map D.str) rfl) (by rw[zf];omega) rfl (Bq (λρ=>∃z,ρ=[z,some (.lst (E.map D.str))]) _ D.str N _ O [] ⟨_,rfl⟩ (by
    rintro n hn ρ ⟨z,rfl⟩
    exact⟨_,rfl,⟨_,rfl⟩,bU (aM (x:=.str n) (y:=.lst (E.map D.str)) rfl rfl (in_str true)),rfl⟩))
  by_cases h0:L=[]
  ·refine⟨O,q,U,E,K,some (.int i),some (.lst []),j,f,x14,x15,QBI rfl ?_,w.w,w.ks⟩;rw[h0] at cm;exact .trans (aQ (bc cm)) rfl
  ·have n0:0<L.length:=List.length_pos_iff.mpr h0;obtain⟨d,hd,ed⟩:=ixL (l:=L.map D.str) (v:=mix i 3) (n:=L.length) (by rw[zf]) (by omega);obtain⟨a,hm,rfl⟩:=zw.mp hd;rw[hL] at hm;obtain⟨Z,hm⟩:=List.mem_filter.mp hm
   have hE':a∉E:=λz=>by rw[zv z] at hm;cases hm
   have ne:gEq (.lst (L.map D.str)) (.lst [])=some (.bl false):=by
    rw[HW,okS (λd hd=>by
     obtain⟨n,hn,rfl⟩:=zw.mp hd;rw[hL] at hn
     exact⟨n,rfl,λc hc=>by have:=(hN.ok n (List.mem_filter.mp hn).1).ok c hc;omega⟩),okn]
    cases L with
    |nil=>exact absurd rfl h0
    |cons x l=>rw[zg,QyQ];rfl
   have ht:Okt (U a):=⟨zI (w.len a Z) (by omega),w.ok a Z⟩;obtain⟨kv,d1,d0,d2⟩:=w.t;obtain⟨O1,e1,k1⟩:=tl0 hM ht (ρ:=eL X c0 N M b W tx E K (some (.int i)) (some (.lst (L.map D.str))) (some (.str a)) f x14 x15) (vX (mo:=aa 7) (my:=aa 12) (y:=.str a) rfl rfl rfl d1 (d2 a Z)) (y:=aa 3) rfl;obtain⟨O2,q2,tt2,E2,P,C,e2,rfl,m,t2,c2,el⟩:=QAy (X:=X) (c0:=c0) (x14:=x14) (x15:=x15) hM hN ⟨w.w.kp k1,w.t.fr k1.fr Nu,w.ne,w.ok,w.len,w.kl,w.ks⟩ Z hE' (by omega) (by omega) (by omega) i;obtain⟨kv2,g1,g0,g2⟩:=m.t;have kl:=m.kl;rw[ze,ir] at kl;obtain⟨O3,F,e3,k3⟩:=QA2 (X:=X) (c0:=c0) (x10:=some (.int i)) (x15:=x15) (E:=E2) (tx:=tx) hN Z m.w (λ_ _ _ _ _=>vX (y:=.str a) rfl rfl rfl g1 (g2 a Z)) t2 c2 (by omega) (okS m.ks)
   obtain⟨O',q',T,E',K',R,Q,I,G,C,y15',e4,w4,s4⟩:=N8 hM hN Y O3 q2 tt2 E2 _ (B+9) (J+300) (some (.int i)) (some (.lst (L.map D.str))) (some (.str a)) _ (some (.lst [])) F (by omega) (by omega) (by omega) ⟨m.w.kp k3,m.t.fr k3.fr Nu,m.ne,m.ok,m.len,m.kl,m.ks⟩;refine⟨O',q',T,E',K',R,Q,I,G,C,y15',(iR rfl ?_).trans e4,w4,s4⟩;exact .trans (aQ (bc cm)) (.trans (aQ (lM (bU (aM (x:=.lst (L.map D.str)) (y:=.lst []) rfl rfl ne)))) (.trans (aQ (bc (aM (x:=.lst (L.map D.str)) rfl (cg (dz (c:=i) rfl rfl (by decide) (by decide)) (m8 (l:=L.map D.str) rfl) (by rw[zf];omega)) (by rw[zf];exact ed)))) (.trans (aQ (jW e1)) (.trans (aQ e2) e3))))
abbrev okc(c:Nat):Prop:=(32<=c/\c<=125)\/c=10\/c=9
def bTx:MS:=(aq (aA 4 (aV (aj (mC (.str [])) (aj (ak aF (ak aF (mC (.str [91])) (ak gIx (mC (.str [97,98,46])) (ak bj (aB bN (aj (aa 3) (aj (mC (.int 14)) ao))) (mC (.int 3))))) (mC (.str [93]))) (aj (ak aF (ak aF (mC (.str [91,47])) (ak gIx (mC (.str [97,98,46])) (ak bj (aB bN (aj (aa 3) (aj (mC (.int 15)) ao))) (mC (.int 3))))) (mC (.str [93]))) (aj (mC (.str [91,93])) (aj (mC (.str [10])) ao)))))))
  (aA 2 (ak aF (ak aF (aa 2) (ak gIx (aa 4) (ak bj (ak bj (aB bN (aj (aa 3) (aj (mC (.int 16)) ao))) (mC (.int 8))) (mC (.int 5))))) (ak dD (ak gIx (mC (.str [97,120,32,65])) (ak bj (aB bN (aj (aa 3) (aj (mC (.int 17)) ao))) (mC (.int 4)))) (ak aF (mC (.int 1)) (ak bj (aB bN (aj (aa 3) (aj (mC (.int 18)) ao))) (mC (.int 20))))))))
theorem Oa  (O:au):∀(F:List Int) (t:List Nat) (E C:Option D),(∀c∈t,okc c)->t.length+24 * F.length<=1000->∃t' I G,bB (mgN 3) bTx (F.map D.int) [a0,a1,some (.str t),E,C,none,none] O=.nx [a0,a1,some (.str t'),I,G,none,none] O/\(∀c∈t',okc c)/\t'.length<=1000
 | [],t,E,C,h,hl=>⟨t,E,C,rfl,h,by omega⟩
 |i::F,t,E,C,h,hl=>by
  rw[zA] at hl
  have q:∀c∈[97,98,46,97,120,32,65],okc c:=by decide
  obtain⟨c,f,W⟩:=ixS (l:=[97,98,46]) (v:=mix i 14) (n:=3) (by decide) rfl (by decide);obtain⟨g,R,T⟩:=ixS (l:=[97,98,46]) (v:=mix i 15) (n:=3) (by decide) rfl (by decide);obtain⟨x,hx,ex⟩:=ixS (l:=[97,120,32,65]) (v:=mix i 17) (n:=4) (by decide) rfl (by decide);obtain⟨d,hd,U⟩:=ixL (l:=[.str [],.str [91,c,93],.str [91,47,g,93],.str [91,93],.str [10]]) (v:=mix i 16 % 8) (n:=5) rfl (by decide);obtain⟨m,Q,X⟩:=pJ (mix i 18) (n:=20) (by decide);have oc:=q c (ja [97,120,32,65] f);have Z:=q g (ja [97,120,32,65] R);have J:=q x (zN [97,98,46] hx)
  obtain⟨u,rfl,P,Y⟩:∃u,d=.str u/\(∀c∈u,okc c)/\u.length<=4:=by
   unfold okc at *;simp only[zk,List.not_mem_nil,or_false] at hd
   rcases hd with rfl | rfl | rfl | rfl | rfl<;>refine⟨_,rfl,?_,by simp⟩<;>simp_all
  obtain⟨t',I,G,e,h2,L⟩:=Oa (a0:=a0) (a1:=a1) O F ((t++u)++List.replicate (1+m) x) (some (.int i)) _ (λc f=>by
   rcases zt.mp f with f | f
   ·exact(zt.mp f).elim (h c) (P c)
   ·rw[(List.mem_replicate.mp f).2];exact J) (by rw[ze,ze,List.length_replicate];omega)
  refine⟨t',I,G,(iR rfl ?_).trans e,h2,L⟩;have j:∀{k:Int}{ρ:aR},0<=k->k<=1000000->aB bN (aj (aa 3) (aj (mC (.int k)) ao)) (a0::a1::some (.str t)::some (.int i)::ρ) O=.ok (.int (mix i k)) O:=dz rfl rfl;unfold bTx;exact .trans (aQ (bc (Az (maS rfl (maS (cZ (x:=[91]++[c]) (y:=[93]) (cZ (x:=[91]) (y:=[c]) rfl (aM rfl (cg (j (by decide) (by decide)) rfl (by decide)) W) (by show 1+1<=_;decide)) rfl (by show 2+1<=_;decide)) (maS (cZ (x:=[91,47]++[g]) (y:=[93]) (cZ (x:=[91,47]) (y:=[g]) rfl (aM rfl (cg (j (by decide) (by decide)) rfl (by decide)) T) (by show 2+1<=_;decide)) rfl (by show 3+1<=_;decide)) (maS rfl (ma1 rfl))))) (by show 5<=_;decide)))) (bc (cZ (cZ (x:=t) rfl (aM rfl (cg (cg (j (by decide) (by decide)) rfl (by decide)) rfl (by decide)) U) (by omega)) (NQ (aM rfl (cg (j (by decide) (by decide)) rfl (by decide)) ex) (add_n (a:=1) (b:=m) rfl ((cg (j (by decide) (by decide)) rfl (by decide)).trans (congrArg (λx=>Res.ok (D.int x) O) Q))) (by omega)) (by rw[ze,List.length_replicate];omega)))
def Qyz(ns:List Int)(O:au):∃O',Aw [.lst (ns.map D.int)] O=.ok (.bl true) O':=by
 obtain⟨v,Y⟩:=MN ns O;obtain⟨d,hd,Z⟩:=ixL (l:=[.int 40,.int 120,.int 200]) (v:=mix v 37) (n:=3) rfl (by decide)
 obtain⟨M,rfl,j⟩:∃M,d=.int M/\1<=M/\M<=200:=by
  simp only[zk,List.not_mem_nil,or_false] at hd
  rcases hd with rfl | rfl | rfl<;>exact⟨_,rfl,by decide⟩
 obtain⟨t,U,T,Q,ok,tl⟩:=Oa (a1:=some (.int M)) O ((ns.drop 1).take 20) [] none none (λ_ z=>nomatch z) (by rw[List.length_take];show 0+_<=_;omega);have hN:Nms [[97]]:=⟨λn W=>by rw[zj.mp W];exact⟨by decide,by decide,by decide⟩,by decide,by decide,by decide⟩;have m:[97]∈[[97]]:=List.mem_singleton_self _;have f:Okt t:=⟨by omega,ok⟩;have h0:Okt []:=⟨by decide,λ_ z=>nomatch z⟩;obtain⟨O1,rl,hs,q,e2,G⟩:=NB j hN (O:=O) (bn:=false) (ma:=maD (aj (aV (aj (mC (.str [97])) ao)) (aj (aa 1) ao)) (.bl false)) (ρ:=[some (.lst (ns.map D.int)),some (.int M),some (.str t),U,T,none,none]) rfl
 obtain⟨O2,n2,P,u,_⟩:=G.feed j hN m m rfl h0 f f (by show 0+(0+_)<=_;omega);obtain⟨E,I,f3⟩:=fed j h0 f;have c0:cnt M []=0:=rfl;rw[c0,List.drop_zero] at E;rw[zO] at E u;rw[<-E] at P u I f3;have C:up (λ_:List Nat=>([]:List Nat)) [97] t [97]=t:=dR;obtain⟨R,n3,L,w3,_⟩:=u.close j hN m m dR (by rw[C];exact f) (by rw[C,zO,ir];show _<=_;have:([]:List Nat).length=0:=rfl;omega);obtain⟨g1,X,g3⟩:=N7 j f;rw[C,zO,ir] at L;obtain⟨d,e5⟩:=Nr j f R
 have F:(rn M s0 (sI t)).2++((rn M (rn M s0 (sI t)).1 (hI t)).2++lstP M t)=j0 M t:=by
  unfold j0;rw[pH,zD]
 obtain⟨O4,J,_⟩:=NZ (b:=false) hN m (k:=0) (Ds:=j0 M t) (by rw[<-F,ze];show 0+_<=_;have:([]:List Nat).length=0:=rfl;omega) (by rw[<-F];exact λx hx=>(zt.mp hx).elim (I x) (X x)) (pv:=.ob R.length) λO' k=>iU (k _ _ dO)
 rw[show cj false [[97]] [97] 0 (j0 M t)=_ from(by rw[<-F,M9,jk])] at J
 have sl:bL (mSl (aa 0) (moS (mC (.int 1))) (moS (mC (.int 21)))) [some (.lst (ns.map D.int)),some (.int M),some (.str []),none,none,none,none] O=.ok (((ns.drop 1).take 20).map D.int) O:=by
  rw[oK];show(ofO (gSl (aY O (.lst (ns.map D.int))) (some 1) (some 21)) O).bind _=_;rw[jL,uA,gQ,aW,show(some 1:Option Int)=some ((1:Nat):Int) from rfl,show(some 21:Option Int)=some ((21:Nat):Int) from rfl,vO,<-List.map_drop,<-List.map_take];rfl
 unfold bTx at Q;refine⟨O4,cR (b:=Av) ?_⟩;unfold Av;exact .trans (aQ (bc (aM (Az (maS rfl (maS rfl (ma1 rfl))) (by show 3<=_;decide)) (cg ((bz (maS ((bz (maS (x:=.lst (ns.map D.int)) rfl (ma1 (x:=.int 0) rfl))).trans Y) (ma1 (x:=.int 37) rfl))).trans (Mh v 37 (by decide) (by decide) O)) rfl (by decide)) Z))) (.trans (aQ (bc rfl)) (.trans (aQ (iT sl Q)) (.trans (aQ (jW e2)) (.trans (aQ (jW (nj ((dG (n:=O.length) rfl G.r rfl (maS (x:=.str [97]) rfl (ma1 (x:=.str t) rfl))).trans P) ((dG (n:=O.length) rfl u.r rfl (ma1 (x:=.str [97]) rfl)).trans L) (by exact if_pos (by rw[ir,ir];have:([]:List Nat).length=0:=rfl;omega))))) (fD ((Bb (pO rfl (pO rfl (pO rfl (pO rfl (jV (nj ((bz (maS (x:=.str t) rfl (maS (x:=.int M) rfl (ma1 (x:=.bl true) rfl)))).trans e5) (y:=.int 0) rfl rfl))))))).trans J))))))
theorem Oc:∀N:List (List Nat),mJ (N.map λn=>.tup [.str n,.str []])=some (N.map λn=>(kyN n,.str []))
 | []=>rfl
 |n::N=>by
  have i:=Oc N;simp  [mJ,i];rfl
theorem Od:∀(R:List (List Nat)) (P:List (List Nat)) (b:List (Key×D)),b.length<=P.length->(∀n∈P,cH b (kyN n)=some (.str []))->(((R.map λn=>(kyN n,D.str [])).foldl (λd p=>dq d p.1 p.2) b).length<=(P++R).length/\∀n∈P++R,cH ((R.map λn=>(kyN n,D.str [])).foldl (λd p=>dq d p.1 p.2) b) (kyN n)=some (.str []))
 | [],P,b,hl,h=>by grind
 |a::R,P,b,hl,h=>by
  have f:=Ni
  have i:=Od R (P++[a]) (dq b (kyN a) (.str [])) (by grind) λn j=>by
   rw[Cu]
   grind
  grind
def Qs8(ns:List Int)(hn:ns.length<=63):∃O',J8 [.lst (ns.map D.int)] []=.ok (.bl true) O':=by
 obtain⟨v,J⟩:=MN ns [];obtain⟨m,T,hm2⟩:=pJ (mix v 33) (n:=6) (by decide);obtain⟨N,hN,Y⟩:=QwM v (m:=1+m) (by omega) (by omega) []
 have F:(1:Int)<=1+mix v 34 % 9/\1+mix v 34 % 9<=200:=by omega
 generalize hMM:1+mix v 34 % 9=M at F
 obtain⟨b,U⟩:∃b,b=decide (mix v 35 % 2=0):=⟨_,rfl⟩;obtain⟨X,I⟩:∃X,X=D.lst (ns.map D.int):=⟨_,rfl⟩;obtain⟨f,rl,hs,q,Z,G⟩:=NB F hN (O:=[]) (bn:=b) (ma:=aj (aJ jE (aj (aa 2) ao)) (aj (aa 3) (aj (aa 4) ao))) (ρ:=[some X,some (.int v),some (dNm N),some (.int M),some (.bl b),none,none,none,none,none,none,none,none,none,none,none]) (maS (vC (d:=dNm N) rfl rfl) rfl)
 have z:=iK (g:=mgN 0) (t:=b8) (m:=aX (aj (aa 0) (aj (mC (.str [])) ao))) (λρ=>∃a,ρ=[a]) D.str (λn=>.tup [.str n,.str []]) N [none] f [] ⟨none,rfl⟩ (by
  rintro n hn' ρ ⟨a,rfl⟩
  exact⟨_,rfl,⟨_,rfl⟩,rfl,rfl⟩)
 rw[zO] at z;have l4:=hN.l4;have u:=Od N [] [] (zc _) (λ_ y=>nomatch y);rw[zO] at u;obtain⟨ml,u⟩:=u
 have dc:uy (aj (bW (bL (aa 2)) 1 [] (mgN 0) b8 (aX (aj (aa 0) (aj (mC (.str [])) ao)))) ao) [some X,some (.int v),some (dNm N),some (.int M),some (.bl b),some (.ob 0),some (.int (wd N:Int)),none,none,none,none,none,none,none,none,none] f=.ok (.ob f.length) (f++[.dk (qF (N.map λn=>(kyN n,D.str [])))]):=by
  unfold uy;rw[ma1 (lL (m:=bL (aa 2)) (own:=1) (cap:=[]) (eV (l:=N.map D.str) rfl) (by rw[zf];omega) rfl z),aW]
  show(match mJ (N.map λn=>.tup [.str n,.str []]) with
   |some j=>if j.length<=1000000 then Res.ok (D.ob f.length) (f++[Ob.dk (qF j)]) else .no
   |none=>.no)=_
  rw[Oc];exact if_pos (by rw[zf];omega)
 have Q:f.length≠hs:=by
  obtain⟨kv,W,_⟩:=G.hs;exact Nat.ne_of_gt (fG W)
 obtain⟨O2,q2,tt,E,K,y10,y11,y12,y13,y14,y15,P,C,R⟩:=N8 (X:=X) (c0:=some (.int v)) (tx:=f.length) (b:=b) F hN ((ns.drop 1).take 30) (f++[.dk (qF (N.map λn=>(kyN n,D.str [])))]) q (λ_=>[]) [] [] 0 0 none none none none none none (by rw[List.length_take];omega) (by rw[List.length_take];omega) (by rw[List.length_take];show 0+_<=_;omega) ⟨G.kp j4,⟨_,dO,zI ml (by omega),u⟩,Q,λ_ _ _ y=>(nomatch y),λ_ _=>zc _,zc _,λ_ y=>nomatch y⟩;obtain⟨O3,L⟩:=Qyz ns O2
 have sl:∀(ρ:aR) (O:au),bL (mSl (aa 0) (moS (mC (.int 1))) (moS (mC (.int 31)))) (some X::ρ) O=.ok (((ns.drop 1).take 30).map D.int) O:=λρ O=>by
  rw[oK,I];show(ofO (gSl (aY O (.lst (ns.map D.int))) (some 1) (some 31)) O).bind _=_;rw[jL,uA,gQ,aW,show(some 1:Option Int)=some ((1:Nat):Int) from rfl,show(some 31:Option Int)=some ((31:Nat):Int) from rfl,vO,<-List.map_drop,<-List.map_take];rfl
 rw[<-I] at J L ⊢;unfold bLw bBr bRe mTl at P;refine⟨O3,cR (b:=Ay) ?_⟩;unfold Ay;exact .trans (aQ (bc ((bz (maS rfl (ma1 (x:=.int 0) rfl))).trans J))) (.trans (aQ (bc ((bz (maS (x:=.int v) rfl (ma1 (add_n (a:=1) (b:=m) rfl ((cg (dz (c:=v) rfl rfl (by decide) (by decide)) rfl (by decide)).trans (by rw[<-T];rfl)))))).trans Y))) (.trans (aQ (bc (d:=.int M) ((m9 rfl (cg (dz (c:=v) rfl rfl (by decide) (by decide)) rfl (by decide))).trans (by rw[hMM])))) (.trans (aQ (bc (d:=.bl b) (aM (cg (dz (c:=v) rfl rfl (by decide) (by decide)) rfl (by decide)) (y:=.int 0) rfl (by rw[U];rfl)))) (.trans (aQ (jW Z)) (.trans (aQ (bc (Mu hN (i:=2) rfl))) (.trans (aQ (jW dc)) (.trans (aQ (bc rfl)) (.trans (aQ (bc rfl)) (.trans (aQ (iT (sl _ _) P)) (fD (.trans (CG (aM ((dG (n:=0) rfl C.r rfl rfl).trans (Nm C.r C.rows)) (y:=.lst K) rfl (M7 (okS R)))) ((bz (ma1 (x:=X) rfl)).trans L))))))))))))
def mkK{K:PySem.W.Frag}{h:Heap}{mg:Str->Option Value}{x:Str}{u:Value}{v:V}(X:K.In h)(G:h.Ns mainGlobals mg)(a:PySem.W.nsIn K mainGlobals x=some (some u))(r:RelV v u):∃u,mg x=some u/\RelV v u:=⟨_,PySem.W.mg_of X G a,r⟩
def mkT{K:PySem.W.Frag}{h:Heap}{mg:Str->Option Value}{x:Str}{p:Addr}{c:Value}{d:Option Addr}{i:Array Value}{n:Nat}{s:Array (Option Value)}{ls:List (List Nat)}(X:K.In h)(G:h.Ns mainGlobals mg)(a:PySem.W.nsIn K mainGlobals x=some (some (.ref p)))(l:K.lookup p=some ⟨c,d,.seq i n,s⟩)(t:c=.type "tuple")(z:i.size<=sizeLine)(v:aH (ls.map λl=>V.str (S l)) i.toList):t7 K mg x ls:=⟨_,_,_,_,PySem.W.mg_of X G a,l,t,rfl,z,v⟩
def fin{l:PySem.W.OpenLaw}{w:World}{K:PySem.W.Frag}{h:Heap}{mg:Str->Option Value}{fa:Addr}(X:K.In h)(G:h.Ns mainGlobals mg)(f:mg "law" = some (.ref fa))
  {U T R Q P O:Addr}{m L:Option Addr}{u:Array (Option Value)}{j J I E C y:Value}
  (x:PySem.W.nsIn K mainGlobals "law" = some (some (.ref U))) (q:K.lookup U=some ⟨j,m,.func (PySem.W.fnOf "law" "law" (dI gY) (cM gY) (bf gY) .none J I E L C y),u⟩)
  (F:(ClsAt K "Reader" T)->(ClsAt K "Maker" R)->(ClsAt K "Hand" Q)->(ClsAt K "Leaps" P)->(ClsAt K "Roll" O)->∀base,Fc l.prog w K mg base) (z0:ClsAt K "Reader" T) (z1:ClsAt K "Maker" R) (z2:ClsAt K "Hand" Q) (z3:ClsAt K "Leaps" P) (Z:ClsAt K "Roll" O):
  ∃fd:FuncData,(∀(s:Shared) (v:Value),BindsTo s fd ⟨[v],[]⟩ [("_law_script",v)])/\∀base:Heap,K.In base->base.Ns mainGlobals mg->cz l.prog w K mg base CX0 13 fa fd ["_law_script"] (tY K):=by
 have e:=f.symm.trans (PySem.W.mg_of X G x);cases e;refine⟨PySem.W.fnOf "law" "law" (dI gY) (cM gY) (bf gY) .none J I E L C y,λs v=>.of_eq rfl,λbase _ _=>?_⟩;obtain⟨f',fd',d,hk',hb',F',oc',od',Y,b⟩:=Qx3 (F z0 z1 z2 z3 Z base);have e2:=(PySem.W.mg_of X G x).symm.trans d;cases e2;have e3:=q.symm.trans b;cases e3;exact F'.imp (Yc Qs8)
def walk{l:PySem.W.OpenLaw}{q:Program}{loose:List Str}{XP:(Str->Option Value)->Heap->Prop}{YP:World->Heap->Prop}{d:DefRec}{K:Params->PySem.W.Frag}(hn:l.most=some 63)(hdf:d.params.defaults=[])
  (hY:∀(w:World) (h:Heap),YP w h->(K w.params).In h)
  (F:∀(w:World) (mg:Str->Option Value) (fa:Addr) (h:Heap),(K w.params).In h->h.Ns mainGlobals mg->mg d.name=some (.ref fa) ->
   ∃fd:FuncData,(∀(s:Shared) (u:Value),BindsTo s fd ⟨[u],[]⟩ [("_law_script",u)])/\∀base:Heap,(K w.params).In base->base.Ns mainGlobals mg->cz l.prog w (K w.params) mg base CX0 13 fa fd ["_law_script"] (tY (K w.params))):
  PySem.W.WalkO q loose XP YP l.row.toRowW d [] (λf vs=>PySem.call f vs):=
 L2.walk_ofR (n:=63) (k:=13) (x:="_law_script") (CX:=λ_=>CX0) (sp:=λw=>tY (K w.params)) hn (by decide) hdf ⟨rfl,by decide,by decide⟩ hY F (λ_ _ a ns hl ho hS=>⟨a,ns,rfl,hS,hl,ho,λ_=>rfl⟩) λ_ _ _ _ _ z=>z
end K51
open PySem PySem.W PyProof.Rows L2
set_option maxRecDepth 100000 in
set_option maxHeartbeats 0 in
theorem PySem.Challenge.cw_outweave_k51_heads_and_numbers_holds : PySem.Challenge.rw_outweave_k51_heads_and_numbers.Holds := by
 w_on;o_law;k_head;(case hw=>w_witness2)
 k_fill
 refine K51.walk (l:=PySem.Challenge.rw_outweave_k51_heads_and_numbers) rfl rfl (λw h Y=>PySem.W.kIn_of Y) ?F
 case F =>
  intro w mg fa h X G hmg
  refine' K51.fin X G hmg ?a ?b (λ_ _ _ _ _=>?f) ?z0 ?z1 ?z2 ?z3 ?z4
  (case a|b=>k_is)
  (case z0|z1|z2|z3|z4=>constructor;all_goals k_is)
  (case f=>intro base;constructor;all_goals repeat' first|((with_reducible apply mkD X G)<;>k_is)|((with_reducible refine ClsAt.dm ‹_› X G ?_);apply mkM<;>k_is)|((with_reducible refine ClsAt.kf ‹_› X G ?_);k_is)|((with_reducible refine ClsAt.dc ‹_› X G ?_);apply mkM<;>k_is)|((with_reducible refine ClsAt.dcd ‹_› X G ?_);apply QB8<;>k_is)|((with_reducible apply K51.mkK X G)<;>first|exact⟨_,rfl⟩|k_is)|((with_reducible apply K51.mkT X G)<;>first|exact rfl|k_is|decide +kernel|repeat (first|exact .nil|refine .cons ⟨_,rfl⟩ ?_))|((with_reducible apply PySem.W.mg_none_of X G)<;>k_is)|((with_reducible show lA _=true);first|kernel_rfl|decide +kernel)|constructor)
