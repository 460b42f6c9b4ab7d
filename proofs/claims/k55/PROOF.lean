import PyProof.Rows.All
import Wide.All
import OpenK.AllK
import Wide.FinOn
import Lean
import PyProof.EqAt
import PyProof.EqKinds
import PyProof.TupleCall
import PySem.Challenge.RW_outweave_k55_unroll_refuses
set_option Elab.async false
set_option linter.all false
set_option maxRecDepth 100000
set_option maxHeartbeats 4000000
noncomputable section
section
open PySem PyProof.Rows
abbrev za:=@wpAny_bind
abbrev zb:=@wpAny_pure
abbrev zc:=@Nat.le_refl
abbrev zd:=@List.map_cons
abbrev ze:=@Heap.lt_size
abbrev zf:=@List.length_append
abbrev zg:=@List.mem_singleton
abbrev zh:=@List.mem_cons
abbrev zj:=@List.mem_cons_self
abbrev zk:=@List.getElem?_eq_some_iff
abbrev zl:=@Heap.get?_push_of_some
abbrev zm:=@Bool.and_eq_true
abbrev zo:=@decide_eq_false
abbrev zp:=@List.mem_cons_of_mem
abbrev zq:=@Bool.false_ne_true
abbrev zt:=@List.length_cons
abbrev zu:=@List.size_toArray
abbrev zv:=@List.mem_append
abbrev zw:=@wpAny_mono
abbrev zx:=@List.length_map
abbrev zy:=@List.getElem?_set_ne
abbrev zz:=@Nat.ne_of_lt
abbrev zA:=@List.getElem?_append_left
abbrev zB:=@List.length_singleton
abbrev zC:=@List.getElem?_append_right
abbrev zD:=@List.append_assoc
abbrev zE:=@Nat.le_trans
abbrev zF:=@decide_eq_true
abbrev zG:=@Nat.lt_of_lt_of_le
abbrev zH:=@Option.some.inj
abbrev zI:=@List.append_nil
abbrev zJ:=@List.length_nil
abbrev zK:=@wpAny_holding
abbrev zL:=@List.getElem?_set_self
abbrev zM:=@List.getElem?_eq_getElem
abbrev zN:=@List.nil_append
abbrev zO:=@Heap.get?_push_size
abbrev zP:=@List.getElem?_map
abbrev zQ:=@List.mem_map
abbrev zR:=@List.length_set
abbrev zS:=@Nat.lt_irrefl
abbrev zT:=@List.mem_of_getElem?
abbrev zU:=@List.mem_append_right
abbrev zV:=@List.map_nil
abbrev zW:=@List.map_append
abbrev zX:=@wpAny_call
abbrev zY:=@List.getElem?_cons_succ
abbrev zZ:=@List.nodup_append
abbrev ja:=@Int.emod_nonneg
abbrev jb:=@List.mem_of_mem_drop
abbrev jc:=@of_decide_eq_true
abbrev jd:=@Nat.zero_add
abbrev je:=@Int.emod_lt_of_pos
abbrev jf:=@List.getElem?_cons_zero
abbrev jg:=@Nat.lt_succ_self
abbrev jh:=@List.all_eq_true
abbrev ji:=@List.map_congr_left
abbrev jj:=@Classical.not_not
abbrev jk:=@List.set_cons_succ
abbrev jl:=@List.set_cons_zero
end
namespace PySem.W.Fast
abbrev tw18201959293177371077:=()
abbrev tw12839069935864479136:=()
abbrev tw11632927778126168856:=()
abbrev tw3591196688347355877:=()
abbrev tw17843920899748929662:=()
abbrev tw6361340818338067687:=()
abbrev tw15059658755594300972:=()
abbrev tw1720940212895256022:=()
abbrev tw13108489565217098171:=()
abbrev tw879098408370748534:=()
abbrev tw8729387431837088383:=()
abbrev tw9556507729398169970:=()
abbrev tw15263566159344385167:=()
abbrev tw2699359337510992502:=()
abbrev tw5657379867614420070:=()
abbrev tw14361306245685592582:=()
abbrev tw7770269044484786112:=()
abbrev tw5885277516714181948:=()
abbrev tw3116422132447452619:=()
abbrev tw1674747021621722794:=()
abbrev tw2692255859826723467:=()
abbrev tw1948569245202345425:=()
abbrev tw6369494936386365035:=()
abbrev tw15723967413372005375:=()
abbrev tw14071246075726272574:=()
abbrev tw12554530942408359960:=()
abbrev tw17902853317606978027:=()
abbrev tw4329859182387996589:=()
abbrev tw8028053028881399617:=()
abbrev tw17444455570139078373:=()
abbrev tw3612761321105175464:=()
abbrev tw11631665319464452688:=()
abbrev tw18260871376158614057:=()
abbrev tw17681527036369703376:=()
abbrev tw10091923142742486857:=()
abbrev tw599038162465203765:=()
abbrev tw6225469197108593212:=()
abbrev tw13534432028452061243:=()
abbrev tw8404696467947912304:=()
abbrev tw17560465053560618237:=()
abbrev tw2429549835329357263:=()
abbrev tw1689901159132916103:=()
abbrev tw16994589778095099554:=()
abbrev tw4326052209478646700:=()
abbrev tw8702915935058473536:=()
abbrev tw7184447136035428061:=()
abbrev tw9285677185458758145:=()
abbrev tw15575398693732907186:=()
abbrev tw1274248469610406799:=()
abbrev tw12191728140523663702:=()
abbrev tw1399028338580092306:=()
abbrev tw10603371576718831418:=()
abbrev tw14940100838690901326:=()
abbrev tw12226634238801266962:=()
abbrev tw16709678067619807220:=()
abbrev tw2864431797510332024:=()
abbrev tw4893485095856228406:=()
abbrev tw10702754097197245039:=()
abbrev tw18443146695815212101:=()
abbrev tw14217430490709015717:=()
abbrev tw5071136187982267635:=()
abbrev tw3705587874940505087:=()
abbrev tw11134255657596963587:=()
abbrev tw9744172324712127494:=()
abbrev tw1293352697780289975:=()
abbrev tw13807566891149773133:=()
abbrev tw4338338543626268016:=()
abbrev tw8920092121603248453:=()
abbrev tw15909734165538183357:=()
abbrev tw6845465475847680094:=()
abbrev tw3909969279059561252:=()
abbrev tw11121224844411281167:=()
abbrev tw12914963513997408976:=()
abbrev tw14488274214053620063:=()
abbrev tw9171675552019893010:=()
abbrev tw9727790175665794543:=()
abbrev tw12923344539573994644:=()
abbrev tw6216780715918562924:=()
abbrev tw4566598367514508824:=()
abbrev tw15680117040949281250:=()
abbrev tw7226956853101159198:=()
abbrev tw7705831675741680538:=()
abbrev tw2487942843412069941:=()
abbrev tw13766712201106396213:=()
abbrev tw7622079030273381271:=()
abbrev tw13875452259193786487:=()
abbrev tw4539006583552884646:=()
abbrev tw7569408366910541508:=()
abbrev tw9504272665936798892:=()
abbrev tw7480634211003566599:=()
abbrev tw14172212331125900932:=()
abbrev tw5035367179231727700:=()
abbrev tw2060890788545762524:=()
abbrev tw8643596816280141645:=()
abbrev tw8261938079144644775:=()
abbrev tw193308477819454354:=()
abbrev tw15731515331820237559:=()
abbrev tw16147088025146388219:=()
abbrev tw18048350018097047776:=()
abbrev tw6653818147107092037:=()
abbrev tw11621989913514059031:=()
abbrev tw2015816982174092745:=()
abbrev tw13600655262997559991:=()
abbrev tw17438001444827565346:=()
abbrev tw13603730266657837436:=()
abbrev tw11418158806042099705:=()
abbrev tw3192161408417448753:=()
abbrev tw3674817302970636725:=()
abbrev tw18140735981609413975:=()
abbrev tw5333884300310765069:=()
abbrev tw7224021338143189272:=()
abbrev tw8753864745829832861:=()
abbrev tw17100369004271857699:=()
abbrev tw13662808462985749465:=()
abbrev tw5599847383864667228:=()
abbrev tw13676292894477923220:=()
abbrev tw17388016202713544511:=()
abbrev tw17332583040282266440:=()
abbrev tw1814002854099127178:=()
abbrev tw7801249048276673191:=()
abbrev tw14791345990210618353:=()
abbrev tw3589577026735790368:=()
abbrev tw14135871617754235980:=()
abbrev tw5071331570809530936:=()
abbrev tw1676973797416001709:=()
abbrev tw8199698968770722953:=()
abbrev tw10171634720999158657:=()
abbrev tw11277799356351620067:=()
abbrev tw8207509593153876101:=()
abbrev tw4771017939718845730:=()
abbrev tw16921002364762885008:=()
abbrev tw15072480986423587637:=()
abbrev tw12901543547596813043:=()
abbrev tw4955095449279462426:=()
abbrev tw1268156529775348990:=()
abbrev tw6625564496901856464:=()
abbrev tw12136161304167457256:=()
abbrev tw5224876940668051587:=()
abbrev tw18204908455759640774:=()
abbrev tw4184302345163363486:=()
abbrev tw4962429857915635125:=()
abbrev tw17415166325783247070:=()
abbrev tw8098376733139917449:=()
abbrev tw8186532670195379067:=()
abbrev tw11965738205110066299:=()
abbrev tw5404755957418888566:=()
abbrev tw13107067425844872531:=()
abbrev tw9821110571619530288:=()
abbrev tw1902047002626536404:=()
abbrev tw11304352024763040146:=()
abbrev tw16962090257997525455:=()
abbrev tw16361125897030737047:=()
abbrev tw11504547619968509630:=()
abbrev tw13071128205425487417:=()
abbrev tw12917993552271006509:=()
abbrev tw15752615923138555740:=()
abbrev tw8934249131666470543:=()
abbrev tw12211403410229288677:=()
abbrev tw6843594281096210380:=()
abbrev tw8427085644944015577:=()
abbrev tw1530197694477159083:=()
abbrev tw17741700754731159570:=()
abbrev tw17490942514135101150:=()
abbrev tw14016655379884983270:=()
abbrev tw5527879849192516099:=()
abbrev tw13934421399182783520:=()
abbrev tw12965933140688330012:=()
abbrev tw15367639591554522537:=()
abbrev tw10464801801190708944:=()
abbrev tw17257988126976627341:=()
abbrev tw17036260864965551538:=()
abbrev tw5906061316276017730:=()
abbrev tw16389130634064721964:=()
abbrev tw5014947103807838347:=()
abbrev tw4308598174776269844:=()
abbrev tw1001099153566209563:=()
abbrev tw13634479259355830621:=()
abbrev tw2006973274375717470:=()
abbrev tw1128170462402186179:=()
abbrev tw8859957681368277521:=()
abbrev tw10698436809872945252:=()
abbrev tw2318060252279425179:=()
abbrev tw10242858810414016485:=()
abbrev tw1555948368023014946:=()
abbrev tw7806923252392248557:=()
abbrev tw13601150695022910853:=()
abbrev tw9291516553899249225:=()
abbrev tw3510808515340310547:=()
abbrev tw18159184253282643380:=()
abbrev tw14594450136574141668:=()
abbrev tw11791086273760608344:=()
abbrev tw17775652055025169685:=()
abbrev tw15642923712830457941:=()
abbrev tw13499779945051714159:=()
abbrev tw12674366246287806622:=()
abbrev tw14420426189439962644:=()
abbrev tw16866096856592537095:=()
abbrev tw7157868471877509130:=()
abbrev tw5280706497267028795:=()
abbrev tw17240046672490227812:=()
abbrev tw15163527455030741056:=()
abbrev tw746223115464439781:=()
abbrev tw1093650827100874333:=()
abbrev tw787543968813784133:=()
abbrev tw5421373902391862686:=()
abbrev tw12164902405908201210:=()
abbrev tw1359937339713356141:=()
abbrev tw10108220066395702062:=()
abbrev tw14410321927989188414:=()
abbrev tw6916036478445120181:=()
abbrev tw13383628468879944721:=()
abbrev tw10997187525770849984:=()
abbrev tw9065226381567786402:=()
abbrev tw17899762593927141632:=()
abbrev tw12360699313978802044:=()
abbrev tw11557431872181101120:=()
abbrev tw17275324953414582857:=()
abbrev tw14435863341753340144:=()
abbrev tw10226618211094683957:=()
abbrev tw6003322304244402641:=()
abbrev tw16649886415046937242:=()
abbrev tw4921245088659402778:=()
abbrev tw15076191072769964659:=()
abbrev tw2965427791444020128:=()
abbrev tw9810890317496076400:=()
abbrev tw4433639154287404973:=()
abbrev tw17582579931356236210:=()
abbrev tw5471637102810740910:=()
abbrev tw2761390160543860528:=()
abbrev tw2831702609996576823:=()
abbrev tw17601539370004380727:=()
abbrev tw13041961728998207597:=()
abbrev tw10961442731745348755:=()
abbrev tw3584711788943002947:=()
abbrev tw17756496433308404698:=()
abbrev tw14284708270634915785:=()
abbrev tw1218175974731672272:=()
abbrev tw8097625062838560482:=()
abbrev tw8173638697782031948:=()
abbrev tw476421181640808908:=()
abbrev tw7725226866233528611:=()
abbrev tw6427038001514309376:=()
abbrev tw16860563718686469894:=()
abbrev tw6207586658526758995:=()
abbrev tw14289416460524589979:=()
abbrev tw10742123248854665493:=()
abbrev tw3889782757853074056:=()
abbrev tw12887949510031634851:=()
abbrev tw6095822655832661530:=()
abbrev tw8113210570418243382:=()
abbrev tw6962167837330858712:=()
abbrev tw2732606217186248927:=()
abbrev tw15260747659893135892:=()
abbrev tw12347664843617937852:=()
abbrev tw2218353967359940313:=()
abbrev tw16391303119826350934:=()
abbrev tw88501416247023163:=()
abbrev tw9534379930567493844:=()
abbrev tw13622533688468151056:=()
abbrev tw1214059855051375149:=()
abbrev tw3181724625572998167:=()
abbrev tw3722782948970349057:=()
abbrev tw3684074274520506716:=()
abbrev tw836960742851961439:=()
abbrev tw3406672778586605692:=()
abbrev tw4300357578993298409:=()
abbrev tw12318404224129444975:=()
abbrev tw14241079192812903619:=()
abbrev tw10118447852729088936:=()
abbrev tw17232839688288307073:=()
abbrev tw9185665660253547749:=()
abbrev tw1956384914721872452:=()
abbrev tw5373620424199815750:=()
abbrev tw18133174738999868675:=()
abbrev tw12023003923776499507:=()
abbrev tw8565843864666846363:=()
abbrev tw16983473563928817240:=()
abbrev tw2945920039637121411:=()
abbrev tw5103241175489363598:=()
abbrev tw10529219273538033693:=()
abbrev tw6112170441854277611:=()
abbrev tw11850823737587102267:=()
abbrev tw12243324900581406624:=()
abbrev tw6331535447482370538:=()
abbrev tw8081338261875597306:=()
abbrev tw9245560008413452725:=()
abbrev tw4896637377487489290:=()
abbrev tw4010787650164385060:=()
abbrev tw6477956196403021081:=()
abbrev tw13110289082498898913:=()
abbrev tw9212275557948037803:=()
abbrev tw16428779021506346930:=()
abbrev tw1594113126977193479:=()
abbrev tw13476894941705536331:=()
abbrev tw16864450098964289503:=()
abbrev tw12431058391984690892:=()
abbrev tw14618090337295952940:=()
abbrev tw3487752321716281328:=()
abbrev tw2248415410621873525:=()
abbrev tw3275699893158527860:=()
abbrev tw11454276552245621286:=()
abbrev tw5934714806234244428:=()
abbrev tw17012603716339448318:=()
abbrev tw5636001604234227887:=()
abbrev tw17376980677673914429:=()
abbrev tw11495431227774928150:=()
abbrev tw17992296505586394691:=()
abbrev tw3110000907486886105:=()
abbrev tw2318713789944285341:=()
abbrev tw3283733783015577473:=()
abbrev tw6490659001688814077:=()
abbrev tw9981998680408823917:=()
abbrev tw2187503576524052782:=()
abbrev tw11671268914583722990:=()
abbrev tw3519456639824224981:=()
abbrev tw12927683718632359094:=()
abbrev tw17514721671769959259:=()
abbrev tw10111311106105032900:=()
abbrev tw13431145996953097195:=()
abbrev tw4550708528300522978:=()
abbrev tw15572346998939991010:=()
abbrev tw11063711083485634412:=()
abbrev tw7443861842162537636:=()
abbrev tw14700129687030306110:=()
abbrev tw12709047053318806697:=()
abbrev tw8634005642933301024:=()
abbrev tw711332111245861581:=()
abbrev tw221638136238310686:=()
abbrev tw111267983566670001:=()
abbrev tw9899035235336352531:=()
abbrev tw11387876211787808904:=()
abbrev tw18291950652328500989:=()
abbrev tw70889412220551302:=()
abbrev tw10729984068621725434:=()
abbrev tw3889898273851962889:=()
abbrev tw8924737230622807500:=()
abbrev tw9326544985988471434:=()
abbrev tw10716092591556201660:=()
abbrev tw4910147128844714285:=()
abbrev tw7789950573563022641:=()
abbrev tw7010758900085467478:=()
abbrev tw10659184269958985493:=()
abbrev tw6572179917448623294:=()
abbrev tw7098504837354442332:=()
abbrev tw3690717884809608692:=()
abbrev tw5539941610402435573:=()
abbrev tw8357086040219944281:=()
abbrev tw16800824696621390313:=()
abbrev tw2909966715999723344:=()
abbrev tw16844012763185306462:=()
abbrev tw16176178201002034962:=()
abbrev tw11548766812584758487:=()
abbrev tw7817993718287590400:=()
abbrev tw3727955592599427521:=()
abbrev tw14734487687569867794:=()
abbrev tw18195846665624808592:=()
abbrev tw11357246182386701198:=()
abbrev tw1163852106679429148:=()
abbrev tw13113434318892643956:=()
abbrev tw11261089879328376323:=()
abbrev tw17171761439724982249:=()
abbrev tw3558187857369349908:=()
abbrev tw10156122804560393029:=()
abbrev tw6900813126572572504:=()
abbrev tw14995611626207277320:=()
abbrev tw9795369299144967635:=()
abbrev tw9510240402614589552:=()
abbrev tw17907081437631167456:=()
abbrev tw2504618257167924265:=()
abbrev tw14695058539892918631:=()
abbrev tw14411187938114374100:=()
abbrev tw8825826534202257794:=()
abbrev tw6249200287142065469:=()
abbrev tw9088823172153638143:=()
abbrev tw8981326406439133460:=()
abbrev tw755018102432988939:=()
abbrev tw15426136395455228299:=()
abbrev tw13801641163562532715:=()
abbrev tw1880622493817441732:=()
abbrev tw5926871565537356714:=()
abbrev tw10612892273850928533:=()
abbrev tw3070377829091896326:=()
abbrev tw10248447468066381224:=()
abbrev tw15387100105236058524:=()
abbrev tw6800019794606264265:=()
abbrev tw6240213675457006537:=()
abbrev tw2443043962775341315:=()
abbrev tw3961768392387476556:=()
abbrev tw13342444666766718071:=()
abbrev tw5475442980720891713:=()
abbrev tw10935418352221339125:=()
abbrev tw14313485105428839603:=()
abbrev tw17651808841702197909:=()
abbrev tw13160502690013014997:=()
abbrev tw3883197078570074500:=()
abbrev tw6938492919102846403:=()
abbrev tw17417533112768042980:=()
abbrev tw18124393138231534098:=()
abbrev tw8877596826605172321:=()
abbrev tw171171097753585448:=()
abbrev tw2944775463122365252:=()
abbrev tw12688006970938983561:=()
abbrev tw3257758223514033287:=()
abbrev tw18415118162850508233:=()
abbrev tw14470203612560784808:=()
abbrev tw223975632521015797:=()
abbrev tw4023381545802650933:=()
abbrev tw5054585623498092992:=()
abbrev tw1309864508357872811:=()
abbrev tw8154479667181251735:=()
abbrev tw13071023758672993270:=()
abbrev tw2463014978402019996:=()
abbrev tw3217583733205819768:=()
abbrev tw899895241522478650:=()
abbrev tw11332306173073883605:=()
abbrev tw12560720861734607408:=()
abbrev tw8713530297709862152:=()
abbrev tw2558775938201228995:=()
abbrev tw9039203511379116150:=()
abbrev tw10683167969903978527:=()
abbrev tw12844273341301558413:=()
abbrev tw7954368088638547576:=()
abbrev tw2030654194345282580:=()
abbrev tw12496954643081171654:=()
abbrev tw7318536277527560243:=()
abbrev tw8198873669835980718:=()
abbrev tw6093510831930310769:=()
abbrev tw8871061982242452576:=()
abbrev tw8285174982920626238:=()
abbrev tw3578339636186193868:=()
abbrev tw17962728869456373178:=()
abbrev tw9735380899450531168:=()
abbrev tw14797785308905525280:=()
abbrev tw14047490096240406536:=()
abbrev tw10123947662667925461:=()
abbrev tw944699205723504984:=()
abbrev tw12809996558048328323:=()
abbrev tw4313764960937417825:=()
abbrev tw6478635206920399:=()
abbrev tw11964240311197324669:=()
abbrev tw6684250462127718778:=()
abbrev tw2195220830479944614:=()
abbrev tw2622661719230027012:=()
abbrev tw1269183561871659721:=()
abbrev tw13156416686939884988:=()
abbrev tw15678152583788470941:=()
abbrev tw14619134353594830670:=()
end PySem.W.Fast
namespace L2
open PySem PySem.Spec PyProof.Rows
abbrev Key:=Sum Int Str
noncomputable def nC:Key->Value->Bool
 | .inl k,v=>Value.isInt k v
 | .inr x,v=>Value.isStrOf x v
noncomputable def Mm(w:World):Key->Int
 | .inl k=>hashInt k
 | .inr x=>hashStr w x
theorem jA:∀{k:Key}{v:Value},nC k v=true->(∃i t,k=Sum.inl i/\v=Value.int i t)\/(∃x t,k=Sum.inr x/\v=Value.str x t)
 | .inl i,v,h=>by
  obtain⟨t,e⟩:=Value.isInt_shape (k:=i) (v:=v) h;exact .inl ⟨i,t,rfl,e⟩
 | .inr x,v,h=>by
  obtain⟨t,e⟩:=Value.isStrOf_shape (x:=x) (v:=v) h;exact .inr ⟨x,t,rfl,e⟩
theorem Mp(i:Int)(t:Tok):nC (.inl i) (.int i t)=true:=by simp[nC,Value.isInt]
theorem Mq(x:Str)(t:Tok):nC (.inr x) (.str x t)=true:=by simp[nC,Value.isStrOf]
theorem Mr(a b:Int):decide ((Sum.inl a:Key)=Sum.inl b)=(a == b):=by
 by_cases e:a=b
 ·subst e;simp
 ·have h:¬(Sum.inl a:Key)=Sum.inl b:=λq=>e (Sum.inl.inj q)
  rw[zo h];exact(beq_eq_false_iff_ne.mpr e).symm
theorem Ms(a b:Str):decide ((Sum.inr a:Key)=Sum.inr b)=decide (a=b):=by
 by_cases e:a=b
 ·subst e;simp
 ·have h:¬(Sum.inr a:Key)=Sum.inr b:=λq=>e (Sum.inr.inj q)
  rw[zo h,zo e]
theorem Mt(a:Int)(b:Str):decide ((Sum.inl a:Key)=Sum.inr b)=false:=zo (λq=>nomatch q)
theorem Mu(a:Str)(b:Int):decide ((Sum.inr a:Key)=Sum.inl b)=false:=zo (λq=>nomatch q)
noncomputable def cD(prog:Program)(w:World):PySem.KeyKind prog w Key where
 is:=nC
 hash:=Mm w
 inj:=λv a b ha hb=>by
  rcases jA ha with⟨i,t,rfl,rfl⟩ | ⟨x,t,rfl,rfl⟩
  ·rcases jA hb with⟨j,u,rfl,e⟩ | ⟨y,u,rfl,e⟩
   ·injection e with e1 _;rw[e1]
   ·exact nomatch e
  ·rcases jA hb with⟨j,u,rfl,e⟩ | ⟨y,u,rfl,e⟩
   ·exact nomatch e
   ·injection e with e1 _;rw[e1]
 byValue:=λk v h=>by
  rcases jA h with⟨i,t,rfl,rfl⟩ | ⟨x,t,rfl,rfl⟩<;>rfl
 pyHash:=λhv h=>by
  rcases jA hv with⟨i,t,rfl,rfl⟩ | ⟨x,t,rfl,rfl⟩
  ·exact wpAny_pyHash_int h
  ·exact wpAny_pyHash_str h
 eqBool:=λhu hv h=>by
  rcases jA hu with⟨i,t,rfl,rfl⟩ | ⟨x,t,rfl,rfl⟩
  ·rcases jA hv with⟨j,u,rfl,rfl⟩ | ⟨y,u,rfl,rfl⟩
   ·rw[Mr] at h;exact wpAny_eqBool_int h
   ·rw[Mt] at h;exact SeqAt.EqAt.int_str i t y u _ _ _ _ h
  ·rcases jA hv with⟨j,u,rfl,rfl⟩ | ⟨y,u,rfl,rfl⟩
   ·rw[Mu] at h;exact SeqAt.EqAt.str_int x t j u _ _ _ _ h
   ·rw[Ms] at h;exact wpAny_eqBool_str h
 «strs»:=λk x t v h=>by
  rcases jA h with⟨i,u,rfl,e⟩ | ⟨y,u,rfl,e⟩
  ·exact nomatch e
  ·injection e with e1 _
   subst e1
   cases v<;>rfl
theorem Mv(prog:Program)(w:World)(i:Int)(t:Tok):(cD prog w).is (.inl i) (.int i t)=true:=Mp i t
theorem Mw(prog:Program)(w:World)(x:Str)(t:Tok):(cD prog w).is (.inr x) (.str x t)=true:=Mq x t
inductive V where
 | non | bl (b:Bool) | int (i:Int) | str (x:Str) | byt (b:Array UInt8) | flt (b:UInt64) | ref (a:Addr) | ty (n:String)
 deriving DecidableEq
noncomputable def RelV:V->Value->Prop
 | .non,u=>u=Value.none
 | .bl b,u=>u=Value.bool b
 | .int i,u=>∃t,u=Value.int i t
 | .str x,u=>∃t,u=Value.str x t
 | .byt b,u=>∃t,u=Value.bytes b t
 | .flt b,u=>∃t,u=Value.float b t
 | .ref a,u=>u=Value.ref a
 | .ty n,u=>u=Value.type n
abbrev aL:List V->List Value->Prop:=Paired RelV
theorem aL.length   (r:aL xs us):xs.length=us.length:=Paired.length r
theorem aL.get:∀{xs:List V}{us:List Value}{i:Nat}{x:V},aL xs us->xs[i]?=some x->∃u,us[i]?=some u/\RelV x u
 | _,_,_,_,.nil,e=>by simp at e
 | _,_,0,_,.cons r _,e=>by simp at e;subst e;exact⟨_,rfl,r⟩
 | _,_,i+1,x,.cons _ t,e=>by
  obtain⟨u,h1,h2⟩:=aL.get (i:=i) (x:=x) t (by simpa using e);exact⟨u,by simpa using h1,h2⟩
theorem aL.set   (r:RelV x u):∀{xs:List V}{us:List Value} (i:Nat),aL xs us->aL (xs.set i x) (us.set i u)
 | _,_,_,.nil=>.nil
 | _,_,0,.cons _ t=>.cons r t
 | _,_,i+1,.cons q t=>.cons q (aL.set r i t)
theorem aL.append:∀{xs ys:List V}{us a:List Value},aL xs us->aL ys a->aL (xs++ys) (us++a)
 | _,_,_,_,.nil,s=>s
 | _,_,_,_,.cons r t,s=>.cons r (aL.append t s)
theorem aL.take:∀{xs:List V}{us:List Value} (n:Nat),aL xs us->aL (xs.take n) (us.take n)
 | _,_,0,_=>.nil
 | _,_,_+1,.nil=>.nil
 | _,_,n+1,.cons r t=>.cons r (aL.take n t)
theorem aL.drop:∀{xs:List V}{us:List Value} (n:Nat),aL xs us->aL (xs.drop n) (us.drop n)
 | _,_,0,r=>r
 | _,_,_+1,.nil=>.nil
 | _,_,n+1,.cons _ t=>aL.drop n t
noncomputable def dC:Option V->Option Value->Prop
 |some v,some u=>RelV v u
 |none,none=>True
 | _,_=>False
noncomputable def KV :List (κ×V)->List (κ×Value)->Prop:=Paired λ(p:κ×V) (q:κ×Value)=>p.1=q.1/\RelV p.2 q.2
noncomputable def kV:Key->V
 | .inl i=>.int i
 | .inr x=>.str x
section
variable {prog:Program}{w:World}{K:Type}[DecidableEq K](knd:KeyKind prog w K)(ik:Int->K)
noncomputable def fj(h:Heap)(k:Int×List K)(a:Addr):Prop:=∃o items n u c,h.get? a=some o/\o.cls=.type "tuple"/\o.data=.seq items n/\items.toList=[u,.ref c]/\knd.is (ik k.1) u=true/\IsTupleKey knd h k.2 c
variable {knd ik}
theorem fj.typeIs{s:Shared}{k:Int×List K}{a:Addr}(x:fj knd ik s.heap k a):s.TypeIs (.ref a) "tuple":=let ⟨o,_,_,_,_,ho,hc,_⟩:=x;⟨o,ho,hc⟩
theorem fj.inj(r:∀i j,ik i=ik j->i=j){h:Heap}{a:Addr}{x y:Int×List K}(G:fj knd ik h x a)(F:fj knd ik h y a):x=y:=by
 obtain⟨o,items,n,u,c,I,_,hd,L,H,J⟩:=G;obtain⟨E,g,Q,P,R,m,_,f,d,l,q⟩:=F;obtain rfl:o=E:=zH (I.symm.trans m);rw[hd] at f
 injection f with h1 _
 subst h1;rw[L] at d
 injection d with O b
 injection b with b _
 injection b with b
 subst O b;have C:=r _ _ (knd.inj _ _ _ H l);have t:=J.inj q;exact Prod.ext C t
theorem fj.keeps{h h':Heap}{k:Int×List K}{a d:Addr}{o:Obj}{es ep}(x:fj knd ik h k a)(j:h.get? d=some o)(hd:o.data=.dict es ep)(hs:Heap.SameBut d h h'):fj knd ik h' k a:=by
 obtain⟨i,items,n,u,c,f,r,b,q,l,m⟩:=x
 have g:a≠d:=by
  rintro rfl;obtain rfl:i=o:=zH (f.symm.trans j);rw[hd] at b;exact nomatch b
 exact⟨i,items,n,u,c,(hs.2 a g).trans f,r,b,q,l,m.keeps j hd hs⟩
variable {A:Around}{E:Value->Shared->Prop}{s:Shared}
noncomputable def vJ(knd:KeyKind prog w K)(ik:Int->K)(k:Int×List K):Int:=reduceHash (Builtin.Tuple.tupleHashOf [knd.hash (ik k.1),tupleKeyHash knd k.2])
theorem Mx{k:Int×List K}{a:Addr}{Q:Int->Shared->Prop}(f:A.units+1<cLine)(q:fj knd ik s.heap k a)(h:Q (vJ knd ik k) {s with toks:=s.toks+(k.2.length+3)}):
  wpAny (model prog w) A (pyHash (.ref a)) Q E s:=by
 have g:=q.typeIs;have r:A.units<cLine:=Nat.lt_of_le_of_lt (Nat.le_add_right _ 1) f;obtain⟨o,items,n,u,c,t,_,hd,y,l,m⟩:=q;unfold pyHash
 first | unfold pyHashByItsType | skip
 first | refine za (wpAny_cRoomFor_or (.inr r) ?_) | skip
 refine za (wpAny_specialOf g F.slot_tuple_hash.lookup ?_);show wpAny _ _ (if(some (Value.builtin "tuple.__hash__") == some Value.none)=true then _ else _) Q E s;rw[if_neg (by rw[beq_builtin_none];exact zq)];refine za (wpAny_specialOf g F.slot_tuple_hash.lookup ?_);show wpAny _ _ (callSpecialIfBoundUnlessNone? (.ref a) "__hash__" _ >>= _) Q E s;refine za (wpAny_callSpecialIfBoundUnlessNone?_slot g F.slot_tuple_hash (wpAny_call_entry F.slot_tuple_hash g F.entry_tuple_hash ?_ (F.args_tuple_hash_1 _)));show wpAny _ _ (Builtin.Tuple.tupleItemsOf (.ref a) >>= _) _ _ s;refine za (wpAny_tupleItemsOf t hd ?_)
 refine za ?_;rw[<-Array.forIn_toList,y];refine wpAny_forIn_list _
  (λrest (b:Array Int) s'=>(rest=[u,.ref c]/\b.toList=[]/\s'=s)\/(rest=[.ref c]/\b.toList=[knd.hash (ik k.1)]/\s' = {s with toks:=s.toks+1})\/(rest=[]/\b.toList=[knd.hash (ik k.1),tupleKeyHash knd k.2]/\s' = {s with toks:=s.toks+(k.2.length+2)}))
  _ ?_ ?_ _ _ (.inl ⟨rfl,rfl,rfl⟩)
 ·rintro x rest b s' (⟨d,hb,rfl⟩ | ⟨d,hb,rfl⟩ | ⟨d,hb,rfl⟩)
  ·injection d with j i
   subst j i;refine za (knd.pyHash l ?_)
   first
    | exact zb (.inr (.inl ⟨rfl,by simp[hb],rfl⟩))
    | exact za (zb (zb (.inr (.inl ⟨rfl,by simp[hb],rfl⟩))))
  ·injection d with j i
   subst j i;refine za (wpAny_pyHash_tuple (tupleKind_room_in1 (knd:=knd) f) (s:={s with toks:=s.toks+1}) m ?_)
   first
    | exact zb (.inr (.inr ⟨rfl,by simp[hb],by simp[Nat.add_assoc,Nat.add_comm];omega⟩))
    | exact za (zb (zb (.inr (.inr ⟨rfl,by simp[hb],by simp[Nat.add_assoc,Nat.add_comm];omega⟩))))
  ·cases d
 ·rintro b s' (⟨d,hb,rfl⟩ | ⟨d,hb,rfl⟩ | ⟨d,hb,rfl⟩)
  ·cases d
  ·cases d
  ·show wpAny _ _ (retInt (Builtin.Tuple.tupleHashOf b.toList)) _ _ _;rw[hb];refine wpAny_ret_mkInt ?_;show wpAny _ _ (if(decide (-(2:Int) ^ 63<=Builtin.Tuple.tupleHashOf [knd.hash (ik k.1),tupleKeyHash knd k.2])&&decide (Builtin.Tuple.tupleHashOf [knd.hash (ik k.1),tupleKeyHash knd k.2]<2 ^ 63))=true then _ else _) Q E _;unfold vJ reduceHash at h
   by_cases d:(decide (-(2:Int) ^ 63<=Builtin.Tuple.tupleHashOf [knd.hash (ik k.1),tupleKeyHash knd k.2])&&decide (Builtin.Tuple.tupleHashOf [knd.hash (ik k.1),tupleKeyHash knd k.2]<2 ^ 63))=true
   ·rw[if_pos d];rw[if_pos d] at h;exact zb (by simpa [Nat.add_assoc] using h)
   ·rw[if_neg d];rw[if_neg d] at h;exact za (wpAny_rule (zb (by simpa [Nat.add_assoc] using h)))
theorem Mz(R:∀i j,ik i=ik j->i=j)(hu:A.units+2<cLine){x y:Int×List K}{a b:Addr}{P:Fin->Shared->Prop}(hx:fj knd ik s.heap x a)(hy:fj knd ik s.heap y b)(h:P (.done (.ret (.bool (decide (x=y))))) s):
  wpAny (model prog w) A (Builtin.«tuple.__eq__» ⟨[.ref a,.ref b],[]⟩) P E s:=by
 have hTb:=hy.typeIs;obtain⟨oa,t,na,ua,ca,Q,_,U,l,Z,Y⟩:=hx;obtain⟨ob,q,nb,ub,cb,O,_,T,g,X,W⟩:=hy
 have L:(t.size == q.size)=true:=by
  have h1:t.toList.length=2:=by rw[l];rfl
  have h2:q.toList.length=2:=by rw[g];rfl
  rw[Array.length_toList] at h1 h2;rw[h1,h2];rfl
 show wpAny _ _ (isInstance (.ref b) (.type "tuple") >>= _) _ _ s;refine za (wpAny_isInstance hTb isSubtype_tuple_tuple ?_);simp only[Bool.not_true,Bool.false_eq_true,if_false];refine za (wpAny_tupleItemsOf Q U ?_);refine za (wpAny_tupleItemsOf O T ?_);refine za ?_;rw[l,g];refine wpAny_forIn_list _
  (λrest r C=>r.1=none/\C=s/\(rest=[(ua,ub),(.ref ca,.ref cb)]\/(rest=[(.ref ca,.ref cb)]/\x.1=y.1)\/(rest=[]/\x.1=y.1/\x.2=y.2)))
  _ ?_ ?_ _ _ ⟨rfl,rfl,.inl rfl⟩
 ·rintro⟨u,v⟩ rest r C ⟨I,rfl,(c | ⟨c,F⟩ | ⟨c,_⟩)⟩
  ·injection c with f H
   injection f with f G
   subst f H G;refine za (knd.eqBool (a:=ik x.1) (b:=ik y.1) Z X ?_)
   by_cases d:x.1=y.1
   ·rw[zF (by rw[d])];simp only[Bool.not_true,Bool.false_eq_true,if_false];exact zb ⟨by simp,by simp,.inr (.inl ⟨by simp,d⟩)⟩
   ·rw[zo (λz=>d (R _ _ z))];simp only[Bool.not_false,if_true]
    have J:decide (x=y)=false:=zo λz=>d (by rw[z])
    rw[J] at h;exact za (zb (zb (zb h)))
  ·injection c with f H
   injection f with f G
   subst f H G;refine za (wpAny_eqBool_tuple (by omega) Y W ?_)
   by_cases d:x.2=y.2
   ·rw[zF d];simp only[Bool.not_true,Bool.false_eq_true,if_false];exact zb ⟨by simp,by simp,.inr (.inr ⟨by simp,F,d⟩)⟩
   ·rw[zo d];simp only[Bool.not_false,if_true]
    have J:decide (x=y)=false:=zo λz=>d (by rw[z])
    rw[J] at h;exact za (zb (zb (zb h)))
  ·cases c
 ·rintro⟨r1,r2⟩ C ⟨I,rfl,(c | ⟨c,F⟩ | ⟨c,F,e2⟩)⟩
  ·cases c
  ·cases c
  ·simp only at I;subst I;refine zb ?_
   have m:(t.size == q.size)=decide (x=y):=by rw[L,zF (Prod.ext F e2)]
   show P (.done (.ret (.bool (t.size == q.size)))) C;rw[m];exact h
theorem MF(d:∀i j,ik i=ik j->i=j){x y:Int×List K}{a b:Addr}{Q:Bool->Shared->Prop}(r:A.units+4<cLine)(f:fj knd ik s.heap x a)(g:fj knd ik s.heap y b)(h:Q (decide (x=y)) s):
  wpAny (model prog w) A (eqBool (.ref a) (.ref b)) Q E s:=by
 have q:A.units<cLine:=by omega
 have m:A.in1.units+2<cLine:=by
  show A.units+1+2<cLine;omega
 have l:A.units+2<cLine:=by omega
 unfold eqBool
 try with_reducible refine zK ?_
 show wpAny _ _ (if(Value.ref a == Value.ref b)=true then _ else _) Q E s
 by_cases c:(Value.ref a == Value.ref b)=true
 ·rw[if_pos c]
  have e:a=b:=by have:=eq_of_beq c;injection this
  subst e;obtain rfl:=f.inj d g;exact za (wpAny_rule (zb (by simpa using h)))
 ·rw[if_neg c]
  exact za (wpAny_richCompare_same_room (op:=.Eq) f.typeIs g.typeIs F.slot_tuple_eq
   (wpAny_call_entry F.slot_tuple_eq f.typeIs F.entry_tuple_eq (Mz d (by first | exact m | exact l) f g ⟨_,rfl,(λe=>nomatch e),wpAny_truthy_bool h⟩) (F.args_tuple_eq_2 _ _)) q)
theorem MJ{m:Nat}{i:List K}{a:Addr}{Q:Bool->Shared->Prop}(f:IsTupleKey knd s.heap i a)(h:Q true s):wpAny (model prog w) A (eqIsQuiet (m+1) (.ref a)) Q E s:=by
 have g:=f.typeIs;obtain⟨o,items,n,j,_,hd,l⟩:=f;unfold eqIsQuiet;refine za (wpAny_specialOf g F.slot_tuple_eq.lookup ?_);show wpAny _ _ (isInstance (.ref a) (.type "tuple") >>= _) _ _ s;refine za (wpAny_isInstance g isSubtype_tuple_tuple ?_);simp only[Bool.not_true,Bool.false_eq_true,if_false];refine za (wpAny_seqItems j hd ?_);refine za ?_;show wpAny _ _ (forIn items _ _) _ _ s;rw[<-Array.forIn_toList];refine wpAny_forIn_list _ (λrest r b=>r.1=none/\b=s/\∀v∈rest,carriedByValue v=true) _ ?_ ?_ _ _ ⟨rfl,rfl,l.byValue⟩
 ·rintro v rest r b ⟨c,rfl,hall⟩;rw[eqIsQuiet_byValue _ (hall v zj)];refine za (zb ?_);simp only[Bool.not_true,Bool.false_eq_true,if_false];exact zb ⟨rfl,rfl,λu d=>hall u (zp _ d)⟩
 ·rintro⟨t,q⟩ b ⟨c,rfl,_⟩;simp only at c;subst c;exact zb h
theorem MK{k:Int×List K}{a:Addr}{Q:Bool->Shared->Prop}(j:fj knd ik s.heap k a)(h:Q true s):wpAny (model prog w) A (eqIsQuiet 8 (.ref a)) Q E s:=by
 have l:=j.typeIs;obtain⟨o,items,n,u,c,q,_,hd,t,g,i⟩:=j;unfold eqIsQuiet;refine za (wpAny_specialOf l F.slot_tuple_eq.lookup ?_);show wpAny _ _ (isInstance (.ref a) (.type "tuple") >>= _) _ _ s;refine za (wpAny_isInstance l isSubtype_tuple_tuple ?_);simp only[Bool.not_true,Bool.false_eq_true,if_false];refine za (wpAny_seqItems q hd ?_);refine za ?_;show wpAny _ _ (forIn items _ _) _ _ s;rw[<-Array.forIn_toList,t];refine wpAny_forIn_list _ (λrest r d=>r.1=none/\d=s/\∀v∈rest,v=u\/v=.ref c) _ ?_ ?_ _ _ ⟨rfl,rfl,λv m=>by simpa using m⟩
 ·rintro v rest r d ⟨f,rfl,hall⟩
  rcases hall v zj with e | e
  ·rw[e,eqIsQuiet_byValue _ (knd.byValue _ _ g)];refine za (zb ?_);simp only[Bool.not_true,Bool.false_eq_true,if_false];exact zb ⟨rfl,rfl,λu b=>hall u (zp _ b)⟩
  ·rw[e];refine za (MJ i ?_);simp only[Bool.not_true,Bool.false_eq_true,if_false];exact zb ⟨rfl,rfl,λu b=>hall u (zp _ b)⟩
 ·rintro⟨y,x⟩ d ⟨f,rfl,_⟩;simp only at f;subst f;exact zb h
end
abbrev NK:=Int×List Key
noncomputable def MN(prog:Program)(w:World):HeapKind prog w NK where
 is:=fj (cD prog w) Sum.inl
 hash:=vJ (cD prog w) Sum.inl
 draws:=λk=>k.2.length+3
 room:=λA=>A.units+4<cLine
 inj:=λhx hy=>hx.inj (λ_ _ e=>Sum.inl.inj e) hy
 keeps:=λx ho hd hs=>x.keeps ho hd hs
 pyHash:=λhu hk h=>Mx (by omega) hk h
 eqBool:=λhu hx hy h=>MF (λ_ _ e=>Sum.inl.inj e) hu hx hy h
 quiet:=λhk h=>MK hk h
inductive HO where
  | lst (xs:List V)
  | tup (xs:List V)
  | dK (kvs:List (Key×V)) | dT (kvs:List (List Key×V))
  | dN (K:List (Addr×Obj)) (kvs:List (NK×V))
  | set (S:Int->Bool) (n:Nat)
  | ins (C dx:Addr) (fs:List (Str×V))
  | own (x:Addr)
  | xd (fs:List (Str×V))
  | met (f x:Addr)
  | rng (lo hi:Int)
  | frz (o:Obj) (u:HO)
  | tbl (ps:Array Value)
  | ext (φ:Heap->Prop)
abbrev Hp:=Addr->Option HO
noncomputable def upd(H:Hp)(a:Addr)(o:HO):Hp:=λb=>if b=a then some o else H b
theorem bu   :upd H a o a=some o:=by unfold upd;rw[if_pos rfl]
theorem aH    (h:b≠a):upd H a o b=H b:=by unfold upd;rw[if_neg h]
theorem ne_of{H:Hp}   (h:H a=some o)(h':H b=some u)(d:o≠u):a≠b:=by
 intro e;subst e;rw[h] at h';exact d (zH h')
theorem bI{H:Hp}   (h:H a=some o)(h':H b=none):a≠b:=by
 intro e;subst e;rw[h] at h';cases h'
noncomputable def NAt(K:List (Addr×Obj))(H:Hp)(k:NK)(b:Addr):Prop:=∃c,H b=some (.tup [.int k.1,.ref c]) /\
 (H c=some (.tup (k.2.map kV))\/∃(o:Obj) (a:Array Value) (n:Nat),K.lookup c=some o/\o.cls=.type "tuple"/\o.data=.seq a n/\a.size<=sizeLine/\aL (k.2.map kV) a.toList)
theorem NAt.mono{K:List (Addr×Obj)}    (x:NAt K H k b)(a:∀b xs,H b=some (.tup xs)->H' b=some (.tup xs)):NAt K H' k b:=by
 obtain⟨c,h1,h2⟩:=x;exact⟨c,a _ _ h1,h2.imp (a _ _) id⟩
section
variable (P:Program)(w:World)
noncomputable def cj(H:Hp)(h:Heap)(a:Addr):HO->Prop
 | .lst b=>b.length<=sizeLine/\∃(c:List Value) (n:Nat),aL b c/\h.get? a=some {cls:=.type "list",data:=.seq c.toArray n}
 | .tup b=>b.length<=sizeLine/\∃c:List Value,aL b c/\IsTup h a c.toArray
 | .dK kvs=>kvs.length<=sizeLine/\(a == sysModules)=false/\∃j,KV kvs j/\h.DictOf (cD P w) a j
 | .dT kvs=>kvs.length<=sizeLine/\(a == sysModules)=false/\∃b:List (List Key×Addr×Value),
   Paired (λ(p:List Key×V) (q:List Key×Addr×Value)=>p.1=q.1/\H q.2.1=some (.tup (p.1.map kV))/\RelV p.2 q.2.2) kvs b /\
   ∃o g i,h.get? a=some o/\o.ExactDict/\o.data=.dict g i/\g.toList=b.map (entryOfKey (tupleKind (cD P w)))/\(b.map (·.1)).Nodup
 | .dN K kvs=>kvs.length<=sizeLine/\(a == sysModules)=false/\∃b:List (NK×Addr×Value),
   Paired (λ(p:NK×V) (q:NK×Addr×Value)=>p.1=q.1/\NAt K H p.1 q.2.1/\RelV p.2 q.2.2) kvs b /\
   ∃o g i,h.get? a=some o/\o.ExactDict/\o.data=.dict g i/\g.toList=b.map (entryOfKey (MN P w))/\(b.map (·.1)).Nodup
 | .set S n=>h.SetOf (intKind P w) a S n
 | .ins C dx fs=>H dx=some (.own a)/\fs.length<=1000/\dx≠a/\h.get? a=some (PySem.W.instObj C dx) /\
   ∃d,h.Ns1 dx d/\(∀f,dC (fs.lookup f) (d f))/\PySem.Within d (fs.map (·.1))
 | .own _=>∃o,h.get? a=some o
 | .xd fs=>∃d,h.Ns1 a d/\∀f,dC (fs.lookup f) (d f)
 | .rng lo hi=>∃t u v,h.get? a=some {cls:=.type "range",data:=.fields #[.int lo t,.int hi u,.int 1 v]}
 | .frz o u=>h.get? a=some o/\cj H h a u
 | .tbl ps=>h.get? a=some {cls:=.none,data:=.fields ps}
 | .met f x=>h.get? a=some (PySem.W.methodObj (.ref f) (.ref x))
 | .ext φ=>φ h/\(∃o,h.get? a=some o)/\∀h1 h2:Heap,φ h1->(∀o,h1.get? a=some o->h2.get? a=some o)->φ h2
noncomputable def HOk(H:Hp)(h:Heap):Prop:=∀a o,H a=some o->cj P w H h a o
end
theorem cj.lt(x:cj P w H h a o):a<h.objs.size:=by
 cases o with
 |lst b=>obtain⟨_,_,_,_,e⟩:=x;exact ze e
 |tup b=>obtain⟨_,_,_,p⟩:=x;exact p.lt
 |dK kvs=>obtain⟨_,_,_,_,o,_,_,e,_⟩:=x;exact ze e
 |dT kvs=>obtain⟨_,_,_,_,o,_,_,e,_⟩:=x;exact ze e
 |dN K kvs=>obtain⟨_,_,_,_,o,_,_,e,_⟩:=x;exact ze e
 |set S n=>obtain⟨o,_,_,_,e,_⟩:=x;exact ze e
 |ins C i fs=>obtain⟨_,_,_,e,_⟩:=x;exact ze e
 |own y=>obtain⟨_,e⟩:=x;exact ze e
 |xd fs=>obtain⟨_,⟨_,_,_,e,_⟩,_⟩:=x;exact ze e
 |rng d g=>obtain⟨_,_,_,e⟩:=x;exact ze e
 |frz ob u=>obtain⟨e,_⟩:=x;exact ze e
 |tbl c=>exact ze (show h.get? a=some _ from x)
 |met f y=>exact ze (show h.get? a=some _ from x)
 |ext φ=>obtain⟨_,⟨_,e⟩,_⟩:=x;exact ze e
theorem Paired.mapP  :∀{d:List α}{c:List β},Paired F d c->(∀a b,F a b->G a b)->Paired G d c
 | _,_,.nil,_=>.nil
 | _,_,.cons r t,f=>.cons (f _ _ r) (Paired.mapP t f)
theorem cj.stay(x:cj P w H h a o)(k:∀b u,(b=a\/H b=some (.own a))->h.get? b=some u->h'.get? b=some u)
  (J:∀b,H b=some (.own a)->H' b=some (.own a)) (F:∀b xs,H b=some (.tup xs)->H' b=some (.tup xs)):cj P w H' h' a o:=by
 induction o with
 |lst xs=>obtain⟨z,j,n,r,e⟩:=x;exact⟨z,j,n,r,k _ _ (.inl rfl) e⟩
 |tup xs=>obtain⟨z,j,r,ob,e,c⟩:=x;exact⟨z,j,r,ob,k _ _ (.inl rfl) e,c⟩
 |dK kvs=>obtain⟨z,y,G,r,ob,g,i,e,c⟩:=x;exact⟨z,y,G,r,ob,g,i,k _ _ (.inl rfl) e,c⟩
 |dT kvs =>
  obtain⟨z,y,xs,r,ob,g,i,e,c⟩:=x;exact⟨z,y,xs,Paired.mapP r λp q z=>⟨z.1,F _ _ z.2.1,z.2.2⟩,ob,g,i,k _ _ (.inl rfl) e,c⟩
 |dN K kvs =>
  obtain⟨z,y,xs,r,ob,g,i,e,c⟩:=x;exact⟨z,y,xs,Paired.mapP r λp q z=>⟨z.1,z.2.1.mono F,z.2.2⟩,ob,g,i,k _ _ (.inl rfl) e,c⟩
 |set S n=>obtain⟨ob,g,i,t,e,c⟩:=x;exact⟨ob,g,i,t,k _ _ (.inl rfl) e,c⟩
 |ins C dx fs =>
  obtain⟨d,z,ne,e,m,⟨l,g,i,L,c⟩,r⟩:=x;exact⟨J _ d,z,ne,k _ _ (.inl rfl) e,m,⟨l,g,i,k _ _ (.inr d) L,c⟩,r⟩
 |own y=>obtain⟨ob,e⟩:=x;exact⟨ob,k _ _ (.inl rfl) e⟩
 |xd fs=>obtain⟨m,⟨l,g,i,e,c⟩,r⟩:=x;exact⟨m,⟨l,g,i,k _ _ (.inl rfl) e,c⟩,r⟩
 |rng O Q=>obtain⟨t,u,v,e⟩:=x;exact⟨t,u,v,k _ _ (.inl rfl) e⟩
 |frz ob u I=>obtain⟨e,q⟩:=x;exact⟨k _ _ (.inl rfl) e,I q⟩
 |tbl ps =>
  have e:h.get? a=some {cls:=.none,data:=.fields ps}:=x;show h'.get? a=some {cls:=.none,data:=.fields ps};exact k a _ (.inl rfl) e
 |met f y =>
  have e:h.get? a=some (PySem.W.methodObj (.ref f) (.ref y)):=x;show h'.get? a=some (PySem.W.methodObj (.ref f) (.ref y));exact k a _ (.inl rfl) e
 |ext φ=>obtain⟨p,⟨o,e⟩,E⟩:=x;exact⟨E _ _ p λo q=>k _ _ (.inl rfl) q,⟨o,k _ _ (.inl rfl) e⟩,E⟩
theorem HOk.lt(x:HOk P w H h)(e:H a=some o):a<h.objs.size:=(x a o e).lt
theorem HOk.fresh{a:Addr}(x:HOk P w H h)(e:h.objs.size<=a):H a=none:=by
 cases q:H a with
 |none=>rfl
 |some u=>exact absurd (zG (x.lt q) e) (zS _)
theorem HOk.kept(x:HOk P w H h)(k:∀b u,h.get? b=some u->h'.get? b=some u):HOk P w H h':=λa o e =>
 (x a o e).stay (λb u _ q=>k b u q) (λ_ q=>q) λ_ _ q=>q
theorem HOk.laid{a:Addr}(x:HOk P w H h)(k:∀b u,h.get? b=some u->h'.get? b=some u)(g:h.objs.size<=a)(new:cj P w (upd H a o) h' a o):HOk P w (upd H a o) h':=λb u e=>by
 have d:=x.fresh g
 by_cases f:b=a
 ·subst f;rw[bu] at e;cases e;exact new
 ·rw[aH f] at e
  exact(x b u e).stay (λc v _ q=>k c v q) (λc q=>by rw[aH (bI q d)];exact q) λc i q=>by rw[aH (bI q d)];exact q
noncomputable def Rd(H:Hp)(a:Addr)(u:HO):Prop:=H a=some u\/∃o,H a=some (.frz o u)
theorem Rd.ok       (r:Rd H a u)(x:HOk P w H h):cj P w H h a u:=by
 rcases r with r | ⟨o,r⟩
 ·exact x a u r
 ·obtain⟨_,q⟩:=x a _ r;exact q
noncomputable def Mut:Option HO->Prop
 |some (.lst _)=>True
 |some (.dK _)=>True
 |some (.dT _)=>True
 |some (.dN _ _)=>True
 |some (.set _ _)=>True
 |some (.ins _ _ _)=>True
 |some (.ext _)=>True
 | _=>False
theorem HOk.write(ok:HOk P w H h)(g:Mut (H x))(l:e=x\/H e=some (.own x))(k:∀b u,b≠e->h.get? b=some u->h'.get? b=some u)(j:∃u,h'.get? e=some u)
  (new:cj P w (upd H x o') h' x o'):HOk P w (upd H x o') h':=λb u q=>by
 have d:∀c y,H c=some (.own y)->c≠x:=λc y r z=>by subst z;rw[r] at g;exact g
 have f:∀c xs,H c=some (.tup xs)->c≠x:=λc xs r z=>by subst z;rw[r] at g;exact g
 by_cases hb:b=x
 ·subst hb;rw[bu] at q;cases q;exact new
 ·rw[aH hb] at q
  by_cases a:b=e
  ·have q':H b=some (.own x):=by
    rcases l with z | z
    ·exact absurd (a.trans z) hb
    ·rw[a];exact z
   rw[q] at q';cases q';obtain⟨v,m⟩:=j;exact⟨v,by rw[a];exact m⟩
  ·refine(ok b u q).stay (λc v i r=>k c v ?_ r) (λc r=>by rw[aH (d c b r)];exact r) λc xs r=>by rw[aH (f c xs r)];exact r
   rcases i with rfl | i
   ·exact a
   ·rintro rfl
    rcases l with z | z
    ·exact d c b i z
    ·rw[i] at z;cases z;exact hb rfl
structure Un(fs ex:List Addr)(H H':Hp)(h h':Heap):Prop where
 keep:∀b o,h.get? b=some o->H b=none->b∉fs->b∉ex->h'.get? b=some o
 slot:∀b o,h.get? b=some o->H b=none->b∈fs->b∉ex->∃sl,h'.get? b=some {o with slots:=sl}
 free:∀b o,h.get? b=some o->H b=none->b∉ex->H' b=none
 there:∀b o,h.get? b=some o->b∉ex->∃o',h'.get? b=some o'
 tups:∀b xs,H b=some (.tup xs)->H' b=some (.tup xs)
 frzs:∀b o u,H b=some (.frz o u)->H' b=some (.frz o u)
 tbls:∀b ps,H b=some (.tbl ps)->∃more,H' b=some (.tbl (ps++more))
theorem Un.any(u:Un fs ex H H1 h h1)   (q:h.get? b=some ob)(n:H b=none)(a:b∉ex):∃sl,h1.get? b=some {ob with slots:=sl}:=by
 by_cases c:b∈fs
 ·exact u.slot b ob q n c a
 ·exact⟨ob.slots,u.keep b ob q n c a⟩
theorem Un.kept(k:∀b u,h.get? b=some u->h'.get? b=some u):Un fs ex H H h h' :=
 ⟨λb ob q _ _ _=>k b ob q,λb ob q _ _ _=>⟨ob.slots,k b ob q⟩,λ_ _ _ n _=>n,λb ob q _=>⟨ob,k b ob q⟩,λ_ _ q=>q,λ_ _ _ q=>q,λ_ a q=>⟨#[],by rw[q];simp⟩⟩
theorem Un.refl:Un fs ex H H h h:=Un.kept λ_ _ q=>q
theorem Un.laid{h:Heap}{a:Addr}(k:∀b u,h.get? b=some u->h'.get? b=some u)(hp:h.objs.size<=a)(hn:H a=none):Un fs ex H (upd H a o) h h' where
 keep:=λb u q _ _ _=>k b u q
 slot:=λb u q _ _ _=>⟨u.slots,k b u q⟩
 free:=λb u q n _=>by rw[aH (zz (zG (ze q) hp))];exact n
 there:=λb u q _=>⟨u,k b u q⟩
 tups:=λb xs q=>by rw[aH (bI q hn)];exact q
 frzs:=λb u xs q=>by rw[aH (bI q hn)];exact q
 tbls:=λb ps q=>⟨#[],by rw[aH (bI q hn),q];simp⟩
theorem Un.write(c:Mut (H x))(l:e=x\/H e=some (.own x))(k:∀b u,b≠e->h.get? b=some u->h'.get? b=some u)(f:∃u,h'.get? e=some u):Un fs ex H (upd H x o) h h':=by
 have g:∀b,H b=none->b≠x:=λb n z=>by subst z;rw[n] at c;exact c
 have i:∀b,H b=none->b≠e:=λb n z=>by
  subst z
  rcases l with r | r
  ·exact g b n r
  ·rw[n] at r;cases r
 have d:∀b u,H b=some u->¬Mut (some u)->b≠x:=λb u q nm z=>by subst z;rw[q] at c;exact nm c
 refine⟨λb u q n _ _=>k b u (i b n) q,λb u q n _ _=>⟨u.slots,k b u (i b n) q⟩,λb u q n _=>by rw[aH (g b n)];exact n,λb u q _=>?_,
  λb j q=>by rw[aH (d b _ q λz=>z)];exact q,λb u j q=>by rw[aH (d b _ q λz=>z)];exact q,λb m q=>⟨#[],by rw[aH (d b _ q λz=>z),q];simp⟩⟩
 by_cases a:b=e
 ·subst a;exact f
 ·exact⟨u,k b u a q⟩
noncomputable def trk(h:Heap)(H:Hp):List Addr:=(List.range h.objs.size).filter λa=>(H a).isSome
noncomputable def fK(h:Heap)(H:Hp):Heap:=PySem.W.hideAll h (trk h H)
theorem Cj(h:Heap)(H:Hp):(fK h H).objs.size=h.objs.size:=PySem.W.hideAll_size _ _
theorem Ck     (e:h.get? b=some o)(n:H b=none):(fK h H).get? b=some o :=
 PySem.W.hideAll_get _ e λa=>by
  have q:(H b).isSome=true:=(List.mem_filter.mp a).2;rw[n] at q;simp at q
theorem Cm     (e:(fK h H).get? b=some o):h.get? b=some o/\H b=none:=by
 have e':h.get? b=some o:=PySem.W.of_hideAll (trk h H) e;refine⟨e',?_⟩
 cases q:H b with
 |none=>rfl
 |some x =>
  have a:b∈trk h H:=List.mem_filter.mpr ⟨List.mem_range.mpr (ze e'),by simp[q]⟩;have z:(fK h H).get? b=none:=PySem.W.hideAll_none (trk h H) a;rw[z] at e;cases e
noncomputable def MP(g h:Heap)(L:Addr):List (Addr×Obj):=(List.range h.objs.size).filterMap λa=>if a=L\/(g.get? a).isSome=true then none else(h.get? a).map λo=>(a,o)
noncomputable def rest(g h:Heap)(L d:Addr):List (Addr×Obj):=(MP g h L).filter λp=>decide (p.1≠d)
structure Mod(K:PySem.W.Frag)(mg:Str->Option Value)(base:Heap):Prop where
 kin:K.In base
 glob:base.Ns mainGlobals mg
 blt:∃mb,base.Ns builtinsNs mb/\∀x:Str,x≠"__name__"->mb x=bootBuiltins x
 nolimit:base.NoLimit
structure Cx where
 prog:Program
 w:World
 K:PySem.W.Frag
 mg:Str->Option Value
 base:Heap
 A:Around
 N:List Str
 s₀:Shared
 H₀:Hp
 env:Env
 outer:List Env
 stack:List Env
 ex:List Addr
 fn:Str->Bool
 calm:Bool
 pn:List (Addr×Obj)
 xe:Value->Shared->Prop
noncomputable def frs(l:List Env):List Addr:=l.filterMap (·.frame)
abbrev Cx.fs(X:Cx):List Addr:=frs X.outer
noncomputable def Vis(a:Scope)(x:Str):Prop:=a.names.lookup x=some .local\/a.names.lookup x=some .cell\/a.names.lookup x=some .free
noncomputable def Loc(a:Scope)(x:Str):Prop:=a.names.lookup x=some .local\/a.names.lookup x=some .cell
noncomputable def Look(env:Env)(h:Heap)(m:Str->Option Value)(x:Str)(u:Value):Prop :=
 (env.kindOf x=some .local/\m x=some u)\/((env.kindOf x=some .cell\/env.kindOf x=some .free)/\∃c,env.cells.lookup x=some c/\h.IsCell c (some u))
structure Cx.Ok(X:Cx):Prop where
 mod:Mod X.K X.mg X.base
 kind:X.env.scope.kind=.function
 glob:X.env.globals=mainGlobals
 blt:X.env.builtins=builtinsNs
 above:X.s₀.heap.objs.size<=X.env.locals
 inj:∀x y c,X.env.cells.lookup x=some c->X.env.cells.lookup y=some c->x=y
 has:∀x,(X.env.kindOf x=some .cell\/X.env.kindOf x=some .free)->∃c,X.env.cells.lookup x=some c
 cab:∀x c,X.fn x=true->X.env.cells.lookup x=some c->X.s₀.heap.objs.size<=c
 hd:X.calm=true->X.A.handled=none
 frames:X.A.frames=some X.stack
 stk:X.stack=X.outer\/(X.stack=X.env::X.outer/\X.env.frame=some X.env.locals)
 exf:∀b∈X.ex,b≠X.env.locals/\∀x c,X.env.cells.lookup x=some c->c≠b
 bs:∀b o,X.base.get? b=some o->X.s₀.heap.get? b=some o/\X.H₀ b=none
 bsz:X.base.objs.size<=X.s₀.heap.objs.size
 noex:∀b o,X.base.get? b=some o->b∉X.ex
 exfs:∀b∈X.ex,b∉X.fs
 funs:X.s₀.heap.FunFrames X.base X.outer
 frf:∀b∈X.fs,X.H₀ b=none
structure Inv(X:Cx)(pins:List (Addr×Obj))(σ:List (Option V))(H:Hp)(s:Shared):Prop where
 ok:X.Ok
 os:s.os=X.s₀.os
 bare:AllBare s.gens
 base:Un X.fs X.ex X.H₀ H X.s₀.heap s.heap
 loc:∃m,s.heap.Ns X.env.locals m/\∀(i:Nat) (x:Str) (v:V),X.N[i]?=some x->σ[i]?=some (some v)->Vis X.env.scope x->∃u,RelV v u/\Look X.env s.heap m x u
 cell:∀x c,X.env.cells.lookup x=some c->∃v,s.heap.IsCell c v
 free:H X.env.locals=none
 freeC:∀x c,X.env.cells.lookup x=some c->H c=none
 pin:∀p∈X.pn++pins,s.heap.get? p.1=some p.2/\H p.1=none/\p.1≠X.env.locals/\p.1∉X.fs/\∀v,p.2.data≠.cell v
 hok:HOk X.prog X.w H s.heap
 len:σ.length=X.N.length
theorem Cx.Ok.nofr{X:Cx}(ok:X.Ok)   (e:X.base.get? b=some o):b∉X.fs:=λa=>by
 have:=(ok.funs.mem a).1
 rw[e] at this;cases this
theorem Inv.bs(I:Inv X pins σ H s):∀b o,X.base.get? b=some o->s.heap.get? b=some o/\H b=none:=λb o e =>
 ⟨I.base.keep b o (I.ok.bs b o e).1 (I.ok.bs b o e).2 (I.ok.nofr e) (I.ok.noex b o e),I.base.free b o (I.ok.bs b o e).1 (I.ok.bs b o e).2 (I.ok.noex b o e)⟩
theorem Inv.bk(I:Inv X pins σ H s):∀b o,X.base.get? b=some o->s.heap.get? b=some o:=λb o e=>(I.bs b o e).1
theorem Inv.mod(I:Inv X pins σ H s):Mod X.K X.mg X.base:=I.ok.mod
theorem Inv.kIn(I:Inv X pins σ H s):X.K.In s.heap:=I.ok.mod.kin.keeps I.bk
theorem Inv.lt(I:Inv X pins σ H s):X.env.locals<s.heap.objs.size:=let ⟨_,hn,_⟩:=I.loc;hn.lt
theorem Inv.sz(I:Inv X pins σ H s):X.s₀.heap.objs.size<=s.heap.objs.size:=zE I.ok.above (Nat.le_of_lt I.lt)
theorem Inv.nofs(I:Inv X pins σ H s){a:Addr}(h:s.heap.objs.size<=a):a∉X.fs:=λc=>by
 obtain⟨_,o,b,_⟩:=I.ok.funs.mem c;exact absurd (zG (ze b) (zE I.sz h)) (zS _)
theorem Inv.cne(I:Inv X pins σ H s):∀x c,X.env.cells.lookup x=some c->c≠X.env.locals:=λx c e z=>by
 obtain⟨v,o,d,hd⟩:=I.cell x c e;obtain⟨m,⟨f,g,h,a,b,_⟩,_⟩:=I.loc;rw[z,a] at d;cases d;rw[b] at hd;cases hd
theorem Inv.funs(I:Inv X pins σ H s):s.heap.FunFrames X.base X.outer:=by
 have all:∀(l:List Env),(∀b∈frs l,b∈X.fs)->X.s₀.heap.FunFrames X.base l->s.heap.FunFrames X.base l:=by
  intro l
  induction l with
  |nil=>intro _ _;trivial
  |cons env r ih =>
   intro hs i;obtain⟨j,⟨L,o,a,h,g,hd⟩,f⟩:=i;have d:L∈X.fs:=hs L (by unfold frs;rw[List.filterMap_cons,a];exact zj)
   obtain⟨sl,e⟩:=I.base.slot L o g (I.ok.frf L d) d λz=>I.ok.exfs L z d
   exact⟨j,⟨L,_,a,h,e,hd⟩,ih (λb c=>hs b (by unfold frs;rw[List.filterMap_cons,a];exact zp _ c)) f⟩
 exact all X.outer (λ_ c=>c) I.ok.funs
theorem Inv.stack(I:Inv X pins σ H s):s.heap.FunFrames X.base X.stack:=by
 rcases I.ok.stk with e | ⟨e,b⟩
 ·rw[e];exact I.funs
 ·rw[e];obtain⟨m,a,_⟩:=I.loc;refine .cons (by rw[I.ok.kind];decide) b a ?_ I.funs;exact Heap.get?_none_of_le (zE I.ok.bsz I.ok.above)
theorem Inv.stkSub(I:Inv X pins σ H s):∀b∈frs X.stack,b∈X.env.locals::X.fs:=λb a=>by
 rcases I.ok.stk with e | ⟨e,c⟩
 ·rw[e] at a;exact zp _ a
 ·rw[e] at a;unfold frs at a;rw[List.filterMap_cons,c] at a;exact a
theorem Inv.stkFree(I:Inv X pins σ H s):∀b∈frs X.stack,H b=none:=λb a=>by
 rcases zh.mp (I.stkSub b a) with e | a
 ·rw[e];exact I.free
 ·obtain⟨_,o,c,_⟩:=I.ok.funs.mem a
  exact I.base.free b o c (I.ok.frf b a) λz=>I.ok.exfs b z a
theorem Inv.step    {ch:List Addr}(I:Inv X pins σ H s)
  (g:∀b∈ch,(b∈X.ex\/X.s₀.heap.objs.size<=b)/\b≠X.env.locals/\(∀x c,X.env.cells.lookup x=some c->c≠b)/\∀p∈X.pn++pins,p.1≠b)
  (keep:∀b o,b≠X.env.locals->b∉X.fs->b∉ch->s.heap.get? b=some o->H b=none->h'.get? b=some o)
  (slot:∀b o,b≠X.env.locals->b∈X.fs->b∉ch->s.heap.get? b=some o->H b=none->∃sl,h'.get? b=some {o with slots:=sl}) (free:∀b o,b∉ch->s.heap.get? b=some o->H b=none->H' b=none)
  (there:∀b o,b∉ch->s.heap.get? b=some o->∃C,h'.get? b=some C)
  (tups:∀b xs,H b=some (.tup xs)->H' b=some (.tup xs)) (frzs:∀b o u,H b=some (.frz o u)->H' b=some (.frz o u)) (tbls:∀b G,H b=some (.tbl G)->∃more,H' b=some (.tbl (G++more)))
  (ns:∀m,s.heap.Ns X.env.locals m->h'.Ns X.env.locals m) (hok:HOk X.prog X.w H' h') (U:AllBare g'):
  Inv X pins σ H' {s with heap:=h',gens:=g',drawn:=d',toks:=t'}:=by
 have F:∀b o,X.s₀.heap.get? b=some o->b≠X.env.locals:=λb o e=>zz (zG (ze e) I.ok.above)
 have j:∀b o,X.s₀.heap.get? b=some o->b∉X.ex->b∉ch:=λb o e a t=>by
  rcases(g b t).1 with z | z
  ·exact a z
  ·exact absurd (zG (ze e) z) (zS _)
 have cellK:∀x c,X.env.cells.lookup x=some c->∀v,s.heap.IsCell c v->h'.IsCell c v:=λx c e v ⟨o,y,hd⟩=>by
  have f:c∉ch:=λz=>(g c z).2.2.1 x c e rfl
  by_cases O:c∈X.fs
  ·obtain⟨sl,q⟩:=slot c o (I.cne x c e) O f y (I.freeC x c e);exact⟨_,q,hd⟩
  ·exact⟨o,keep c o (I.cne x c e) O f y (I.freeC x c e),hd⟩
 refine⟨I.ok,I.os,U,⟨λb o e n t a=>?_,λb o e n t a=>?_,λb o e n a=>?_,λb o e a=>?_,λb xs e=>tups b xs (I.base.tups b xs e),λb o xs e=>frzs b o xs (I.base.frzs b o xs e),λb G e=>?_⟩,?_,λx c e=>?_,?_,λx c e=>?_,λp L=>?_,hok,I.len⟩
 ·exact keep b o (F b o e) t (j b o e a) (I.base.keep b o e n t a) (I.base.free b o e n a)
 ·obtain⟨sl,h⟩:=I.base.slot b o e n t a;obtain⟨J,E⟩:=slot b _ (F b o e) t (j b o e a) h (I.base.free b o e n a);exact⟨J,E⟩
 ·obtain⟨C,h⟩:=I.base.there b o e a;exact free b C (j b o e a) h (I.base.free b o e n a)
 ·obtain⟨C,h⟩:=I.base.there b o e a;exact there b C (j b o e a) h
 ·obtain⟨Q,h⟩:=I.base.tbls b G e;obtain⟨P,E⟩:=tbls b _ h;exact⟨Q++P,by rw[E,Array.append_assoc]⟩
 ·obtain⟨m,R,T⟩:=I.loc;refine⟨m,ns m R,λi x v h E W=>?_⟩;obtain⟨u,r,l⟩:=T i x v h E W;refine⟨u,r,?_⟩
  rcases l with l | ⟨k,c,e,z⟩
  ·exact .inl l
  ·exact .inr ⟨k,c,e,cellK x c e _ z⟩
 ·obtain⟨v,z⟩:=I.cell x c e;exact⟨v,cellK x c e v z⟩
 ·obtain⟨m,⟨o,_,_,y,_⟩,_⟩:=I.loc;exact free _ o (λz=>(g _ z).2.1 rfl) y I.free
 ·obtain⟨v,o,y,hd⟩:=I.cell x c e;exact free c o (λz=>(g c z).2.2.1 x c e rfl) y (I.freeC x c e)
 ·obtain⟨e,n,ne,nf,d⟩:=I.pin p L
  have f:p.1∉ch:=λz=>(g p.1 z).2.2.2 p L rfl
  exact⟨keep p.1 p.2 ne nf f e n,free p.1 p.2 f e n,ne,nf,d⟩
theorem Inv.un  (I:Inv X pins σ H s)(u:Un X.fs [] H H' s.heap h')(hok:HOk X.prog X.w H' h'):Inv X pins σ H' {s with heap:=h',toks:=t'}:=by
 obtain⟨m,⟨o,t,x,g,r⟩,_⟩:=id I.loc;obtain⟨sl,j⟩:=u.any g I.free (by simp)
 exact I.step (g':=s.gens) (d':=s.drawn) (ch:=[]) (λ_ z=>nomatch z) (λb o _ c _ e n=>u.keep b o e n c (by simp)) (λb o _ c _ e n=>u.slot b o e n c (by simp)) (λb o _ e n=>u.free b o e n (by simp)) (λb o _ e=>u.there b o e (by simp)) u.tups u.frzs u.tbls (λq i=>by
  obtain⟨l,d,f,a,h⟩:=i;rw[g] at a;cases a
  exact⟨_,d,f,j,h⟩) hok I.bare
theorem Inv.call     (I:Inv X pins σ H s)(u:Un (frs X.stack) ch H H' s.heap h')(hok:HOk X.prog X.w H' h')(t:AllBare g')
  (f:∀b∈ch,(b∈X.ex\/X.s₀.heap.objs.size<=b)/\b≠X.env.locals/\(∀x c,X.env.cells.lookup x=some c->c≠b)/\∀p∈X.pn++pins,p.1≠b):
  Inv X pins σ H' {s with heap:=h',gens:=g',drawn:=d',toks:=t'}:=by
 obtain⟨m,⟨o,F,G,j,r⟩,_⟩:=id I.loc
 obtain⟨sl,g⟩:=u.any j I.free λz=>(f _ z).2.1 rfl
 exact I.step (ch:=ch) f (λb o g y a e n=>u.keep b o e n (λz=>(zh.mp (I.stkSub b z)).elim g y) a) (λb o _ _ a e n=>u.any e n a) (λb o a e n=>u.free b o e n a) (λb o a e=>u.there b o e a) u.tups u.frzs u.tbls (λE q=>by
  obtain⟨C,h,i,d,l⟩:=q;rw[j] at d;cases d
  exact⟨_,h,i,g,l⟩) hok t
theorem Inv.turned   (I:Inv X pins σ H s)(k:∀b o,b≠it->s.heap.get? b=some o->h'.get? b=some o)(h:H it=none)(f:it≠X.env.locals)
  (h1:it∈X.ex\/X.s₀.heap.objs.size<=it) (h2:∀x c,X.env.cells.lookup x=some c->c≠it) (h3:∀p∈X.pn++pins,p.1≠it):Inv X pins σ H {s with heap:=h',toks:=t'}:=by
 have d:∀b u,H b=some u->b≠it:=λb u e z=>by rw[z,h] at e;cases e
 refine I.step (g':=s.gens) (d':=s.drawn) (ch:=[it]) (λb j=>?_) (λb o _ _ a e _=>k b o (λz=>a (by simp[z])) e) (λb o _ _ a e _=>⟨o.slots,k b o (λz=>a (by simp[z])) e⟩) (λ_ _ _ _ n=>n)
  (λb o a e=>⟨o,k b o (λz=>a (by simp[z])) e⟩) (λ_ _ e=>e) (λ_ _ _ e=>e) (λb y e=>⟨#[],by rw[e];simp⟩) (λm i=>?_) (λb u e=>?_) I.bare
 ·have e:b=it:=by simpa using j
  subst e;exact⟨h1,f,h2,h3⟩
 ·obtain⟨o,l,t,g,r⟩:=i;exact⟨o,l,t,k _ o (Ne.symm f) g,r⟩
 ·refine(I.hok b u e).stay (λc v a q=>k c v ?_ q) (λ_ q=>q) λ_ _ q=>q
  rcases a with z | z
  ·rw[z];exact d b u e
  ·exact d c _ z
theorem Inv.tok(I:Inv X pins σ H s)(t:Nat):Inv X pins σ H {s with toks:=t}:=I.un (h':=s.heap) (t':=t) Un.refl I.hok
theorem Inv.kept  (I:Inv X pins σ H s)(k:∀b u,s.heap.get? b=some u->h'.get? b=some u):Inv X pins σ H {s with heap:=h',toks:=t'}:=I.un (Un.kept k) (I.hok.kept k)
theorem Inv.laid{a:Addr}   (I:Inv X pins σ H s)(k:∀b u,s.heap.get? b=some u->h'.get? b=some u)(c:s.heap.objs.size<=a)(new:cj X.prog X.w (upd H a o) h' a o):
  Inv X pins σ (upd H a o) {s with heap:=h',toks:=t'}:=I.un (Un.laid k c (I.hok.fresh c)) (I.hok.laid k c new)
theorem Inv.write    (I:Inv X pins σ H s)(c:Mut (H x))(d:e=x\/H e=some (.own x))(k:∀b u,b≠e->s.heap.get? b=some u->h'.get? b=some u)(a:∃u,h'.get? e=some u)
  (new:cj X.prog X.w (upd H x o) h' x o):Inv X pins σ (upd H x o) {s with heap:=h',toks:=t'}:=I.un (Un.write c d k a) (I.hok.write c d k a new)
theorem Inv.pins_of  (I:Inv X pins σ H s)(h:∀p∈pins',s.heap.get? p.1=some p.2/\H p.1=none/\p.1≠X.env.locals/\p.1∉X.fs/\∀v,p.2.data≠.cell v):Inv X pins' σ H s :=
 ⟨I.ok,I.os,I.bare,I.base,I.loc,I.cell,I.free,I.freeC,λp a=>(zv.mp a).elim (λz=>I.pin p (List.mem_append_left _ z)) (h p),I.hok,I.len⟩
theorem Cq{N:List Str}(c:N.Nodup){i:Nat}  (a:N[i]?=some x)(b:N[j]?=some x):i=j:=by
 obtain⟨h1,f⟩:=zk.mp a;obtain⟨h2,d⟩:=zk.mp b;exact(List.getElem_inj c).mp (f.trans d.symm)
theorem MT         (I:Inv X pins σ H s)(hN:X.N.Nodup)(R:X.N[i]?=some x)(l:Loc X.env.scope x)(r:RelV v u)
  (h:∀s',Inv X pins (σ.set i (some v)) H s'->(∃a,Heap.SameBut a s.heap s'.heap/\(a=X.env.locals\/X.env.cells.lookup x=some a))->Q () s') (hf:X.fn x=true\/X.env.scope.names.lookup x=some .local:=by first | exact .inl rfl | exact .inr rfl | assumption):wpAny M A (storeName X.env x u) Q E s:=by
 obtain⟨m,hn,hl⟩:=id I.loc
 have Z:(X.env.scope.kind == .class || (X.env.scope.kind == .module&&X.env.locals != X.env.globals))=false:=by rw[I.ok.kind];rfl
 have G:i<σ.length:=by rw[I.len];exact(zk.mp R).1
 have cne:=I.cne
 have tracked:∀{a:Addr}{P:Heap},(∃o,s.heap.get? a=some o/\H a=none)->Heap.SameBut a s.heap P->HOk X.prog X.w H P:=λ{a P} ha hs b ob e=>by
  obtain⟨_,_,t⟩:=ha
  refine(I.hok b ob e).stay (λc w' g q=>(hs.2 c ?_).trans q) (λ_ q=>q) λ_ _ q=>q
  rintro rfl
  rcases g with rfl | g
  ·rw[t] at e;cases e
  ·rw[t] at g;cases g
 rcases l with F | F
 ·refine wpAny_storeName_local F hn (λP hn' hs=>?_) Z;obtain⟨oL,_,_,hoL,_⟩:=id hn;refine h _ ⟨I.ok,I.os,I.bare,⟨λb o e n L l=>?_,λb o e n L l=>?_,I.base.free,λb o e l=>?_,I.base.tups,I.base.frzs,I.base.tbls⟩,⟨_,hn',λj y v' f C e3=>?_⟩,λy c e=>?_,I.free,I.freeC,λp hp=>?_,tracked ⟨oL,hoL,I.free⟩ hs,by simpa using I.len⟩ ⟨_,hs,.inl rfl⟩
  ·exact(hs.2 b (zz (zG (ze e) I.ok.above))).trans (I.base.keep b o e n L l)
  ·obtain⟨sl,f⟩:=I.base.slot b o e n L l;exact⟨sl,(hs.2 b (zz (zG (ze e) I.ok.above))).trans f⟩
  ·obtain⟨o',f⟩:=I.base.there b o e l;exact⟨o',(hs.2 b (zz (zG (ze e) I.ok.above))).trans f⟩
  ·by_cases J:j=i
   ·subst J;rw[R] at f;cases f;rw[zL G] at C;cases C;exact⟨u,r,.inl ⟨F,by simp⟩⟩
   ·rw[zy (Ne.symm J)] at C;obtain⟨u',r',q⟩:=hl j y v' f C e3;refine⟨u',r',?_⟩
    rcases q with⟨k,e⟩ | ⟨k,c,e,z⟩
    ·refine .inl ⟨k,?_⟩
     have:y≠x:=λe=>J (Cq hN f (e ▸ R))
     simp[this,e]
    ·exact .inr ⟨k,c,e,z.sameBut hs (cne y c e)⟩
  ·obtain⟨w',z⟩:=I.cell y c e;exact⟨w',z.sameBut hs (cne y c e)⟩
  ·obtain⟨e,n,ne,nf,d⟩:=I.pin p hp;exact⟨(hs.2 p.1 ne).trans e,n,ne,nf,d⟩
 ·have O:X.fn x=true:=by
   rcases hf with z | z
   ·exact z
   ·rw[z] at F;cases F
  obtain⟨c,g⟩:=I.ok.has x (.inl F);obtain⟨w',z⟩:=I.cell x c g;refine wpAny_storeName_cell I.ok.kind F g z (λP W hs=>?_);obtain⟨oc,T,Y⟩:=id z;refine h {s with heap:=P} ⟨I.ok,I.os,I.bare,⟨λb o e n L l=>?_,λb o e n L l=>?_,I.base.free,λb o e l=>?_,I.base.tups,I.base.frzs,I.base.tbls⟩,⟨m,hn.sameBut hs (Ne.symm (cne x c g)),λj y v' f C e3=>?_⟩,λy c' e=>?_,I.free,I.freeC,λp hp=>?_,tracked ⟨oc,T,I.freeC x c g⟩ hs,by simpa using I.len⟩ ⟨c,hs,.inr g⟩
  ·exact(hs.2 b (zz (zG (ze e) (I.ok.cab x c O g)))).trans (I.base.keep b o e n L l)
  ·obtain⟨sl,f⟩:=I.base.slot b o e n L l;exact⟨sl,(hs.2 b (zz (zG (ze e) (I.ok.cab x c O g)))).trans f⟩
  ·obtain⟨o',f⟩:=I.base.there b o e l;exact⟨o',(hs.2 b (zz (zG (ze e) (I.ok.cab x c O g)))).trans f⟩
  ·by_cases J:j=i
   ·subst J;rw[R] at f;cases f;rw[zL G] at C;cases C;exact⟨u,r,.inr ⟨.inl F,c,g,W⟩⟩
   ·rw[zy (Ne.symm J)] at C;obtain⟨u',r',q⟩:=hl j y v' f C e3;refine⟨u',r',?_⟩
    rcases q with q | ⟨k,c',e,z'⟩
    ·exact .inl q
    ·refine .inr ⟨k,c',e,z'.sameBut hs ?_⟩;rintro rfl;exact J (Cq hN f (I.ok.inj _ _ _ e g ▸ R))
  ·by_cases U:c'=c
   ·subst U;exact⟨_,W⟩
   ·obtain⟨w2,z2⟩:=I.cell y c' e;exact⟨w2,z2.sameBut hs U⟩
  ·obtain⟨e,n,ne,nf,d⟩:=I.pin p hp;refine⟨(hs.2 p.1 ?_).trans e,n,ne,nf,d⟩;intro q;rw[q,T] at e;have q':oc=p.2:=zH e;exact d w' (by rw[<-q'];exact Y)
theorem nD         (I:Inv X pins σ H s)(d:X.N.Nodup)(b:X.N[i]?=some x)(a:Loc X.env.scope x)(r:RelV v u)
  (h:∀s',Inv X pins (σ.set i (some v)) H s'->Q () s') (c:X.fn x=true\/X.env.scope.names.lookup x=some .local:=by first | exact .inl rfl | exact .inr rfl | assumption):wpAny M A (storeName X.env x u) Q E s :=
 MT I d b a r (λs' I' _=>h s' I') c
theorem Inv.call'   (I:Inv X pins σ H s)(f:s'.os=s.os)(u:Un (frs X.stack) ch H H' s.heap s'.heap)(hok:HOk X.prog X.w H' s'.heap)(g:AllBare s'.gens)
  (a:∀b∈ch,(b∈X.ex\/X.s₀.heap.objs.size<=b)/\b≠X.env.locals/\(∀x c,X.env.cells.lookup x=some c->c≠b)/\∀p∈X.pn++pins,p.1≠b):Inv X pins σ H' s':=by
 obtain⟨h,g',d',t',d⟩:=s';have e:d=s.os:=f;subst e;exact I.call (g':=g') (t':=t') (d':=d') u hok g a
abbrev XK:=Value->Option Addr->Hp->Prop
abbrev St:=List (Option V)
abbrev VK:=V->Hp->Prop
abbrev TE:=St->Hp->VK->Prop
abbrev TT:=St->Hp->(Bool->Hp->Prop)->Prop
abbrev TA:=St->Hp->(List V->Hp->Prop)->Prop
structure Ends where
 nx:St->Hp->Prop
 rt:VK
 bk:St->Hp->Prop:=λ_ _=>False
 ct:St->Hp->Prop:=λ_ _=>False
abbrev TS:=Ends->St->Hp->Prop
noncomputable def EP(X:Cx)(pins:List (Addr×Obj))(σ:St)(Q:VK)(u:Value)(s':Shared):Prop:=∃v a,Inv X pins σ a s'/\RelV v u/\Q v a
noncomputable def TP(X:Cx)(pins:List (Addr×Obj))(σ:St)(Q:Bool->Hp->Prop)(b:Bool)(s':Shared):Prop:=∃a,Inv X pins σ a s'/\Q b a
noncomputable def AP(X:Cx)(pins:List (Addr×Obj))(σ:St)(Q:List V->Hp->Prop)(us:List Value)(s':Shared):Prop:=∃a b,Inv X pins σ b s'/\aL a us/\Q a b
noncomputable def SP(X:Cx)(pins:List (Addr×Obj))(D:Ends)(f:Flow)(s':Shared):Prop :=
 match f with
 | .next=>∃a b,Inv X pins a b s'/\D.nx a b
 | .brk=>∃a b,Inv X pins a b s'/\D.bk a b
 | .cont=>∃a b,Inv X pins a b s'/\D.ct a b
 | .ret u=>∃v a b,Inv X pins a b s'/\RelV v u/\D.rt v b
noncomputable def PE(X:Cx)(e:Expr)(t:TE):Prop :=
 ∀(pins:List (Addr×Obj)) (s:Shared) (σ:St) (H:Hp) (Q:VK),Inv X pins σ H s->t σ H Q->wpAny (model X.prog X.w) X.A (eval e X.env) (EP X pins σ Q) X.xe s
noncomputable def PT(X:Cx)(e:Expr)(t:TT):Prop :=
 ∀(pins:List (Addr×Obj)) (s:Shared) (σ:St) (H:Hp) (Q:Bool->Hp->Prop),Inv X pins σ H s->t σ H Q->wpAny (model X.prog X.w) X.A (isTrue e X.env (eval e X.env)) (TP X pins σ Q) X.xe s
noncomputable def PW(X:Cx)(e:Expr)(t:TT):Prop :=
 ∀(whole:Sem Value) (pins:List (Addr×Obj)) (s:Shared) (σ:St) (H:Hp) (Q:Bool->Hp->Prop),Inv X pins σ H s->t σ H Q->wpAny (model X.prog X.w) X.A (isTrue e X.env whole) (TP X pins σ Q) X.xe s
theorem PW.pt    (h:PW X e t):PT X e t:=h _
noncomputable def PA(X:Cx)(b:List Expr)(t:TA):Prop :=
 ∀(a:Pos) (pins:List (Addr×Obj)) (s:Shared) (σ:St) (H:Hp) (Q:List V->Hp->Prop),Inv X pins σ H s->t σ H Q->wpAny (model X.prog X.w) X.A (spliced (backTo a (starEach b X.env))) (AP X pins σ Q) X.xe s
noncomputable def PS(X:Cx)(st:Stmt)(t:TS):Prop :=
 ∀(pins:List (Addr×Obj)) (s:Shared) (σ:St) (H:Hp) (D:Ends),Inv X pins σ H s->t D σ H->wpAny (model X.prog X.w) X.A (exec st X.env) (SP X pins D) X.xe s
noncomputable def PSs(X:Cx)(st:List Stmt)(t:TS):Prop :=
 ∀(pins:List (Addr×Obj)) (s:Shared) (σ:St) (H:Hp) (D:Ends),Inv X pins σ H s->t D σ H->wpAny (model X.prog X.w) X.A (execs st X.env) (SP X pins D) X.xe s
theorem thn  {t:Sem α}{Q b:α->Shared->Prop}     (h:wpAny M A t Q E s)(c:∀a s,Q a s->b a s):wpAny M A t b E s:=zw h c λ_ _ x=>x
noncomputable def M3(i:Nat):TE:=λσ H Q=>∃v,σ[i]?=some (some v)/\Q v H
noncomputable def tC(v:V):TE:=λ_ H Q=>Q v H
theorem iM{X:Cx}   {f:Pos}(C:X.N[i]?=some x)(hv:Vis X.env.scope x)(hd:(x == ("__debug__":Str))=false:=by decide)(g:(x == ("__classdict__":Str))=false:=by decide):PE X (.Name x f) (M3 i):=by
 intro pins s σ H Q I h;obtain⟨v,e,h⟩:=h;obtain⟨m,q,y⟩:=I.loc;obtain⟨u,r,l⟩:=y i x v C e hv;have d:EP X pins σ Q u s:=⟨v,H,I,r,h⟩
 rcases l with⟨b,t⟩ | ⟨b,c,j,a⟩
 ·exact wpAny_Name (wpAny_loadName_local I.ok.kind b q t d) hd
 ·rcases b with b | b
  ·exact wpAny_Name (wpAny_loadName_cell I.ok.kind b j a d) hd
  ·exact wpAny_Name (wpAny_loadName_free I.ok.kind b j a d g) hd
theorem M4 :PE X (.Constant (.int i) j pos) (tC (.int i)):=λ_ _ _ H _ I h=>wpAny_Constant_int ⟨.int i,H,I.tok _,⟨_,rfl⟩,h⟩
theorem M5 :PE X (.Constant (.bool b) j pos) (tC (.bl b)):=λ_ _ _ H _ I h=>Constant_bool ⟨.bl b,H,I,rfl,h⟩
theorem M6 :PE X (.Constant .none j pos) (tC .non):=λ_ _ _ H _ I h=>Constant_none ⟨.non,H,I,rfl,h⟩
theorem Cr :PE X (.Constant (.str x) j pos) (tC (.str x)):=λ_ _ _ H _ I h=>Calls.Constant_str ⟨.str x,H,I.tok _,⟨_,rfl⟩,h⟩
noncomputable def Gl(X:Cx)(x:Str):Prop:=X.env.kindOf x=some .globalImplicit
theorem j6    {σ:St}      (I:Inv X pins σ H s)(b:Gl X x)(a:X.mg x=some u)(h:Q u s)
  (hd:(x == ("__debug__":Str))=false:=by decide):wpAny (model X.prog X.w) X.A (eval (.Name x pos) X.env) Q E s :=
 Calls.Name_function_global I.ok.kind b (Calls.loadGlobal_global (by rw[I.ok.glob];exact I.mod.glob.keeps I.bk) a h) hd
theorem lJ{E:Value->Shared->Prop}   {σ:St}    {a:Pos}  (I:Inv X pins σ H s)(d:Gl X x)(c:X.mg x=none)(hv:bootBuiltins x=some u)(h:Q u s)
  (b:x≠"__name__":=by decide) (hd:(x == ("__debug__":Str))=false:=by decide):wpAny (model X.prog X.w) X.A (eval (.Name x a) X.env) Q E s:=by
 obtain⟨f,h1,h2⟩:=I.mod.blt;exact Calls.Name_function_global I.ok.kind d (Calls.loadGlobal_builtin (by rw[I.ok.glob];exact I.mod.glob.keeps I.bk) c (by rw[I.ok.blt];exact h1.keeps I.bk) ((h2 x b).trans hv) h) hd
theorem vK     (b:Gl X x)(a:X.mg x=some u)(r:RelV v u)(hd:(x == ("__debug__":Str))=false:=by decide):PE X (.Name x pos) (tC v):=
 λ_ _ _ H _ I h=>j6 I b a ⟨v,H,I,r,h⟩ hd
theorem Cu    {a:Pos}(d:Gl X x)(c:X.mg x=none)(hv:bootBuiltins x=some u)(r:RelV v u)(b:x≠"__name__":=by decide)(hd:(x == ("__debug__":Str))=false:=by decide):PE X (.Name x a) (tC v):=
 λ_ _ _ H _ I h=>lJ I d c hv ⟨v,H,I,r,h⟩ b hd
noncomputable def PC(X:Cx)(op:CmpOp)(a b:Expr)(t:TE):Prop :=
 ∀(pins:List (Addr×Obj)) (s:Shared) (σ:St) (H:Hp) (Q:VK),Inv X pins σ H s->t σ H Q ->
  wpAny (model X.prog X.w) X.A (eval a X.env) (λv d=>wpAny (model X.prog X.w) X.A (eval b X.env) (λu c=>wpAny (model X.prog X.w) X.A (compareOp op v u) (EP X pins σ Q) X.xe c) X.xe d) X.xe s
theorem M7(b:Expr)  (h:op≠.In)(h2:op≠.NotIn):behindInMarks op b=false:=by
 have c:(op == CmpOp.In)=false:=by cases op<;>first | rfl | exact absurd rfl h
 have a:(op == CmpOp.NotIn)=false:=by cases op<;>first | rfl | exact absurd rfl h2
 cases b<;>simp[behindInMarks,c,a]
noncomputable def Cv(a:TE):TE:=λσ H Q=>a σ H λx b=>Q (.bl (decide (x=.non))) b
noncomputable def Cw(a:TE):TE:=λσ H Q=>a σ H λx b=>Q (.bl (!decide (x=.non))) b
theorem RelV.none_iff   (r:RelV x v):(v == Value.none)=decide (x=.non):=by
 cases x with
 |non=>cases r;rfl
 |bl _=>cases r;rfl
 |int _=>obtain⟨t,rfl⟩:=r;rfl
 |str _=>obtain⟨t,rfl⟩:=r;rfl
 |byt _=>obtain⟨t,rfl⟩:=r;rfl
 |flt _=>obtain⟨t,rfl⟩:=r;rfl
 |ref _=>cases r;rfl
 |ty _=>cases r;rfl
theorem M8  (b:PE X a ta):PC X .Is a (.Constant .none j pos') (Cv ta):=by
 intro pins s σ H Q I h
 refine thn (b pins s σ H _ I h) λv s1 ⟨x,H1,I1,r1,q1⟩=>?_
 exact Constant_none (is_none_gen ⟨.bl _,H1,I1,by rw[r1.none_iff];rfl,q1⟩)
theorem M9  (b:PE X a ta):PC X .IsNot a (.Constant .none j pos') (Cw ta):=by
 intro pins s σ H Q I h
 refine thn (b pins s σ H _ I h) λv s1 ⟨x,H1,I1,r1,q1⟩=>?_
 exact Constant_none (isnot_none_gen ⟨.bl _,H1,I1,by rw[r1.none_iff];rfl,q1⟩)
noncomputable def tB(t:TE):TT:=λσ H Q=>t σ H λx a=>∃c,x=.bl c/\Q c a
theorem Cy   (h:PC X op a b t)(h1:behindInMarks op b=false:=by first | exact M7 _ (by decide) (by decide) | rfl):PT X (.Compare a [op] [b] pos) (tB t):=by
 intro pins s σ H Q I f;refine wpAny_isTrue_Compare1 (thn (h pins s σ H _ I f) λv i h1=>thn h1 λu g h2=>thn h2 λc s3 ⟨x,H1,I1,r1,q1⟩=>?_) h1;obtain⟨d,rfl,q⟩:=q1;cases r1;exact wpAny_truthy_bool ⟨H1,I1,q⟩
noncomputable def Cz(t u:TT):TT:=λσ H Q=>t σ H λc a=>if c=true then u σ a Q else Q false a
noncomputable def tOr(t u:TT):TT:=λσ H Q=>t σ H λc a=>if c=true then Q true a else u σ a Q
noncomputable def Nb(t:TT):TT:=λσ H Q=>t σ H λc a=>Q (!c) a
theorem Nf(b:PT X a tA):PW X (.BoolOp .And [a] pos) tA:=by
 intro d pins s σ H Q I h;refine isTrue_and (thn (b pins s σ H Q I h) λc f e=>?_)
 cases c with
 |true=>exact isTrue_and_nil e
 |false=>exact e
theorem Ng(b:PT X a tA):PW X (.BoolOp .Or [a] pos) tA:=by
 intro d pins s σ H Q I h;refine isTrue_or (thn (b pins s σ H Q I h) λc f e=>?_)
 cases c with
 |false=>exact isTrue_or_nil e
 |true=>exact e
theorem Nh{rest:List Expr}(f:PT X a tA)(hb:PW X (.BoolOp .And (b::rest) pos) tB'):PW X (.BoolOp .And (a::b::rest) pos) (Cz tA tB'):=by
 intro d pins s σ H Q I h;refine isTrue_and (thn (f pins s σ H _ I h) λc s1 ⟨H1,I1,q1⟩=>?_)
 cases c with
 |true=>exact hb d pins s1 σ H1 Q I1 q1
 |false=>exact⟨H1,I1,q1⟩
theorem Ni{rest:List Expr}(f:PT X a tA)(hb:PW X (.BoolOp .Or (b::rest) pos) tB'):PW X (.BoolOp .Or (a::b::rest) pos) (tOr tA tB'):=by
 intro d pins s σ H Q I h;refine isTrue_or (thn (f pins s σ H _ I h) λc s1 ⟨H1,I1,q1⟩=>?_)
 cases c with
 |true=>exact⟨H1,I1,q1⟩
 |false=>exact hb d pins s1 σ H1 Q I1 q1
theorem Nj(b:PT X a tA):PT X (.UnaryOp .Not a pos) (Nb tA):=by
 intro pins s σ H Q I h;exact isTrue_not (b pins s σ H (λc d=>Q (!c) d) I h)
noncomputable def Nk(b tb:TE):TE:=λσ H Q=>b σ H λx a=>∃c,x=.bl c/\if c=true then tb σ a Q else Q (.bl false) a
noncomputable def Nm(a:TE):TE:=λσ H Q=>a σ H λx b=>∃c,x=.bl c/\Q (.bl (!c)) b
theorem Np   (h:PE X a t):PE X (.BoolOp op [a] pos) t:=λpins s σ H Q I b=>BoolOp_one (h pins s σ H Q I b)
theorem Nq{rest:List Expr}(f:PE X a ta)(hb:PE X (.BoolOp .And (b::rest) pos) tb):PE X (.BoolOp .And (a::b::rest) pos) (Nk ta tb):=by
 intro pins s σ H Q I h;refine BoolOp_and (thn (f pins s σ H _ I h) λv s1 ⟨x,H1,I1,r1,d⟩=>?_);obtain⟨c,rfl,d⟩:=d;cases r1;refine wpAny_truthy_bool ?_
 cases c with
 |true=>exact hb pins s1 σ H1 Q I1 d
 |false=>exact⟨.bl false,H1,I1,rfl,d⟩
theorem Nr(d:PE X a ta):PE X (.UnaryOp .Not a pos) (Nm ta):=by
 intro pins s σ H Q I h;refine UnaryOp_ (thn (d pins s σ H _ I h) λv s1 ⟨x,H1,I1,r1,b⟩=>?_);obtain⟨c,rfl,b⟩:=b;cases r1;exact not_of (wpAny_truthy_bool ⟨.bl (!c),H1,I1,rfl,b⟩)
noncomputable def tIf(t:TT)(b tb:TE):TE:=λσ H Q=>t σ H λc a=>if c=true then b σ a Q else tb σ a Q
theorem Nt  (f:PT X c tA)(g:PE X a ta)(hb:PE X b tb):PE X (.IfExp c a b pos) (tIf tA ta tb):=by
 intro pins s σ H Q I h;refine wpAny_IfExp (thn (f pins s σ H _ I h) λd s1 ⟨H1,I1,q1⟩=>?_)
 cases d with
 |true=>exact g pins s1 σ H1 Q I1 q1
 |false=>exact hb pins s1 σ H1 Q I1 q1
noncomputable def SqL(K:PySem.W.Frag)(H:Hp)(a:Addr)(xs:List V):Prop :=
 Rd H a (.lst xs) \/
  ∃(o:Obj) (b:Array Value) (n:Nat),K.lookup a=some o/\o.cls=.type "list"/\o.dict=none/\o.data=.seq b n/\b.size<=sizeLine/\aL xs b.toList
noncomputable def SqT(K:PySem.W.Frag)(H:Hp)(a:Addr)(xs:List V):Prop :=
 Rd H a (.tup xs) \/
  ∃(o:Obj) (b:Array Value) (n:Nat),K.lookup a=some o/\o.cls=.type "tuple"/\o.data=.seq b n/\b.size<=sizeLine/\aL xs b.toList
noncomputable def Nu:Value->Option V
 | .none=>some .non
 | .bool b=>some (.bl b)
 | .int i _=>some (.int i)
 | .str x _=>some (.str x)
 | .bytes b _=>some (.byt b)
 | .float b _=>some (.flt b)
 | .ref a=>some (.ref a)
 | .type n=>some (.ty n)
 | _=>none
theorem RelV.abs   (r:RelV x u):Nu u=some x:=by
 cases x with
 |non=>cases r;rfl
 |bl _=>cases r;rfl
 |int _=>obtain⟨t,rfl⟩:=r;rfl
 |str _=>obtain⟨t,rfl⟩:=r;rfl
 |byt _=>obtain⟨t,rfl⟩:=r;rfl
 |flt _=>obtain⟨t,rfl⟩:=r;rfl
 |ref _=>cases r;rfl
 |ty _=>cases r;rfl
theorem RelV.inj{x y:V}{u:Value}(r:RelV x u)(q:RelV y u):x=y:=zH (r.abs.symm.trans q.abs)
theorem aL.inj:∀{xs ys:List V}{us:List Value},aL xs us->aL ys us->xs=ys
 | _,_,_,.nil,.nil=>rfl
 | _,_,_,.cons r t,.cons r' t'=>by rw[r.inj r',aL.inj t t']
theorem Inv.list{σ:St}(I:Inv X pins σ H s)(h:SqL X.K H a xs):∃b:List Value,aL xs b/\PlainL s.heap a b.toArray/\xs.length<=sizeLine:=by
 rcases h with h | ⟨o,b,n,c,d,hd,hs,f,r⟩
 ·obtain⟨z,b,n,r,e⟩:=h.ok I.hok;exact⟨b,r,⟨_,n,e,rfl,rfl,rfl⟩,z⟩
 ·refine⟨b.toList,r,⟨o,n,I.kIn a o c,d,hd,by simpa using hs⟩,?_⟩;have e:=r.length;simp only[Array.length_toList] at e;omega
theorem Inv.tuple{σ:St}(I:Inv X pins σ H s)(h:SqT X.K H a xs):∃b:List Value,aL xs b/\IsTup s.heap a b.toArray/\xs.length<=sizeLine:=by
 rcases h with h | ⟨o,b,n,c,d,hs,f,r⟩
 ·obtain⟨z,b,r,p⟩:=h.ok I.hok;exact⟨b,r,p,z⟩
 ·refine⟨b.toList,r,⟨o,I.kIn a o c,d,n,by simpa using hs⟩,?_⟩;have e:=r.length;simp only[Array.length_toList] at e;omega
theorem Inv.list_inj{σ:St}(I:Inv X pins σ H s)(h:SqL X.K H a xs)(h':SqL X.K H a ys):xs=ys:=by
 obtain⟨c,r,⟨o,n,e,_,_,d⟩,_⟩:=I.list h;obtain⟨b,i,⟨l,m,f,_,_,g⟩,_⟩:=I.list h';rw[e] at f;cases f;rw[d] at g
 injection g with j _
 have:c=b:=by simpa using congrArg Array.toList j
 subst this;exact r.inj i
theorem Inv.tuple_inj{σ:St}(I:Inv X pins σ H s)(h:SqT X.K H a xs)(h':SqT X.K H a ys):xs=ys:=by
 obtain⟨c,r,⟨o,e,_,n,d⟩,_⟩:=I.tuple h;obtain⟨b,i,⟨l,f,_,m,g⟩,_⟩:=I.tuple h';rw[e] at f;cases f;rw[d] at g
 injection g with j _
 have:c=b:=by simpa using congrArg Array.toList j
 subst this;exact r.inj i
abbrev Cx.wish(X:Cx)(E:Value->Shared->Prop):Cx:={X with xe:=E}
abbrev Cx.nox(X:Cx):Cx:=X.wish λ_ _=>False
theorem Cx.Ok.wish{X:Cx}(ok:X.Ok)(E:Value->Shared->Prop):(X.wish E).Ok :=
 ⟨ok.mod,ok.kind,ok.glob,ok.blt,ok.above,ok.inj,ok.has,ok.cab,ok.hd,ok.frames,ok.stk,ok.exf,ok.bs,ok.bsz,ok.noex,ok.exfs,ok.funs,ok.frf⟩
theorem Cx.Ok.unwish{X:Cx}  (ok:(X.wish E).Ok):X.Ok :=
 ⟨ok.mod,ok.kind,ok.glob,ok.blt,ok.above,ok.inj,ok.has,ok.cab,ok.hd,ok.frames,ok.stk,ok.exf,ok.bs,ok.bsz,ok.noex,ok.exfs,ok.funs,ok.frf⟩
theorem Inv.wish{σ:St}(I:Inv X pins σ H s)(E:Value->Shared->Prop):Inv (X.wish E) pins σ H s:=⟨I.ok.wish E,I.os,I.bare,I.base,I.loc,I.cell,I.free,I.freeC,I.pin,I.hok,I.len⟩
theorem Inv.unwish{σ:St}(I:Inv (X.wish E) pins σ H s):Inv X pins σ H s:=⟨I.ok.unwish,I.os,I.bare,I.base,I.loc,I.cell,I.free,I.freeC,I.pin,I.hok,I.len⟩
theorem SP.unwish    (h:SP (X.wish E) pins D f s'):SP X pins D f s':=by
 cases f with
 |next=>obtain⟨a,b,I,q⟩:=h;exact⟨a,b,I.unwish,q⟩
 |brk=>obtain⟨a,b,I,q⟩:=h;exact⟨a,b,I.unwish,q⟩
 |cont=>obtain⟨a,b,I,q⟩:=h;exact⟨a,b,I.unwish,q⟩
 |ret u=>obtain⟨v,a,b,I,r,q⟩:=h;exact⟨v,a,b,I.unwish,r,q⟩
theorem PSs.nox{st:List Stmt}  (h:PSs X.nox st t):PSs X st t:=λpins s σ H D I hw =>
 zw (h pins s σ H D (I.wish _) hw) (λ_ _ q=>q.unwish) λ_ _ z=>False.elim z
noncomputable def Nv:TS:=λD σ H=>D.nx σ H
noncomputable def Nx(t u:TS):TS:=λD σ H=>t {D with nx:=u D} σ H
theorem CG:PSs X [] Nv:=λ_ _ σ H _ I h=>wpAny_execs_nil ⟨σ,H,I,h⟩
theorem CJ{st:Stmt}{rest:List Stmt}(h1:PS X st t)(h2:PSs X rest u):PSs X (st::rest) (Nx t u):=by
 intro pins s σ H D I h;refine wpAny_execs_cons (thn (h1 pins s σ H {D with nx:=u D} I h) λf b q=>?_)
 cases f with
 |next =>
  obtain⟨a,d,c,q⟩:=q;exact h2 pins b a d D c q
 |ret v=>exact q
 |brk=>exact q
 |cont=>exact q
theorem CK{st:Stmt}(h1:PS X st t):PSs X [st] t:=by
 intro pins s σ H D I h;refine wpAny_execs_cons (thn (h1 pins s σ H D I h) λf a q=>?_)
 cases f with
 |next=>exact wpAny_execs_nil q
 |ret v=>exact q
 |brk=>exact q
 |cont=>exact q
theorem Inv.quiet  {σ:St}   (I:Inv X pins σ H s):interactive X.env=false:=by simp[interactive,I.ok.kind]
noncomputable def Ny(a:TE):TS:=λD σ H=>a σ H λ_ b=>D.nx σ b
theorem qg(a:PE X e te)(hs:swapsWith e none pos.line X.env=pure false:=by rfl):PS X (.Expr e pos) (Ny te):=by
 intro pins s σ H D I h;exact wpAny_Expr_any (thn (a pins s σ H _ I h) λv s1 ⟨x,H1,I1,r1,q1⟩=>⟨σ,H1,I1,q1⟩) I.quiet hs
noncomputable def Nz(a:TE):TS:=λD σ H=>a σ H D.rt
theorem CN(a:PE X e te):PS X (.Return (some e) pos) (Nz te):=by
 intro pins s σ H D I h;exact wpAny_Return_some (thn (a pins s σ H _ I h) λv s1 ⟨x,H1,I1,r1,q1⟩=>⟨x,σ,H1,I1,r1,q1⟩)
noncomputable def NB(c:TT)(t u:TS):TS:=λD σ H=>c σ H λb a=>if b=true then t D σ a else u D σ a
theorem CP    (f:PT X c tc)(g:PSs X a t)(hb:PSs X b u):PS X (.If c a b pos) (NB tc t u):=by
 intro pins s σ H D I h;refine wpAny_If (thn (f pins s σ H _ I h) λd s1 ⟨H1,I1,q1⟩=>?_)
 cases d with
 |true=>exact g pins s1 σ H1 D I1 q1
 |false=>exact hb pins s1 σ H1 D I1 q1
abbrev TG:=V->St->Hp->(St->Hp->Prop)->Prop
abbrev TGs:=List V->St->Hp->(St->Hp->Prop)->Prop
noncomputable def PG(X:Cx)(target:Expr)(t:TG):Prop :=
 ∀(pins:List (Addr×Obj)) (s:Shared) (σ:St) (H:Hp) (v:V) (u:Value) (Q:St->Hp->Prop),Inv X pins σ H s->RelV v u->t v σ H Q ->
  wpAny (model X.prog X.w) X.A (assign target X.env u) (λ_ c=>∃a b,Inv X pins a b c/\Q a b) X.xe s
noncomputable def PGs(X:Cx)(ts:List Expr)(t:TGs):Prop :=
 ∀(pins:List (Addr×Obj)) (s:Shared) (σ:St) (H:Hp) (b:List V) (c:List Value) (Q:St->Hp->Prop),Inv X pins σ H s->aL b c->t b σ H Q ->
  wpAny (model X.prog X.w) X.A (assignInOrder ((assignEach ts X.env).map (·.2)) c) (λ_ f=>∃a d,Inv X pins a d f/\Q a d) X.xe s
abbrev CQ:=V->V->V->Hp->(Hp->Prop)->Prop
noncomputable def CT(X:Cx)(t:CQ):Prop :=
 ∀(pins:List (Addr×Obj)) (s:Shared) (σ:St) (H:Hp) (o i v:V) (a b u:Value) (Q:Hp->Prop),Inv X pins σ H s->RelV o a->RelV i b->RelV v u->t o i v H Q ->
  wpAny (model X.prog X.w) X.A (setItem a b u) (λ_ d=>∃c,Inv X pins σ c d/\Q c) X.xe s
noncomputable def nF(i:Nat):TG:=λv σ H Q=>Q (σ.set i (some v)) H
theorem NP   (d:X.N.Nodup)(b:X.N[i]?=some x)(a:Loc X.env.scope x)(c:X.fn x=true\/X.env.scope.names.lookup x=some .local:=by first | exact .inl rfl | exact .inr rfl | assumption):PG X (.Name x pos) (nF i):=by
 intro pins s σ H v u Q I r h;exact wpAny_assign_Name (nD I d b a r (λg f=>⟨_,H,f,h⟩) c)
noncomputable def NQ:TGs:=λa σ H Q=>a=[]/\Q σ H
noncomputable def NT(t:TG)(u:TGs):TGs:=λb σ H Q=>∃v r,b=v::r/\t v σ H λa c=>u r a c Q
theorem NZ:PGs X [] NQ:=by
 intro pins s σ H a b Q I r h;obtain⟨e,h⟩:=h;subst e;cases r;exact assignInOrder_nil ⟨σ,H,I,h⟩
theorem N5     (h1:PG X e t)(h2:PGs X es u)
  (hs:(assignEach (e::es) X.env).map (·.2)=assign e X.env::(assignEach es X.env).map (·.2):=by rfl):PGs X (e::es) (NT t u):=by
 intro pins s σ H b d Q I r h;obtain⟨v,c,a,h⟩:=h;subst a
 cases r with
 |cons r rr =>
  rw[hs];refine assignInOrder_cons (thn (h1 pins s σ H _ _ _ I r h) λ_ s1 ⟨σ1,H1,I1,q1⟩=>?_);exact h2 pins s1 σ1 H1 _ _ Q I1 rr q1
noncomputable def N6(K:PySem.W.Frag)(n:Nat)(t:TGs):TG:=λv σ H Q=>∃a b,v=.ref a/\SqT K H a b/\b.length=n/\t b σ H Q
theorem N7{d:Pos}  {k:Nat}   (y:X.calm=true)(h:PGs X es t)
  (q:(assignEach es X.env).length=n:=by rfl) (f:(assignEach es X.env).findIdx? (·.1)=none:=by rfl):PG X (.Tuple es k d) (N6 X.K n t):=by
 intro pins s σ H v u Q I r c;obtain⟨a,i,E,m,x,c⟩:=c;subst E;cases r;obtain⟨G,g,l,J⟩:=I.tuple m
 refine assign_Tuple_tuple (I.ok.hd y) l (by simp[q,<-x,g.length]) f λC j=>?_
 have F:Inv X pins σ H {s with heap:=C}:=I.kept (t':=s.toks) λb o e=>j b o (zz (ze e)) e
 exact h pins _ σ H i _ Q F (by simpa using g) c
noncomputable def N8(to ti:TE)(t:CQ):TG:=λv σ H Q=>to σ H λo c=>ti σ c λi b=>t o i v b λa=>Q σ a
theorem Oa    (a:PE X o to)(b:PE X i ti)(hs:CT X t)
  (c:∀v,assign (.Subscript o i pos) X.env v=(do
   let ov <-holding [v] (eval o X.env)
   let iv <-holding [v,ov] (eval i X.env)
   standAt pos
   holding [v,ov,iv] (setItem ov iv v)
   release [v,ov,iv] []):=by intro _;rfl):PG X (.Subscript o i pos) (N8 to ti t):=by
 intro pins s σ H v u Q I r h;rw[c];refine za (zK (thn (a pins s σ H _ I h) λov s1 ⟨x,H1,I1,r1,q1⟩=>?_));refine za (zK (thn (b pins s1 σ H1 _ I1 q1) λiv s2 ⟨y,H2,I2,r2,q2⟩=>?_));refine za (wpAny_standAt (za (zK (thn (hs pins s2 σ H2 x y v ov iv u _ I2 r1 r2 r q2) λ_ s3 ⟨H3,I3,q3⟩=>?_))));exact wpAny_release ⟨σ,H3,I3,q3⟩
noncomputable def nG(a:TE)(g:TG):TS:=λD σ H=>a σ H λx b=>g x σ b D.nx
theorem CV{a:Pos}    (d:PE X e te)(c:PG X tg g)(hs:swapsWithSole [tg] e a.line X.env=pure false:=by rfl)(b:swappedStores [tg] e X.env=pure none:=by rfl)
  (h1:(assignEach [tg] X.env).map (·.2)=[assign tg X.env]:=by rfl):PS X (.Assign [tg] e a) (nG te g):=by
 intro pins s σ H D I h;refine wpAny_Assign_stores (thn (d pins s σ H _ I h) λv s1 ⟨x,H1,I1,r1,q1⟩=>?_) hs b;rw[h1]
 exact thn (c pins s1 σ H1 x v _ I1 r1 q1) λ_ f q=>q
theorem vL{a:Pos}      (g:X.N.Nodup)(c:X.N[i]?=some x)(b:Loc X.env.scope x)(f:PE X e te)(hs:swapsWith e (some (.Name x pos')) a.line X.env=pure false:=by rfl)(d:X.fn x=true\/X.env.scope.names.lookup x=some .local:=by first | exact .inl rfl | exact .inr rfl | assumption):
  PS X (.Assign [.Name x pos'] e a) (nG te (nF i)):=by
 intro pins s σ H D I h;refine wpAny_Assign_Name (thn (f pins s σ H _ I h) λv s1 ⟨y,H1,I1,r1,q1⟩=>?_) hs;exact nD I1 g c b r1 (λl j=>⟨_,H1,j,q1⟩) d
noncomputable def CW(c:TT)(tb:TS):TS:=λD σ H=>∃W:Nat->St->Hp->Prop,(∃m,W m σ H)/\∀m σ H,W m σ H ->
 c σ H λb f=>if b=true then ∃N:St->Hp->Prop,(∀a g,N a g->∃d,d<m/\W d a g)/\tb {D with nx:=N,ct:=N,bk:=D.nx} σ f else D.nx σ f
theorem Oc     (u:PassesOwn (model X.prog X.w) X.A X.env X.xe)(G:PT X c tc)(hb:PSs X body tb):PS X (.While c body [] pos) (CW tc tb):=by
 intro pins s σ H D I h;obtain⟨W,⟨F,C⟩,turn⟩:=h;refine wpAny_While (codeAny_whileLoop (λn E=>∃g y,Inv X pins g y E/\W n g y) ?_ F ⟨σ,H,I,C⟩);rintro n s1 ⟨σ1,H1,I1,w1⟩;refine wpAny_passesOwn u (thn (G pins s1 σ1 H1 _ I1 (turn n σ1 H1 w1)) λb s2 ⟨H2,I2,j⟩=>?_)
 cases b with
 |true =>
  obtain⟨N,x,j⟩:=j;rw[if_pos rfl];refine wpAny_passesOwn u (thn (hb pins s2 σ1 H2 _ I2 j) λf J i=>?_)
  cases f with
  |next =>
   obtain⟨a,d,t,m⟩:=i;obtain⟨q,r,l⟩:=x a d m;exact⟨q,r,a,d,t,l⟩
  |cont =>
   obtain⟨a,d,t,m⟩:=i;obtain⟨q,r,l⟩:=x a d m;exact⟨q,r,a,d,t,l⟩
  |brk=>exact i
  |ret v=>exact i
 |false =>
  rw[if_neg zq];exact wpAny_execs_nil ⟨σ1,H2,I2,j⟩
structure It where
 go:Nat->Hp->Prop
 yld:Nat->Hp->V->Hp->Prop
 stop:Nat->Hp->Prop
noncomputable def fL(X:Cx)(pins:List (Addr×Obj))(H:Hp)(b:Addr):Prop :=
 H b=none/\b≠X.env.locals/\b∉X.fs/\(b∈X.ex\/X.s₀.heap.objs.size<=b)/\(∀x c,X.env.cells.lookup x=some c->c≠b)/\∀p∈X.pn++pins,p.1≠b
theorem Inv.fpOk   {σ:St}   {b:Addr}(I:Inv X pins σ H s)(hb:s.heap.objs.size<=b)(d:H' b=none):fL X pins H' b:=by
 refine⟨d,Nat.ne_of_gt (zG I.lt hb),I.nofs hb,.inr (zE I.sz hb),λx c e z=>?_,λp a z=>?_⟩
 ·obtain⟨v,q⟩:=I.cell x c e;exact absurd (zG q.lt (by rw[z];exact hb)) (zS _)
 ·exact absurd (zG (ze (I.pin p a).1) (by rw[z];exact hb)) (zS _)
structure Turn(P:Program)(w:World)(K:PySem.W.Frag)(tg:Expr)(J:It)(fp:List Addr)(it:Addr)(tn:Nat->Heap->Prop):Prop where
 mem:it∈fp
 obj:∀i h,tn i h->∀b∈fp,∃o,h.get? b=some o/\∀v,o.data≠.cell v
 keep:∀i h h',tn i h->(∀b∈fp,∀o,h.get? b=some o->h'.get? b=some o)->tn i h'
 item:∀(X:Cx),X.prog=P->X.w=w->X.K=K->X.calm=true->∀(i:Nat) (pins:List (Addr×Obj)) (s:Shared) (σ:St) (H:Hp) (E:Value->Shared->Prop),Inv X pins σ H s->(∀b∈fp,fL X pins H b)->tn i s.heap->J.go i H ->
  wpAny (model P w) X.A (pyNext (.ref it)) (λr s1=>∃u,r=some u /\
   wpAny (model P w) X.A (letOwnedTupleGo tg (.ref it) u) (λ_ s2=>∃x H',Inv X pins σ H' s2/\RelV x u/\J.yld i H x H'/\tn (i+1) s2.heap/\∀b∈fp,H' b=none) E s1) E s
 done:∀(X:Cx),X.prog=P->X.w=w->X.K=K->X.calm=true->∀(i:Nat) (pins:List (Addr×Obj)) (s:Shared) (σ:St) (H:Hp) (E:Value->Shared->Prop),Inv X pins σ H s->(∀b∈fp,fL X pins H b)->tn i s.heap->J.stop i H ->
  wpAny (model P w) X.A (pyNext (.ref it)) (λr s1=>r=none/\Inv X pins σ H s1) E s
 self:∀(A:Around) (i:Nat) (s:Shared) (Q:Value->Shared->Prop) (E:Value->Shared->Prop),tn i s.heap->Q (.ref it) s->wpAny (model P w) A (pyIter (.ref it)) Q E s
abbrev TI:=St->Hp->(It->Hp->Prop)->Prop
noncomputable def PIE(X:Cx)(pins:List (Addr×Obj))(σ:St)(g:Expr)(R:It->Hp->Prop)(c:Value)(f:Shared):Prop :=
 ∃(it:Addr) (fp:List Addr) (d:Nat->Heap->Prop) (J:It) (a:Hp),c=.ref it/\Inv X pins σ a f/\Turn X.prog X.w X.K g J fp it d/\d 0 f.heap/\(∀b∈fp,fL X pins a b)/\R J a
noncomputable def PI(X:Cx)(b iter:Expr)(a:TI):Prop :=
 ∀(pins:List (Addr×Obj)) (s:Shared) (σ:St) (H:Hp) (R:It->Hp->Prop),Inv X pins σ H s->a σ H R ->
  wpAny (model X.prog X.w) X.A (eval iter X.env) (λv c=>wpAny (model X.prog X.w) X.A (pyIter v) (PIE X pins σ b R) X.xe c) X.xe s
theorem qi            (b:s.heap.get? it=some o)(d:o.cls=.type n)(hd:o.data=.fields vs)
  (c:["enumerate","zip","dict_itemiterator","dict_reverseitemiterator","odict_iterator","itertools.zip_longest","itertools.pairwise"].contains n=false) (a:Q () s):wpAny M A (letOwnedTupleGo tg (.ref it) u) Q E s:=by
 unfold letOwnedTupleGo
 cases tg<;>first
  | exact zb a
  | (cases u<;>first
    | exact zb a
    | (refine za (wpAny_load b ?_)
       rw[d,hd];show wpAny M A (if(["enumerate","zip","dict_itemiterator","dict_reverseitemiterator","odict_iterator","itertools.zip_longest","itertools.pairwise"].contains n&&vs[0]? == some (rawInt _))=true then _ else _) Q E s;rw[if_neg (by intro h;rw[c,Bool.false_and] at h;cases h)]
       exact zb a))
noncomputable def Itl(K:PySem.W.Frag)(a:Addr):It :=
 ⟨λi H=>∃b x,SqL K H a b/\b[i]?=some x,λi H x c=>c=H/\∀b,SqL K H a b->b[i]?=some x,λi H=>∃b,SqL K H a b/\b.length<=i⟩
noncomputable def Itt(K:PySem.W.Frag)(a:Addr):It :=
 ⟨λi H=>∃b x,SqT K H a b/\b[i]?=some x,λi H x c=>c=H/\∀b,SqT K H a b->b[i]?=some x,λi H=>∃b,SqT K H a b/\b.length<=i⟩
noncomputable def Itr(a:Int)(n:Nat):It:=⟨λi _=>i<n,λi H x b=>b=H/\x=.int (a+i),λi _=>n<=i⟩
theorem Od   {K:PySem.W.Frag}  (a it:Addr):Turn P w K tg (Itl K a) [it] it (λi h=>h.IsListIter it a i) where
 mem:=by simp
 obj:=λi h st b hb=>by
  have e:b=it:=by simpa using hb
  subst e;obtain⟨o,e,c,d⟩:=st;exact⟨o,e,λv z=>by rw[d] at z;cases z⟩
 keep:=λi h h' st k=>st.at λo e=>k it (by simp) o e
 item:=by
  intro X hP hw hK hc i pins s σ H E I hf st hg;subst hP hw hK;obtain⟨xs,x,hq,hx⟩:=hg;obtain⟨its,rv,p,hz⟩:=I.list hq;obtain⟨u,hu,ru⟩:=rv.get hx;obtain⟨f0,f1,f2,f3,f4,f5⟩:=hf it (by simp)
  refine wpAny_pyNext_list_item st p.isList (x:=u) (by simpa using hu) λh' st' sb=>?_
  have I1:Inv X pins σ H {s with heap:=h'}:=I.turned (t':=s.toks) (λb o hb e=>(sb.2 b hb).trans e) f0 f1 f3 f4 f5;obtain⟨o,e,c,d⟩:=id st';exact⟨u,rfl,qi (s:={s with heap:=h'}) e c d (by decide) ⟨x,H,I1,ru,⟨rfl,λys hy=>by rw[I.list_inj hy hq];exact hx⟩,st',λb hb=>(hf b hb).1⟩⟩
 done:=by
  intro X hP hw hK hc i pins s σ H E I hf st hg;subst hP hw hK;obtain⟨xs,hq,hx⟩:=hg;obtain⟨its,rv,p,hz⟩:=I.list hq;obtain⟨f0,f1,f2,f3,f4,f5⟩:=hf it (by simp);have hl:=rv.length
  exact wpAny_pyNext_list_end (I.ok.hd hc) st p.isList (by simp;omega) λh' eb=>⟨rfl,I.turned (t':=s.toks) (λb o hb e=>eb b o hb e) f0 f1 f3 f4 f5⟩
 self:=λ_ _ _ _ _ st h=>wpAny_pyIter_listiter st h
theorem Oe   {K:PySem.W.Frag}  (a it:Addr):Turn P w K tg (Itt K a) [it] it (λi h=>h.IsTupleIter it a i) where
 mem:=by simp
 obj:=λi h st b hb=>by
  have e:b=it:=by simpa using hb
  subst e;obtain⟨o,e,c,d⟩:=st;exact⟨o,e,λv z=>by rw[d] at z;cases z⟩
 keep:=λi h h' st k=>st.at λo e=>k it (by simp) o e
 item:=by
  intro X hP hw hK hc i pins s σ H E I hf st hg;subst hP hw hK;obtain⟨xs,x,hq,hx⟩:=hg;obtain⟨its,rv,p,hz⟩:=I.tuple hq;obtain⟨u,hu,ru⟩:=rv.get hx;obtain⟨f0,f1,f2,f3,f4,f5⟩:=hf it (by simp)
  refine wpAny_pyNext_tuple_item st (show s.heap.IsTuple a its.toArray from p) (x:=u) (by simpa using hu) λh' st' sb=>?_
  have I1:Inv X pins σ H {s with heap:=h'}:=I.turned (t':=s.toks) (λb o hb e=>(sb.2 b hb).trans e) f0 f1 f3 f4 f5;obtain⟨o,e,c,d⟩:=id st';exact⟨u,rfl,qi (s:={s with heap:=h'}) e c d (by decide) ⟨x,H,I1,ru,⟨rfl,λys hy=>by rw[I.tuple_inj hy hq];exact hx⟩,st',λb hb=>(hf b hb).1⟩⟩
 done:=by
  intro X hP hw hK hc i pins s σ H E I hf st hg;subst hP hw hK;obtain⟨xs,hq,hx⟩:=hg;obtain⟨its,rv,p,hz⟩:=I.tuple hq;obtain⟨f0,f1,f2,f3,f4,f5⟩:=hf it (by simp);have hl:=rv.length
  exact wpAny_pyNext_tuple_end (I.ok.hd hc) st (show s.heap.IsTuple a its.toArray from p) (by simp;omega) λh' eb=>⟨rfl,I.turned (t':=s.toks) (λb o hb e=>eb b o hb e) f0 f1 f3 f4 f5⟩
 self:=λ_ _ _ _ _ st h=>wpAny_pyIter_tupleiter st h
theorem Og   {K:PySem.W.Frag}  (it:Addr)(lo:Int)(n:Nat):Turn P w K tg (Itr lo n) [it] it (λi h=>IsRangeIter h it (lo+(i:Nat) * 1) ((n:Int) - (i:Nat)) 1) where
 mem:=by simp
 obj:=λi h st b hb=>by
  have e:b=it:=by simpa using hb
  subst e
  exact⟨_,st,λv z=>by
   have z':Data.fields _=Data.cell v:=z
   cases z'⟩
 keep:=λi h h' st k=>k it (by simp) _ st
 item:=by
  intro X hP hw hK hc i pins s σ H E I hf st hg;subst hP hw hK;obtain⟨f0,f1,f2,f3,f4,f5⟩:=hf it (by simp);have W:=Walks.range (prog:=X.prog) (w:=X.w) (I.ok.hd hc) it lo 1 n
  refine W.item i s _ _ hg st λv h' tk hv st' kk=>?_
  obtain⟨t,rfl⟩:=hv;have I1:Inv X pins σ H {s with heap:=h',toks:=tk}:=I.turned (λb o hb e=>kk b o (by simpa using hb) e) f0 f1 f3 f4 f5;refine⟨_,rfl,qi (s:={s with heap:=h',toks:=tk}) (n:="range_iterator") st' rfl rfl (by decide) ⟨.int (lo+i),H,I1,⟨t,?_⟩,⟨rfl,rfl⟩,st',λb hb=>(hf b hb).1⟩⟩;rw[Int.mul_one]
 done:=by
  intro X hP hw hK hc i pins s σ H E I hf st hg;subst hP hw hK;obtain⟨f0,f1,f2,f3,f4,f5⟩:=hf it (by simp)
  exact wpAny_pyNext_range_end (I.ok.hd hc) st (by have:n<=i:=hg;omega) λh' eb=>⟨rfl,I.turned (t':=s.toks) (λb o hb e=>eb b o hb e) f0 f1 f3 f4 f5⟩
 self:=λ_ _ _ _ _ st h=>wpAny_pyIter_rangeiter st h
noncomputable def Oh(K:PySem.W.Frag)(tl:TE):TI:=λσ H R=>tl σ H λx b=>∃a,x=.ref a/\(∃c,SqL K b a c)/\R (Itl K a) b
noncomputable def Oi(K:PySem.W.Frag)(tl:TE):TI:=λσ H R=>tl σ H λx b=>∃a,x=.ref a/\(∃c,SqT K b a c)/\R (Itt K a) b
theorem vM   (d:PE X l tl):PI X tg l (Oh X.K tl):=by
 intro pins s σ H R I h
 refine thn (d pins s σ H _ I h) λv s1 ⟨x,H1,I1,r1,q1⟩=>?_
 obtain⟨a,e,⟨i,c⟩,q⟩:=q1;subst e;cases r1;obtain⟨g,j,p,m⟩:=I1.list c;refine wpAny_pyIter_list p.isList ?_;refine⟨s1.heap.objs.size,[s1.heap.objs.size],_,_,H1,rfl,I1.kept (t':=s1.toks) λb o e=>zl _ e,Od a _,⟨_,zO _ rfl,rfl,rfl⟩,λb f=>?_,q⟩
 have e:b=s1.heap.objs.size:=by simpa using f
 subst e;exact I1.fpOk (zc _) (I1.hok.fresh (zc _))
theorem Oj   (f:PE X l tl):PI X tg l (Oi X.K tl):=by
 intro pins s σ H R I h
 refine thn (f pins s σ H _ I h) λv s1 ⟨x,H1,I1,r1,q1⟩=>?_
 obtain⟨a,e,⟨i,d⟩,q⟩:=q1;subst e;cases r1;obtain⟨c,j,p,m⟩:=I1.tuple d;refine wpAny_pyIter_tuple (show s1.heap.IsTuple a c.toArray from p) ?_;refine⟨s1.heap.objs.size,[s1.heap.objs.size],_,_,H1,rfl,I1.kept (t':=s1.toks) λb o e=>zl _ e,Oe a _,⟨_,zO _ rfl,rfl,rfl⟩,λb g=>?_,q⟩
 have e:b=s1.heap.objs.size:=by simpa using g
 subst e;exact I1.fpOk (zc _) (I1.hok.fresh (zc _))
theorem Ol  {σ:St}     {a:Int}   (I:Inv X pins σ H s)(h1:-(2 ^ 62)<=a)(h2:a<2 ^ 62)(h3:-(2 ^ 62)<=hi)(h4:hi<2 ^ 62)
  (q:R (Itr a (hi - a).toNat) H):wpAny (model X.prog X.w) X.A (pyIter (.ref s.heap.objs.size)) (PIE X pins σ tg R) E {s with heap:=s.heap.push {cls:=.type "range",data:=.fields #[.int a t,.int hi u,.int 1 v]},toks:=tk}:=by
 refine wpAny_pyIter_range (IsRange.new ..) (small_one h1 h2 h3 h4) ?_
 have c:Inv X pins σ H {s with heap:=s.heap.push {cls:=.type "range",data:=.fields #[.int a t,.int hi u,.int 1 v]},toks:=tk}:=I.kept λb o e=>zl _ e
 refine⟨(s.heap.push {cls:=.type "range",data:=.fields #[.int a t,.int hi u,.int 1 v]}).objs.size,[(s.heap.push {cls:=.type "range",data:=.fields #[.int a t,.int hi u,.int 1 v]}).objs.size],_,_,H,rfl,
  c.kept (t':=tk) λb o e=>zl _ e,Og _ a (hi - a).toNat,?_,λb d=>?_,q⟩
 ·have g:a+((0:Nat):Int) * 1=a:=by simp
  have f:(((hi - a).toNat:Nat):Int) - ((0:Nat):Int)=Builtin.Range.rangeSize a hi 1:=by rw[rangeSize_one];split<;>omega
  show IsRangeIter _ _ (a+((0:Nat):Int) * 1) ((((hi - a).toNat:Nat):Int) - ((0:Nat):Int)) 1;rw[g,f];exact zO _ rfl
 ·have e:b=(s.heap.push {cls:=.type "range",data:=.fields #[.int a t,.int hi u,.int 1 v]}).objs.size:=by simpa using d
  subst e;exact c.fpOk (zc _) (c.hok.fresh (zc _))
noncomputable def Om(b:TA):TI:=λσ H R=>b σ H λa c=>∃j:Int,a=[.int j]/\-(2 ^ 62)<=j/\j<2 ^ 62/\R (Itr 0 j.toNat) c
theorem Oo    (f:Gl X "range")(d:X.mg "range" = none)(g:PA X [a] ta)(hs:starEach [a] X.env=[(false,eval a X.env)]:=by rfl):PI X tg (.Call (.Name "range" p) [a] [] pos) (Om ta):=by
 intro pins s σ H R I h;refine Call_ (lJ I f d boot_range (PyProof.Rows.callWith_type1 (thn (g pos pins s σ H _ I h) λus s1 ⟨vs,H1,I1,r1,b⟩=>?_) hs rfl));obtain⟨j,e,b,c,q⟩:=b;subst e
 cases r1 with
 |cons r rr =>
  cases rr;obtain⟨t,rfl⟩:=r;exact call_range_1 (Ol I1 (by omega) (by omega) b c (by simpa using q))
noncomputable def sI(f:TI)(g:TG)(tb:TS):TS:=λD σ H=>f σ H λJ j=>∃W:Nat->Nat->St->Hp->Prop,(∃m,W 0 m σ j)/\∀i m σ H,W i m σ H ->
 (J.stop i H/\D.nx σ H)\/(J.go i H/\∃N:St->Hp->Prop,(∀b a,N b a->∃d,d<m/\W (i+1) d b a)/\∀x a,J.yld i H x a->g x σ a λc h=>tb {D with nx:=N,ct:=N,bk:=D.nx} c h)
noncomputable def qj(fp:List Addr)(h:Heap):List (Addr×Obj):=fp.filterMap λb=>(h.get? b).map λo=>(b,o)
theorem sJ     (hb:b∈fp)(e:h.get? b=some o):(b,o)∈qj fp h:=List.mem_filterMap.mpr ⟨b,hb,by rw[e];rfl⟩
theorem Oq    (a:p∈qj fp h):p.1∈fp/\h.get? p.1=some p.2:=by
 obtain⟨b,c,e⟩:=List.mem_filterMap.mp a
 cases q:h.get? b with
 |none=>rw[q] at e;cases e
 |some o =>
  rw[q] at e;have e':(b,o)=p:=zH e;subst e';exact⟨c,q⟩
theorem Inv.pinned  {σ:St}    (I:Inv X pins σ H s)(h:∀b∈fp,fL X pins H b)(g:∀b∈fp,∃o,s.heap.get? b=some o/\∀v,o.data≠.cell v):Inv X (pins++qj fp s.heap) σ H s :=
 I.pins_of λp f=>(zv.mp f).elim (λz=>I.pin p (zU _ z)) λz=>by
  obtain⟨a,e⟩:=Oq z;obtain⟨l,j,i,_⟩:=h p.1 a;obtain⟨o,c,d⟩:=g p.1 a;rw[e] at c;cases c;exact⟨e,l,j,i,d⟩
theorem Inv.unpinned  {σ:St}   (I:Inv X (pins++pl) σ H s):Inv X pins σ H s:=I.pins_of λp a=>I.pin p (zU _ (List.mem_append_left _ a))
theorem vN       (F:PassesOwn (model X.prog X.w) X.A X.env X.xe)(hc:X.calm=true)(hi:PI X tg iter wi)(hg:PG X tg g)(hb:PSs X body tb)
  (hs:∀x,foldedSetIterable iter X.env x=pure x:=by intro _;rfl):PS X (.For tg iter body [] pos) (sI wi g tb):=by
 intro pins s σ H D I h;refine wpAny_For (thn (hi pins s σ H _ I h) λv s1 h1=>thn h1 λitv s2 h2=>?_) hs;obtain⟨it,fp,U,J,H2,e,I2,T,R,f2,W,⟨m0,w0⟩,turn⟩:=h2;subst e
 have t:∀{y:Hp},(∀b∈fp,y b=none)->∀b∈fp,fL X pins y b:=λhn b hb=>⟨hn b hb,(f2 b hb).2⟩
 refine codeAny_forLoop_any (λn Z=>∃i q y,Inv X pins q y Z/\U i Z.heap/\(∀b∈fp,y b=none)/\W i n q y) ?_ m0 ⟨0,σ,H2,I2,R,λb hb=>(f2 b hb).1,w0⟩;rintro n Y ⟨i,l,O,I3,G,L,w3⟩
 rcases turn i n l O w3 with⟨stop,qn⟩ | ⟨go,N,hN,step⟩
 ·refine wpAny_passesOwn F (thn (T.done X rfl rfl rfl hc i pins Y l O X.xe I3 (t L) G stop) λr s4 ⟨Q,I4⟩=>?_);subst Q;exact wpAny_execs_nil ⟨l,O,I4,qn⟩
 ·refine wpAny_passesOwn F (thn (T.item X rfl rfl rfl hc i pins Y l O X.xe I3 (t L) G go) λr s4 ⟨u,Q,h4⟩=>?_);subst Q;refine wpAny_passesOwn F (thn h4 λ_ s5 ⟨x,H5,I5,r5,y5,st5,fr5⟩=>?_);have I5':=I5.pinned (t fr5) (T.obj _ _ st5);refine wpAny_passesOwn F (thn (hg _ s5 l H5 x u _ I5' r5 (step x H5 y5)) λ_ s6 ⟨σ6,H6,I6,q6⟩=>?_);refine wpAny_passesOwn F (thn (hb _ s6 σ6 H6 _ I6 q6) λf P C=>?_)
  have again:∀{a:St}{j:Hp},Inv X (pins++qj fp s5.heap) a j P->N a j->∃m,m<n/\∃i q y,Inv X pins q y P/\U i P.heap/\(∀b∈fp,y b=none)/\W i m q y:=λ{a j} c E=>by
   obtain⟨m',hm,w7⟩:=hN a j E;refine⟨m',hm,i+1,a,j,c.unpinned,T.keep _ _ _ st5 λb hb o e=>(c.pin (b,o) (zU _ (zU _ (sJ hb e)))).1,λb hb=>?_,w7⟩;obtain⟨o,e,d⟩:=T.obj _ _ st5 b hb;exact(c.pin (b,o) (zU _ (zU _ (sJ hb e)))).2.1
  cases f with
  |next=>obtain⟨a,j,c,E⟩:=C;exact again c E
  |cont=>obtain⟨a,j,c,E⟩:=C;exact again c E
  |brk=>obtain⟨a,j,c,C⟩:=C;exact⟨a,j,c.unpinned,C⟩
  |ret v=>obtain⟨x7,a,j,c,r7,C⟩:=C;exact⟨x7,a,j,c.unpinned,r7,C⟩
abbrev R2:=V->V->Hp->VK->Prop
noncomputable def OpR(X:Cx)(f:Value->Value->Sem Value)(r:R2):Prop :=
 ∀(pins:List (Addr×Obj)) (s:Shared) (σ:St) (H:Hp) (x y:V) (v u:Value) (Q:VK),Inv X pins σ H s->RelV x v->RelV y u->r x y H Q ->
  wpAny (model X.prog X.w) X.A (f v u) (EP X pins σ Q) X.xe s
noncomputable def UnR(X:Cx)(f:Value->Sem Value)(r:V->Hp->VK->Prop):Prop :=
 ∀(pins:List (Addr×Obj)) (s:Shared) (σ:St) (H:Hp) (x:V) (v:Value) (Q:VK),Inv X pins σ H s->RelV x v->r x H Q ->
  wpAny (model X.prog X.w) X.A (f v) (EP X pins σ Q) X.xe s
noncomputable def gO(X:Cx)(f:Value)(r:List V->Hp->VK->Prop):Prop :=
 ∀(pins:List (Addr×Obj)) (s:Shared) (σ:St) (H:Hp) (a:List V) (b:List Value) (Q:VK),Inv X pins σ H s->aL a b->r a H Q ->
  wpAny (model X.prog X.w) X.A (call f b) (EP X pins σ Q) X.xe s
noncomputable def Ot(X:Cx)(r:V->Hp->(Bool->Hp->Prop)->Prop):Prop :=
 ∀(pins:List (Addr×Obj)) (s:Shared) (σ:St) (H:Hp) (x:V) (v:Value) (Q:Bool->Hp->Prop),Inv X pins σ H s->RelV x v->r x H Q ->
  wpAny (model X.prog X.w) X.A (truthy v) (TP X pins σ Q) X.xe s
noncomputable def tOp(r:R2)(a tb:TE):TE:=λσ H Q=>a σ H λx c=>tb σ c λy b=>r x y b Q
noncomputable def tUn(r:V->Hp->VK->Prop)(a:TE):TE:=λσ H Q=>a σ H λx b=>r x b Q
noncomputable def rI(C:Int->Int->Prop)(g:Int->Int->V):R2:=λx y H Q=>∃i j,x=.int i/\y=.int j/\C i j/\Q (g i j) H
noncomputable def rI0(g:Int->Int->V):R2:=λx y H Q=>∃i j,x=.int i/\y=.int j/\Q (g i j) H
noncomputable def rU(g:Int->V):V->Hp->VK->Prop:=λx H Q=>∃i,x=.int i/\Q (g i) H
theorem vO(m:PE X a ta)(hb:PE X b tb)   {σ:St}  {R:V->V->Hp->Prop}(I:Inv X pins σ H s)
  (h:ta σ H λx j=>tb σ j λy c=>R x y c)  {f:Value->Value->Sem Value}
  (l:∀v u i x y c,Inv X pins σ c i->RelV x v->RelV y u->R x y c->wpAny (model X.prog X.w) X.A (f v u) Q X.xe i):
  wpAny (model X.prog X.w) X.A (eval a X.env) (λv g=>wpAny (model X.prog X.w) X.A (eval b X.env) (λu d=>wpAny (model X.prog X.w) X.A (f v u) Q X.xe d) X.xe g) X.xe s:=by
 refine thn (m pins s σ H _ I h) λv s1 ⟨x,j,I1,r1,q1⟩=>?_
 refine thn (hb pins s1 σ j _ I1 q1) λu i ⟨y,c,I2,r2,q2⟩=>?_
 exact l v u i x y c I2 r1 r2 q2
theorem Ou   (g:OpR X (binaryOp op) r)(i:PE X a ta)(hb:PE X b tb):PE X (.BinOp a op b pos) (tOp r ta tb):=by
 intro pins s σ H Q I h;exact wpAny_BinOp (vO i hb I h λv u c x y l j f d q=>g pins c σ l x y v u Q j f d q)
theorem Ov   (b:UnR X (unaryOp op) r)(c:PE X a ta):PE X (.UnaryOp op a pos) (tUn r ta):=by
 intro pins s σ H Q I h;exact UnaryOp_ (thn (c pins s σ H _ I h) λv s1 ⟨x,H1,I1,r1,q1⟩=>b pins s1 σ H1 x v Q I1 r1 q1)
theorem opI   {g:Int->Int->Int}
  (rule:∀(i j:Int) (t u:Tok) (s:Shared) (Q:Value->Shared->Prop) (E:Value->Shared->Prop),C i j->Q (.int (g i j) s.toks) {s with toks:=s.toks+1}->wpAny (model X.prog X.w) X.A (f (.int i t) (.int j u)) Q E s):
  OpR X f (rI C λi j=>.int (g i j)):=by
 intro pins s σ H x y v u Q I c b h;obtain⟨i,j,rfl,rfl,d,q⟩:=h;obtain⟨t,rfl⟩:=c;obtain⟨a,rfl⟩:=b;exact rule i j t a s _ _ d ⟨.int (g i j),H,I.tok _,⟨_,rfl⟩,q⟩
theorem CZ  {g:Int->Int->Int}
  (rule:∀(i j:Int) (t u:Tok) (s:Shared) (Q:Value->Shared->Prop) (E:Value->Shared->Prop),Q (.int (g i j) s.toks) {s with toks:=s.toks+1}->wpAny (model X.prog X.w) X.A (f (.int i t) (.int j u)) Q E s):
  OpR X f (rI0 λi j=>.int (g i j)):=by
 intro pins s σ H x y v u Q I c b h;obtain⟨i,j,rfl,rfl,q⟩:=h;obtain⟨t,rfl⟩:=c;obtain⟨a,rfl⟩:=b;exact rule i j t a s _ _ ⟨.int (g i j),H,I.tok _,⟨_,rfl⟩,q⟩
theorem vP  {g:Int->Int->Bool}
  (rule:∀(i j:Int) (t u:Tok) (s:Shared) (Q:Value->Shared->Prop) (E:Value->Shared->Prop),Q (.bool (g i j)) s->wpAny (model X.prog X.w) X.A (f (.int i t) (.int j u)) Q E s):
  OpR X f (rI0 λi j=>.bl (g i j)):=by
 intro pins s σ H x y v u Q I c b h;obtain⟨i,j,rfl,rfl,q⟩:=h;obtain⟨t,rfl⟩:=c;obtain⟨a,rfl⟩:=b;exact rule i j t a s _ _ ⟨.bl (g i j),H,I,rfl,q⟩
noncomputable def Ox(i j:Int):Prop:=0<j/\j<1073741824
noncomputable def Oz(i j:Int):Prop:=0<=j/\j<=1000000/\i.natAbs<2 ^ 64
noncomputable def vQ(i j:Int):Prop:=(-(2 ^ 64)<i/\i<2 ^ 64)\/(-(2 ^ 64)<j/\j<2 ^ 64)
theorem vQ.ok  (h:vQ i j):IntMulOk i j:=by
 rcases h with⟨h1,h2⟩ | ⟨h1,h2⟩
 ·exact .of_left (intBits_le_64 h1 h2)
 ·exact .of_right (intBits_le_64 h1 h2)
theorem OD:OpR X (binaryOp .Add) (rI0 λi j=>.int (i+j)):=CZ λ_ _ _ _ _ _ _ q=>add_int q
theorem OJ:OpR X (binaryOp .Sub) (rI0 λi j=>.int (i - j)):=CZ λ_ _ _ _ _ _ _ q=>sub_int q
theorem O7:OpR X (binaryOp .Mult) (rI vQ λi j=>.int (i * j)):=opI λ_ _ _ _ _ _ _ a q=>mul_int q a.ok
theorem O8:OpR X (binaryOp .FloorDiv) (rI Ox λi j=>.int (i / j)):=opI λi j _ _ _ _ _ a q=>by
 have h1:(0:Int)<j:=a.1;have h2:j<1073741824:=a.2;exact floordiv_int (by omega) (by rw[Int.fdiv_eq_ediv_of_nonneg i (by omega)];exact q) (.inl (PyProof.noPylong_small (by omega)))
theorem O9:OpR X (binaryOp .Mod) (rI (λ_ j=>0<j) λi j=>.int (i % j)):=opI λi j _ _ _ _ _ a q=>by
 have h1:(0:Int)<j:=a;exact mod_int' (by omega) (by rw[Int.fmod_eq_emod_of_nonneg i (by omega)];exact q)
theorem Pa:OpR X (binaryOp .Pow) (rI Oz λi j=>.int (i ^ j.toNat)):=opI λ_ _ _ _ _ _ _ a q=>pow_int_small a.1 a.2.1 a.2.2 q
theorem unI  {g:Int->Int}
  (rule:∀(i:Int) (t:Tok) (s:Shared) (Q:Value->Shared->Prop) (E:Value->Shared->Prop),Q (.int (g i) s.toks) {s with toks:=s.toks+1}->wpAny (model X.prog X.w) X.A (f (.int i t)) Q E s):
  UnR X f (rU λi=>.int (g i)):=by
 intro pins s σ H x v Q I a h;obtain⟨i,rfl,q⟩:=h;obtain⟨t,rfl⟩:=a;exact rule i t s _ _ ⟨.int (g i),H,I.tok _,⟨_,rfl⟩,q⟩
theorem Pb:UnR X (unaryOp .USub) (rU λi=>.int (-i)):=unI λ_ _ _ _ _ q=>neg_int q
theorem Pg:OpR X (binaryOp .Add) (λx y H Q=>∃i k,x=.int i/\y=.bl k/\Q (.int (i+b2i k)) H):=by
 intro pins s σ H x y v u Q I b a h;obtain⟨i,k,rfl,rfl,q⟩:=h;obtain⟨t,rfl⟩:=b;cases a;exact add_int_bool ⟨.int (i+b2i k),H,I.tok _,⟨_,rfl⟩,q⟩
noncomputable def Dc:V->V->Bool
 | .non,.non=>true | .non,.int _=>true | .int _,.non=>true | .non,.bl _=>true | .bl _,.non=>true | .non,.str _=>true | .str _,.non=>true
 | .int _,.int _=>true | .bl _,.bl _=>true | .str _,.str _=>true | .byt _,.byt _=>true
 | .int _,.str _=>true | .str _,.int _=>true | .bl _,.str _=>true | .str _,.bl _=>true
 | _,_=>false
noncomputable def rEq:R2:=λx y H Q=>Dc x y=true/\Q (.bl (decide (x=y))) H
noncomputable def rNe:R2:=λx y H Q=>Dc x y=true/\Q (.bl (!decide (x=y))) H
theorem Dd :decide (V.int i=V.int j)=(i == j):=by
 rw[Bool.eq_iff_iff];simp
theorem De :decide (V.bl i=V.bl j)=(i == j):=by
 rw[Bool.eq_iff_iff];simp
theorem Dg :decide (V.str i=V.str j)=(i == j):=by
 rw[Bool.eq_iff_iff];simp
theorem Dh :decide (V.byt i=V.byt j)=(i.toList == j.toList):=by
 rw[Bool.eq_iff_iff];cases i;cases j;simp
theorem bY  {σ:St}     (I:Inv X pins σ H s)(q:Q (.bl k) H)(e:k=k'):EP X pins σ Q (.bool k') s:=by
 subst e;exact⟨.bl k,H,I,rfl,q⟩
theorem vR:OpR X (compareOp .Eq) rEq:=by
 intro pins s σ H x y v u Q I c a h;obtain⟨hs,q⟩:=h
 cases x with
 |non =>
  cases c
  cases y with
  |non=>cases a;exact PySem.EqNone.eq_none_none (bY I q (by simp))
  |bl j=>cases a;exact PySem.EqNone.eq_none_bool (bY I q (by simp))
  |int j=>obtain⟨b,rfl⟩:=a;exact PySem.EqNone.eq_none_int (bY I q (by simp))
  |str j=>obtain⟨b,rfl⟩:=a;exact PySem.EqNone.eq_none_str (bY I q (by simp))
  | _=>exact absurd (show false=true from hs) zq
 |bl i =>
  cases c
  cases y with
  |non=>cases a;exact PySem.EqNone.eq_bool_none (bY I q (by simp))
  |bl j=>cases a;exact eq_bool (bY I q De)
  |str j=>obtain⟨b,rfl⟩:=a;exact PySem.EqMixed.eq_bool_str (bY I q (by simp))
  | _=>exact absurd (show false=true from hs) zq
 |int i =>
  obtain⟨t,rfl⟩:=c
  cases y with
  |non=>cases a;exact PySem.EqNone.eq_int_none (bY I q (by simp))
  |int j=>obtain⟨b,rfl⟩:=a;exact eq_int (bY I q Dd)
  |str j=>obtain⟨b,rfl⟩:=a;exact PySem.EqMixed.eq_int_str (bY I q (by simp))
  | _=>exact absurd (show false=true from hs) zq
 |str i =>
  obtain⟨t,rfl⟩:=c
  cases y with
  |non=>cases a;exact PySem.EqNone.eq_str_none (bY I q (by simp))
  |bl j=>cases a;exact PySem.EqMixed.eq_str_bool (bY I q (by simp))
  |int j=>obtain⟨b,rfl⟩:=a;exact PySem.EqMixed.eq_str_int (bY I q (by simp))
  |str j=>obtain⟨b,rfl⟩:=a;exact eq_str (bY I q Dg)
  | _=>exact absurd (show false=true from hs) zq
 |byt i =>
  obtain⟨t,rfl⟩:=c
  cases y with
  |byt j=>obtain⟨b,rfl⟩:=a;exact PySem.W.eq_bytes (bY I q Dh)
  | _=>exact absurd (show false=true from hs) zq
 | _=>cases y<;>exact absurd (show false=true from hs) zq
theorem vU:OpR X (compareOp .NotEq) rNe:=by
 intro pins s σ H x y v u Q I c a h;obtain⟨hs,q⟩:=h
 cases x with
 |non =>
  cases c
  cases y with
  |non=>cases a;exact PySem.EqNone.ne_none_none (bY I q (by simp))
  |bl j=>cases a;exact PySem.EqNone.ne_none_bool (bY I q (by simp))
  |int j=>obtain⟨b,rfl⟩:=a;exact PySem.EqNone.ne_none_int (bY I q (by simp))
  |str j=>obtain⟨b,rfl⟩:=a;exact PySem.EqNone.ne_none_str (bY I q (by simp))
  | _=>exact absurd (show false=true from hs) zq
 |bl i =>
  cases c
  cases y with
  |non=>cases a;exact PySem.EqNone.ne_bool_none (bY I q (by simp))
  |bl j=>cases a;exact ne_bool (bY I q (congrArg not De))
  |str j=>obtain⟨b,rfl⟩:=a;exact PySem.EqMixed.ne_bool_str (bY I q (by simp))
  | _=>exact absurd (show false=true from hs) zq
 |int i =>
  obtain⟨t,rfl⟩:=c
  cases y with
  |non=>cases a;exact PySem.EqNone.ne_int_none (bY I q (by simp))
  |int j=>obtain⟨b,rfl⟩:=a;exact ne_int (bY I q (congrArg not Dd))
  |str j=>obtain⟨b,rfl⟩:=a;exact PySem.EqMixed.ne_int_str (bY I q (by simp))
  | _=>exact absurd (show false=true from hs) zq
 |str i =>
  obtain⟨t,rfl⟩:=c
  cases y with
  |non=>cases a;exact PySem.EqNone.ne_str_none (bY I q (by simp))
  |bl j=>cases a;exact PySem.EqMixed.ne_str_bool (bY I q (by simp))
  |int j=>obtain⟨b,rfl⟩:=a;exact PySem.EqMixed.ne_str_int (bY I q (by simp))
  |str j=>obtain⟨b,rfl⟩:=a;exact ne_str (bY I q (congrArg not Dg))
  | _=>exact absurd (show false=true from hs) zq
 |byt i =>
  obtain⟨t,rfl⟩:=c
  cases y with
  |byt j=>obtain⟨b,rfl⟩:=a;exact PySem.W.ne_bytes (bY I q (congrArg not Dh))
  | _=>exact absurd (show false=true from hs) zq
 | _=>cases y<;>exact absurd (show false=true from hs) zq
theorem Ph:OpR X (compareOp .Lt) (rI0 λi j=>.bl (decide (i<j))):=vP λ_ _ _ _ _ _ _ q=>lt_int q
theorem Pj:OpR X (compareOp .LtE) (rI0 λi j=>.bl (decide (i<=j))):=vP λ_ _ _ _ _ _ _ q=>le_int q
theorem Pk:OpR X (compareOp .Gt) (rI0 λi j=>.bl (decide (j<i))):=vP λ_ _ _ _ _ _ _ q=>gt_int q
theorem Pn:OpR X (compareOp .In) (λx y H Q=>∃i j,x=.str i/\y=.str j/\Q (.bl (!(Builtin.Str.occurrences j i 0 j.length 1).isEmpty)) H):=by
 intro pins s σ H x y v u Q I b a h;obtain⟨i,j,rfl,rfl,q⟩:=h;obtain⟨t,rfl⟩:=b;obtain⟨c,rfl⟩:=a;exact in_str (bY I q rfl)
theorem fB(b:Expr)  (h:op≠.In:=by decide)(h2:op≠.NotIn:=by decide):behindInMarks op b=false:=by
 have c:(op == CmpOp.In)=false:=by cases op<;>first | rfl | exact absurd rfl h
 have a:(op == CmpOp.NotIn)=false:=by cases op<;>first | rfl | exact absurd rfl h2
 cases b<;>simp[behindInMarks,c,a]
theorem Di   (g:OpR X (compareOp op) r)(j:PE X a ta)(hb:PE X b tb)(i:behindInMarks op b=false):PE X (.Compare a [op] [b] pos) (tOp r ta tb):=by
 intro pins s σ H Q I h;exact wpAny_Compare1 (vO j hb I h λv u c x y m l f d q=>g pins c σ m x y v u Q l f d q) i
noncomputable def vV(t:TE):TT:=λσ H Q=>t σ H λx a=>∃k,x=.bl k/\Q k a
theorem Dj   (d:OpR X (compareOp op) r)(g:PE X a ta)(hb:PE X b tb)(f:behindInMarks op b=false):PT X (.Compare a [op] [b] pos) (vV (tOp r ta tb)):=by
 intro pins s σ H Q I h
 refine wpAny_isTrue_Compare1 (thn (g pins s σ H _ I h) λv s1 ⟨x,H1,I1,r1,q1⟩=>thn (hb pins s1 σ H1 _ I1 q1) λu s2 ⟨y,H2,I2,r2,q2⟩ =>
  thn (d pins s2 σ H2 x y v u _ I2 r1 r2 q2) λc s3 ⟨z,H3,I3,r3,k,e,q3⟩=>?_) f
 subst e;cases r3;exact wpAny_truthy_bool ⟨H3,I3,q3⟩
noncomputable def Dk(r f:R2)(d tb c:TE):TE:=λσ H Q=>d σ H λx i=>tb σ i λy h=>r x y h λz a=>∃k,z=.bl k /\
 (if k=true then c σ a λb g=>f y b g Q else Q (.bl false) a)
theorem Pq   (g:OpR X (compareOp op) r)(f:OpR X (compareOp op') r')(l:PE X a ta)(hb:PE X b tb)(j:PE X c tc)
  (i:lastMarks [op,op'] [b,c]=false:=by with_unfolding_all rfl):PE X (.Compare a [op,op'] [b,c] pos) (Dk r r' ta tb tc):=by
 intro pins s σ H Q I h
 refine Compare_chain (thn (l pins s σ H _ I h) λv s1 ⟨x,H1,I1,r1,q1⟩=>chain_link (thn (hb pins s1 σ H1 _ I1 q1) λu s2 ⟨y,H2,I2,r2,q2⟩ =>
  thn (g pins s2 σ H2 x y v u _ I2 r1 r2 q2) λd s3 ⟨z,H3,I3,r3,k,e,q3⟩=>?_)) i
 subst e;cases r3;refine wpAny_truthy_bool ?_
 cases k with
 |false=>exact ite_ff ⟨.bl false,H3,I3,rfl,q3⟩
 |true=>exact ite_tt (chain_last (thn (j pins s3 σ H3 _ I3 q3) λw' s4 ⟨z',H4,I4,r4,q4⟩=>f pins s4 σ H4 y z' u w' Q I4 r2 r4 q4))
noncomputable def vW(K:PySem.W.Frag)(x:V)(H:Hp)(k:Bool):Prop :=
 match x with
 | .non=>k=false
 | .bl b=>k=b
 | .int i=>k=(i != 0)
 | .str y=>y.length<=sizeLine/\k=((y.length:Int) != 0)
 | .byt y=>y.size<=sizeLine/\k=((y.size:Int) != 0)
 | .ref p=>(∃a,SqL K H p a/\k = !a.isEmpty)\/(∃a,SqT K H p a/\k = !a.isEmpty)\/∃kvs,H p=some (.dK kvs)/\k = !kvs.isEmpty
 | _=>False
theorem Pu    (r:KV kvs vs):(!vs.isEmpty) = !kvs.isEmpty:=by
 cases r<;>rfl
theorem Dl   (r:aL xs its):(!its.toArray.isEmpty) = !xs.isEmpty:=by
 cases r<;>simp
theorem nH:(sizeLine:Nat)<2 ^ 63:=by rw[sizeLine_eq];decide
theorem Px:Ot X (λx H Q=>∃k,vW X.K x H k/\Q k H):=by
 intro pins s σ H x v Q I d h;obtain⟨k,e,q⟩:=h;have F:=nH;have hs:sizeLine=16777216:=sizeLine_eq
 cases x with
 |non =>
  cases d;have a:k=false:=e;subst a;exact truthy_none ⟨H,I,q⟩
 |bl b =>
  cases d;have a:k=b:=e;subst a;exact wpAny_truthy_bool ⟨H,I,q⟩
 |int i =>
  obtain⟨t,rfl⟩:=d;have a:k=(i != 0):=e;subst a;exact PySem.P.truthy_int ⟨H,I,q⟩
 |str y =>
  obtain⟨t,rfl⟩:=d;obtain⟨C,a⟩:y.length<=sizeLine/\k=((y.length:Int) != 0):=e;subst a;exact PySem.P.truthy_str (by omega) ⟨H,I.tok _,q⟩
 |byt y =>
  obtain⟨t,rfl⟩:=d;obtain⟨C,a⟩:y.size<=sizeLine/\k=((y.size:Int) != 0):=e;subst a;exact PySem.W.truthy_bytes (by omega) ⟨H,I.tok _,q⟩
 |ref p =>
  cases d;have a:(∃c,SqL X.K H p c/\k = !c.isEmpty)\/(∃c,SqT X.K H p c/\k = !c.isEmpty)\/∃kvs,H p=some (.dK kvs)/\k = !kvs.isEmpty:=e
  rcases a with⟨c,f,a⟩ | ⟨c,f,a⟩ | ⟨kvs,f,a⟩
  ·subst a;obtain⟨l,r,j,u⟩:=I.list f;have hlen:=r.length;exact wpAny_truthy_list j.isList (by simp only[zu];omega) ⟨H,I.tok _,by rw[Dl r];exact q⟩
  ·subst a;obtain⟨l,r,j,u⟩:=I.tuple f;have hlen:=r.length;exact truthy_tuple j (by simp only[zu];omega) ⟨H,I.tok _,by rw[Dl r];exact q⟩
  ·subst a;obtain⟨u,E,g,r,m⟩:kvs.length<=sizeLine/\(p == sysModules)=false/\∃g,KV kvs g/\s.heap.DictOf (cD X.prog X.w) p g:=I.hok p _ f;have hlen:kvs.length=g.length:=Paired.length r;exact wpAny_truthy_dict E m (by omega) ⟨H,I.tok _,by rw[Pu r];exact q⟩
 | _=>exact(show False from e).elim
theorem Py(d:PE X a ta)(c:∀whole,isTrue a X.env whole=(do let v <-whole;standAt a.pos;holding [v] (truthy v))):
  PT X a (λσ H Q=>ta σ H λx b=>∃k,vW X.K x b k/\Q k b):=by
 intro pins s σ H Q I h;exact isTrue_plain (thn (d pins s σ H _ I h) λv s1 ⟨x,H1,I1,r1,q1⟩=>Px pins s1 σ H1 x v Q I1 r1 q1) (c _)
theorem Pz:OpR X (binaryOp .Add) (λx y H Q=>∃i j,x=.str i/\y=.str j/\i.length+j.length<=sizeLine/\Q (.str (i++j)) H):=by
 intro pins s σ H x y v u Q I c b h;obtain⟨i,j,rfl,rfl,d,q⟩:=h;obtain⟨t,rfl⟩:=c;obtain⟨a,rfl⟩:=b;exact add_str (λa tk=>⟨.str (i++j),H,I.tok _,⟨_,rfl⟩,q⟩) d
theorem vals1   (r:aL [x] us):∃u,us=[u]/\RelV x u:=by
 cases r with
 |cons b a=>cases a;exact⟨_,rfl,b⟩
theorem vals2   (r:aL [x,y] us):∃u a,us=[u,a]/\RelV x u/\RelV y a:=by
 cases r with
 |cons r1 r2 =>
  cases r2 with
  |cons c b=>cases b;exact⟨_,_,rfl,r1,c⟩
theorem PB(b:X.calm=true):gO X (.builtin "min") (λxs H Q=>∃i j,xs=[.int i,.int j]/\Q (.int (if j<i then j else i)) H):=by
 intro pins s σ H xs d Q I r h;obtain⟨i,j,rfl,q⟩:=h;obtain⟨u,c,rfl,⟨t,rfl⟩,⟨f,rfl⟩⟩:=vals2 r
 refine min_two_ints (I.ok.hd b) λg tk k=>⟨_,H,I.kept k,?_,q⟩
 by_cases a:j<i
 ·rw[if_pos a,if_pos a];exact⟨_,rfl⟩
 ·rw[if_neg a,if_neg a];exact⟨_,rfl⟩
theorem Dm:gO X (.type "int") (λxs H Q=>(∃i,xs=[.int i]/\Q (.int i) H)\/∃k,xs=[.bl k]/\Q (.int (if k then 1 else 0)) H):=by
 intro pins s σ H xs b Q I r h
 rcases h with⟨i,rfl,q⟩ | ⟨k,rfl,q⟩
 ·obtain⟨u,rfl,t,rfl⟩:=vals1 r;exact call_int_int ⟨.int i,H,I,⟨_,rfl⟩,q⟩
 ·obtain⟨u,rfl,a⟩:=vals1 r;cases a;exact call_int_bool ⟨.int (if k then 1 else 0),H,I.tok _,⟨_,rfl⟩,q⟩
theorem PJ:gO X (.type "str") (λxs H Q=>∃i,xs=[.int i]/\i.natAbs.log2<1920/\Q (.str (toString i)) H):=by
 intro pins s σ H xs b Q I r h;obtain⟨i,rfl,a,q⟩:=h;obtain⟨u,rfl,t,rfl⟩:=vals1 r;exact PySem.P.str_of_int a ⟨.str _,H,I.tok _,⟨_,rfl⟩,q⟩
noncomputable def PK(K:PySem.W.Frag)(x:V)(H:Hp)(n:Nat):Prop :=
 match x with
 | .str y=>y.length<=sizeLine/\n=y.length
 | .byt y=>y.size<=sizeLine/\n=y.size
 | .ref p=>(∃a,SqL K H p a/\n=a.length)\/∃a,SqT K H p a/\n=a.length
 | _=>False
theorem call_len:gO X (.builtin "len") (λxs H Q=>∃x n,xs=[x]/\PK X.K x H n/\Q (.int n) H):=by
 intro pins s σ H xs l Q I r h;obtain⟨x,n,rfl,e,q⟩:=h;obtain⟨u,rfl,b⟩:=vals1 r;have m:=nH;have hs:sizeLine=16777216:=sizeLine_eq
 cases x with
 |str y =>
  obtain⟨t,rfl⟩:=b;obtain⟨j,a⟩:y.length<=sizeLine/\n=y.length:=e;subst a;exact len_str (by omega) ⟨.int _,H,I.tok _,⟨_,rfl⟩,q⟩
 |byt y =>
  obtain⟨t,rfl⟩:=b;obtain⟨j,a⟩:y.size<=sizeLine/\n=y.size:=e;subst a;exact PySem.W.len_bytes (by omega) ⟨.int _,H,I.tok _,⟨_,rfl⟩,q⟩
 |ref p =>
  cases b;have a:(∃xs,SqL X.K H p xs/\n=xs.length)\/∃xs,SqT X.K H p xs/\n=xs.length:=e
  rcases a with⟨xs,f,a⟩ | ⟨xs,f,a⟩
  ·subst a;obtain⟨g,c,d,i⟩:=I.list f;have hlen:=c.length;exact Calls.call_len_list d.isList (by simp only[zu];omega) ⟨.int xs.length,H,I.tok _,⟨_,by simp only[zu];rw[hlen]⟩,q⟩
  ·subst a;obtain⟨g,c,d,i⟩:=I.tuple f;have hlen:=c.length;exact len_tuple d (by simp only[zu];omega) ⟨.int xs.length,H,I.tok _,⟨_,by simp only[zu];rw[hlen]⟩,q⟩
 | _=>exact(show False from e).elim
structure lK(h:Heap)(x dx C:Addr)(mA:Str->Option Value):Prop where
 obj:h.get? x=some (PySem.W.instObj C dx)
 ns:h.Ns1 dx mA
 ne:dx≠x
theorem Dn{h:Heap}   (n:h.Ns1 dx mA):∃od,h.get? dx=some od/\∀name,PySem.W.lookIn name od=some (mA name):=by
 obtain⟨o,c,j,f,hd,i,_,g⟩:=n;refine⟨o,f,λname=>?_⟩;have e:=g name;unfold nsFind findBy at e;rw[<-Array.find?_toList] at e;unfold PySem.W.lookIn;rw[hd];dsimp only
 split
 ·rename_i y q;rw[q] at e;exact congrArg some e
 ·rename_i q;rw[q] at e
  have a:c.toList.any (·.refKey)=false:=by
   rw[List.any_eq_false];intro y d;obtain⟨z,t,b⟩:=i y (Array.mem_toList_iff.mp d);simp[DictEntry.refKey,b]
  have a':¬c.toList.any (·.refKey)=true:=by rw[a];exact zq
  rw[if_neg a'];exact congrArg some e
theorem lK.look    (I:lK h x dx C mA):∃od,PySem.W.InstAt h x (PySem.W.instObj C dx) C (some od)/\∀name,PySem.W.lookIn name od=some (mA name):=
 let ⟨od,ho,hl⟩:=Dn I.ns
 ⟨od,⟨I.obj,rfl,rfl,ho⟩,hl⟩
theorem PL{K:PySem.W.Frag}   (X:K.In s.heap)(I:lK s.heap x dx C mA)(d:PySem.W.plainGet K C name=true)(c:PySem.W.hasDictIn K C=true)
  (f:PySem.W.findIn K (.ref C) name=some none) (hv:mA name=some v) (a:PySem.W.handedIn v=true) (h:Q v {s with toks:=s.toks+1}):
  wpAny (model prog w) A (getAttr (.ref x) name expr) Q E s:=by
 obtain⟨g,J,b⟩:=I.look;exact PySem.W.get_value X J (PySem.W.plainGet_of d).1 (PySem.W.findObj_own c f rfl (by rw[b,hv])) a h
theorem PN{K:PySem.W.Frag}   (X:K.In s.heap)(I:lK s.heap x dx C mA)(a:PySem.W.plainGet K C name=true)
  (g:PySem.W.findIn K (.ref C) name=some (some (.ref f))) (c:PySem.W.isFn K (.ref f)=true) (hv:mA name=none) (h:Q (.ref f,[.ref x]) s):
  wpAny (model prog w) A (getMethod (.ref x) name pl) Q E s:=by
 obtain⟨b,J,d⟩:=I.look;exact PySem.W.method_fn X J (PySem.W.plainGet_of a).1 (PySem.W.plainGet_of a).2 g (beq_iff_eq.mp c) (by show(PySem.W.lookIn name b).map (·.isSome)=some false;rw[d,hv];rfl) h
theorem PP{K:PySem.W.Frag}   (X:K.In s.heap)(I:lK s.heap x dx C mA)
  (hs:PySem.W.findIn K (.ref C) "__setattr__" = some (some (.builtin "object.__setattr__"))) (t:PySem.W.plainOver K C=true) (q:PySem.W.takerIn K C name=some none) (u:PySem.W.hasDictIn K C=true)
  (m:PySem.Within mA ns) (hsz:ns.length<=sizeLine)
  (h:∀h',lK h' x dx C (λy=>if y=name then some v else mA y)->Heap.SameBut dx s.heap h'->Q () {s with heap:=h',toks:=s.toks+2}):
  wpAny (model prog w) A (setAttr (.ref x) name v) Q E s:=by
 obtain⟨L,J,P⟩:=I.look;refine PySem.W.set_plain X J hs (PySem.W.osa_open (s:={s with toks:=s.toks+1}) (r:=none) X J t q λb=>?_);obtain⟨R,F,i⟩:=PySem.W.any_some u;have l:s.heap.get? x=some ⟨.ref C,some dx,.plain,#[]⟩:=I.obj;refine za (zb (za (za (wpAny_loadPart l (za (PySem.W.Looks.here (s:={s with toks:=s.toks+1}) (PySem.W.looks_clsIn X F) ?_))))));rw[i];refine zb (a:=some dx) (za (zb (za ?_)))
 refine wpAny_nsSet1 (s:={s with toks:=s.toks+1}) I.ns λh' d c=>?_
 obtain⟨O,G,H,f,g,j⟩:=d.count (PySem.Within.cons name v m);refine za (wpAny_lookBehind f (by rw[g];exact pastItsLine_dict (zE j (by rw[zt];omega))) ?_);exact zb (h _ ⟨(c.2 _ (Ne.symm I.ne)).trans I.obj,d,I.ne⟩ c)
theorem PQ{s:Shared}{K:PySem.W.Frag}    (X:K.In s.heap)(a:PySem.W.makesIn K C=true)
  (b:PySem.W.findIn K (.ref C) "__init__" = some (some (.ref f))) (c:PySem.W.typeIn K (.ref f)=some (.type "function"))
  (h:codeAny (model prog w) (A.under (.builtin "type.__call__" ⟨.ref C::vs,kw⟩)) (.call (.ref f) ⟨.ref (s.heap.objs.size+1)::vs,kw⟩) (PySem.W.InitBack (s.heap.objs.size+1) R)
   {s with heap:=(s.heap.push PySem.W.emptyDict).push (PySem.W.instObj C s.heap.objs.size)}):
  codeAny (model prog w) A (.call (.ref C) ⟨vs,kw⟩) R s:=by
 obtain⟨i,g,d,t,os⟩:=s;exact PySem.W.make_core (PySem.W.makes_of X a) (PySem.W.looks_findIn X b) (λself=>PySem.W.bind_fn X self c) (.inl rfl) h
noncomputable def dD(f:Str)(v:V):List (Str×V)->List (Str×V)
 | []=>[(f,v)]
 | (g,x)::r=>if g=f then(g,v)::r else(g,x)::dD f v r
theorem Do(f g:Str)(v:V):∀fs:List (Str×V),(dD f v fs).lookup g=if g=f then some v else fs.lookup g
 | []=>by
  show List.lookup g [(f,v)]=_
  by_cases h:g=f
  ·have a:(g == f)=true:=beq_iff_eq.mpr h;simp only[List.lookup,a,if_pos h]
  ·have a:(g == f)=false:=beq_eq_false_iff_ne.mpr h;simp only[List.lookup,a,if_neg h]
 | (k,x)::r=>by
  have c:=Do f g v r;rw[show dD f v ((k,x)::r)=(if k=f then(k,v)::r else(k,x)::dD f v r) from rfl]
  by_cases b:k=f
  ·rw[if_pos b]
   by_cases h:g=k
   ·have a:(g == k)=true:=beq_iff_eq.mpr h;simp only[List.lookup,a,if_pos (h.trans b)]
   ·have a:(g == k)=false:=beq_eq_false_iff_ne.mpr h;simp only[List.lookup,a,if_neg (λe:g=f=>h (e.trans b.symm))]
  ·rw[if_neg b]
   by_cases h:g=k
   ·have a:(g == k)=true:=beq_iff_eq.mpr h;simp only[List.lookup,a,if_neg (λe:g=f=>b (h.symm.trans e))]
   ·have a:(g == k)=false:=beq_eq_false_iff_ne.mpr h;simp only[List.lookup,a];exact c
theorem vX(f:Str)(v:V):∀fs:List (Str×V),f∈(dD f v fs).map (·.1)/\∀g,g∈fs.map (·.1)->g∈(dD f v fs).map (·.1)
 | []=>⟨by simp[dD],λg h=>by simp at h⟩
 | (k,x)::r=>by
  obtain⟨c,b⟩:=vX f v r;rw[show dD f v ((k,x)::r)=(if k=f then(k,v)::r else(k,x)::dD f v r) from rfl]
  by_cases a:k=f
  ·rw[if_pos a];subst a;exact⟨by simp,λg h=>by simpa using h⟩
  ·rw[if_neg a];refine⟨?_,λg h=>?_⟩
   ·rw[zd];exact zp _ c
   ·rw[zd] at h ⊢
    rcases zh.mp h with e | e
    ·exact zh.mpr (.inl e)
    ·exact zp _ (b g e)
theorem Dp(f:Str)(v:V):∀fs:List (Str×V),(dD f v fs).length<=fs.length+1
 | []=>by simp[dD]
 | (k,x)::r=>by
  have b:=Dp f v r;rw[show dD f v ((k,x)::r)=(if k=f then(k,v)::r else(k,x)::dD f v r) from rfl]
  by_cases a:k=f
  ·rw[if_pos a,zt,zt];omega
  ·rw[if_neg a,zt,zt];omega
theorem dC.some_of   (r:dC (some v) o):∃u,o=some u/\RelV v u:=by
 cases o with
 |none=>exact(show False from r).elim
 |some u=>exact⟨u,rfl,r⟩
theorem dC.none_of  (r:dC none o):o=none:=by
 cases o with
 |none=>rfl
 |some u=>exact(show False from r).elim
theorem Dq   (r:RelV v u):PySem.W.handedIn u=true:=by
 cases v with
 |non=>cases(show u=Value.none from r);rfl
 |bl b=>cases(show u=Value.bool b from r);rfl
 |int i=>obtain⟨t,e⟩:=(show ∃t,u=Value.int i t from r);cases e;rfl
 |str x=>obtain⟨t,e⟩:=(show ∃t,u=Value.str x t from r);cases e;rfl
 |byt b=>obtain⟨t,e⟩:=(show ∃t,u=Value.bytes b t from r);cases e;rfl
 |flt b=>obtain⟨t,e⟩:=(show ∃t,u=Value.float b t from r);cases e;rfl
 |ref a=>cases(show u=Value.ref a from r);rfl
 |ty n=>cases(show u=Value.type n from r);rfl
theorem sO(hok:HOk P w H h)(e:H a=some (.ins C dx fs)):∃b,lK h a dx C b/\(∀f,dC (fs.lookup f) (b f))/\PySem.Within b (fs.map (·.1))/\fs.length<=1000/\H dx=some (.own a):=by
 obtain⟨d,z,ne,ob,b,n,r,q⟩:=(show cj P w H h a (.ins C dx fs) from hok a _ e);exact⟨b,⟨ob,n,ne⟩,r,q,z,d⟩
structure Cls(K:PySem.W.Frag)(C:Addr):Prop where
 pg:PySem.W.plainGet K C Str.empty=true
 hd:PySem.W.hasDictIn K C=true
 po:PySem.W.plainOver K C=true
 sa:PySem.W.findIn K (.ref C) "__setattr__" = some (some (.builtin "object.__setattr__"))
theorem Cls.get{K:PySem.W.Frag}{C:Addr}(c:Cls K C)(f:Str):PySem.W.plainGet K C f=true:=c.pg
noncomputable def lL(K:PySem.W.Frag)(C:Addr)(f:Str):Prop:=PySem.W.findIn K (.ref C) f=some none
theorem lL.taker{K:PySem.W.Frag}   (n:lL K C f):PySem.W.takerIn K C f=some none:=by
 unfold PySem.W.takerIn;rw[show PySem.W.findIn K (.ref C) f=some none from n];rfl
structure Con(K:PySem.W.Frag)(C:Addr)(f:Str)(v:V)(u:Value):Prop where
 at_:PySem.W.findIn K (.ref C) f=some (some u)
 rel:RelV v u
 get:PySem.W.specialIn K u "__get__" = some none
 cp:PySem.W.copiedNames.contains f=false
structure nJ(K:PySem.W.Frag)(C:Addr)(m:Str)(f:Addr):Prop where
 at_:PySem.W.findIn K (.ref C) m=some (some (.ref f))
 fn:PySem.W.isFn K (.ref f)=true
 kp:PySem.W.keepIn K (.ref f)=true
theorem PX{σ:St}   (I:Inv X pins σ H s)(e:H a=some (.ins C dx fs))(c:Cls X.K C)(n:lL X.K C f)(l:fs.lookup f=some v)
  (h:∀u s',Inv X pins σ H s'->RelV v u->Q u s'):wpAny (model X.prog X.w) A (getAttr (.ref a) f b) Q E s:=by
 obtain⟨g,O,r,_,_,_⟩:=sO I.hok e;obtain⟨u,i,d⟩:=dC.some_of (v:=v) (o:=g f) (by rw[<-l];exact r f);exact PL I.kIn O (c.get f) c.hd n i (Dq d) (h u _ (I.tok _) d)
theorem Dr{σ:St}     (I:Inv X pins σ H s)(e:H a=some (.ins C dx fs))(c:Cls X.K C)(k:nJ X.K C m g)(l:fs.lookup m=none)
  (h:Q (.ref g,[.ref a]) s):wpAny (model X.prog X.w) A (getMethod (.ref a) m pl) Q E s:=by
 obtain⟨b,O,r,_,_,_⟩:=sO I.hok e;have d:b m=none:=dC.none_of (by rw[<-l];exact r m);exact PN I.kIn O (c.get m) k.at_ k.fn d h
theorem P0{σ:St}    (I:Inv X pins σ H s)(e:H a=some (.ins C dx fs))(c:Cls X.K C)(n:lL X.K C f)(P:fs.length<1000)(t:RelV y u)
  (h:∀s',Inv X pins σ (upd H a (.ins C dx (dD f y fs))) s'->Q () s'):wpAny (model X.prog X.w) A (setAttr (.ref a) f u) Q E s:=by
 obtain⟨j,O,r,i,_,l⟩:=sO I.hok e
 have F:(fs.map (·.1)).length<=sizeLine:=by rw[zx,sizeLine_eq];omega
 refine PP I.kIn O c.sa c.po n.taker c.hd i F λL d m=>h _ ?_
 have hd:∃o,L.get? dx=some o:=let ⟨o,_,_,e',_⟩:=d.ns;⟨o,e'⟩;refine I.write (x:=a) (e:=dx) (by rw[e];exact True.intro) (.inr l) (λb q J z=>(m.2 b J).trans z) hd ?_;refine⟨by rw[aH O.ne];exact l,?_,O.ne,d.obj,_,d.ns,λg=>?_,λg G=>?_⟩
 ·have:=Dp f y fs;omega
 ·show dC ((dD f y fs).lookup g) (if g=f then some u else j g);rw[Do]
  by_cases q:g=f
  ·rw[if_pos q,if_pos q];exact t
  ·rw[if_neg q,if_neg q];exact r g
 ·by_cases q:g=f
  ·rw[q];exact(vX f y fs).1
  ·refine(vX f y fs).2 g (i g λz=>G ?_);show(if g=f then some u else j g)=none;rw[if_neg q];exact z
theorem Inv.made{σ:St}(I:Inv X pins σ H s):Inv X pins σ (upd (upd H s.heap.objs.size (.own (s.heap.objs.size+1))) (s.heap.objs.size+1) (.ins C s.heap.objs.size []))
  {s with heap:=(s.heap.push PySem.W.emptyDict).push (PySem.W.instObj C s.heap.objs.size)}:=by
 have c:(s.heap.push PySem.W.emptyDict).get? s.heap.objs.size=some PySem.W.emptyDict:=zO s.heap rfl
 have h:((s.heap.push PySem.W.emptyDict).push (PySem.W.instObj C s.heap.objs.size)).get? (s.heap.objs.size+1)=some (PySem.W.instObj C s.heap.objs.size):=by
  have:=zO (s.heap.push PySem.W.emptyDict) (o:=PySem.W.instObj C s.heap.objs.size) rfl
  rwa [Heap.size_push] at this
 have g:(s.heap.push PySem.W.emptyDict).Ns s.heap.objs.size (λ_=>none):=⟨PySem.W.emptyDict,#[],_,c,rfl,(λe f=>absurd f (by simp)),λ_=>rfl⟩;have i:=I.laid (a:=s.heap.objs.size) (o:=.own (s.heap.objs.size+1)) (h':=s.heap.push PySem.W.emptyDict) (t':=s.toks) (λb u q=>zl _ q) (zc _) ⟨_,c⟩;refine i.laid (a:=s.heap.objs.size+1) (o:=.ins C s.heap.objs.size []) (t':=s.toks) (λb u q=>zl _ q) (Nat.le_of_eq (Heap.size_push _ _)) ?_;have ne:s.heap.objs.size≠s.heap.objs.size+1:=zz (jg _);refine⟨by rw[aH ne,bu],Nat.zero_le _,ne,h,λ_=>none,(Heap.Ns1.of_empty g).at λo q=>zl _ q,λ_=>True.intro,λy d=>absurd rfl d⟩
theorem Ds         (hb:attributeBase e f env (eval e env)=eval e env)
  (h:wpAny (model prog w) A (eval e env) (λo a=>wpAny (model prog w) A (getAttr o f true) Q E a) E s):wpAny (model prog w) A (eval (.Attribute e f pos) env) Q E s :=
 Attribute_any_ h (by rw[arm_eval_Attribute,hb])
noncomputable def Qa(K:PySem.W.Frag)(c:TE)(f:Str):TE:=λσ H Q=>c σ H λx b=>∃a C d fs v,x=.ref a/\b a=some (.ins C d fs)/\Cls K C/\lL K C f/\fs.lookup f=some v/\Q v b
noncomputable def Qc(K:PySem.W.Frag)(g d:TE)(f:Str):TS:=λD σ H=>d σ H λy h=>g σ h λx c=>∃a C b fs,x=.ref a/\c a=some (.ins C b fs)/\Cls K C/\lL K C f/\fs.length<1000 /\
 D.nx σ (upd c a (.ins C b (dD f y fs)))
theorem Qd(d:PE X e ta)(hb:attributeBase e f X.env (eval e X.env)=eval e X.env):PE X (.Attribute e f pos) (Qa X.K ta f):=by
 intro pins s σ H Q I h;refine Ds hb (thn (d pins s σ H _ I h) λu s1 ⟨x,H1,I1,rx,a,C,dx,fs,v,ex,ea,c,n,l,q⟩=>?_);subst ex;obtain rfl:u=Value.ref a:=rx
 exact PX I1 ea c n l λi j g b=>⟨v,H1,g,b,q⟩
theorem Qe(b:PE X o ta)(hv:PE X value tv)(hs:swapsWith value (some (.Attribute o f pos')) pos.line X.env=pure false):PS X (.Assign [.Attribute o f pos'] value pos) (Qc X.K ta tv f):=by
 intro pins s σ H D I h;refine plainObj_wpAny_Assign_Attribute (thn (hv pins s σ H _ I h) λu s1 ⟨y,H1,I1,ry,q⟩=>thn (b pins s1 σ H1 _ I1 q) λov s2 ⟨x,H2,I2,rx,a,C,dx,fs,ex,ea,c,n,l,q2⟩=>?_) hs;subst ex;obtain rfl:ov=Value.ref a:=rx
 exact P0 I2 ea c n l ry λg d=>⟨σ,_,d,q2⟩
inductive gP (K:PySem.W.Frag) (H:Hp):V->Value->Prop where
 | non:gP K H .non (.type "NoneType")
 | bl (x:Bool):gP K H (.bl x) (.type "bool")
 | int (i:Int):gP K H (.int i) (.type "int")
 | str (x:Str):gP K H (.str x) (.type "str")
 | flt (x:UInt64):gP K H (.flt x) (.type "float")
 | lst {a:Addr}{xs:List V} (e:H a=some (.lst xs)):gP K H (.ref a) (.type "list")
 | frz {a:Addr}{o:Obj}{xs:List V} (e:H a=some (.frz o (.lst xs))):gP K H (.ref a) (.type "list")
 | tup {a:Addr}{xs:List V} (e:H a=some (.tup xs)):gP K H (.ref a) (.type "tuple")
 | dK {a:Addr}{kvs:List (Key×V)} (e:H a=some (.dK kvs)):gP K H (.ref a) (.type "dict")
 | dT {a:Addr}{kvs:List (List Key×V)} (e:H a=some (.dT kvs)):gP K H (.ref a) (.type "dict")
 | ins {a C dx:Addr}{fs:List (Str×V)} (e:H a=some (.ins C dx fs)) (cl:Cls K C) (ha:PySem.W.findIn K (.ref C) "__class__" = some (some (.builtin "object.__class__")))
   (hn:PySem.W.specialIn K (.builtin "object.__class__") "__get__" = some (some (.builtin "getset_descriptor.__get__"))) (htk:PySem.W.takesIn K (.builtin "object.__class__")=some true)
   (hm:PySem.W.mroIn K C (.type "object")=some true):gP K H (.ref a) (.ref C)
theorem qm{σ:St}   (I:Inv X pins σ H s)(d:RelV x u)(ty:gP X.K H x t)(e:PySem.W.kitOne X.K t c=some b)(h:∀tk,Q (.bool b) {s with toks:=tk}):
  wpAny (model X.prog X.w) A (call (.builtin "isinstance") [u,c]) Q E s:=by
 cases ty with
 |non=>cases(show u=Value.none from d);exact PySem.W.kia_one PySem.W.kitx_none I.kIn True.intro e (λz=>nomatch z) h
 |bl y=>cases(show u=Value.bool y from d);exact PySem.W.kia_one PySem.W.kitx_bool I.kIn True.intro e (λz=>nomatch z) h
 |int i=>obtain⟨t,q⟩:=(show ∃t,u=Value.int i t from d);cases q;exact PySem.W.kia_one PySem.W.kitx_int I.kIn True.intro e (λz=>nomatch z) h
 |str y=>obtain⟨t,q⟩:=(show ∃t,u=Value.str y t from d);cases q;exact PySem.W.kia_one PySem.W.kitx_str I.kIn True.intro e (λz=>nomatch z) h
 |flt y=>obtain⟨t,q⟩:=(show ∃t,u=Value.float y t from d);cases q;exact PySem.W.kia_one PySem.W.kitx_float I.kIn True.intro e (λz=>nomatch z) h
 | @lst a f ea =>
  cases(show u=Value.ref a from d);obtain⟨_,_,n,_,h1⟩:=(show cj X.prog X.w H s.heap a (.lst f) from I.hok a _ ea);exact PySem.W.kia_one PySem.W.kitx_list I.kIn ⟨_,h1,rfl⟩ e (λz=>nomatch z) h
 | @frz a ob f ea =>
  cases(show u=Value.ref a from d);obtain⟨_,_,_,n,_,h1⟩:=(show cj X.prog X.w H s.heap a (.frz ob (.lst f)) from I.hok a _ ea);exact PySem.W.kia_one PySem.W.kitx_list I.kIn ⟨_,h1,rfl⟩ e (λz=>nomatch z) h
 | @tup a f ea =>
  cases(show u=Value.ref a from d);obtain⟨_,_,_,p⟩:=(show cj X.prog X.w H s.heap a (.tup f) from I.hok a _ ea);obtain⟨o,h1,h2,_⟩:=p;exact PySem.W.kia_one PySem.W.kitx_tuple I.kIn ⟨o,h1,h2⟩ e (λz=>nomatch z) h
 | @dK a kvs ea =>
  cases(show u=Value.ref a from d);obtain⟨_,_,l,_,p⟩:=(show cj X.prog X.w H s.heap a (.dK kvs) from I.hok a _ ea);obtain⟨o,g,j,h1,h2,_⟩:=p;exact PySem.W.kia_one PySem.W.kitx_dict I.kIn ⟨o,h1,h2.1⟩ e (λz=>nomatch z) h
 | @dT a kvs ea =>
  cases(show u=Value.ref a from d);obtain⟨_,_,f,_,o,g,j,h1,h2,_⟩:=(show cj X.prog X.w H s.heap a (.dT kvs) from I.hok a _ ea);exact PySem.W.kia_one PySem.W.kitx_dict I.kIn ⟨o,h1,h2.1⟩ e (λz=>nomatch z) h
 | @ins a C dx fs ea cl ha hn htk hm =>
  cases(show u=Value.ref a from d);obtain⟨r,O,_⟩:=sO I.hok ea;obtain⟨m,J,_⟩:=O.look;exact PySem.W.kia_one (PySem.W.kitx_own (cl.get _) cl.hd ha hn htk hm) I.kIn J e (λz=>nomatch z) h
structure aP(k:Nat)(A:Around):Prop where
 hd:A.handled=none
 dp:A.depth+3 * k+5<recursionLimit
 un:A.units+16 * k+200<cLine
theorem aP.mono   (r:aP k A)(h:j<=k):aP j A:=⟨r.hd,by have:=r.dp;omega,by have:=r.un;omega⟩
theorem aP.deeper   (r:aP (k+1) A)(env:Env):aP k (A.deeper env):=
 ⟨r.hd,by have:=r.dp;show A.depth+1+3 * k+5<_;omega,by have:=r.un;show A.units+3+16 * k+200<_;omega⟩
theorem Qf{A:Around}   :(A.under (.builtin "type.__call__" ⟨.ref C::us,kw⟩)).depth=A.depth+1:=by
 first | rfl | simp[Around.under,Code.weight,Code.isCreation,Code.isGuard,Code.isCaller,Code.frames,Code.isFrame,guardIds]
theorem Qg{A:Around}   :(A.under (.builtin "type.__call__" ⟨.ref C::us,kw⟩)).units=A.units+1:=by
 first | rfl | simp[Around.under,Code.cUnits,Code.frames,Code.isFrame]
theorem aP.make   (r:aP (k+1) A)(C:Addr)(us:List Value)(a:List (Str×Value)):aP k (A.under (.builtin "type.__call__" ⟨.ref C::us,a⟩)):=
 ⟨r.hd,by have:=r.dp;rw[Qf];omega,by have:=r.un;rw[Qg];omega⟩
theorem aP.depth   (r:aP k A):A.depth<recursionLimit:=by have:=r.dp;omega
theorem aP.units   (r:aP k A):A.units+64<cLine:=by have:=r.un;omega
theorem aP.units0   (r:aP k A):A.units<cLine:=by have:=r.un;omega
noncomputable def qp:TA:=λ_ H Q=>Q [] H
noncomputable def Qh(c:TE)(b:TA):TA:=λσ H Q=>c σ H λx f=>b σ f λa d=>Q (x::a) d
theorem fM:PA X [] qp:=λ_ _ _ _ H Q I h=>Calls.spliced_nil ⟨[],H,I,.nil,h⟩
theorem dZ(c:PE X e te)(b:PA X es t)(hs:starEach (e::es) X.env=(false,eval e X.env)::starEach es X.env:=by rfl):PA X (e::es) (Qh te t):=by
 intro a pins s σ H Q I h;rw[hs];show wpAny _ _ (spliced ((false,eval e X.env)::backTo a (starEach es X.env))) _ _ s;refine Calls.spliced_cons (thn (c pins s σ H _ I h) λu s1 ⟨x,H1,I1,r1,q1⟩=>?_)
 exact thn (b a pins s1 σ H1 _ I1 q1) λus s2 ⟨xs,H2,I2,r2,q2⟩=>⟨x::xs,H2,I2,.cons r1 r2,q2⟩
noncomputable def Qi(t:TA):TE:=λσ H Q=>t σ H λa b=>a.length<=sizeLine/\∀p,b p=none->Q (.ref p) (upd b p (.tup a))
noncomputable def Qj(t:TA):TE:=λσ H Q=>t σ H λa b=>a.length<=sizeLine/\∀p,b p=none->Q (.ref p) (upd b p (.lst a))
theorem Dt  (h:PA X es t):PE X (.Tuple es x1 pos) (Qi t):=by
 intro pins s σ H Q I a;refine wpAny_Tuple_spliced (thn (h pos pins s σ H _ I a) λus s1 ⟨xs,H1,I1,r,z,q⟩=>⟨by rw[<-r.length];exact z,?_⟩);have c:H1 s1.heap.objs.size=none:=I1.hok.fresh (zc _);refine⟨.ref s1.heap.objs.size,upd H1 s1.heap.objs.size (.tup xs),I1.laid (t':=s1.toks) (λb u e=>zl _ e) (zc _) ?_,rfl,q _ c⟩;exact⟨z,us,r,⟨_,zO _ rfl,rfl,_,rfl⟩⟩
theorem Qk(h:PA X es t):PE X (.List es pos) (Qj t):=by
 intro pins s σ H Q I a;refine wpAny_List_spliced (thn (h pos pins s σ H _ I a) λus s1 ⟨xs,H1,I1,r,z,q⟩=>⟨by rw[<-r.length];exact z,?_⟩);have c:H1 s1.heap.objs.size=none:=I1.hok.fresh (zc _);refine⟨.ref s1.heap.objs.size,upd H1 s1.heap.objs.size (.lst xs),I1.laid (t':=s1.toks) (λb u e=>zl _ e) (zc _) ?_,rfl,q _ c⟩;exact⟨z,us,0,r,zO _ rfl⟩
abbrev Sp:=List V->Hp->VK->XK->Prop
abbrev CXT:=List Env->Hp->Shared->XK->Value->Shared->Prop
structure iQ(P:Program)(w:World)(K:PySem.W.Frag)(mg:Str->Option Value)(base:Heap)(A:Around)(outer:List Env)(s:Shared)(H:Hp):Prop where
 frames:A.frames=some outer
 mod:Mod K mg base
 bs:∀b o,base.get? b=some o->s.heap.get? b=some o/\H b=none
 bsz:base.objs.size<=s.heap.objs.size
 funs:s.heap.FunFrames base outer
 frf:∀b∈frs outer,H b=none
 hok:HOk P w H s.heap
 bare:AllBare s.gens
noncomputable def CE(outer:List Env)(P:Program)(w:World)(H:Hp)(s:Shared)(Q:VK)(u:Value)(s':Shared):Prop :=
 ∃v a,s'.os=s.os/\AllBare s'.gens/\Un (frs outer) [] H a s.heap s'.heap/\HOk P w a s'.heap/\RelV v u/\Q v a
noncomputable def CR(CX:CXT)(outer:List Env)(P:Program)(w:World)(H:Hp)(s:Shared)(Q:VK)(E:XK)(r:Result)(s':Shared):Prop :=
 match r with
 | .ok (.ret u)=>CE outer P w H s Q u s'
 | .ok _=>False
 | .error e=>CX outer H s E e s'
structure cH(P:Program)(w:World)(K:PySem.W.Frag)(mg:Str->Option Value)(base:Heap)(CX:CXT)(k:Nat)(f:Addr)(fd:FuncData)(ps:List Str)(sp:Sp):Prop where
 len:∀vs H Q E,sp vs H Q E->vs.length=ps.length
 run:∀(A:Around) (outer:List Env) (s:Shared) (H:Hp) (args:Args) (us:List Value) (vs:List V) (Q:VK) (E:XK),aP k A->iQ P w K mg base A outer s H->BindsTo s fd args (ps.zip us)->aL vs us->sp vs H Q E ->
  codeAny (model P w) A (.call (.ref f) args) (CR CX outer P w H s Q E) s
theorem cH.imp   {K:PySem.W.Frag}         (F:cH P w K mg base CX k f fd ps sp)
  (h:∀vs H Q E,sp' vs H Q E->sp vs H Q E):cH P w K mg base CX k f fd ps sp' :=
 ⟨λvs H Q E q=>F.len vs H Q E (h _ _ _ _ q),λA outer s H args a vs Q E c d g b hs=>F.run A outer s H args a vs Q E c d g b (h _ _ _ _ hs)⟩
theorem iQ.make   {K:PySem.W.Frag}       (e:iQ P w K mg base A outer s H)(C:Addr)(us:List Value)(a:List (Str×Value)):
  iQ P w K mg base (A.under (.builtin "type.__call__" ⟨.ref C::us,a⟩)) outer s H:=⟨by first | exact e.frames | (simpa [Around.under,Code.envs,Code.isFrame,pushEnvs] using e.frames),e.mod,e.bs,e.bsz,e.funs,e.frf,e.hok,e.bare⟩
theorem Inv.env0{σ:St}(I:Inv X pins σ H s):iQ X.prog X.w X.K X.mg X.base X.A X.stack s H :=
 ⟨I.ok.frames,I.ok.mod,I.bs,zE I.ok.bsz I.sz,I.stack,I.stkFree,I.hok,I.bare⟩
theorem Inv.after{σ:St}   (I:Inv X pins σ H s)(h:CE X.stack X.prog X.w H s Q u s'):EP X pins σ Q u s':=by
 obtain⟨v,f,os,bare,un,hok,r,q⟩:=h;obtain⟨c,g,d,t,a⟩:=s';obtain rfl:a=s.os:=os;exact⟨v,f,I.call (h':=c) (g':=g) (d':=d) (t':=t) (ch:=[]) un hok bare (λb z=>absurd z (by simp)),r,q⟩
noncomputable def nM(sp:Sp)(dvs:List V)(E:XK)(t:TA):TE:=λσ H Q=>t σ H λa b=>sp (a++dvs) b Q E
noncomputable def sS(C:Addr)(m:Str)(sp:Sp)(dvs:List V)(E:XK)(d:TE)(t:TA):TE:=λσ H Q=>d σ H λx b=>∃a f fs,x=.ref a/\b a=some (.ins C f fs)/\fs.lookup m=none /\
 t σ b λc g=>sp (x::(c++dvs)) g Q E
noncomputable def Du(C:Addr)(sp:Sp)(dvs:List V)(E:XK)(t:TA):TE:=λσ H Q=>t σ H λc b=>∀x a,b x=none->b a=none->a≠x ->
 sp (.ref x::(c++dvs)) (upd (upd b a (.own x)) x (.ins C a [])) (λv d=>v=.non/\Q (.ref x) d) E
noncomputable def Binds(K:PySem.W.Frag)(fd:FuncData)(b:List Str)(ds:List Value):Prop :=
 ∀(s:Shared) (a:List Value),K.In s.heap->(a++ds).length=b.length->BindsTo s fd ⟨a,[]⟩ (b.zip (a++ds))
theorem Binds.all{K:PySem.W.Frag}   (h:∀us:List Value,us.length=ps.length->bindArgs fd ⟨us,[]⟩=pure (ps.zip us)):Binds K fd ps []:=λs us _ a=>by
 rw[zI] at a ⊢;exact .of_eq (h us a)
noncomputable def jB(CX:CXT)(X:Cx)(E:XK):Prop:=∀(pins:List (Addr×Obj)) (σ:St) (H:Hp) (s:Shared) (e:Value) (a:Shared),Inv X pins σ H s->CX X.stack H s E e a->X.xe e a
theorem sU  {σ:St}      (F:cH X.prog X.w X.K X.mg X.base CX k f fd ps sp)(g:aP k X.A)(hb:Binds X.K fd ps ds)(hd:aL dvs ds)(d:jB CX X E)
  (I:Inv X pins σ H s) (r:aL vs us) (h:sp (vs++dvs) H Q E):wpAny (model X.prog X.w) X.A (call (.ref f) us) (EP X pins σ Q) X.xe s:=by
 have b:aL (vs++dvs) (us++ds):=r.append hd
 have i:(us++ds).length=ps.length:=by rw[<-b.length];exact F.len _ _ _ _ h
 refine zX (codeAny_mono (F.run X.A X.stack s H ⟨us,[]⟩ (us++ds) (vs++dvs) Q E g I.env0 (hb s us I.kIn i) b h) λr c a=>?_)
 cases r with
 |error e=>exact d pins σ H s e c I a
 |ok fl =>
  cases fl with
  |ret u=>exact I.after a
  |next=>exact False.elim a
  |brk=>exact False.elim a
  |cont=>exact False.elim a
theorem Dv{p a:Pos}(F:cH X.prog X.w X.K X.mg X.base CX k f fd ps sp)(g:aP k X.A)(l:Gl X x)(i:X.mg x=some (.ref f))(j:PySem.W.keepIn X.K (.ref f)=true)(hb:Binds X.K fd ps ds)(hd:aL dvs ds)(d:jB CX X E)
  (u:PA X (e::es) t) (c:(x == ("__debug__":Str))=false:=by decide) (m:starEach (e::es) X.env=(false,eval e X.env)::starEach es X.env:=by rfl) (b:(backTo a (starEach es X.env)).any (·.1)=false:=by rfl):
  PE X (.Call (.Name x p) (e::es) [] a) (nM sp dvs E t):=by
 intro pins s σ H Q I h;refine wpAny_Call_Name_kw (j6 I l i ?_ c);refine PySem.W.callWith_K (h₀:=X.base) I.ok.mod.kin j (thn (u a pins s σ H _ I h) λus s1 ⟨vs,H1,I1,r,q⟩=>⟨I1.kIn,?_⟩) m b;exact sU F g hb hd d I1 r q
theorem Ql(F:cH X.prog X.w X.K X.mg X.base CX k f fd ps sp)(c:aP k X.A)(i:Gl X x)(d:X.mg x=some (.ref f))(g:PySem.W.keepIn X.K (.ref f)=true)(hb:Binds X.K fd ps ds)(hd:aL dvs ds)(b:jB CX X E)
  (a:(x == ("__debug__":Str))=false:=by decide):PE X (.Call (.Name x p) [] [] pos) (nM sp dvs E qp):=by
 intro pins s σ H Q I h;refine wpAny_Call_Name_kw (j6 I i d ?_ a);exact PySem.W.callWith_K0 I.kIn g (sU (us:=[]) F c hb hd b I .nil h)
theorem Dw{b apos:Pos}{pl:Sem Bool}(J:PE X o ta)(c:Cls X.K C)(i:nJ X.K C m f)(F:cH X.prog X.w X.K X.mg X.base CX k f fd ps sp)(G:aP k X.A)(hb:Binds X.K fd ps ds)(hd:aL dvs ds)(j:jB CX X E)(L:PA X (e::es) t)
  (d:starEach (e::es) X.env=(false,eval e X.env)::starEach es X.env:=by rfl) (g:(backTo b (starEach es X.env)).any (·.1)=false:=by rfl)
  (y:eval (.Call (.Attribute o m apos) (e::es) [] b) X.env=(do
   let ov <-eval o X.env
   standAt apos.atName
   let (f,first) <-holding [ov] (getMethod ov m pl)
   callWith b f first (backTo b (starEach (e::es) X.env)) (backToKw b (keywordEach [] X.env))):=by rfl):
  PE X (.Call (.Attribute o m apos) (e::es) [] b) (sS C m sp dvs E ta t):=by
 intro pins s σ H Q I h;refine PySem.W.methodCall_KW (pl:=pl) (thn (J pins s σ H _ I h) λu s1 ⟨x,H1,I1,rx,a,dx,fs,ex,ea,l,q⟩=>?_) y;subst ex;obtain rfl:u=Value.ref a:=rx;refine Dr I1 ea c i l ?_;refine PySem.W.callWith_K (first:=[.ref a]) (h₀:=X.base) I.ok.mod.kin i.kp (thn (L b pins s1 σ H1 _ I1 q) λus s2 ⟨vs,H2,I2,r,q2⟩=>⟨I2.kIn,?_⟩) d g;exact sU (us:=.ref a::us) (vs:=.ref a::vs) F G hb hd j I2 (.cons rfl r) q2
theorem Qm  (j:PE X o ta)(c:Cls X.K C)(b:nJ X.K C m f)(F:cH X.prog X.w X.K X.mg X.base CX k f fd ps sp)(i:aP k X.A)(hb:Binds X.K fd ps ds)(hd:aL dvs ds)(d:jB CX X E)
  (g:eval (.Call (.Attribute o m apos) [] [] pos) X.env=(do
   let ov <-eval o X.env
   standAt apos.atName
   let (f,first) <-holding [ov] (getMethod ov m pl)
   callWith pos f first (backTo pos (starEach [] X.env)) (backToKw pos (keywordEach [] X.env))):=by rfl):
  PE X (.Call (.Attribute o m apos) [] [] pos) (sS C m sp dvs E ta qp):=by
 intro pins s σ H Q I h;refine PySem.W.methodCall_KW (pl:=pl) (thn (j pins s σ H _ I h) λu s1 ⟨x,H1,I1,rx,a,dx,fs,ex,ea,l,q⟩=>?_) g;subst ex;obtain rfl:u=Value.ref a:=rx;refine Dr I1 ea c b l ?_;exact PySem.W.callWith_K0 (first:=[.ref a]) I1.kIn b.kp (sU (us:=[.ref a]) (vs:=[.ref a]) F i hb hd d I1 (.cons rfl .nil) q)
structure Mk(K:PySem.W.Frag)(C f:Addr):Prop where
 makes:PySem.W.makesIn K C=true
 init:PySem.W.findIn K (.ref C) "__init__" = some (some (.ref f))
 fn:PySem.W.isFn K (.ref f)=true
 kp:PySem.W.keepIn K (.ref C)=true
theorem Qn  {σ:St}      (M:Mk X.K C f)(F:cH X.prog X.w X.K X.mg X.base CX k f fd ps sp)(q:aP (k+1) X.A)(hb:Binds X.K fd ps ds)(hd:aL dvs ds)
  (m:jB CX X E) (I:Inv X pins σ H s) (r:aL vs us)
  (h:∀x b,H x=none->H b=none->b≠x->sp (.ref x::(vs++dvs)) (upd (upd H b (.own x)) x (.ins C b [])) (λv J=>v=.non/\Q (.ref x) J) E):
  wpAny (model X.prog X.w) X.A (call (.ref C) us) (EP X pins σ Q) X.xe s:=by
 have g:=h (s.heap.objs.size+1) s.heap.objs.size (I.hok.fresh (Nat.le_succ _)) (I.hok.fresh (zc _)) (zz (jg _));have c:=Inv.made (C:=C) I;have d:aL (V.ref (s.heap.objs.size+1)::(vs++dvs)) (Value.ref (s.heap.objs.size+1)::(us++ds)):=.cons rfl (r.append hd)
 have t:(Value.ref (s.heap.objs.size+1)::us++ds).length=ps.length:=by
  have e:=d.length;rw[F.len _ _ _ _ g] at e;exact e.symm
 refine zX (PQ (f:=f) I.kIn M.makes M.init (beq_iff_eq.mp M.fn) (codeAny_mono (F.run _ X.stack _ _ ⟨Value.ref (s.heap.objs.size+1)::us,[]⟩ (Value.ref (s.heap.objs.size+1)::(us++ds)) _ _ E (q.make C us [])
  (c.env0.make C us []) (hb _ (Value.ref (s.heap.objs.size+1)::us) c.kIn t) d g) λr i a=>?_))
 cases r with
 |error e=>exact m pins σ _ _ e i c a
 |ok fl =>
  cases fl with
  |ret u =>
   obtain⟨v,L,G,j,y,l⟩:=c.after a;subst y;exact⟨j,⟨V.ref (s.heap.objs.size+1),L,G,rfl,l⟩⟩
  |next=>exact False.elim a
  |brk=>exact False.elim a
  |cont=>exact False.elim a
theorem Qo(M:Mk X.K C f)(F:cH X.prog X.w X.K X.mg X.base CX k f fd ps sp)(c:aP (k+1) X.A)(g:Gl X x)(d:X.mg x=some (.ref C))(hb:Binds X.K fd ps ds)(hd:aL dvs ds)(b:jB CX X E)
  (a:(x == ("__debug__":Str))=false:=by decide):PE X (.Call (.Name x p) [] [] pos) (Du C sp dvs E qp):=by
 intro pins s σ H Q I h;refine wpAny_Call_Name_kw (j6 I g d ?_ a);exact PySem.W.callWith_K0 I.kIn M.kp (Qn (us:=[]) M F c hb hd b I .nil h)
structure QAP(K:PySem.W.Frag)(fd:FuncData)(ps ks:List Str)(g:List Value->List Value->List Value)(gV:List V->List V->List V):Prop where
 to:∀(s:Shared) (us ws:List Value),K.In s.heap->(g us ws).length=ps.length->BindsTo s fd ⟨us,ks.zip ws⟩ (ps.zip (g us ws))
 rel:∀{vs:List V}{us:List Value}{zs:List V}{ws:List Value},aL vs us->aL zs ws->aL (gV vs zs) (g us ws)
structure bc(N P:List Str)(sc:Scope):Prop where
 kind:sc.kind=.function
 co:sc.isCoroutine=false
 gen:sc.isGenerator=false
 nd:N.Nodup
 pre:N.take P.length=P
 par:∀x∈P,sc.names.lookup x=some .local\/sc.names.lookup x=some .cell
 nofree:∀y∈sc.names,y.2≠.free
theorem Dy{kindOf:Str->Option NameKind} :∀{binds:List (Str×Value)}{m:Str->Option Value},(∀v,(x,v)∉binds)->bindL kindOf binds m x=m x
 | [],_,_=>rfl
 | (n,v)::r,m,h=>by
  unfold bindL;rw[Dy λw a=>h w (zp _ a)]
  split
  ·have:x≠n:=by rintro rfl;exact h v zj
   simp[this]
  ·rfl
theorem Dz{kindOf:Str->Option NameKind} :∀{binds:List (Str×Value)}{m:Str->Option Value},(∀v,(x,v)∉binds)->bindC kindOf binds m x=m x
 | [],_,_=>rfl
 | (n,v)::r,m,h=>by
  unfold bindC;rw[Dz λw a=>h w (zp _ a)]
  split
  ·rfl
  ·have:x≠n:=by rintro rfl;exact h v zj
   simp[this]
theorem DG{kindOf:Str->Option NameKind}{x:Str}{v:Value}:∀{P:List Str}{vs:List Value}{i:Nat}{m:Str->Option Value},P.Nodup->P[i]?=some x->vs[i]?=some v->kindOf x=some .local ->
  bindL kindOf (P.zip vs) m x=some v
 | [],_,_,_,_,h,_,_=>by simp at h
 | _::_,[],_,_,_,_,h,_=>by simp at h
 |p::P,w::vs,0,m,nd,h1,h2,hk=>by
  simp at h1 h2;subst h1;subst h2
  show bindL kindOf ((p,w)::P.zip vs) m p=_;unfold bindL;rw[Dy λv a=>(List.nodup_cons.mp nd).1 (List.of_mem_zip a).1,if_pos hk];simp
 |p::P,w::vs,i+1,m,nd,h1,h2,hk=>by
  show bindL kindOf ((p,w)::P.zip vs) m x=_;unfold bindL;exact DG (i:=i) (List.nodup_cons.mp nd).2 (by simpa using h1) (by simpa using h2) hk
theorem DN{kindOf:Str->Option NameKind}{x:Str}{v:Value}:∀{P:List Str}{vs:List Value}{i:Nat}{m:Str->Option Value},P.Nodup->P[i]?=some x->vs[i]?=some v->kindOf x≠some .local ->
  bindC kindOf (P.zip vs) m x=some v
 | [],_,_,_,_,h,_,_=>by simp at h
 | _::_,[],_,_,_,_,h,_=>by simp at h
 |p::P,w::vs,0,m,nd,h1,h2,hk=>by
  simp at h1 h2;subst h1;subst h2
  show bindC kindOf ((p,w)::P.zip vs) m p=_;unfold bindC;rw[Dz λv a=>(List.nodup_cons.mp nd).1 (List.of_mem_zip a).1,if_neg hk];simp
 |p::P,w::vs,i+1,m,nd,h1,h2,hk=>by
  show bindC kindOf ((p,w)::P.zip vs) m x=_;unfold bindC;exact DN (i:=i) (List.nodup_cons.mp nd).2 (by simpa using h1) (by simpa using h2) hk
noncomputable def start(N:List Str)(vs:List V):St:=vs.map some++List.replicate (N.length - vs.length) none
noncomputable def cY(CX:CXT)(P:Program)(w:World)(K:PySem.W.Frag)(mg:Str->Option Value)(base:Heap)(N:List Str)(qual:Str)(scope:Scope)(f:Addr)(cd:Value)(A:Around)(outer:List Env)(s:Shared)(H:Hp)(E:XK):Cx where
 prog:=P
 w:=w
 K:=K
 mg:=mg
 base:=base
 A:=A.deeper (envOfC qual scope s.heap.objs.size f cd)
 N:=N
 s₀:=s
 H₀:=H
 env:=envOfC qual scope s.heap.objs.size f cd
 outer:=outer
 stack:=envOfC qual scope s.heap.objs.size f cd::outer
 ex:=[]
 calm:=true
 fn:=λ_=>true
 pn:=[]
 xe:=λe s'=>wpAny (model P w) (A.deeper (envOfC qual scope s.heap.objs.size f cd)) (leaving (envOfC qual scope s.heap.objs.size f cd) e) (λ_ s''=>CX outer H s E e s'') (λe' s''=>CX outer H s E e' s'') s'
theorem DP{a:Scope}   (h:a.names.lookup x=some .cell):∃c,(cellsFrom n a.names []).lookup x=some c:=by
 have q:=PySem.W.cellsFrom_some a.names n [] (.inl h);exact Option.isSome_iff_exists.mp q
theorem Qp    {K:PySem.W.Frag}
  (S:bc N ps scope) (hd:A.handled=none) (d:iQ P w K mg base A outer s H) (L:vs.length=ps.length) (r:aL vs us)
  (x:InCallC s s.heap.objs.size (bindL (envOfC qual scope s.heap.objs.size f cd).kindOf (ps.zip us) λ_=>none) (cellsFrom (s.heap.objs.size+1) scope.names []) (bindC (envOfC qual scope s.heap.objs.size f cd).kindOf (ps.zip us) λ_=>none) s1):
  Inv (cY CX P w K mg base N qual scope f cd A outer s H E) [] (start N vs) H s1:=by
 have J:ps.length<=N.length:=by have:=congrArg List.length S.pre;rw[List.length_take] at this;omega
 obtain⟨h1,tk,rfl,F⟩:=x.done
 have j:∀b:Addr,b∉(cY CX P w K mg base N qual scope f cd A outer s H E).ex:=λb z=>absurd (show b∈([]:List Addr) from z) (by simp)
 refine⟨⟨d.mod,S.kind,rfl,rfl,zc _,λy z c h1 h2=>?_,λy g=>?_,λy c _ h=>?_,λ_=>hd,Around.frames_deeper d.frames,.inr ⟨rfl,rfl⟩,λb z=>absurd z (j b),d.bs,d.bsz,λb _ _=>j b,λb z=>absurd z (j b),d.funs,d.frf⟩,
  rfl,d.bare,Un.kept F,⟨_,x.toInCall.ns,λi y v h1 h2 h3=>?_⟩,λy c h=>⟨_,x.cell y c h⟩,d.hok.fresh (zc _),λy c h=>?_,λp l=>absurd (show p∈([]:List (Addr×Obj)) from l) (by simp),d.hok.kept F,?_⟩
 ·exact name_of_addr x.apart (PySem.mem_of_lookup h1) (PySem.mem_of_lookup h2)
 ·have g:scope.names.lookup y=some .cell\/scope.names.lookup y=some .free:=g
  rcases g with g | g
  ·exact DP g
  ·exact absurd rfl (S.nofree _ (PySem.mem_of_lookup g))
 ·exact Nat.le_of_lt (x.above y c (PySem.mem_of_lookup h))
 ·have t:i<vs.length:=by
   unfold start at h2
   by_cases t:i<vs.length
   ·exact t
   ·rw[zC (by simpa using t)] at h2;rw[List.getElem?_replicate] at h2
    split at h2<;>cases h2
  have I:vs[i]?=some v:=by
   unfold start at h2;rw[zA (by simpa using t),zP] at h2
   cases e:vs[i]? with
   |none=>rw[e] at h2;cases h2
   |some a=>rw[e] at h2;cases h2;rfl
  obtain⟨u,C,G⟩:=r.get I
  have l:ps[i]?=some y:=by
   rw[<-S.pre,List.getElem?_take_of_lt (by omega)];exact h1
  have m:ps.Nodup:=by rw[<-S.pre];exact S.nd.sublist (List.take_sublist _ _)
  refine⟨u,G,?_⟩
  rcases S.par y (zT l) with k | k
  ·exact .inl ⟨k,DG m l C k⟩
  ·obtain⟨c,e⟩:=DP (n:=s.heap.objs.size+1) k;refine .inr ⟨.inl k,c,e,?_⟩;have q:=x.cell y c e;rw[DN m l C (by show scope.names.lookup y≠_;rw[k];decide)] at q;exact q
 ·exact d.hok.fresh (Nat.le_of_lt (x.above y c (PySem.mem_of_lookup h)))
 ·unfold start;show _=N.length;rw[zf,zx,List.length_replicate];omega
theorem sV    {K:PySem.W.Frag}         {kV:Value}
       (lk:K.lookup f=some ⟨oc,od,.func (PySem.W.fnOf name qual params body scope dV kV doc pm an cdv ct),osl⟩) (G:PySem.W.codeIn K cdv qual=true) (S:bc N ps scope)
  (len:∀vs H Q E,sp vs H Q E->vs.length=ps.length)
  (g:∀(A:Around) (outer:List Env) (s:Shared) (H:Hp) (vs:List V) (Q:VK) (E:XK),aP k (A.deeper (envOfC qual scope s.heap.objs.size f cdv))->sp vs H Q E ->
   ∃t,PSs (cY CX P w K mg base N qual scope f cdv A outer s H E) body t/\t {nx:=λ_ c=>Q .non c,rt:=Q} (start N vs) H):
  cH P w K mg base CX (k+1) f (PySem.W.fnOf name qual params body scope dV kV doc pm an cdv ct) ps sp:=by
 refine⟨len,λA outer s H args R vs Q E C h Z r i=>?_⟩;have X:=len _ _ _ _ i
 have O:K.In s.heap:=h.mod.kin.keeps λb o e=>(h.bs b o e).1
 have F:s.heap.NoLimit:=h.mod.nolimit.keeps λb o e=>(h.bs b o e).1
 have d:∀y∈ps.zip R,scope.names.lookup y.1=some .local\/(scope.names.lookup y.1=some .cell/\((cellsFrom (s.heap.objs.size+1) scope.names []).lookup y.1).isSome=true):=λ⟨n,v⟩ hy=>by
  rcases S.par n (List.of_mem_zip hy).1 with q | q
  ·exact .inl q
  ·exact .inr ⟨q,PySem.W.cellsFrom_some _ _ _ (.inl q)⟩
 refine codeAny_call_function C.depth (O _ _ lk) rfl S.co S.gen rfl (PySem.W.codeRec_of O G) (Z _ _ _ _ ?_)
 refine wpAny_newFunctionEnv_cells S.kind d λenv Y L x=>?_
 subst Y;refine⟨F.keeps x.toInCall.keep,codeAny_func ?_⟩;obtain⟨t,T,U⟩:=g A outer s H vs Q E (C.deeper _) i;have I:Inv (cY CX P w K mg base N qual scope f cdv A outer s H E) [] (start N vs) H L:=Qp S C.hd h X r x
 refine zw (T [] L (start N vs) H _ I U) (λfl l hs=>?_) λe l hs=>hs
 have j:∀{a:St}{c:Hp}{v:V}{u:Value},Inv (cY CX P w K mg base N qual scope f cdv A outer s H E) [] a c l->RelV v u->Q v c->CE outer P w H s Q u l :=
  λ{a c v u} J m q=>⟨v,c,J.os,J.bare,J.base,J.hok,m,q⟩
 cases fl with
 |ret u =>
  obtain⟨v,a,c,J,m,q⟩:=hs;exact j J m q
 |next =>
  obtain⟨a,c,J,q⟩:=hs;exact j (v:=V.non) (u:=Value.none) J rfl q
 |brk =>
  obtain⟨_,_,_,q⟩:=hs;exact False.elim q
 |cont =>
  obtain⟨_,_,_,q⟩:=hs;exact False.elim q
noncomputable def tCB(r:List V->Hp->VK->Prop)(t:TA):TE:=λσ H Q=>t σ H λa b=>r a b Q
theorem sW{p a:Pos}{d:String}(l:gO X (.builtin d) r)(i:Gl X x)(g:X.mg x=none)(hv:bootBuiltins x=some (.builtin d))(m:PA X (e::es) t)(f:x≠"__name__":=by decide)(c:(x == ("__debug__":Str))=false:=by decide)
  (j:starEach (e::es) X.env=(false,eval e X.env)::starEach es X.env:=by rfl) (b:(backTo a (starEach es X.env)).any (·.1)=false:=by rfl):PE X (.Call (.Name x p) (e::es) [] a) (tCB r t):=by
 intro pins s σ H Q I h;refine wpAny_Call_Name_kw (lJ I i g hv ?_ f c);exact PyProof.Rows.callWith_builtin1 (thn (m a pins s σ H _ I h) λus s1 ⟨vs,H1,I1,r1,q1⟩=>l pins s1 σ H1 vs us Q I1 r1 q1) j b
theorem DQ{p a:Pos}(j:gO X (.type T) r)(g:Gl X x)(f:X.mg x=none)(hv:bootBuiltins x=some (.type T))(l:PA X (e::es) t)(d:x≠"__name__":=by decide)(c:(x == ("__debug__":Str))=false:=by decide)
  (i:starEach (e::es) X.env=(false,eval e X.env)::starEach es X.env:=by rfl) (b:(backTo a (starEach es X.env)).any (·.1)=false:=by rfl):PE X (.Call (.Name x p) (e::es) [] a) (tCB r t):=by
 intro pins s σ H Q I h;refine wpAny_Call_Name_kw (lJ I g f hv ?_ d c);exact PyProof.Rows.callWith_type1 (thn (l a pins s σ H _ I h) λus s1 ⟨vs,H1,I1,r1,q1⟩=>j pins s1 σ H1 vs us Q I1 r1 q1) i b
end L2
namespace HT
open PySem PyProof.Rows
section
open PySem.SeqAt
open PySem.AutoSeq1 (wpAny_loadPart')
open PySem.MeetsSeq PySem.MeetsSeq2 PySem.MeetsSeq3
end
theorem cat_tup    (r:IsTup s.heap t vs.toArray)(hb:IsTup s.heap b ws.toArray)(hv:vs≠[])
  (h1:ws=[]->Q (.ref t) s) (h2:ws≠[]->Q (.ref s.heap.objs.size) {s with heap:=s.heap.push {cls:=.type "tuple",data:=.seq (vs++ws).toArray}})
  (hsz:vs.length+ws.length<=sizeLine):wpAny (model prog w) A (binaryOp .Add (.ref t) (.ref b)) Q E s:=by
 obtain⟨⟨cls,m,data,sl⟩,i,l,n,hd⟩:=id r;obtain⟨⟨q,g,data2,c⟩,a,f,j,d⟩:=id hb;simp only at l hd f d;subst l hd f d
 have e:vs.toArray++ws.toArray=(vs++ws).toArray:=by simp
 by_cases h:ws=[]
 ·exact concat_meets ⟨_,i,rfl⟩ ⟨_,a,rfl⟩ noFill_tuple_add seq_tuple_add PySem.F.slot_tuple_add PySem.F.entry_tuple_add (PySem.F.args_tuple_add_2 _ _)
   (tuple_addW1 t b vs.toArray ws.toArray n j m g sl c (by simpa using hv) (by simp[h])) ⟨i,a,h1 h⟩
 ·refine concat_meets ⟨_,i,rfl⟩ ⟨_,a,rfl⟩ noFill_tuple_add seq_tuple_add PySem.F.slot_tuple_add PySem.F.entry_tuple_add (PySem.F.args_tuple_add_2 _ _)
   (tuple_addW2 t b vs.toArray ws.toArray n j m g sl c (by simpa using hv) (by simpa using h) (by rw[zu,zu];exact hsz)) ⟨i,a,?_⟩
  rw[e];exact h2 h
noncomputable def sIx(n d:Nat):Option Int->Nat
 |none=>d
 |some v=>if v<0 then(v+(n:Int)).toNat else min v.toNat n
theorem sIx_none(n d:Nat):sIx n d none=d:=rfl
theorem sIx_nat(n d k:Nat):sIx n d (some (k:Int))=min k n:=by
 show(if(k:Int)<0 then((k:Int)+(n:Int)).toNat else min (k:Int).toNat n)=min k n;rw[if_neg (by omega),Int.toNat_natCast]
theorem sIx_le(n d:Nat)(hd:d<=n)(o:Option Int):sIx n d o<=n:=by
 cases o with
 |none=>exact hd
 |some v =>
  show(if v<0 then(v+(n:Int)).toNat else min v.toNat n)<=n
  by_cases a:v<0
  ·rw[if_pos a];omega
  ·rw[if_neg a];exact Nat.min_le_right _ _
theorem DR(v:Int)(n d:Nat):(if v<0 then max (v+(n:Int)) 0 else min v (n:Int))=((sIx n d (some v):Nat):Int):=by
 show(if v<0 then max (v+(n:Int)) 0 else min v (n:Int))=(((if v<0 then(v+(n:Int)).toNat else min v.toNat n):Nat):Int)
 by_cases a:v<0
 ·simp only[if_pos a];omega
 ·simp only[if_neg a];omega
theorem Qq(a b:Option Int)(n:Nat):Builtin.Slice.sliceAdjust a b 1 (n:Int)=(((sIx n 0 a:Nat):Int),((sIx n n b:Nat):Int)):=by
 have h1:¬((1:Int)<0):=by omega
 unfold Builtin.Slice.sliceAdjust;simp only[h1,if_false];refine Prod.ext ?_ ?_
 ·cases a with
  |none=>rfl
  |some v=>exact DR v n 0
 ·cases b with
  |none=>rfl
  |some v=>exact DR v n n
theorem Qs(i j:Nat):Builtin.Slice.slicePlaces (i:Int) (j:Int) 1=j - i:=by
 unfold Builtin.Slice.slicePlaces
 have h1:(1:Int)>0:=by omega
 simp only[h1,if_true,Int.ediv_one]
 split<;>omega
theorem DW    (p:IsPart v o)(h:Q o s):wpAny (model prog w) A (Builtin.Slice.slicePartIndex v) Q E s:=by
 cases p with
 |none=>exact slicePart_none h
 |int i t=>exact slicePart_int h
theorem sliceApplied_gen   {a:Option Int}{n:Nat}  (hs:s.heap.IsSliceOf sl vl vu .none)(pl:IsPart vl a)(f:IsPart vu d)
  (h:Q (((sIx n 0 a:Nat):Int),1,sIx n n d - sIx n 0 a) s):wpAny (model prog w) A (Builtin.Slice.sliceApplied (.ref sl) (pure (n:Int))) Q E s:=by
 obtain⟨os,b,g,c⟩:=id hs;unfold Builtin.Slice.sliceApplied Builtin.Slice.sliceFields;refine za (za (wpAny_field b c (x:=vl) rfl (za (wpAny_field b c (x:=vu) rfl (za (wpAny_field b c (x:=.none) rfl (zb ?_)))))));refine za (slicePart_none ?_);show wpAny _ _ (if((1:Int) == 0)=true then _ else _) _ _ s;rw[if_neg (by decide)];refine za (DW pl (za (DW f (za (zb ?_)))));show wpAny _ _ (match Builtin.Slice.sliceAdjust a d 1 (n:Int) with | (a,d)=>pure (a,(1:Int),Builtin.Slice.slicePlaces a d 1)) _ _ s;rw[Qq a d n];show wpAny _ _ (pure (((sIx n 0 a:Nat):Int),(1:Int),Builtin.Slice.slicePlaces ((sIx n 0 a:Nat):Int) ((sIx n n d:Nat):Int) 1)) _ _ s
 rw[Qs];exact zb h
theorem Qt(xs:Array Value)(i k:Nat):((List.range k).filterMap λ(m:Nat)=>xs[((i:Int)+(m:Int) * 1).toNat]?).toArray=((xs.toList.drop i).take k).toArray:=by
 have e:(λ(m:Nat)=>xs[((i:Int)+(m:Int) * 1).toNat]?)=λm=>xs[i+m]?:=by
  funext m
  have:((i:Int)+(m:Int) * 1).toNat=i+m:=by omega
  rw[this]
 rw[e]
 have:=pick_run xs i k
 rw[List.filterMap_map] at this
 have a:((λx=>xs[x]?) ∘ λx=>i+x)=λm=>xs[i+m]?:=rfl
 rw[a] at this;rw[this]
theorem getItem_tuple_cut    {b:Option Int}  (c:IsTup s.heap t items)(hs:s.heap.IsSliceOf sl vl vu .none)(pl:IsPart vl b)(j:IsPart vu hi)
  (l:¬(sIx items.size 0 b=0/\sIx items.size items.size hi=items.size))
  (h:Q (.ref s.heap.objs.size) {s with heap:=s.heap.push {cls:=.type "tuple",data:=.seq ((items.toList.drop (sIx items.size 0 b)).take (sIx items.size items.size hi - sIx items.size 0 b)).toArray}})
  (hsz:items.size<=sizeLine):wpAny (model prog w) A (getItem (.ref t) (.ref sl)) Q E s:=by
 have a:sizeOk (.seq ((items.toList.drop (sIx items.size 0 b)).take (sIx items.size items.size hi - sIx items.size 0 b)).toArray):=by
  show((items.toList.drop (sIx items.size 0 b)).take (sIx items.size items.size hi - sIx items.size 0 b)).toArray.size<=sizeLine;rw[zu,List.length_take,List.length_drop,Array.length_toList];omega
 have y:sIx items.size items.size hi<=items.size:=sIx_le _ _ (zc _) hi;obtain⟨os,d,g,r⟩:=id hs;have i:s.TypeIs (.ref sl) "slice":=⟨os,d,g⟩;unfold getItem
 try with_reducible refine zK ?_
 first | refine za (zb ?_) | skip
 refine za (wpAny_sequenceKey c.typeIs (by decide) ?_)
 refine za (wpAny_callSpecial?_slot (name:=Str.ofString "__getitem__") c.typeIs PyProof.Rows.slot_tuple_getitem
  (wpAny_call_entry PyProof.Rows.slot_tuple_getitem c.typeIs entry_tuple_getitem ?_ (args_tuple_getitem _ _)))
 show wpAny _ _ (Builtin.Tuple.tupleItemsOf (.ref t) >>= _) _ _ s;refine za (tupleItemsOf_ c ?_);refine za (wpAny_typeOf i ?_);rw[if_pos (by decide)];refine za (sliceApplied_gen hs pl j ?_)
 have f:¬((((sIx items.size 0 b:Nat):Int) == 0&&(1:Int) == 1&&(sIx items.size items.size hi - sIx items.size 0 b) == items.size)=true):=by
  intro q;rw[zm,zm] at q;have x:((sIx items.size 0 b:Nat):Int)=0:=eq_of_beq q.1.1;have u:sIx items.size items.size hi - sIx items.size 0 b=items.size:=eq_of_beq q.2;exact l ⟨by omega,by omega⟩
 show wpAny _ _ (if(((sIx items.size 0 b:Nat):Int) == 0&&(1:Int) == 1&&(sIx items.size items.size hi - sIx items.size 0 b) == items.size)=true then _ else _) _ _ s;rw[if_neg f,Qt]
 first
  | exact za (m:=Builtin.Tuple.tupleExact _) (wpAny_newObj_type (zb ⟨_,rfl,zb h⟩) a)
  | exact za (m:=Builtin.Tuple.tupleExact _) (wpAny_newObj_type (za (zb (zb ⟨_,rfl,zb h⟩))) a)
  | exact za (za (m:=Builtin.Tuple.tupleExact _) (wpAny_newObj_type (zb (zb ⟨_,rfl,zb h⟩)) a))
  | exact za (za (m:=Builtin.Tuple.tupleExact _) (wpAny_newObj_type (zb ⟨_,rfl,zb h⟩) a))
end HT
namespace L2
open PySem PySem.Spec PyProof.Rows
abbrev TO:=St->Hp->(Option Int->Hp->Prop)->Prop
noncomputable def PO(X:Cx)(e:Option Expr)(t:TO):Prop :=
 ∀(pins:List (Addr×Obj)) (s:Shared) (σ:St) (H:Hp) (Q:Option Int->Hp->Prop),Inv X pins σ H s->t σ H Q ->
  wpAny (model X.prog X.w) X.A (evalPart e X.env) (λu b=>∃o a,Inv X pins σ a b/\IsPart u o/\Q o a) X.xe s
noncomputable def Qu:TO:=λ_ H Q=>Q none H
noncomputable def Qv(t:TE):TO:=λσ H Q=>t σ H λx a=>∃i,x=.int i/\Q (some i) a
theorem intsAre_of :∀{us:List Value},aL (ns.map V.int) us->IntsAre us ns:=by
 induction ns with
 |nil=>intro us r;rw[zV] at r;cases r;exact .nil
 |cons n ns ih =>
  intro us r;rw[zd] at r
  cases r with
  |cons r1 r2 =>
   obtain⟨t,e⟩:=r1;subst e;exact .cons n t (ih r2)
theorem Qw:PO X none Qu:=by
 intro pins s σ H Q I h;rw[evalPart_none];exact zb ⟨none,H,I,.none,h⟩
theorem Qx(h:PE X e te):PO X (some e) (Qv te):=by
 intro pins s σ H Q I a;rw[evalPart_some]
 refine thn (h pins s σ H _ I a) λu s1 ⟨x,H1,I1,r1,q1⟩=>?_
 obtain⟨i,rfl,q⟩:=q1;obtain⟨t,rfl⟩:=r1;exact⟨some i,H1,I1,.int i t,q⟩
noncomputable def SlR(X:Cx)(r:V->Option Int->Option Int->Hp->VK->Prop):Prop :=
 ∀(pins:List (Addr×Obj)) (s:Shared) (σ:St) (H:Hp) (x:V) (v vl a:Value) (b c:Option Int) (sl:Addr) (Q:VK),Inv X pins σ H s->RelV x v->s.heap.IsSliceOf sl vl a .none->IsPart vl b->IsPart a c->r x b c H Q ->
  ∃T d,typeLookup (.type T) "__getitem__" = pure (some (.builtin d))/\s.TypeIs v T/\wpAny (model X.prog X.w) X.A (getItem v (.ref sl)) (EP X pins σ Q) X.xe s
noncomputable def tSl(r:V->Option Int->Option Int->Hp->VK->Prop)(b:TE)(tl a:TO):TE:=λσ H Q=>b σ H λx f=>tl σ f λl d=>a σ d λu c=>r x l u c Q
theorem Qy{a:Option Expr}  (f:SlR X r)(j:PE X e te)(g:PO X a tl)(c:PO X hi th):PE X (.Subscript e (.Slice a hi none p2) pos) (tSl r te tl th):=by
 intro pins s σ H Q I h;refine Subscript_ (thn (j pins s σ H _ I h) λv s1 ⟨x,H1,I1,r1,q1⟩=>?_);refine wpAny_Slice (thn (g pins s1 σ H1 _ I1 q1) λvl s2 ⟨l,H2,I2,pl,q2⟩=>thn (c pins s2 σ H2 _ I2 q2) λvu s3 ⟨u,H3,I3,pu,q3⟩=>?_);rw[evalPart_none];refine zb ?_
 have t:Inv X pins σ H3 {s3 with heap:=s3.heap.push {cls:=.type "slice",data:=.fields #[vl,vu,.none]}}:=I3.kept (t':=s3.toks) λb ob q=>zl _ q
 obtain⟨T,y,m,d,i⟩:=f pins {s3 with heap:=s3.heap.push {cls:=.type "slice",data:=.fields #[vl,vu,.none]}} σ H3 x v vl vu l u s3.heap.objs.size Q t r1 (Heap.IsSliceOf.new ..) pl pu q3;show wpAny (model X.prog X.w) X.A (subscriptTail e (.Slice a hi none p2) v (.ref s3.heap.objs.size)) (EP X pins σ Q) X.xe {s3 with heap:=s3.heap.push {cls:=.type "slice",data:=.fields #[vl,vu,.none]}};exact tail_any (ops:=[.ref s3.heap.objs.size,v]) d m i (by with_unfolding_all rfl)
noncomputable def jC(xs:List V)(a b:Option Int):List V:=(xs.drop (HT.sIx xs.length 0 a)).take (HT.sIx xs.length xs.length b - HT.sIx xs.length 0 a)
theorem DX(xs:List V)(a b:Option Int):(jC xs a b).length<=xs.length:=by
 unfold jC;rw[List.length_take,List.length_drop];omega
noncomputable def Qz(K:PySem.W.Frag):V->Option Int->Option Int->Hp->VK->Prop:=λx c d H Q=>∃a b,x=.ref a/\SqT K H a b /\
 ¬(HT.sIx b.length 0 c=0/\HT.sIx b.length b.length d=b.length)/\∀p,H p=none->Q (.ref p) (upd H p (.tup (jC b c d)))
theorem QB:SlR X (Qz X.K):=by
 intro pins s σ H x v vl C d f sl Q I l hs t m h;obtain⟨a,c,rfl,u,y,q⟩:=h;cases l;obtain⟨g,r,j,i⟩:=I.tuple u
 have hlen:g.toArray.size=c.length:=by rw[zu];exact r.length.symm
 refine⟨"tuple",_,PyProof.Rows.slot_tuple_getitem.lookup,j.typeIs,?_⟩;refine HT.getItem_tuple_cut j hs t m (by rw[hlen];exact y) ?_ (by rw[hlen];exact i);rw[hlen];refine⟨.ref s.heap.objs.size,_,I.laid (t':=s.toks) (o:=.tup (jC c d f)) (λb ob q=>zl _ q) (zc _) ?_,rfl,q _ (I.hok.fresh (zc _))⟩;exact⟨zE (DX c d f) i,_,(r.drop (HT.sIx c.length 0 d)).take (HT.sIx c.length c.length f - HT.sIx c.length 0 d),IsTup.new _ _⟩
noncomputable def QC(K:PySem.W.Frag):R2:=λx y H Q=>∃a b d c,x=.ref a/\y=.ref b/\SqT K H a d/\SqT K H b c/\d≠[]/\d.length+c.length<=sizeLine /\
 (c=[]->Q (.ref a) H)/\(c≠[]->∀p,H p=none->Q (.ref p) (upd H p (.tup (d++c))))
theorem aL.nil_iff   (r:aL xs us):us=[]↔xs=[]:=by
 cases r with
 |nil=>simp
 |cons _ _=>simp
theorem QD:OpR X (binaryOp .Add) (QC X.K):=by
 intro pins s σ H x y v u Q I m l h;obtain⟨a,b,j,i,rfl,rfl,J,G,F,f,t,r⟩:=h;cases m;cases l;obtain⟨L,d,E,_⟩:=I.tuple J;obtain⟨g,c,C,_⟩:=I.tuple G;refine HT.cat_tup E C (λz=>F (d.nil_iff.mp z)) (λz=>⟨.ref a,H,I,rfl,t (c.nil_iff.mp z)⟩) (λz=>?_) (by rw[<-d.length,<-c.length];exact f);refine⟨.ref s.heap.objs.size,_,I.laid (t':=s.toks) (o:=.tup (j++i)) (λb ob q=>zl _ q) (zc _) ?_,rfl,r (λw=>z (c.nil_iff.mpr w)) _ (I.hok.fresh (zc _))⟩;exact⟨by rw[zf];exact f,_,d.append c,IsTup.new _ _⟩
noncomputable def ixN(n:Nat)(i:Int):Option Nat:=if 0<=i then(if i<n then some i.toNat else none) else if -(n:Int)<=i then some (i+n).toNat else none
noncomputable def atI{α:Type}(xs:List α)(i:Int):Option α:=(ixN xs.length i).bind λj=>xs[j]?
theorem DY    (h:ixN n i=some j):seqIndex? i n=some j/\j<n/\-(n:Int)<=i/\i<n:=by
 unfold ixN at h
 by_cases h0:0<=i
 ·rw[if_pos h0] at h
  by_cases h1:i<n
  ·rw[if_pos h1] at h;have e:i.toNat=j:=zH h;exact⟨by rw[seqIndex_of h0 h1,e],by omega,by omega,h1⟩
  ·rw[if_neg h1] at h;cases h
 ·rw[if_neg h0] at h
  by_cases h1:-(n:Int)<=i
  ·rw[if_pos h1] at h;have e:(i+n).toNat=j:=zH h;exact⟨by rw[seqIndex_neg (by omega) h1,e],by omega,h1,by omega⟩
  ·rw[if_neg h1] at h;cases h
theorem vY     (h:atI xs i=some v):∃j,seqIndex? i xs.length=some j/\xs[j]?=some v/\j<xs.length/\-(xs.length:Int)<=i/\i<xs.length:=by
 unfold atI at h
 cases e:ixN xs.length i with
 |none=>rw[e] at h;cases h
 |some j =>
  rw[e] at h;obtain⟨h1,h2,h3,h4⟩:=DY e;exact⟨j,h1,h,h2,h3,h4⟩
noncomputable def sX(b:Expr):Prop:=∀o i,subscripted b false o i=operate [o,i] (getItem o i)
noncomputable def IxR(X:Cx)(r:R2):Prop :=
 ∀(value slice:Expr) (pins:List (Addr×Obj)) (s:Shared) (σ:St) (H:Hp) (x y:V) (v u:Value) (Q:VK),Inv X pins σ H s->RelV x v->RelV y u->r x y H Q ->
  subscripted slice false v u=operate [v,u] (getItem v u)->wpAny (model X.prog X.w) X.A (subscriptTail value slice v u) (EP X pins σ Q) X.xe s
noncomputable def MtR(X:Cx)(c:String)(r:V->List V->Hp->VK->Prop):Prop :=
 ∀(pins:List (Addr×Obj)) (s:Shared) (σ:St) (H:Hp) (x:V) (a:List V) (v:Value) (b:List Value) (Q:VK),Inv X pins σ H s->RelV x v->aL a b->r x a H Q ->
  wpAny (model X.prog X.w) X.A (call (.builtin c) (v::b)) (EP X pins σ Q) X.xe s
section
variable {X:Cx}{a b:Expr}{ta tb:TE}{pos:Pos}
theorem QF  (g:IxR X r)(i:PE X a ta)(hb:PE X b tb)(hs:sX b):PE X (.Subscript a b pos) (tOp r ta tb):=by
 intro pins s σ H Q I h;exact Subscript_ (vO i hb I h λv u c x y l j f d q=>g a b pins c σ l x y v u Q j f d q (hs _ _))
noncomputable def QG(K:PySem.W.Frag):R2:=λx y H Q=>∃p c i v,x=.ref p/\y=.int i/\SqL K H p c/\atI c i=some v/\Q v H
noncomputable def QH(K:PySem.W.Frag):R2:=λx y H Q=>∃p c i v,x=.ref p/\y=.int i/\SqT K H p c/\atI c i=some v/\Q v H
noncomputable def QJ:R2:=λx y H Q=>∃z i c,x=.str z/\y=.int i/\z.length<=sizeLine/\atI z.cps.toList i=some c/\Q (.str ⟨#[c]⟩) H
theorem QK:IxR X (QG X.K):=by
 intro value slice pins s σ H x y v u Q I F E h hs;obtain⟨p,P,i,z,rfl,rfl,G,L,q⟩:=h;cases F;obtain⟨t,rfl⟩:=E;obtain⟨l,r,d,R⟩:=I.list G;obtain⟨j,h1,h2,h3,h4,O⟩:=vY L;obtain⟨w,m,g⟩:=r.get h2;have J:=r.length;have T:=nH;have c:EP X pins σ Q w s:=⟨z,H,I,g,q⟩
 by_cases h0:0<=i
 ·have f:i.toNat=j:=by
   rw[seqIndex_of h0 O] at h1;exact zH h1
  exact item_listR d.isList h0 (by omega) (by rw[f];simpa using m) c hs
 ·have f:(i+(l.toArray.size:Int)).toNat=j:=by
   rw[seqIndex_neg (by omega) h4] at h1;rw[zu,<-J];exact zH h1
  exact subscriptTail_builtinR (x:=w) d.isList.typeIs slot_list_getitem.lookup
   (wpAny_getItem_list_neg (Q:=λr C=>r=w/\EP X pins σ Q r C) d.isList (by omega) (by rw[zu]<;>omega) (by omega) (by rw[f];simpa using m) ⟨rfl,c⟩) hs
theorem QL:IxR X (QH X.K):=by
 intro value slice pins s σ H x y v u Q I m l h hs;obtain⟨p,L,i,z,rfl,rfl,C,F,q⟩:=h;cases m;obtain⟨t,rfl⟩:=l;obtain⟨J,r,f,O⟩:=I.tuple C;obtain⟨j,h1,h2,h3,h4,R⟩:=vY F;obtain⟨w,G,c⟩:=r.get h2;have E:=r.length;have P:=nH;have d:EP X pins σ Q w s:=⟨z,H,I,c,q⟩;exact subscriptTail_builtinR (x:=w) f.typeIs slot_tuple_getitem.lookup
  (getItem_tuple (j:=j) (Q:=λr g=>r=w/\EP X pins σ Q r g) f (by omega) (by omega) (by rw[zu,<-E];exact h1) (by simpa using G) ⟨rfl,d⟩) hs
theorem QM:IxR X QJ:=by
 intro value slice pins s σ H x y v u Q I f d h hs;obtain⟨z,i,c,rfl,rfl,F,l,q⟩:=h;obtain⟨t,rfl⟩:=f;obtain⟨E,rfl⟩:=d;obtain⟨j,h1,h2,h3,h4,m⟩:=vY l
 have g:z.cps.toList.length=z.length:=by simp[Str.length]
 rw[g] at h1 h4 m;have G:=nH
 exact tail_any (typeIs_str s z t) slot_str_getitem.lookup (getItem_str (c:=c) (by
  have C:decide (i < -(2 ^ 63:Int))=false:=zo (by omega);have r:decide (i>=2 ^ 63)=false:=zo (by omega)
  rw[C,r,Bool.or_false]) (by rw[h1];simpa using h2) ⟨.str ⟨#[c]⟩,H,I.tok _,⟨_,rfl⟩,q⟩) hs
theorem QQ(c:List Value)(n j:Nat)(u:Value):Obj.mapSeq (·.setIfInBounds j u) {cls:=.type "list",data:=.seq c.toArray n} = {cls:=.type "list",data:=.seq (c.set j u).toArray n}:=by
 simp[Obj.mapSeq]
theorem Inv.lst{X:Cx}{pins:List (Addr×Obj)}{σ:St}{H:Hp}{s:Shared}{p:Addr}{xs:List V}(I:Inv X pins σ H s)(h:H p=some (.lst xs)):
  ∃(c:List Value) (n:Nat),aL xs c/\s.heap.get? p=some {cls:=.type "list",data:=.seq c.toArray n}/\xs.length<=sizeLine:=by
 obtain⟨z,c,n,r,e⟩:=I.hok p _ h;exact⟨c,n,r,e,z⟩
theorem Inv.lstUpd  {σ:St}     {c:List Value}   (I:Inv X pins σ H s)(h:H p=some (.lst xs))
  (i:s.heap.get? p=some {cls:=.type "list",data:=.seq c.toArray n}) (d:f {cls:=.type "list",data:=.seq c.toArray n} = {cls:=.type "list",data:=.seq its'.toArray n'}) (r:aL ys its') (g:ys.length<=sizeLine) (t:Nat):
  Inv X pins σ (upd H p (.lst ys)) {s with heap:=s.heap.update p f,toks:=t}:=by
 have e:(s.heap.update p f).get? p=some {cls:=.type "list",data:=.seq its'.toArray n'}:=by
  rw[Heap.get?_update_self f i (by rw[d]<;>rfl),d]
 refine I.write (x:=p) (e:=p) (by rw[h];trivial) (.inl rfl) (λb u j q=>(Heap.get?_update_other _ _ (Ne.symm j)).trans q) ⟨_,e⟩ ?_;exact⟨g,its',n',r,e⟩
noncomputable def QR:V->V->V->Hp->(Hp->Prop)->Prop:=λo i v H Q=>∃p c k j,o=.ref p/\i=.int k/\H p=some (.lst c)/\ixN c.length k=some j/\Q (upd H p (.lst (c.set j v)))
theorem set_list:CT X QR:=by
 intro pins s σ H o i v G J u Q I y C x h;obtain⟨p,m,k,j,rfl,rfl,l,F,q⟩:=h;cases y;obtain⟨t,rfl⟩:=C;obtain⟨c,n,r,d,E⟩:=I.lst l;obtain⟨h1,h2,h3,h4⟩:=DY F;have f:=r.length;have L:=nH;have I':Inv X pins σ (upd H p (.lst (m.set j v))) {s with heap:=s.heap.update p (Obj.mapSeq (·.setIfInBounds j u))}:=
  I.lstUpd l d (QQ c n j u) (r.set x j) (by rw[zR];exact E) s.toks
 by_cases h0:0<=k
 ·have g:k.toNat=j:=by
   rw[seqIndex_of h0 h4] at h1;exact zH h1
  exact PySem.W.ki_setAt d h0 (by omega) (by rw[zu,<-f];exact h4) (by rw[g];exact⟨_,I',q⟩)
 ·have g:(k+(c.toArray.size:Int)).toNat=j:=by
   rw[seqIndex_neg (by omega) h3] at h1;rw[zu,<-f];exact zH h1
  exact PySem.W.ki_setBack d (by omega) (by rw[zu,<-f];exact h3) (by omega) (by rw[g];exact⟨_,I',q⟩)
theorem Ea(c d:Option Int)(n:Nat):(sliceBounds c d none n).1=((HT.sIx n 0 c:Nat):Int)/\(sliceBounds c d none n).2.1=((HT.sIx n n d:Nat):Int)/\(sliceBounds c d none n).2.2=1:=by
 refine⟨?_,?_,rfl⟩
 ·cases c with
  |none=>simp[sliceBounds,HT.sIx]
  |some i =>
   simp only[sliceBounds,HT.sIx,Option.getD_none,show(1:Int)>0 by decide,if_true]
   by_cases h:i<0
   ·simp only[h,if_true]<;>omega
   ·simp only[h,if_false]<;>omega
 ·cases d with
  |none=>simp[sliceBounds,HT.sIx]
  |some i =>
   simp only[sliceBounds,HT.sIx,Option.getD_none,show(1:Int)>0 by decide,if_true]
   by_cases h:i<0
   ·simp only[h,if_true]<;>omega
   ·simp only[h,if_false]<;>omega
theorem QS(c:List Value)(d f:Option Int):slicePick c.toArray d f none=((c.drop (HT.sIx c.length 0 d)).take (HT.sIx c.length c.length f - HT.sIx c.length 0 d)).toArray:=by
 obtain⟨h1,h2,h3⟩:=Ea d f c.toArray.size;unfold slicePick;rw[h1,h2,h3]
 simp only[sliceRange_one,pick_run,zu]<;>rfl
noncomputable def QT(K:PySem.W.Frag):V->Option Int->Option Int->Hp->VK->Prop:=λx d f H Q=>∃a c,x=.ref a/\SqL K H a c/\∀p,H p=none->Q (.ref p) (upd H p (.lst (jC c d f)))
theorem QV:SlR X (QT X.K):=by
 intro pins s σ H x v vl y d f sl Q I i hs l j h;obtain⟨a,c,rfl,t,q⟩:=h;cases i;obtain⟨u,r,g,m⟩:=I.list t;have hlen:=r.length;refine⟨"list",_,slot_list_getitem.lookup,g.isList.typeIs,?_⟩;refine wpAny_getItem_list_slice g.isList hs l j .none (by simp) ?_ (by rw[zu]<;>omega);rw[QS,<-hlen];refine⟨.ref s.heap.objs.size,_,I.laid (t':=s.toks) (o:=.lst (jC c d f)) (λb ob q=>zl _ q) (zc _) ?_,rfl,q _ (I.hok.fresh (zc _))⟩;exact⟨zE (DX c d f) m,_,0,(r.drop (HT.sIx c.length 0 d)).take (HT.sIx c.length c.length f - HT.sIx c.length 0 d),zO _ rfl⟩
noncomputable def iR:V->Bool
 | .non=>true
 | .bl _=>true
 | .int _=>true
 | .str _=>true
 | _=>false
noncomputable def eqV:V->V->Bool
 | .non,.non=>true
 | .bl a,.bl b=>a == b
 | .bl a,.int b=>(if a then 1 else 0) == b
 | .int a,.bl b=>a == (if b then 1 else 0)
 | .int a,.int b=>a == b
 | .str a,.str b=>a == b
 | _,_=>false
theorem QW     (f:RelV y u)(c:RelV x v)(h:iR y=true)(g:iR x=true):SeqAt.EqAt A s u v (eqV y x):=by
 cases y with
 |non =>
  cases f
  cases x with
  |non=>cases c;exact SeqAt.EqAt.same _
  |bl b=>cases c;exact SeqAt.EqAt.none_bool b
  |int b=>obtain⟨t,rfl⟩:=c;exact SeqAt.EqAt.none_int b t
  |str b=>obtain⟨t,rfl⟩:=c;exact SeqAt.EqAt.none_str b t
  | _=>exact absurd (show false=true from g) zq
 |bl a =>
  cases f
  cases x with
  |non=>cases c;exact SeqAt.EqAt.bool_none a
  |bl b=>cases c;exact SeqAt.EqAt.bool_bool a b
  |int b=>obtain⟨t,rfl⟩:=c;exact SeqAt.EqAt.bool_int a b t
  |str b=>obtain⟨t,rfl⟩:=c;exact SeqAt.EqAt.bool_str a b t
  | _=>exact absurd (show false=true from g) zq
 |int a =>
  obtain⟨d,rfl⟩:=f
  cases x with
  |non=>cases c;exact SeqAt.EqAt.int_none a d
  |bl b=>cases c;exact SeqAt.EqAt.int_bool a d b
  |int b=>obtain⟨t,rfl⟩:=c;exact SeqAt.EqAt.int_int a d b t
  |str b=>obtain⟨t,rfl⟩:=c;exact SeqAt.EqAt.int_str a d b t
  | _=>exact absurd (show false=true from g) zq
 |str a =>
  obtain⟨d,rfl⟩:=f
  cases x with
  |non=>cases c;exact SeqAt.EqAt.str_none a d
  |bl b=>cases c;exact SeqAt.EqAt.str_bool a d b
  |int b=>obtain⟨t,rfl⟩:=c;exact SeqAt.EqAt.str_int a d b t
  |str b=>obtain⟨t,rfl⟩:=c;exact SeqAt.EqAt.str_str a d b t
  | _=>exact absurd (show false=true from g) zq
 | _=>exact absurd (show false=true from h) zq
noncomputable def eqU(x:V)(u:Value):Bool:=match u with
 | .none=>eqV .non x
 | .bool b=>eqV (.bl b) x
 | .int i _=>eqV (.int i) x
 | .str z _=>eqV (.str z) x
 | _=>false
theorem Eb   (r:RelV y u)(f:iR y=true):eqU x u=eqV y x:=by
 cases y with
 |non=>cases r;rfl
 |bl b=>cases r;rfl
 |int i=>obtain⟨t,rfl⟩:=r;rfl
 |str z=>obtain⟨t,rfl⟩:=r;rfl
 | _=>exact absurd (show false=true from f) zq
theorem vZ :∀{xs:List V}{us:List Value},aL xs us->xs.all iR=true->us.any (eqU x)=xs.any λy=>eqV y x
 | _,_,.nil,_=>rfl
 |y::xs,u::us,.cons r t,f=>by
  rw[List.all_cons,zm] at f;rw[List.any_cons,List.any_cons,Eb r f.1,vZ t f.2]
theorem v7  {s:Shared}{x:V}{v:Value}(d:RelV x v)(g:iR x=true):∀{xs:List V}{us:List Value},aL xs us->xs.all iR=true->∀u∈us,SeqAt.EqAt A s u v (eqU x u)
 | _,_,.nil,_=>λu c=>by cases c
 |y::xs,u::us,.cons r t,f=>λh c=>by
  rw[List.all_cons,zm] at f
  rcases zh.mp c with rfl | c
  ·rw[Eb r f.1];exact QW r d f.1 g
  ·exact v7 d g t f.2 h c
noncomputable def inV(x:V)(xs:List V):Bool:=xs.any λy=>eqV y x
noncomputable def rIn(K:PySem.W.Frag)(d:Bool):R2:=λx y H Q=>∃p c,y=.ref p/\(SqL K H p c\/SqT K H p c)/\iR x=true/\c.all iR=true/\Q (.bl (if d then !inV x c else inV x c)) H
theorem QX:OpR X (compareOp .In) (rIn X.K false):=by
 intro pins s σ H x y v u Q I i l h;obtain⟨p,t,rfl,d,j,fs,q⟩:=h;cases l
 rcases d with d | d
 ·obtain⟨c,r,f,m⟩:=I.list d;refine SeqAt.in_listAt (eqU x) f.isList (λw g=>v7 i j r fs w (by simpa using g)) ⟨.bl _,H,I,rfl,?_⟩;rw[show c.toArray.any (eqU x)=c.any (eqU x) by simp,vZ r fs];exact q
 ·obtain⟨c,r,f,m⟩:=I.tuple d;refine SeqAt.in_tupleAt (eqU x) f (λw g=>v7 i j r fs w (by simpa using g)) ⟨.bl _,H,I,rfl,?_⟩;rw[show c.toArray.any (eqU x)=c.any (eqU x) by simp,vZ r fs];exact q
theorem Ec:gO X (.type "list") (λxs H Q=>∃p ys,xs=[.ref p]/\(SqL X.K H p ys\/SqT X.K H p ys)/\∀l,H l=none->Q (.ref l) (upd H l (.lst ys))):=by
 intro pins s σ H xs F Q I r h;obtain⟨p,ys,rfl,j,q⟩:=h;obtain⟨u,rfl,E⟩:=vals1 r;cases E;have m:∀(c:List Value),aL ys c->ys.length<=sizeLine->∀(d:Heap) (g:Nat),(∀b C,s.heap.get? b=some C->d.get? b=some C) ->
   d.get? s.heap.objs.size=some {cls:=.type "list",dict:=none,data:=.seq c.toArray g,slots:=#[]}->EP X pins σ Q (.ref s.heap.objs.size) {s with heap:=d}:=λc f i d g kp e =>
  ⟨.ref s.heap.objs.size,_,I.laid (t':=s.toks) kp (zc _) (show cj X.prog X.w _ d _ (.lst ys) from⟨i,c,g,f,e⟩),rfl,q _ (I.hok.fresh (zc _))⟩
 rcases j with j | j
 ·obtain⟨c,f,t,i⟩:=I.list j;have hlen:=f.length;obtain⟨o,x,y,n,hd⟩:=t.isList;exact call_list_seq p (.inl rfl) x y hd (λd g kp e=>m c f i d g kp e) (by simp only[zu]<;>omega)
 ·obtain⟨c,f,t,i⟩:=I.tuple j;have hlen:=f.length;obtain⟨o,x,y,n,hd⟩:=t;exact call_list_seq p (.inr rfl) x y hd (λd g kp e=>m c f i d g kp e) (by simp only[zu]<;>omega)
noncomputable def tyV(K:PySem.W.Frag)(T:String)(x:V)(H:Hp):Prop:=match x with
 | .str _=>T = "str"
 | .int _=>T = "int"
 | .ref p=>(T = "list"/\∃c,SqL K H p c)\/(T = "tuple"/\∃o,K.lookup p=some o/\o.cls=.type "tuple"/\o.dict=none) \/
   (T = "dict"/\((∃kvs,H p=some (.dK kvs))\/∃kvs,H p=some (.dT kvs)))\/(T = "set"/\∃S n,H p=some (.set S n))
 | _=>False
theorem sY  {σ:St}      (I:Inv X pins σ H s)(r:RelV x v)(ty:tyV X.K T x H):
  s.TypeIs v T/\∀a,v=.ref a->∃ob,s.heap.get? a=some ob/\ob.dict=none:=by
 cases x with
 |str z =>
  obtain⟨t,rfl⟩:=r;cases(show T = "str" from ty);exact⟨typeIs_str s z t,λ_ e=>nomatch e⟩
 |int i =>
  obtain⟨t,rfl⟩:=r;cases(show T = "int" from ty);exact⟨typeIs_int s i t,λ_ e=>nomatch e⟩
 |ref p =>
  cases r
  rcases ty with⟨rfl,m,h⟩ | ⟨rfl,o,d,j,hd⟩ | ⟨rfl,d⟩ | ⟨rfl,S,n,d⟩
  ·obtain⟨l,_,g,_⟩:=I.list h;refine⟨g.isList.typeIs,λa e=>?_⟩;cases e;obtain⟨o,n,e,c,hd,_⟩:=g;exact⟨o,e,hd⟩
  ·refine⟨⟨o,I.kIn p o d,j⟩,λa e=>?_⟩;cases e;exact⟨o,I.kIn _ o d,hd⟩
  ·have z:∃o,s.heap.get? p=some o/\o.ExactDict:=by
    rcases d with⟨kvs,d⟩ | ⟨kvs,d⟩
    ·obtain⟨_,_,_,_,o,_,_,e,ex,_⟩:=I.hok p _ d;exact⟨o,e,ex⟩
    ·obtain⟨_,_,_,_,o,_,_,e,ex,_⟩:=I.hok p _ d;exact⟨o,e,ex⟩
   obtain⟨o,e,ex⟩:=z;refine⟨⟨o,e,ex.1⟩,λa f=>?_⟩;cases f;exact⟨o,e,ex.2.1⟩
  ·obtain⟨o,_,_,_,e,ex,_⟩:=I.hok p _ d;refine⟨⟨o,e,ex.1⟩,λa f=>?_⟩;cases f;exact⟨o,e,ex.2.1⟩
 | _=>exact False.elim ty
noncomputable def QZ(K:PySem.W.Frag)(T:String)(r:V->List V->Hp->VK->Prop)(to:TE):TE:=λσ H Q=>to σ H λx c=>tyV K T x c/\r x [] c Q
noncomputable def tBM(K:PySem.W.Frag)(T:String)(r:V->List V->Hp->VK->Prop)(to:TE)(t:TA):TE:=λσ H Q=>to σ H λx c=>tyV K T x c/\t σ c λd f=>r x d f Q
variable {o e:Expr}{es:List Expr}{to:TE}{t:TA}{name:Str}{apos cpos:Pos}{T id:String}{r:V->List V->Hp->VK->Prop}
theorem Q0{apos cpos:Pos}{id:String}(g:PlainAttrs T)(slot:Slot T name id)(f:typeOf (.builtin id)=pure (.type "method_descriptor"))(j:MtR X id r)(i:PE X o to)
  (d:attributeBase o name X.env (eval o X.env)=eval o X.env:=by rfl) (c:(apos.endLine == cpos.line)=true:=by rfl):PE X (.Call (.Attribute o name apos) [] [] cpos) (QZ X.K T r to):=by
 intro pins s σ H Q I h;refine wpAny_Call_method0_late d c (thn (i pins s σ H _ I h) λv s1 ⟨x,H1,I1,r1,ty,q1⟩=>?_);obtain⟨h1,h2⟩:=sY I1 r1 ty;exact⟨T,id,g,slot,f,h1,h2,Calls.callWith_builtin rfl (PySem.evalArgs_none (j pins s1 σ H1 x [] v [] Q I1 r1 .nil q1))⟩
theorem nO(l:PlainAttrs T)(slot:Slot T name id)(i:typeOf (.builtin id)=pure (.type "method_descriptor"))(q:MtR X id r)(m:PE X o to)(u:PA X (e::es) t)
  (f:attributeBase o name X.env (eval o X.env)=eval o X.env:=by rfl)
  (g:((backTo cpos (starEach (e::es) X.env)).all (λx=>!x.1)&&(backToKw cpos (keywordEach [] X.env)).all (λx=>x.1.isSome)
   && decide ((e::es).length+([]:List Keyword).length+(if([]:List Keyword).isEmpty then 0 else 1)<30))=true:=by rfl)
  (d:(apos.endLine == cpos.line)=true:=by rfl) (hs:starEach (e::es) X.env=(false,eval e X.env)::starEach es X.env:=by rfl) (c:(backTo cpos (starEach es X.env)).any (·.1)=false:=by rfl):
  PE X (.Call (.Attribute o name apos) (e::es) [] cpos) (tBM X.K T r to t):=by
 intro pins s σ H Q I h;refine wpAny_Call_method_late f g d rfl (thn (m pins s σ H _ I h) λv s1 ⟨x,H1,I1,r1,ty,q1⟩=>?_);obtain⟨h1,h2⟩:=sY I1 r1 ty;refine⟨T,id,l,slot,i,h1,h2,?_⟩;have j:=u cpos pins s1 σ H1 _ I1 q1;rw[hs] at j ⊢;refine Calls.callWith_builtin (by show(false || (backTo cpos (starEach es X.env)).any (·.1))=false;rw[c]<;>rfl) (Calls.evalArgs_plain ?_)
 exact thn j λus s2 ⟨vs,H2,I2,r2,q2⟩=>q pins s2 σ H2 x vs v us Q I2 r1 r2 q2
/- xs.append(e),list.index on a module's tuple .. are MtR facts of 06m -/
end
noncomputable def MtM(X:Cx)(c:String)(r:V->List V->Hp->VK->Prop):Prop :=
 ∀(pins:List (Addr×Obj)) (s:Shared) (σ:St) (H:Hp) (x:V) (a:List V) (v:Value) (b:List Value) (Q:VK),Inv X pins σ H s->RelV x v->aL a b->r x a H Q ->
  wpAny (model X.prog X.w) X.A (call (.builtin c) (v::b)) (EP X pins σ Q) X.xe s
theorem aL.one:∀{x:V}{us:List Value},aL [x] us->∃u,us=[u]/\RelV x u
 | _,_,.cons r .nil=>⟨_,rfl,r⟩
theorem aL.zero:∀{us:List Value},aL [] us->us=[]
 | _,.nil=>rfl
theorem aL.reverse   (h:aL xs us):aL xs.reverse us.reverse:=by
 induction h with
 |nil=>exact .nil
 |cons r t a=>rw[List.reverse_cons,List.reverse_cons];exact aL.append a (.cons r .nil)
theorem aL.rep   (h:aL xs us):∀k:Nat,aL (List.replicate k xs).flatten (List.replicate k us).flatten
 | 0=>.nil
 |k+1=>by
  rw[List.replicate_succ,List.replicate_succ,List.flatten_cons,List.flatten_cons];exact aL.append h (aL.rep h k)
theorem foldl_rep(a:List Value):∀(k:Nat) (acc:List Value),
  List.foldl (λc b=>c++b) acc.toArray (List.replicate k a.toArray)=(acc++(List.replicate k a).flatten).toArray
 | 0,acc=>by simp
 |k+1,acc=>by
  have e:acc.toArray++a.toArray=(acc++a).toArray:=by simp
  have d:(acc++a)++(List.replicate k a).flatten=acc++(List.replicate (k+1) a).flatten:=by
   rw[List.replicate_succ,List.flatten_cons,zD]
  rw[<-d,<-foldl_rep a k (acc++a),<-e,List.replicate_succ,List.foldl_cons]
theorem Inv.lset{σ:St}{a:List Value}    (I:Inv X pins σ H s)(h:H l=some (.lst xs))
  (e:s.heap.get? l=some {cls:=.type "list",data:=.seq a.toArray n}) (d:f a.toArray=its'.toArray) (hv:aL ys its') (b:ys.length<=sizeLine):
  Inv X pins σ (upd H l (.lst ys)) {s with heap:=s.heap.update l (Obj.mapSeq f),toks:=t'}:=by
 have q:=PySem.IsL.update e f;rw[d] at q;refine I.write (x:=l) (e:=l) (by rw[h];exact trivial) (.inl rfl) (λi u g c=>(Heap.get?_update_other s.heap (Obj.mapSeq f) (Ne.symm g)).trans c) ⟨_,q⟩ ?_;exact⟨b,its',_,hv,q⟩
theorem Inv.lnew{σ:St}   (I:Inv X pins σ H s)(hv:aL ys its)(a:ys.length<=sizeLine):
  Inv X pins σ (upd H s.heap.objs.size (.lst ys)) {s with heap:=s.heap.push {cls:=.type "list",data:=.seq its.toArray},toks:=t'}:=
 I.laid (λ_ _ q=>zl _ q) (zc _) ⟨a,its,0,hv,zO _ rfl⟩
theorem Inv.fresh{σ:St}(I:Inv X pins σ H s):H s.heap.objs.size=none:=I.hok.fresh (zc _)
theorem Inv.lstM{σ:St}(I:Inv X pins σ H s)(b:H l=some (.lst xs)):xs.length<=sizeLine/\∃(a:List Value) (n:Nat),aL xs a/\xs.length=a.length/\s.heap.get? l=some {cls:=.type "list",data:=.seq a.toArray n}:=by
 obtain⟨z,a,n,r,e⟩:=I.hok l _ b;exact⟨z,a,n,r,r.length,e⟩
theorem Ed  (h:n<=sizeLine):Builtin.List.listTooLong n=false:=by
 unfold Builtin.List.listTooLong;exact zo (by omega)
noncomputable def Q3:V->List V->Hp->VK->Prop:=λx b H Q=>∃l a y,x=.ref l/\b=[y]/\H l=some (.lst a)/\a.length<sizeLine/\Q .non (upd H l (.lst (a++[y])))
theorem Ef:MtM X "list.append" Q3:=by
 intro pins s σ H x i v j Q I c d h;obtain⟨l,g,y,rfl,rfl,b,m,q⟩:=h;cases c;obtain⟨u,rfl,f⟩:=d.one;obtain⟨z,a,n,r,t,e⟩:=I.lstM b;refine call_meets F.slot_list_append ⟨_,e,rfl⟩ F.entry_list_append (F.args_list_append_2 _ _) (PySem.list_append l a.toArray n u (by rw[zu];omega)) ⟨e,?_⟩;refine⟨.non,_,I.lset (its':=a++[u]) b e (by simp) (r.append (.cons f .nil)) ?_,rfl,q⟩;rw[zf,zB];omega
noncomputable def Q4:V->List V->Hp->VK->Prop:=λx b H Q=>∃l a,x=.ref l/\b=[]/\H l=some (.lst a)/\Q .non (upd H l (.lst a.reverse))
theorem Q5:MtM X "list.reverse" Q4:=by
 intro pins s σ H x i v j Q I d f h;obtain⟨l,g,rfl,rfl,c,q⟩:=h;cases d;have b:=f.zero;subst b;obtain⟨z,a,n,r,m,e⟩:=I.lstM c;refine call_meets F.slot_list_reverse ⟨_,e,rfl⟩ F.entry_list_reverse (F.args_list_reverse_1 _) (AutoSeq1.list_reverse_list_0 l a.toArray n (by rw[zu];omega)) ⟨e,?_⟩;refine⟨.non,_,I.lset (its':=a.reverse) c e (by simp) r.reverse ?_,rfl,q⟩;rw[List.length_reverse];omega
theorem len_rep{α:Type}(xs:List α)(k:Nat):(List.replicate k xs).flatten.length=k * xs.length:=by
 induction k with
 |zero=>simp
 |succ k a=>rw[List.replicate_succ,List.flatten_cons,zf,a,Nat.succ_mul,Nat.add_comm]
end L2
namespace Att
open PySem PySem.W PySem.Calls PyProof.Rows
theorem Q6  :∀(ns:List Int) (vs:List Value),WellAll P h vs (ns.map WData.int)->IntsAre vs ns:=by
 intro ns
 induction ns with
 |nil =>
  intro vs w;rw[zV] at w;cases w;exact .nil
 |cons n ns ih =>
  intro vs w;rw[zd] at w
  cases w with
  |cons a b =>
   cases a;exact .cons _ _ (ih _ b)
theorem Q7{l:OpenLaw}  (t:l.most=some n)
  (b:l.row.toRowW.claim.pre args=true) (g:WellAll P h vals args):
  ∃a vs ns,vals=[Value.ref a]/\args=[WData.list (ns.map WData.int)]/\h.get? a=some {cls:=.type "list",data:=.seq vs.toArray}/\IntsAre vs ns/\ns.length<=n:=by
 have i:WShape.hasAll [] args [.list .int]=true:=(pre_splitW b).1;have j:l.pre.holds [] {args:=args}=true:=(pre_splitW b).2;obtain⟨d,r,rfl,h1,h2⟩:=hasAllW_cons i;obtain rfl:=hasAllW_nil h2;obtain⟨u,rfl,h3⟩:=hasW_list h1;obtain⟨ns,rfl⟩:=items_int h3
 have hlen:ns.length<=n:=by
  unfold OpenLaw.pre at j
  have h4:(WTm.not (.lt (.lit (.int (n:Int))) (.len (.arg 0)))).holds [] {args:=[.list (ns.map .int)]}=true:=by
   have h4:=(holds_andW j).1;rw[t] at h4;exact h4
  have f:=condW_of h4 (w_not (w_lt w_lit (w_len_list (w_arg rfl))));rw[zx] at f
  refine Nat.le_of_not_lt λq=>?_
  have q':(n:Int)<((ns.length:Nat):Int):=by omega
  first
   | (rw[zF q'] at f;exact absurd f (by decide))
   | (simp at f;omega)
 cases g with
 |cons w1 w2 =>
  cases w2
  cases w1 with
  |list m c=>exact⟨_,_,ns,rfl,rfl,m,Q6 ns _ c,hlen⟩
theorem Q8(l:OpenLaw)(args:List WData):l.row.toRowW.claim.post args (.bool true) args=true :=
 postW_of (r:=l.row.toRowW) (X:=(true == true))
  (show WShape.has [] (.bool true) .bool=true by first | rfl | decide | simp[WShape.has,WShape.arms,WShape.armsAll])
  (show(WTm.eq .res (.lit (.bool true))).value [] {args:=args,res:=some (.bool true),after:=args}=some (.bool (true == true)) from w_eq_bool (w_res rfl) w_lit) rfl
theorem attach_call{l:OpenLaw}
  (E:l.most=some n) (t:d.params.defaults=[])
  (call:∀(w:World) (s₀ b:Shared) (mg mb:Str->Option Value) (fa:Addr) (o:Obj) (pm i c:Value) (a:Addr) (vs:List Value) (ns:List Int),
   Ground q loose [] XP w s₀ mg mb b.heap->YP w b.heap ->
   b.heap.get? fa=some o->o.data=.func (docDef d.name d.params d.body d.scope pm i c)->b.heap.CodeRec i d.name->mg d.name=some (.ref fa) ->
   b.heap.get? a=some {cls:=.type "list",data:=.seq vs.toArray}->IntsAre vs ns->ns.length<=n->b.gens = #[] ->
   codeAny (model l.prog w) callerA (.call (.ref fa) ⟨[.ref a],[]⟩) (λr s'=>r=.ok (.ret (.bool true))/\OldK b.heap s'.heap/\s'.os=b.os/\AllBare s'.gens) b):
  WalkO q loose XP YP l.row.toRowW d [] (λf vs=>PySem.call f vs):=by
 intro w s₀ b mg mb G Y fa o pm i c I kV C hd u hD m H args vals O g x J j L;obtain rfl:I=.none:=Dflts.none hD t;obtain rfl:kV=.none:=Dflts.noKw hD;obtain⟨a,vs,ns,rfl,rfl,h,hints,hlen⟩:=Q7 E g j;refine enter_call (codeAny_mono (call w s₀ b mg mb fa o pm i c a vs ns G Y C (fd_plain hd) u m h hints hlen H) λr s' y=>?_);obtain⟨rfl,h2,h3,h4⟩:=y;exact⟨.inl ⟨.bool true,.bool true,[],rfl,λ_=>rfl,.bool true,Q8 l _,λ_=>⟨List.Pairwise.nil,λ_ F=>(nomatch F)⟩⟩,h2,h3,h4⟩
end Att
namespace L2
open PySem PySem.Spec PyProof.Rows
theorem v8:∀{vs:List Value}{ns:List Int},IntsAre vs ns->aL (ns.map V.int) vs
 | _,_,.nil=>.nil
 | _,_,.cons n t h=>.cons ⟨t,rfl⟩ (v8 h)
noncomputable def lM(H:Hp):Prop:=∀b,H b=none\/∃o a,H b=some (.frz o (.lst a))
theorem Q9   {K:PySem.W.Frag}
  (Z:K.In s₁.heap) (l:s₁.heap.Ns mainGlobals mg) (hb:s₁.heap.Ns builtinsNs mb) (L:∀x:Str,x≠"__name__"->mb x=bootBuiltins x) (E:s₁.heap.NoLimit) (hg:s₁.gens = #[])
  (G:s₁.heap.get? a=some {cls:=.type "list",data:=.seq vs.toArray}) (T:IntsAre vs ns) (R:ns.length<=sizeLine) (hr:aP k callerA)
  (F:∀base:Heap,K.In base->base.Ns mainGlobals mg->cH P w K mg base CX k fa fd [x] sp) (g:∀(s:Shared) (u:Value),BindsTo s fd ⟨[u],[]⟩ [(x,u)])
  (J:∀H:Hp,lM H->SqL K H a (ns.map V.int)->sp [.ref a] H (λv _=>v=.bl true) λ_ _ _=>False)
  (O:∀H e s',CX [] H s₁ (λ_ _ _=>False) e s'->False):
  codeAny (model P w) callerA (.call (.ref fa) ⟨[.ref a],[]⟩) (λr s'=>r=.ok (.ret (.bool true))/\OldK s₁.heap s'.heap/\s'.os=s₁.os/\AllBare s'.gens) s₁:=by
 have Q:=v8 T;have y:=T.length;have core:∀H:Hp,lM H->SqL K H a (ns.map V.int)->HOk P w H s₁.heap->(∀b,H b≠none->b=a)->(H a≠none->K.lookup a=none) ->
   codeAny (model P w) callerA (.call (.ref fa) ⟨[.ref a],[]⟩) (λr s'=>r=.ok (.ret (.bool true))/\OldK s₁.heap s'.heap/\s'.os=s₁.os/\AllBare s'.gens) s₁:=by
  intro H U hS hok X hK
  have c:∀{b:Addr}{o:Obj},s₁.heap.get? b=some o->H b=none->(fK s₁.heap H).get? b=some o:=λe n=>Ck e n
  have I:∀{b:Addr}{o:Obj}{i:Array DictEntry}{j:Nat},s₁.heap.get? b=some o->o.data=.dict i j->H b=none:=λ{b o i j} e d=>by
   cases q:H b with
   |none=>rfl
   |some u =>
    have e':b=a:=X b (by rw[q];simp);subst e';rw[G] at e;cases e;have d':Data.seq vs.toArray _=Data.dict i j:=d;cases d'
  have f:∀{b:Addr}{m:Str->Option Value},s₁.heap.Ns b m->(fK s₁.heap H).Ns b m:=λ{b m} ⟨o,i,j,e,d,r⟩=>⟨o,i,j,c e (I e d),d,r⟩
  have t:K.In (fK s₁.heap H):=λb o e=>c (Z b o e) (by
   cases q:H b with
   |none=>rfl
   |some u =>
    have e':b=a:=X b (by rw[q];simp);subst e'
    rw[hK (by rw[q];simp)] at e;cases e)
  have hM:Mod K mg (fK s₁.heap H):=⟨t,f l,⟨mb,f hb,L⟩,let ⟨mc,h1,h2⟩:=E;⟨mc,f h1,h2⟩⟩;have e0:iQ P w K mg (fK s₁.heap H) callerA [] s₁ H:=⟨rfl,hM,λb o e=>Cm e,Nat.le_of_eq (Cj _ _),trivial,λb hb=>absurd (show b∈([]:List Addr) from hb) (by simp),hok,.of_eq hg⟩
  refine codeAny_mono ((F _ t (f l)).run callerA [] s₁ H ⟨[.ref a],[]⟩ [.ref a] [.ref a] _ _ hr e0 (g s₁ (.ref a)) (.cons rfl .nil) (J H U hS)) λr s' h=>?_
  cases r with
  |error e=>exact(O H e s' h).elim
  |ok fl =>
   cases fl with
   |next=>exact False.elim h
   |brk=>exact False.elim h
   |cont=>exact False.elim h
   |ret u =>
    obtain⟨v,H',os,bare,un,C,r',q⟩:=h;have q':v=.bl true:=q;subst q';obtain rfl:u=Value.bool true:=r';refine⟨rfl,OldK.of_keep λb o e=>?_,os,bare⟩
    cases q:H b with
    |none=>exact un.keep b o e q (by intro z;exact absurd (show b∈([]:List Addr) from z) (by simp)) (by simp)
    |some u =>
     rcases U b with z | ⟨ob,xs,z⟩
     ·rw[q] at z;cases z
     ·have z2:=un.frzs b ob _ z;obtain⟨Y,_⟩:=hok b _ z;obtain⟨e2,_⟩:=C b _ z2;rw[e] at Y;cases Y;exact e2
 cases hk:K.lookup a with
 |some o =>
  have e:=Z a o hk;rw[G] at e;cases e
  refine core (λ_=>none) (λ_=>.inl rfl) (.inr ⟨_,vs.toArray,_,hk,rfl,rfl,rfl,by rw[zu,y];exact R,by simpa using Q⟩) (λb u z=>by have z':(none:Option HO)=some u:=z;cases z') (λb z=>absurd rfl z) λz=>absurd rfl z
 |none =>
  refine core (λb=>if b=a then some (.frz {cls:=.type "list",data:=.seq vs.toArray} (.lst (ns.map V.int))) else none) (λb=>?_) (.inl (.inr ⟨{cls:=.type "list",data:=.seq vs.toArray},if_pos rfl⟩)) (λb u z=>?_) (λb z=>?_) λ_=>hk
  ·by_cases hb:b=a
   ·exact .inr ⟨_,_,if_pos hb⟩
   ·exact .inl (if_neg hb)
  ·by_cases hb:b=a
   ·have z':=(if_pos hb).symm.trans z;cases z';subst hb;exact⟨G,by rw[zx];exact R,vs,_,Q,G⟩
   ·have z':=(if_neg hb).symm.trans z;cases z'
  ·by_cases hb:b=a
   ·exact hb
   ·exact absurd (if_neg hb) z
abbrev KOf{K:PySem.W.Frag}{h:Heap}(_:K.In h):PySem.W.Frag:=K
theorem walk_of{l:PySem.W.OpenLaw}       {K:Params->PySem.W.Frag}{CX:World->CXT}{sp:World->Sp}
  (hn:l.most=some n) (hn2:n<=sizeLine) (hdf:d.params.defaults=[]) (hr:aP k callerA)
  (hY:∀(w:World) (h:Heap),YP w h->(K w.params).In h)
  (F:∀(w:World) (mg:Str->Option Value) (fa:Addr) (h:Heap),(K w.params).In h->h.Ns mainGlobals mg->mg d.name=some (.ref fa) ->
   ∃fd:FuncData,(∀(s:Shared) (u:Value),BindsTo s fd ⟨[u],[]⟩ [(x,u)]) /\
    ∀base:Heap,(K w.params).In base->base.Ns mainGlobals mg->cH l.prog w (K w.params) mg base (CX w) k fa fd [x] (sp w))
  (hsp:∀(w:World) (H:Hp) (a:Addr) (ns:List Int),ns.length<=n->lM H->SqL (K w.params) H a (ns.map V.int)->sp w [.ref a] H (λv _=>v=.bl true) λ_ _ _=>False)
  (hCX:∀(w:World) (H:Hp) (s:Shared) (e:Value) (s':Shared),CX w [] H s (λ_ _ _=>False) e s'->False):
  PySem.W.WalkO q loose XP YP l.row.toRowW d [] (λf vs=>PySem.call f vs):=by
 refine Att.attach_call hn hdf λw s₀ s₁ mg mb fa o pm cd doc a vs ns G Y ho hd hcd hmg hobj hints hlen hg=>?_
 have KX:=hY w _ Y;obtain⟨fd,hb,hF⟩:=F w mg fa _ KX G.T.g hmg
 exact Q9 KX G.T.g G.T.b G.T.builtins G.T.nolimit hg hobj hints (zE hlen hn2) hr hF hb (λH hO hS=>hsp w H a ns hlen hO hS) λH e s'=>hCX w H s₁ e s'
end L2
/- THE LAST THEOREM (shape;LID,My.* are yours):
   My.Adr: a structure of the addresses that your layer names (classes,functions);My.Txt K t: a structure (Prop) of the equations over K;
   My.txt_mk:{K}{implicit addresses ..} (e1:nsIn K mainGlobals "law" = some (some (.ref f))) (e2:K.lookup f=some ⟨oc,od,.func (fnOf "law" "law" params body scope dV kV doc pm an cdv ct),sl⟩) (e3:codeIn K cdv "law" = true) ..:∃t,My.Txt K t
set_option maxRecDepth 100000 in
set_option maxHeartbeats 0 in
theorem PySem.Challenge.cw_LID_holds : PySem.Challenge.rw_LID.Holds := by
 w_on;o_law;k_head;(case hw=>w_witness2)
 k_fill
 refine L2.walk_of (l:=PySem.Challenge.rw_LID) (n:=63) (k:=40) (x:="script") (CX:=λw=>..) (sp:=λ_=>My.sp_law) rfl (by decide) rfl ⟨rfl,by decide,by decide⟩ (λw h Y=>PySem.W.kIn_of Y) ?F ?S ?C
 case F =>
  intro w mg fa h KX G hmg
  have T:∃t,My.Txt (L2.KOf KX) t:=by
   dsimp only[L2.KOf]                          -- K must stand as «<heap const> w.params» for k_is
   refine' My.txt_mk ?e1 ?e2 ?e3 ..
   (case e1=>PySem.W.k_is)                    -- in the order: a name -> its address -> its object -> its parts
   (case e2=>PySem.W.k_is)
   ..
  obtain⟨t,T⟩:=T;have e0:=hmg.symm.trans (PySem.W.mg_of KX G T.law);cases e0                                       -- fa is the law's own address
  exact⟨_,λs u=>.of_eq rfl,λbase kb nb=>My.law_fn T kb nb⟩     -- if «.of_eq rfl» comes too early: refine'⟨_,?b,λbase kb nb=>My.law_fn T kb nb⟩;exact λs u=>.of_eq rfl
 case S=>exact λw H a ns hl hO hS=>..
 case C=>exact ..
(the tactic k_is has no namespace: write k_is) -/
namespace L2
open PySem PySem.Spec PyProof.Rows
noncomputable def inClass(s:Stmt)(j:Nat):Stmt:=match s with
 | .ClassDef _ _ _ body _ _ _ _ _ _ _=>body.getD j (.Pass ⟨0,0,0,0⟩)
 | _=>.Pass ⟨0,0,0,0⟩
noncomputable def dh(s:Stmt):Arguments:=match s with
 | .FunctionDef _ a _ _ _ _ _ _ _ _=>a
 | _=>{posonlyargs:=[],args:=[],vararg:=none,kwonlyargs:=[],kw_defaults:=[],kwarg:=none,defaults:=[]}
noncomputable def bJ(s:Stmt):List Stmt:=match s with
 | .FunctionDef _ _ b _ _ _ _ _ _ _=>b
 | _=>[]
noncomputable def aJ(s:Stmt):Scope:=match s with
 | .FunctionDef _ _ _ _ _ _ sc _ _ _=>sc
 | _=>{kind:=.function,names:=[],isGenerator:=false,isCoroutine:=false}
abbrev CX0:CXT:=λ_ _ _ _ _ _=>False
abbrev E0:XK:=λ_ _ _=>False
theorem qt :jB CX0 X E0:=λ_ _ _ _ _ _ _ h=>h.elim
structure Fun(K:PySem.W.Frag)(x qual:Str)(st:Stmt)(f:Addr)(fd:FuncData):Prop where
 ex:∃(oc:Value) (od:Option Addr) (kV doc pm:Value) (an:Option Addr) (cdv ct:Value) (osl:Array (Option Value)),
  fd=PySem.W.fnOf x qual (dh st) (bJ st) (aJ st) .none kV doc pm an cdv ct/\K.lookup f=some ⟨oc,od,.func fd,osl⟩/\PySem.W.codeIn K cdv qual=true
 kp:PySem.W.keepIn K (.ref f)=true
theorem Fun.ok{K:PySem.W.Frag}  {st:Stmt}      (F:Fun K x qual st f fd)(S:bc N ps (aJ st))(len:∀vs H Q E,sp vs H Q E->vs.length=ps.length)
  (b:∀(a:Value) (A:Around) (outer:List Env) (s:Shared) (H:Hp) (vs:List V) (Q:VK) (E:XK),aP k (A.deeper (envOfC qual (aJ st) s.heap.objs.size f a))->sp vs H Q E ->
   ∃t,PSs (cY CX0 P w K mg base N qual (aJ st) f a A outer s H E).nox (bJ st) t/\t {nx:=λ_ i=>Q .non i,rt:=Q} (start N vs) H):cH P w K mg base CX0 (k+1) f fd ps sp:=by
 obtain⟨u,r,kV,l,m,y,a,ct,j,rfl,lk,d⟩:=F.ex
 refine sV lk d S len λA outer s H vs Q E g c=>?_
 obtain⟨t,h,q⟩:=b a A outer s H vs Q E g c;exact⟨t,h.nox,q⟩
theorem Fun.binds{K:PySem.W.Frag}  {st:Stmt}    (F:Fun K x qual st f fd)
  (h:∀(kV a pm:Value) (c:Option Addr) (b ct:Value) (us:List Value),us.length=ps.length->bindArgs (PySem.W.fnOf x qual (dh st) (bJ st) (aJ st) .none kV a pm c b ct) ⟨us,[]⟩=pure (ps.zip us)):Binds K fd ps []:=by
 obtain⟨j,i,kV,a,pm,c,b,ct,d,rfl,lk,g⟩:=F.ex;exact .all (h kV a pm c b ct)
theorem qw{K:PySem.W.Frag}  {st:Stmt}     {kV:Value}(l:K.lookup f=some ⟨oc,od,.func (PySem.W.fnOf x qual (dh st) (bJ st) (aJ st) .none kV doc pm an cdv ct),osl⟩)
  (c:PySem.W.codeIn K cdv qual=true) (k:PySem.W.keepIn K (.ref f)=true):Fun K x qual st f (PySem.W.fnOf x qual (dh st) (bJ st) (aJ st) .none kV doc pm an cdv ct):=⟨⟨oc,od,kV,doc,pm,an,cdv,ct,osl,rfl,l,c⟩,k⟩
theorem v9   (a:aP k A):A.units+1<cLine:=Nat.lt_of_le_of_lt (Nat.add_le_add_left (by decide:1<=64) _) a.units
noncomputable def Same(H a:Hp):Prop:=∀b o,H b=some o->a b=some o
theorem Same.refl(H:Hp):Same H H:=λ_ _ h=>h
theorem Same.trans  (a:Same H H1)(b:Same H1 H2):Same H H2:=λc o h=>b c o (a c o h)
theorem Same.seq{K:PySem.W.Frag}    (e:Same H H')(h:SqL K H a xs):SqL K H' a xs:=by
 rcases h with(h | ⟨o,h⟩) | h
 ·exact .inl (.inl (e _ _ h))
 ·exact .inl (.inr ⟨o,e _ _ h⟩)
 ·exact .inr h
section
variable {κ:Type}[DecidableEq κ]
noncomputable def cI(kvs:List (κ×V))(k:κ):Option V:=(kvs.find? λa=>decide (a.1=k)).map (·.2)
noncomputable def putK(kvs:List (κ×V))(k:κ)(v:V):List (κ×V):=
 if(kvs.any λa=>decide (a.1=k))=true then kvs.map (λa=>if a.1=k then(a.1,v) else a) else kvs++[(k,v)]
theorem sZ{p:κ×V}{r:List (κ×V)}{k:κ}(e:p.1=k):cI (p::r) k=some p.2:=by simp[cI,List.find?_cons,e]
theorem tu{p:κ×V}{r:List (κ×V)}{k:κ}(e:¬p.1=k):cI (p::r) k=cI r k:=by simp[cI,List.find?_cons,e]
theorem wg(k:κ):∀kvs:List (κ×V),(kvs.any λa=>decide (a.1=k))=(cI kvs k).isSome
 | []=>rfl
 |p::r=>by
  rw[List.any_cons]
  by_cases e:p.1=k
  ·simp only[sZ e,zF e,Bool.true_or,Option.isSome_some]
  ·rw[tu e,zo e,Bool.false_or];exact wg k r
theorem wj(kvs:List (κ×V))(k:κ)(v:V):(putK kvs k v).length<=kvs.length+1:=by
 unfold putK
 split
 ·rw[zx];omega
 ·rw[zf,zt,zJ];omega
theorem Ra{kvs:List (κ×V)}{k:κ}(v:V)(h:cI kvs k=none):putK kvs k v=kvs++[(k,v)]:=by
 unfold putK;rw[wg,h];exact if_neg (by decide)
theorem dC.isSome_eq{o:Option V}{u:Option Value}(r:dC o u):o.isSome=u.isSome:=by
 cases o with
 |none=>cases u with
  |none=>rfl
  |some _=>exact(show False from r).elim
 |some _=>cases u with
  |none=>exact(show False from r).elim
  |some _=>rfl
theorem KV.val{kvs:List (κ×V)}{vs:List (κ×Value)}(r:KV kvs vs)(k:κ):dC (cI kvs k) (valueAt vs k):=by
 unfold KV at r
 induction r with
 |nil=>exact True.intro
 | @cons p q ps qs h t ih =>
  obtain⟨h1,h2⟩:=h
  by_cases e:p.1=k
  ·have e':q.1=k:=h1.symm.trans e
   have b:valueAt (q::qs) k=some q.2:=by simp[valueAt,List.find?_cons,e']
   rw[sZ e,b];exact h2
  ·have e':¬q.1=k:=λz=>e (h1.trans z)
   have b:valueAt (q::qs) k=valueAt qs k:=by simp[valueAt,List.find?_cons,e']
   rw[tu e,b];exact ih
theorem KV.any{kvs:List (κ×V)}{vs:List (κ×Value)}(r:KV kvs vs)(k:κ):(kvs.any λa=>decide (a.1=k))=vs.any λa=>decide (a.1=k):=by
 unfold KV at r
 induction r with
 |nil=>rfl
 |cons h t b=>rw[List.any_cons,List.any_cons,b,h.1]
theorem KV.repl{kvs:List (κ×V)}{vs:List (κ×Value)}(r:KV kvs vs)(k:κ){y:V}{u:Value}(b:RelV y u):
  KV (kvs.map λa=>if a.1=k then(a.1,y) else a) (vs.map λa=>if a.1=k then(a.1,u) else a):=by
 unfold KV at r ⊢
 induction r with
 |nil=>exact .nil
 | @cons p q ps qs h t ih =>
  rw[zd,zd];refine .cons ?_ ih;obtain⟨h1,h2⟩:=h
  by_cases e:p.1=k
  ·rw[if_pos e,if_pos (h1.symm.trans e)];exact⟨h1,b⟩
  ·rw[if_neg e,if_neg (λz=>e (h1.trans z))];exact⟨h1,h2⟩
theorem KV.put{kvs:List (κ×V)}{vs:List (κ×Value)}(r:KV kvs vs)(k:κ){y:V}{u:Value}(a:RelV y u):KV (putK kvs k y) (stored vs k u):=by
 unfold putK stored;rw[r.any k]
 by_cases e:(vs.any λb=>decide (b.1=k))=true
 ·rw[if_pos e,if_pos e];exact r.repl k a
 ·rw[if_neg e,if_neg e];exact Paired.snoc r ⟨rfl,a⟩
theorem KV.length{kvs:List (κ×V)}{vs:List (κ×Value)}(r:KV kvs vs):kvs.length=vs.length:=Paired.length r
end
theorem qx     (r:RelV (kV k) u):(cD P w).is k u=true:=by
 cases k with
 |inl i=>obtain⟨t,e⟩:=(show ∃t,u=Value.int i t from r);subst e;exact Mv P w i t
 |inr x=>obtain⟨t,e⟩:=(show ∃t,u=Value.str x t from r);subst e;exact Mw P w x t
theorem Eg  :∀{a:List Key}{us:List Value},aL (a.map kV) us->ItemsAre (cD P w) a us
 | [],_,r=>by rw[zV] at r;cases r;exact .nil
 |k::a,_,r=>by
  rw[zd] at r
  cases r with
  |cons h t=>exact .cons (qx h) (Eg t)
abbrev KT(H:Hp):List (List Key×V)->List (List Key×Addr×Value)->Prop:=Paired λp q=>p.1=q.1/\H q.2.1=some (.tup (p.1.map kV))/\RelV p.2 q.2.2
theorem KT.val    (r:KT H kvs xs)(k:List Key):dC (cI kvs k) ((atKey xs k).map (·.2)):=by
 induction r with
 |nil=>exact True.intro
 | @cons p q ps qs h t ih =>
  obtain⟨h1,_,h2⟩:=h
  by_cases e:p.1=k
  ·have e':q.1=k:=h1.symm.trans e
   have b:atKey (q::qs) k=some q.2:=by simp[atKey,List.find?_cons,e']
   rw[sZ e,b];exact h2
  ·have e':¬q.1=k:=λz=>e (h1.trans z)
   have b:atKey (q::qs) k=atKey qs k:=by simp[atKey,List.find?_cons,e']
   rw[tu e,b];exact ih
theorem KT.repl    (r:KT H kvs xs)(k:List Key)   (b:RelV y u):
  KT H (kvs.map λa=>if a.1=k then(a.1,y) else a) (xs.map (putAt k u)):=by
 induction r with
 |nil=>exact .nil
 | @cons p q ps qs h t ih =>
  rw[zd,zd];refine .cons ?_ ih;obtain⟨h1,h2,h3⟩:=h;unfold putAt
  by_cases e:p.1=k
  ·rw[if_pos e,if_pos (h1.symm.trans e)];exact⟨h1,h2,b⟩
  ·rw[if_neg e,if_neg (λz=>e (h1.trans z))];exact⟨h1,h2,h3⟩
theorem KT.put    (r:KT H kvs xs)(k:List Key)    (hb:H b=some (.tup (k.map kV)))(a:RelV y u):
  KT H (putK kvs k y) (storedH xs k b u):=by
 have e:(kvs.any λc=>decide (c.1=k))=(atKey xs k).isSome:=by
  rw[wg,(r.val k).isSome_eq,Option.isSome_map]
 unfold putK storedH;rw[e]
 by_cases q:(atKey xs k).isSome=true
 ·rw[if_pos q,if_pos q];exact r.repl k a
 ·rw[if_neg q,if_neg q];exact Paired.snoc r ⟨rfl,hb,a⟩
theorem KT.keeps    (r:KT H kvs xs)(a:∀b ys,H b=some (.tup ys)->H' b=some (.tup ys)):KT H' kvs xs :=
 Paired.mapP r λ_ _ z=>⟨z.1,a _ _ z.2.1,z.2.2⟩
theorem Eh  (ok:HOk P w H h)(e:Rd H a u):cj P w H h a u:=e.ok ok
theorem wk  (ok:HOk P w H h)(e:Rd H a (.dK kvs)):kvs.length<=sizeLine/\(a == sysModules)=false/\∃vs,KV kvs vs/\h.DictOf (cD P w) a vs :=
 show cj P w H h a (.dK kvs) from Eh ok e
theorem nP  (ok:HOk P w H h)(e:H a=some (.dK kvs)):kvs.length<=sizeLine/\(a == sysModules)=false/\∃vs,KV kvs vs/\h.DictOf (cD P w) a vs:=wk ok (.inl e)
theorem wu  (ok:HOk P w H h)(e:H a=some (.tup (ks.map kV))):(tupleKind (cD P w)).is h ks a:=by
 obtain⟨_,b,r,o,h1,h2,n,h3⟩:=(show cj P w H h a (.tup (ks.map kV)) from ok a _ e);exact⟨o,b.toArray,n,h1,h2,h3,by simpa using Eg r⟩
theorem wy  (ok:HOk P w H h)(e:Rd H a (.dT kvs)):kvs.length<=sizeLine/\(a == sysModules)=false /\
  ∃xs,KT H kvs xs/\h.DictOfH (tupleKind (cD P w)) a xs:=by
 obtain⟨z,y,xs,r,o,d,f,h1,h2,h3,h4,c⟩:=(show cj P w H h a (.dT kvs) from Eh ok e);refine⟨z,y,xs,r,o,d,f,h1,h2,h3,h4,λx b=>?_,c⟩
 have all:∀{l:List (List Key×V)}{m:List (List Key×Addr×Value)},KT H l m->∀x∈m,(tupleKind (cD P w)).is h x.1 x.2.1:=by
  intro l m q
  induction q with
  |nil=>intro x b;exact nomatch b
  | @cons p q ps qs hq t ih =>
   intro x b
   rcases zh.mp b with e | b
   ·subst e;exact wu ok (by rw[<-hq.1];exact hq.2.1)
   ·exact ih x b
 exact all r x b
theorem Rb  (ok:HOk P w H h)(e:H a=some (.dT kvs)):kvs.length<=sizeLine/\(a == sysModules)=false /\
  ∃xs,KT H kvs xs/\h.DictOfH (tupleKind (cD P w)) a xs:=wy ok (.inl e)
noncomputable def lN(H:Hp)(a:Addr)(y:V)(r:Option V):Prop :=
 (∃kvs k,Rd H a (.dK kvs)/\y=kV k/\r=cI kvs k)\/∃kvs k b,Rd H a (.dT kvs)/\y=.ref b/\H b=some (.tup (k.map kV))/\r=cI kvs k
noncomputable def qy(H:Hp)(a:Addr)(y v:V)(c:Hp):Prop :=
 (∃kvs k,H a=some (.dK kvs)/\y=kV k/\kvs.length<sizeLine/\c=upd H a (.dK (putK kvs k v))) \/
 ∃kvs k b,H a=some (.dT kvs)/\y=.ref b/\H b=some (.tup (k.map kV))/\kvs.length<sizeLine/\c=upd H a (.dT (putK kvs k v))
theorem lN.k    {k:Key}(e:H a=some (.dK kvs)):lN H a (kV k) (cI kvs k):=.inl ⟨kvs,k,.inl e,rfl,rfl⟩
theorem qy.k    {k:Key}  (e:H a=some (.dK kvs))(b:kvs.length<sizeLine):qy H a (kV k) v (upd H a (.dK (putK kvs k v))):=.inl ⟨kvs,k,e,rfl,b,rfl⟩
theorem Inv.big{σ:St}(I:Inv X pins σ H s):sysModules<s.heap.objs.size:=by
 have h:mainGlobals<s.heap.objs.size:=(I.mod.glob.keeps I.bk).lt;exact Nat.lt_trans (by decide) h
theorem Rc{σ:St}  (x:A.units+1<cLine)(I:Inv X pins σ H s)(g:lN H a y (some v))(q:RelV y u)(h:∀d s',Inv X pins σ H s'->RelV v d->Q d s'):
  wpAny (model X.prog X.w) A (getItem (.ref a) u) Q E s:=by
 rcases g with⟨kvs,k,e,i,l⟩ | ⟨kvs,k,b,e,i,F,l⟩
 ·subst i;obtain⟨z,hd,t,rel,j⟩:=wk I.hok e;obtain⟨d,f,c⟩:=dC.some_of (v:=v) (o:=valueAt t k) (by rw[l];exact rel.val k);exact wpAny_getItem_of (qx q) j.mapOf f (h d _ (I.tok _) c)
 ·subst i;cases(show u=Value.ref b from q);obtain⟨z,hd,r,rel,j⟩:=wy I.hok e;obtain⟨d,f,c⟩:=dC.some_of (v:=v) (o:=(atKey r k).map (·.2)) (by rw[l];exact rel.val k);obtain⟨p,C,m⟩:=Option.map_eq_some_iff.mp f;refine wpAny_getItem_heap (tupleKind_room_in1 x) (wu I.hok F) j C ?_;rw[m];exact h d _ (I.tok _) c
theorem wz{σ:St}    (I:Inv X pins σ H s)(c:Mut (H a))(hs:Heap.SameBut a s.heap h')(d:∃q,h'.get? a=some q)(new:cj X.prog X.w (upd H a ob) h' a ob):
  Inv X pins σ (upd H a ob) {s with heap:=h',toks:=t'}:=
 I.write (x:=a) (e:=a) c (.inl rfl) (λb q f z=>(hs.2 b f).trans z) d new
theorem wA       (z:kvs.length<=sizeLine)(hd:(a == sysModules)=false)(rel:KV kvs vs)(dd:h'.DictOf (cD P w) a vs):
  cj P w H' h' a (.dK kvs):=⟨z,hd,vs,rel,dd⟩
theorem Rf{σ:St}   (P:A.units+1<cLine)(I:Inv X pins σ H s)(g:qy H a y v H')(x:RelV y u)(C:RelV v r)(h:∀s',Inv X pins σ H' s'->Q () s'):
  wpAny (model X.prog X.w) A (setItem (.ref a) u r) Q E s:=by
 rcases g with⟨kvs,k,e,m,l,eH⟩ | ⟨kvs,k,b,e,m,J,l,eH⟩
 ·subst m eH;obtain⟨z,hd,O,rel,t⟩:=nP I.hok e
  have i:O.length<=sizeLine:=by rw[<-rel.length];exact z
  have j:(putK kvs k v).length<=sizeLine:=by have:=wj kvs k v;omega
  refine wpAny_setItem_pairs (hsz:=i) (qx x) t λF d hs=>h _ ?_
  have R:∃q,F.get? a=some q:=let ⟨q,_,_,f,_⟩:=d;⟨q,f⟩;exact wz I (by rw[e];exact True.intro) hs R (wA j hd (rel.put k C) d)
 ·subst m eH;cases(show u=Value.ref b from x);obtain⟨z,hd,L,rel,t⟩:=Rb I.hok e
  have i:L.length<=sizeLine:=by rw[<-Paired.length rel];exact z
  have j:(putK kvs k v).length<=sizeLine:=by have:=wj kvs k v;omega
  refine wpAny_setItem_heap (hsz:=i) (tupleKind_room_in1 P) (wu I.hok J) t λF d hs=>h _ ?_
  obtain⟨q,U,W,f,h2,h3,h4,_,T⟩:=d;refine wz I (by rw[e];exact True.intro) hs ⟨q,f⟩ ⟨j,hd,_,(rel.put k J C).keeps λc Y G=>?_,q,U,W,f,h2,h3,h4,T⟩;rw[aH (ne_of G e (λz=>nomatch z))];exact G
noncomputable def Ei(i:Expr):Prop:=∀a b,subscripted i false a b=operate [a,b] (getItem a b)
theorem Rg         {m:String}
  (q:typeLookup (.type T) "__getitem__" = pure (some (.builtin m))) (hs:Ei slice)
  (h:wpAny (model prog w) A (eval value env) (λo d=>wpAny (model prog w) A (eval slice env) (λi a=>a.TypeIs o T/\wpAny (model prog w) A (getItem o i) Q E a) E d) E s):
  wpAny (model prog w) A (eval (.Subscript value slice pos) env) Q E s:=by
 refine Subscript_ (zw h (λo d j=>zw j (λi a b=>?_) λ_ _ x=>x) λ_ _ x=>x);obtain⟨l,b⟩:=b;unfold subscriptTail;refine za ?_;rw[getitemInPython_of_ne l.not_modules];refine za (wpAny_specialOf l q ?_)
 have f:wpAny (model prog w) A (subscripted slice false o i) (λr c=>wpAny (model prog w) A (letTemporaryGo value o r >>= λ_=>pure r) Q E c) E a:=by
  rw[hs o i];exact wpAny_operating (zw b (λr c g=>za (wpAny_letTemporaryGo (zb g))) λ_ _ x=>x)
 first
  | exact zb (za f)
  | exact za (zb (za f))
  | exact za f
theorem Rh   {σ:St}      (I:Inv X pins σ H s)(g:lN H a y o):s.TypeIs (.ref a) "dict":=by
 rcases g with⟨kvs,k,e,_,_⟩ | ⟨kvs,k,b,e,_,_,_⟩
 ·obtain⟨_,_,f,_,c⟩:=wk I.hok e;exact c.typeIs
 ·obtain⟨_,_,d,_,c⟩:=wy I.hok e;exact c.typeIs
noncomputable def Ri(c ty:TE):TE:=λσ H Q=>c σ H λx d=>ty σ d λy b=>∃a v,x=.ref a/\lN b a y (some v)/\Q v b
noncomputable def Rj(d ty c:TE):TS:=λD σ H=>c σ H λv h=>d σ h λx g=>ty σ g λy f=>∃a b,x=.ref a/\qy f a y v b/\D.nx σ b
theorem Ej(c:X.A.units+1<cLine)(d:PE X o td)(f:PE X i ty)(hs:Ei i):PE X (.Subscript o i pos) (Ri td ty):=by
 intro pins s σ H Q I h;refine Rg PySem.F.slot_dict_getitem.lookup hs (thn (d pins s σ H _ I h) λu s1 ⟨x,H1,I1,rx,q1⟩=>thn (f pins s1 σ H1 _ I1 q1) λiv s2 ⟨y,H2,I2,ry,a,v,ex,g,q2⟩=>?_);subst ex;obtain rfl:u=Value.ref a:=rx;exact⟨Rh I2 g,Rc c I2 g ry λl m j b=>⟨v,H2,j,b,q2⟩⟩
theorem Rk(b:X.A.units+1<cLine)(c:PE X o td)(d:PE X i ty)(hv:PE X value tv)(hs:swapsWith value (some (.Subscript o i pos')) pos.line X.env=pure false):
  PS X (.Assign [.Subscript o i pos'] value pos) (Rj td ty tv):=by
 intro pins s σ H D I h;refine wpAny_Assign_Subscript (thn (hv pins s σ H _ I h) λr s1 ⟨v,H1,I1,rv,q1⟩=>thn (c pins s1 σ H1 _ I1 q1) λu s2 ⟨x,H2,I2,rx,q2⟩=>thn (d pins s2 σ H2 _ I2 q2) λiv s3 ⟨y,H3,I3,ry,a,H4,ex,g,q3⟩=>?_) hs;subst ex;obtain rfl:u=Value.ref a:=rx
 exact Rf b I3 g ry rv λj f=>⟨σ,H4,f,q3⟩
theorem Ek    (h:Heap)(hb:sysModules<h.objs.size):cj P w H (h.push {cls:=.type "dict",data:=.dict #[]}) h.objs.size (.dK []):=
 ⟨Nat.zero_le _,beq_eq_false_iff_ne.mpr (Ne.symm (zz hb)),[],.nil,Heap.DictOf.new h⟩
noncomputable def Rm:TE:=λ_ H Q=>∀p,H p=none->Q (.ref p) (upd H p (.dK []))
theorem Rn:PE X (.Dict [] [] pos) Rm:=λpins s σ H Q I h =>
 wpAny_Dict_empty ⟨.ref s.heap.objs.size,_,I.laid (a:=s.heap.objs.size) (o:=.dK []) (t':=s.toks) (λ_ _ q=>zl _ q) (zc _) (Ek s.heap I.big),rfl,h _ (I.hok.fresh (zc _))⟩
noncomputable def tD:List (TE×TE)->St->Hp->(List (V×V)->Hp->Prop)->Prop
 | [],_,H,Q=>Q [] H
 | (tk,tv)::r,σ,H,Q=>tk σ H λx d=>tv σ d λy c=>tD r σ c λa b=>Q ((x,y)::a) b
abbrev VV:List (V×V)->List (Value×Value)->Prop:=Paired λp q=>RelV p.1 q.1/\RelV p.2 q.2
noncomputable def PPs(X:Cx)(b:Pos)(keys:List (Option Expr))(values:List Expr)(a:List (TE×TE)):Prop :=
 ∀(pins:List (Addr×Obj)) (s:Shared) (σ:St) (H:Hp) (Q:List (V×V)->Hp->Prop),Inv X pins σ H s->tD a σ H Q ->
  wpAny (model X.prog X.w) X.A (evalPairs (pairTrees keys values X.env b)) (λf g=>∃c d,Inv X pins σ d g/\VV c f/\Q c d) X.xe s
theorem Ro  :PPs X pos [] [] []:=λpins s σ H Q I h=>pairTrees_nil_walk ⟨[],H,I,.nil,h⟩
theorem Rq        (b:PE X k tk)(hv:PE X v tv)(a:PPs X pos ks vs trs):
  PPs X pos (some k::ks) (v::vs) ((tk,tv)::trs):=λpins s σ H Q I h =>
 pairTrees_cons_walk (thn (b pins s σ H _ I h) λu s1 ⟨x,H1,I1,rx,q1⟩=>thn (hv pins s1 σ H1 _ I1 q1) λw2 s2 ⟨y,H2,I2,ry,q2⟩ =>
  thn (a pins s2 σ H2 _ I2 q2) λws s3 ⟨ps,H3,I3,rel,q3⟩=>⟨(x,y)::ps,H3,I3,.cons ⟨rx,ry⟩ rel,q3⟩)
noncomputable def gf(kvs more:List (Key×V)):List (Key×V):=more.foldl (λa b=>putK a b.1 b.2) kvs
theorem KV.merge:∀{more:List (Key×V)}{a:List (Key×Value)}{kvs:List (Key×V)}{vs:List (Key×Value)},KV more a->KV kvs vs->KV (gf kvs more) (merged vs a):=by
 intro more a kvs vs r;unfold KV at r
 induction r generalizing kvs vs with
 |nil=>intro q;exact q
 | @cons p q ps qs h t ih =>
  intro b
  have e:KV (putK kvs p.1 p.2) (stored vs q.1 q.2):=by
   have:=b.put p.1 h.2
   rw[<-h.1];exact this
  exact ih e
theorem wB:∀(more kvs:List (Key×V)),(gf kvs more).length<=kvs.length+more.length
 | [],kvs=>by show kvs.length<=kvs.length+0;omega
 |p::r,kvs=>by
  have h1:=wB r (putK kvs p.1 p.2);have h2:=wj kvs p.1 p.2;show(gf (putK kvs p.1 p.2) r).length<=_;rw[zt];omega
theorem El  :∀{kvs:List (Key×V)}{f:List (Value×Value)},VV (kvs.map λg=>(kV g.1,g.2)) f->∃d,Carries (cD P w) f d/\KV kvs d
 | [],_,r=>by rw[zV] at r;cases r;exact⟨[],True.intro,.nil⟩
 |p::kvs,_,r=>by
  rw[zd] at r
  cases r with
  | @cons a b as bs h t =>
   obtain⟨d,c,q⟩:=El (P:=P) (w:=w) t;obtain⟨j,i⟩:=b;exact⟨(p.1,i)::d,⟨qx h.1,rfl,c⟩,.cons ⟨rfl,h.2⟩ q⟩
noncomputable def Rr(a:List (TE×TE)):TE:=λσ H Q=>∀p,H p=none->tD a σ (upd H p (.dK [])) λd c=>c p=some (.dK [])/\∃kvs:List (Key×V),d=kvs.map (λb=>(kV b.1,b.2))/\kvs.length<=15/\Q (.ref p) (upd c p (.dK (gf [] kvs)))
theorem Rt      (h:PPs X pos keys values trs)(d:keys.all (·.isSome)=true)(r:keys.length=values.length)(h0:keys≠[])
  (f:keys.length<=15):PE X (.Dict keys values pos) (Rr trs):=by
 intro pins s σ H Q I q;have m:=I.hok.fresh (zc s.heap.objs.size);have x:=I.laid (a:=s.heap.objs.size) (o:=.dK []) (h':=s.heap.push {cls:=.type "dict",data:=.dict #[]}) (t':=s.toks) (λ_ _ q=>zl _ q) (zc _) (Ek s.heap I.big);refine wpAny_Dict_walk (knd:=cD X.prog X.w) d r h0 f (thn (h pins _ σ _ _ x (q _ m)) λws s2 ⟨ps,H2,I2,rel,e,kvs,ep,lk,q2⟩=>?_);subst ep;obtain⟨g,c,i⟩:=El (P:=X.prog) (w:=X.w) rel;obtain⟨z,hd,y,j,u⟩:=nP I2.hok e;cases j;refine⟨g,c,u,λh' b hs=>⟨.ref s.heap.objs.size,_,?_,rfl,q2⟩⟩
 have l:(gf [] kvs).length<=sizeLine:=by
  have h1:=wB kvs [];rw[zJ] at h1;rw[sizeLine_eq];omega
 have t:∃q,h'.get? s.heap.objs.size=some q:=let ⟨q,_,_,hq,_⟩:=b;⟨q,hq⟩;exact wz I2 (by rw[e];exact True.intro) hs t (wA l hd (i.merge .nil) b)
structure M1(X:Cx)(o:Expr)(m:Str)(apos:Pos)(e:Expr)(cpos:Pos):Prop where
 base:attributeBase o m X.env (eval o X.env)=eval o X.env
 few:((backTo cpos (starEach [e] X.env)).all (λx=>!x.1)&&(backToKw cpos (keywordEach [] X.env)).all (λx=>x.1.isSome)
  && decide (([e]:List Expr).length+([]:List Keyword).length+(if([]:List Keyword).isEmpty then 0 else 1)<30))=true
 line:(apos.endLine == cpos.line)=true
 trees:backTo cpos (starEach [e] X.env)=[(false,eval e X.env)]
structure M2(X:Cx)(o:Expr)(m:Str)(apos:Pos)(e f:Expr)(cpos:Pos):Prop where
 base:attributeBase o m X.env (eval o X.env)=eval o X.env
 few:((backTo cpos (starEach [e,f] X.env)).all (λx=>!x.1)&&(backToKw cpos (keywordEach [] X.env)).all (λx=>x.1.isSome)
  && decide (([e,f]:List Expr).length+([]:List Keyword).length+(if([]:List Keyword).isEmpty then 0 else 1)<30))=true
 line:(apos.endLine == cpos.line)=true
 trees:backTo cpos (starEach [e,f] X.env)=[(false,eval e X.env),(false,eval f X.env)]
noncomputable def jD(cells:List (Str×Addr)):List (Str×NameKind)->List (Str×Addr)->List (Str×Addr)
 | [],acc=>acc
 | (n,k)::r,acc=>if k == .free then jD cells r ((n,(cells.lookup n).getD 0)::acc) else jD cells r acc
noncomputable def j7(scope:Scope)(env:Env):List (Str×Addr):=jD env.cells scope.names []
theorem Em   (d:∀y∈scope.names,y.2=.free->∃c,env.cells.lookup y.1=some c):closureFor scope env=pure (j7 scope env):=by
 simp only[closureFor,j7]
 generalize ([]:List (Str×Addr))=f
 generalize scope.names=names at d
 induction names generalizing f with
 |nil=>rfl
 |cons y r ih =>
  obtain⟨n,k⟩:=y
  have g:=λa=>ih a λz h=>d z (zp _ h)
  by_cases b:k=.free
  ·obtain⟨c,i⟩:=d (n,k) zj b;have hc':env.cells.lookup n=some c:=i;subst b;simp only[List.forIn_cons,beq_self_eq_true,if_true,cellOf,hc',pure_bind,bind_assoc,jD,Option.getD_some];exact g _
  ·have j:(k == NameKind.free)=false:=by simpa using b
   simp only[List.forIn_cons,j,Bool.false_eq_true,if_false,pure_bind,bind_assoc,jD];exact g _
theorem wC   :∀{names:List (Str×NameKind)}{acc:List (Str×Addr)},(jD cells names acc).lookup x=some c->acc.lookup x=some c\/(∃k,(x,k)∈names/\k=.free/\(cells.lookup x).getD 0=c)
 | [],acc,h=>.inl h
 | (n,k)::r,acc,h=>by
  unfold jD at h
  by_cases f:k=.free
  ·subst f;simp only[beq_self_eq_true,if_true] at h
   rcases wC h with z | ⟨k,a,q⟩
   ·rw[List.lookup_cons] at z
    by_cases d:x=n
    ·subst d;simp at z;exact .inr ⟨.free,zj,rfl,z⟩
    ·have b:(x == n)=false:=by simpa using d
     rw[b] at z;exact .inl z
   ·exact .inr ⟨k,zp _ a,q⟩
  ·have b:(k == NameKind.free)=false:=by simpa using f
   simp only[b,Bool.false_eq_true,if_false] at h
   rcases wC h with z | ⟨k,a,q⟩
   ·exact .inl z
   ·exact .inr ⟨k,zp _ a,q⟩
theorem tE  :∀{names:List (Str×NameKind)}{acc:List (Str×Addr)},((∃c,acc.lookup x=some c)\/(x,NameKind.free)∈names)->∃c,(jD cells names acc).lookup x=some c
 | [],acc,h=>by
  rcases h with h | h
  ·exact h
  ·cases h
 | (n,k)::r,acc,h=>by
  unfold jD
  by_cases b:k=.free
  ·subst b;simp only[beq_self_eq_true,if_true];refine tE ?_
   by_cases a:x=n
   ·subst a;exact .inl ⟨(cells.lookup x).getD 0,by simp[List.lookup_cons]⟩
   ·have d:(x == n)=false:=by simpa using a
    rcases h with⟨c,h⟩ | h
    ·exact .inl ⟨c,by rw[List.lookup_cons,d];exact h⟩
    ·rcases zh.mp h with e | h
     ·cases e;exact absurd rfl a
     ·exact .inr h
  ·have d:(k == NameKind.free)=false:=by simpa using b
   simp only[d,Bool.false_eq_true,if_false];refine tE ?_
   rcases h with h | h
   ·exact .inl h
   ·rcases zh.mp h with e | h
    ·cases e;exact absurd rfl b
    ·exact .inr h
noncomputable def iT(scope a:Scope):List (Str×NameKind):=
 scope.names.map λ(n,k)=>if(k == .free&&a.kind == .function&&a.names.lookup n == some .cell) then(n,.cell) else(n,k)
theorem En  (f:∀y∈scope.names,y.2≠.cell)   (h:(iT scope sc0).lookup x=some k)(d:k=.cell\/k=.free):(x,NameKind.free)∈scope.names:=by
 have c:=PySem.mem_of_lookup h;unfold iT at c;obtain⟨⟨n,b⟩,h1,h2⟩:=zQ.mp c;dsimp only at h2
 by_cases a:(b == NameKind.free&&sc0.kind == .function&&sc0.names.lookup n == some .cell)=true
 ·rw[if_pos a] at h2
  have e:b=.free:=by
   simp only[zm,beq_iff_eq] at a;exact a.1.1
  cases h2;rw[<-e];exact h1
 ·rw[if_neg a] at h2;cases h2
  rcases d with e | e
  ·exact absurd e (f _ h1)
  ·rw[<-e];exact h1
noncomputable def bK(a own:List Str)(cap:List Nat):List Str:=own++cap.map λj=>a.getD j (Str.ofString "")
noncomputable def compSt(own:List Str)(cap:List Nat)(σ:St):St:=own.map (λ_=>none)++cap.map λj=>(σ[j]?).join
noncomputable def nQ(a:Scope)(b:List Str)(scope:Scope)(own:List Str)(cap:List Nat):Bool :=
 (scope.kind == .function)&&scope.names.all (λy=>y.2 != .cell)&&scope.names.all (λy=>y.2 != .local || scope.names.lookup y.1 == some .local) &&
 scope.names.all (λy=>y.2 != .free || a.names.lookup y.1 == some .cell || a.names.lookup y.1 == some .free) &&
 cap.all λj=>decide (j<b.length)&&scope.names.contains (b.getD j (Str.ofString ""),NameKind.free)&&((iT scope a).lookup (b.getD j (Str.ofString "")) == some .cell || (iT scope a).lookup (b.getD j (Str.ofString "")) == some .free)
structure jE(sc0:Scope)(N0:List Str)(scope:Scope)(own:List Str)(cap:List Nat):Prop where
 kind:scope.kind=.function
 nocell:∀y∈scope.names,y.2≠.cell
 names:∀y∈scope.names,y.2=.local->scope.names.lookup y.1=some .local
 free:∀y∈scope.names,y.2=.free->sc0.names.lookup y.1=some .cell\/sc0.names.lookup y.1=some .free
 cap:∀j∈cap,j<N0.length/\(N0.getD j (Str.ofString ""),NameKind.free)∈scope.names/\((iT scope sc0).lookup (N0.getD j (Str.ofString ""))=some .cell\/(iT scope sc0).lookup (N0.getD j (Str.ofString ""))=some .free)
theorem jE.of     {cap:List Nat}(h:nQ sc0 N0 scope own cap=true):jE sc0 N0 scope own cap:=by
 unfold nQ at h;simp only[zm,jh,beq_iff_eq,bne_iff_ne,ne_eq,Bool.or_eq_true,decide_eq_true_eq,List.contains_iff_mem] at h;obtain⟨⟨⟨⟨h1,h2⟩,h3⟩,h4⟩,g⟩:=h;refine⟨h1,h2,λy d e=>?_,λy d e=>?_,λj f=>?_⟩
 ·rcases h3 y d with z | z
  ·exact absurd e z
  ·exact z
 ·rcases h4 y d with(z | z) | z
  ·exact absurd e z
  ·exact .inl z
  ·exact .inr z
 ·obtain⟨⟨a,b⟩,c⟩:=g j f;exact⟨a,b,c⟩
noncomputable def bZ(X:Cx)(scope:Scope)(C:Addr)(N':List Str)(s:Shared)(H:Hp)(ex:List Addr):Cx where
 prog:=X.prog
 w:=X.w
 K:=X.K
 mg:=X.mg
 base:=X.base
 A:=X.A
 N:=N'
 s₀:=s
 H₀:=H
 env:=compEnvC scope (j7 scope X.env) C X.env
 outer:=X.stack
 stack:=X.stack
 ex:=ex
 fn:=λ_=>false
 calm:=X.calm
 pn:=[]
 xe:=λ_ _=>False
noncomputable def lO(X:Cx)(a:List Expr)(t:TT):Prop :=
 ∀(pins:List (Addr×Obj)) (s:Shared) (σ:St) (H:Hp) (Q:Bool->Hp->Prop),Inv X pins σ H s->t σ H Q ->
  wpAny (model X.prog X.w) X.A (forIn a true λc r=>if r=true then do let ok <-isTrue c X.env (eval c X.env);pure (ForInStep.yield ok) else pure (ForInStep.yield r)) (TP X pins σ Q) X.xe s
noncomputable def Ru:TT:=λ_ H Q=>Q true H
theorem Rv:lO X [] Ru:=λ_ _ _ H _ I h=>wpAny_tests_nil ⟨H,I,h⟩
noncomputable def Eo(J:It)(g:TG)(l:TT)(q:TE)(Q:List V->Hp->Prop)(h:St)(u:Hp):Prop :=
 ∃W:Nat->Nat->List V->St->Hp->Prop,(∃m,W 0 m [] h u)/\∀i m c σ H,W i m c σ H ->
  (J.stop i H/\Q c H)\/(J.go i H/\c.length<sizeLine/\∃N:List V->St->Hp->Prop,(∀c f d,N c f d->∃j,j<m/\W (i+1) j c f d)/\∀x d,J.yld i H x d->g x σ d λa t=>l a t λb H3 =>
   if b=true then q a H3 λy r=>N (c++[y]) a r else N c a H3)
noncomputable def wD(c:TI)(own:List Str)(cap:List Nat)(g:TG)(d:TT)(f:TE):TE:=λσ H Q =>
 c σ H λJ h=>Eo J g d f (λa b=>a.length<=sizeLine/\∀p,b p=none->Q (.ref p) (upd b p (.lst a))) (compSt own cap σ) h
theorem Rx       (I:Nat->Shared->Prop)
  (turn:∀n s,I n s->wpAny (model prog w) A (pyNext it) (λr d=>match r with
   |none=>R (.ok .next) d
   |some v=>wpAny (model prog w) A (letOwnedTupleGo target it v) (λ_ f=>wpAny (model prog w) A (assign target env v) (λ_ j =>
     wpAny (model prog w) A (forIn ifs true λc r=>if r=true then do let ok <-isTrue c env (eval c env);pure (ForInStep.yield ok) else pure (ForInStep.yield r)) (λok b =>
      if ok=true then wpAny (model prog w) A (eval elt env) (λx i =>
       wpAny (model prog w) A (call (.builtin "list.append") [acc,x]) (λ_ g=>∃m,m<n/\I m g) (λ_ _=>False) i) (λ_ _=>False) b
      else ∃m,m<n/\I m b) (λ_ _=>False) j) (λ_ _=>False) f) (λ_ _=>False) d) (λ_ _=>False) s)
  (n:Nat) (h:I n s):
  codeAny (model prog w) A (.compLoop (.ListComp elt [⟨target,iter,ifs,0⟩] scope pos) 0 it acc env) R s:=by
 refine codeAny_loop rfl I (λn s E=>?_) n h;show wpAny _ A ((compTurn (.ListComp elt [⟨target,iter,ifs,0⟩] scope pos) 0 it acc env).onRaise (λx=>do noteFrame x env;theTreesLotGoes x)) _ _ s;refine wpAny_noted ?_;rw[compTurn_list];refine za (wpAny_standAt (za (zw (turn n s E) (λr d q=>?_) λ_ _ a=>a.elim)))
 cases r with
 |none=>exact zb q
 |some v =>
  refine za (zw q (λ_ f t=>?_) λ_ _ a=>a.elim);refine za (zw t (λ_ j C=>za (zw C (λok b l=>?_) λ_ _ a=>a.elim)) λ_ _ a=>a.elim)
  cases ok with
  |false=>exact zb ⟨rfl,l⟩
  |true =>
   exact za (za (zw l (λx i y=>za (zw y (λ_ g u=>zb (zb ⟨rfl,u⟩)) λ_ _ a=>a.elim)) λ_ _ a=>a.elim))
theorem wG{pins:List (Addr×Obj)}{σ:St}{d:Shared}{i:Hp}{scope a:Scope}{g own:List Str}{cap:List Nat}(h:Inv X pins σ i d)(b:X.env.scope=a)(ok:jE a g scope own cap):∀y∈scope.names,y.2=.free->∃c,X.env.cells.lookup y.1=some c:=λy f e=>by
 refine h.ok.has y.1 ?_;have q:=ok.free y f e;rw[<-b] at q;exact q
theorem j8{σ:St}(g:Inv X pins σ H2 s2)(a:X.env.scope=sc0)(ok:jE sc0 N0 scope own cap)   (h:(j7 scope X.env).lookup x=some c):X.env.cells.lookup x=some c:=by
 rcases wC h with z | ⟨k,b,d,q⟩
 ·simp at z
 ·obtain⟨f,e⟩:=wG g a ok (x,k) b d;have e':X.env.cells.lookup x=some f:=e;rw[e'] at q;rw[e',<-q];rfl
theorem Ry{σ:St}(a:Inv X pins σ H2 s2)(f:X.env.scope=sc0)(ok:jE sc0 N0 scope own cap)(T:Turn X.prog X.w X.K tg J fp it tn)(i:tn 0 s2.heap)(g:∀b∈fp,fL X pins H2 b)
  (C:Addr) (j:s2.heap.objs.size<=C):(bZ X scope C (bK N0 own cap) s2 H2 fp).Ok:=by
 have lt:∀b∈fp,b<s2.heap.objs.size:=λb d=>by
  obtain⟨o,e,_⟩:=T.obj 0 _ i b d;exact ze e
 have rel:(relabel scope X.env).names=iT scope sc0:=by rw[<-f];rfl
 refine⟨a.ok.mod,ok.kind,a.ok.glob,a.ok.blt,j,λx y c h1 h2=>?_,λx m=>?_,λx c hf _=>absurd hf (by simp[bZ]),a.ok.hd,a.ok.frames,.inl rfl,λb d=>⟨?_,λx c h=>?_⟩,a.bs,zE a.ok.bsz a.sz,
  λb o e d=>?_,λb d l=>?_,a.stack,a.stkFree⟩
 ·exact a.ok.inj x y c (j8 a f ok h1) (j8 a f ok h2)
 ·have hx':(iT scope sc0).lookup x=some .cell\/(iT scope sc0).lookup x=some .free:=by rw[<-rel];exact m
  have r:(x,NameKind.free)∈scope.names:=by
   rcases hx' with q | q
   ·exact En ok.nocell q (.inl rfl)
   ·exact En ok.nocell q (.inr rfl)
  exact tE (.inr r)
 ·exact zz (zG (lt b d) j)
 ·exact(g b d).2.2.2.2.1 x c (j8 a f ok h)
 ·rcases(g b d).2.2.2.1 with z | z
  ·exact a.ok.noex b o e z
  ·exact absurd (zG (ze e) (zE a.ok.bsz z)) (zS _)
 ·rcases zh.mp (a.stkSub b l) with z | z
  ·exact(g b d).2.1 z
  ·exact(g b d).2.2.1 z
theorem Rz{σ:St}(d:Inv X pins σ H2 s2)(a:X.env.scope=sc0)(L:X.N=N0)(ok:jE sc0 N0 scope own cap)(T:Turn X.prog X.w X.K tg J fp it tn)(H:tn 0 s2.heap)(Z:∀b∈fp,fL X pins H2 b)
  (C:Addr) (R:s2.heap.objs.size<=C)    (f:∀b o,s2.heap.get? b=some o->h₁.get? b=some o) (I:h₁.Ns C m):
  Inv (bZ X scope C (bK N0 own cap) s2 H2 fp) [] (compSt own cap σ) H2 {s2 with heap:=h₁,toks:=tk}:=by
 have rel:(relabel scope X.env).names=iT scope sc0:=by rw[<-a];rfl
 refine⟨Ry d a ok T H Z C R,rfl,d.bare,Un.kept f,⟨m,I,λi x v e1 e2 _=>?_⟩,λx c h=>?_,d.hok.fresh R,λx c h=>?_,λp U=>absurd (show p∈([]:List (Addr×Obj)) from U) (by simp),d.hok.kept f,?_⟩
 ·have e1':(bK N0 own cap)[i]?=some x:=e1;unfold bK at e1';unfold compSt at e2
  by_cases G:i<own.length
  ·rw[zA (by simpa using G),zP] at e2
   cases q:own[i]? with
   |none=>rw[q] at e2;cases e2
   |some z=>rw[q] at e2;cases e2
  ·rw[zC (by simpa using G),zP] at e2;rw[zC (by simpa using G),zP] at e1';rw[zx] at e2
   cases q:cap[i - own.length]? with
   |none=>rw[q] at e2;cases e2
   |some j =>
    rw[q] at e1' e2;have ex:N0.getD j (Str.ofString "")=x:=zH e1';have g:(σ[j]?).join=some v:=zH e2;obtain⟨Q,F,P⟩:=ok.cap j (zT q);rw[ex] at F P
    have eN:X.N[j]?=some x:=by
     rw[L,zM Q];rw[List.getD_eq_getElem?_getD,zM Q] at ex;exact congrArg some ex
    have O:σ[j]?=some (some v):=by
     cases z:σ[j]? with
     |none=>rw[z] at g;cases g
     |some o=>rw[z] at g;cases o with
      |none=>cases g
      |some y=>exact congrArg some g
    have kf:X.env.kindOf x=some .cell\/X.env.kindOf x=some .free:=by
     have z:=ok.free _ F rfl;rw[<-a] at z;exact z
    obtain⟨m0,hn0,W⟩:=d.loc;obtain⟨u,r,l⟩:=W j x v eN O (kf.elim (λz=>.inr (.inl z)) λz=>.inr (.inr z));refine⟨u,r,.inr ⟨?_,?_⟩⟩
    ·show(relabel scope X.env).names.lookup x=_\/(relabel scope X.env).names.lookup x=_;rw[rel];exact P
    ·rcases l with⟨l,_⟩ | ⟨_,c,Y,⟨o,E,hd⟩⟩
     ·rcases kf with z | z<;>(rw[z] at l;cases l)
     ·obtain⟨c',t⟩:=tE (cells:=X.env.cells) (names:=scope.names) (acc:=[]) (.inr F);have z:=j8 d a ok t;rw[Y] at z;cases z;exact⟨c,t,o,f _ _ E,hd⟩
 ·obtain⟨v,o,E,hd⟩:=d.cell x c (j8 d a ok h);exact⟨v,o,f _ _ E,hd⟩
 ·exact d.freeC x c (j8 d a ok h)
 ·show(compSt own cap σ).length=(bK N0 own cap).length;unfold compSt bK;simp
theorem Ep{σ:St}  {RR:Value->Addr->Result->Shared->Prop}  (hc:X.calm=true)(I2:Inv X pins σ H2 f)(hsc:X.env.scope=sc0)(hN0:X.N=U)(ok:jE sc0 U scope own cap)
  (hg:∀C s H ex,PG (bZ X scope C (bK U own cap) s H ex) tg g) (ht:∀C s H ex,lO (bZ X scope C (bK U own cap) s H ex) ifs tt) (he:∀C s H ex,PE (bZ X scope C (bK U own cap) s H ex) elt te)
  (T:Turn X.prog X.w X.K tg J fp it tn) (st2:tn 0 f.heap) (f2:∀b∈fp,fL X pins H2 b) (hW:Eo J g tt te Q (compSt own cap σ) H2)
  (hRR:∀D C oC ys G s',Inv X (pins++[(C,oC)]) σ (upd G D (.lst ys)) s'->(∀h:Heap,h.get? C=some oC->∃m,h.Ns C m)->fL X pins (upd G D (.lst ys)) C->G D=none->Q ys G->RR (.ref D) C (.ok .next) s')
  (hQsz:∀ys G,Q ys G->ys.length<=sizeLine):
  wpAny (model X.prog X.w) X.A (newList []) (λacc P=>wpAny (model X.prog X.w) X.A (newFunctionEnv scope X.env.globals (j7 scope X.env) [] X.env.qual none .none (some X.env)) (λcenv s₄ =>
   codeAny (model X.prog X.w) X.A (.compStart (.ListComp elt [⟨tg,iter,ifs,0⟩] scope pos) 0 (.ref it) acc {cenv with scope:=relabel scope X.env}) (RR acc cenv.locals) s₄) E P) E f:=by
 refine wpAny_newObj_type (wpAny_newFunctionEnv ok.nocell (by intro y hy;simp at hy) (λY O t=>?_) ok.kind);dsimp only at O t ⊢
 generalize hP2:f.heap.push {cls:=.type "list",dict:=none,data:=.seq ([]:List Value).toArray}=F at O t ⊢
 have hC:F.objs.size=f.heap.objs.size+1:=by rw[<-hP2,Heap.size_push]
 have hDC:f.heap.objs.size≠F.objs.size:=by rw[hC];exact zz (jg _)
 have hCle:f.heap.objs.size<=F.objs.size:=by rw[hC];exact Nat.le_succ _
 have below:∀b,b<f.heap.objs.size->b≠F.objs.size/\b≠f.heap.objs.size:=λb l=>⟨by rw[hC];exact zz (Nat.lt_succ_of_lt l),zz l⟩
 have ltf:∀b∈fp,b<f.heap.objs.size:=λb l=>by
  obtain⟨o,e,_⟩:=T.obj 0 _ st2 b l;exact ze e
 have old:∀b o,f.heap.get? b=some o->Y.get? b=some o:=λb o e=>t.extBut b o (below b (ze e)).1 (zl _ (hP2 ▸ zl _ e))
 have hacc:Y.PlainList f.heap.objs.size #[]:=⟨_,t.extBut _ _ hDC (zl _ (hP2 ▸ zO _ rfl))⟩
 have st₁:tn 0 Y:=T.keep _ _ _ st2 λb _ o e=>old b o e
 have hDno:∀b∈fp,f.heap.objs.size≠b:=λb l=>(below b (ltf b l)).2.symm
 generalize hXe:bZ X scope F.objs.size (bK U own cap) f H2 fp=X'
 have loop:∀P:Shared,P = {f with heap:=Y,toks:=f.toks+([]:List (Str×Value)).length} ->
   codeAny (model X.prog X.w) X.A (.compLoop (.ListComp elt [⟨tg,iter,ifs,0⟩] scope pos) 0 (.ref it) (.ref f.heap.objs.size) (compEnvC scope (j7 scope X.env) F.objs.size X.env))
    (RR (.ref f.heap.objs.size) F.objs.size) P:=by
  rintro P rfl;obtain⟨W,⟨m0,w0⟩,turn⟩:=hW;subst hXe
  have stat:∀{G:Hp}{oD:Obj},(∀b∈fp,G b=none)->∀b∈fp,fL (bZ X scope F.objs.size (bK U own cap) f H2 fp) [(f.heap.objs.size,oD)] G b:=λ{G oD} hn b l =>
   ⟨hn b l,(below b (ltf b l)).1,λz=>by
    rcases zh.mp (I2.stkSub b z) with z | z
    ·exact(f2 b l).2.1 z
    ·exact(f2 b l).2.2.1 z,.inl l,λx c h=>(f2 b l).2.2.2.2.1 x c (j8 I2 hsc ok h),λp hp=>by
    have e:p=(f.heap.objs.size,oD):=by simpa [bZ] using hp
    rw[e];exact hDno b l⟩
  have notcell:∀x c,(j7 scope X.env).lookup x=some c->c≠f.heap.objs.size:=λx c h z=>by
   obtain⟨v,o,ho,hd⟩:=I2.cell x c (j8 I2 hsc ok h);exact absurd (ze ho) (by rw[z];exact zS _)
  have nofs:f.heap.objs.size∉frs X.stack:=λz=>by
   rcases zh.mp (I2.stkSub _ z) with z | z
   ·exact absurd I2.lt (by rw[z];exact zS _)
   ·exact I2.nofs (zc _) z
  have pinD:∀{L:St}{G:Hp}{s':Shared}{j:Array Value}{k:Nat},Inv (bZ X scope F.objs.size (bK U own cap) f H2 fp) [] L G s'->G f.heap.objs.size=none ->
    s'.heap.get? f.heap.objs.size=some {cls:=.type "list",data:=.seq j k}->Inv (bZ X scope F.objs.size (bK U own cap) f H2 fp) [(f.heap.objs.size,{cls:=.type "list",data:=.seq j k})] L G s' :=
   λ{L G s' j k} I hn hd=>I.pins_of λp hp=>by
    have e:p=(f.heap.objs.size,{cls:=.type "list",data:=.seq j k}):=by simpa using hp
    subst e;exact⟨hd,hn,hDC,nofs,λv z=>by cases z⟩
  obtain⟨k0,hk0⟩:=hacc;refine Rx (env:=compEnvC scope (j7 scope X.env) F.objs.size X.env)
   (λn s'=>∃i ys j k L G,Inv (bZ X scope F.objs.size (bK U own cap) f H2 fp) [(f.heap.objs.size,{cls:=.type "list",data:=.seq j k})] L G s'/\tn i s'.heap/\(∀b∈fp,G b=none)/\aL ys j.toList/\W i n ys L G) ?_ m0
   ⟨0,[],#[],k0,_,H2,pinD (Rz I2 hsc hN0 ok T st2 f2 _ hCle old O) (I2.hok.fresh (zc _)) hk0,st₁,λb l=>(f2 b l).1,.nil,w0⟩
  rintro n s3 ⟨i,ys,j,k,σ3,H3,I3,st3,fr3,hv,w3⟩
  rcases turn i n ys σ3 H3 w3 with⟨stop,qn⟩ | ⟨go,hsz,N,hN,step⟩
  ·refine thn (T.done (bZ X scope F.objs.size (bK U own cap) f H2 fp) rfl rfl rfl hc i _ s3 σ3 H3 _ I3 (stat fr3) st3 stop) λr s4 ⟨hr,I4⟩=>?_
   subst hr;show RR _ _ (.ok .next) s4;obtain⟨hd4,R,_⟩:=I4.pin (f.heap.objs.size,{cls:=.type "list",data:=.seq j k}) (by simp[bZ]);dsimp only at hd4 R;obtain⟨m4,hns4,_⟩:=id I4.loc;have hns4':s4.heap.Ns F.objs.size m4:=hns4;obtain⟨oC,es,ep,hoC,rC⟩:=id hns4';have cne:F.objs.size≠f.heap.objs.size:=hDC.symm;have freeC:H3 F.objs.size=none:=I4.free;have Z:fL X pins (upd H3 f.heap.objs.size (.lst ys)) F.objs.size:=I2.fpOk hCle (by rw[aH cne];exact freeC)
   have hlen:ys.length=j.size:=by have e:=hv.length;simpa using e
   have I5:Inv X pins σ (upd H3 f.heap.objs.size (.lst ys)) s4:=by
    refine I2.call' (ch:=fp) I4.os ⟨I4.base.keep,I4.base.slot,λb o e n hx=>?_,I4.base.there,λb xs e=>?_,λb o u e=>?_,λb ps e=>?_⟩ (λb u e=>?_) I4.bare λb l=>?_
    ·rw[aH (zz (ze e))];exact I4.base.free b o e n hx
    ·have q:=I4.base.tups b xs e;rw[aH (bI q R)];exact q
    ·have q:=I4.base.frzs b o u e;rw[aH (bI q R)];exact q
    ·obtain⟨more,q⟩:=I4.base.tbls b ps e;exact⟨more,by rw[aH (bI q R)];exact q⟩
    ·by_cases l:b=f.heap.objs.size
     ·subst l;rw[bu] at e;cases e;exact⟨hQsz ys H3 qn,j.toList,k,hv,by simpa using hd4⟩
     ·rw[aH l] at e
      exact(I4.hok b u e).stay (λ_ _ _ q=>q) (λc q=>by rw[aH (bI q R)];exact q) λc xs q=>by rw[aH (bI q R)];exact q
    ·obtain⟨_,a2,_,a4,a5,a6⟩:=f2 b l;exact⟨a4,a2,a5,a6⟩
   refine hRR f.heap.objs.size F.objs.size oC ys H3 s4 (I5.pins_of λp hp=>?_) (λh e=>⟨m4,oC,es,ep,e,rC⟩) Z R qn
   rcases zv.mp hp with z | z
   ·exact I5.pin p (zU _ z)
   ·have e:p=(F.objs.size,oC):=by simpa using z
    subst e
    exact⟨hoC,Z.1,Z.2.1,Z.2.2.1,λv z=>by
     have:=rC.1
     rw[this] at z;cases z⟩
  ·refine thn (T.item (bZ X scope F.objs.size (bK U own cap) f H2 fp) rfl rfl rfl hc i _ s3 σ3 H3 _ I3 (stat fr3) st3 go) λr s4 ⟨u,hr,h4⟩=>?_
   subst hr
   refine thn h4 λ_ s5 ⟨x,H5,I5,r5,y5,st5,fr5⟩=>?_
   have I5':=I5.pinned (stat fr5) (T.obj _ _ st5)
   refine thn (hg _ _ _ _ _ s5 σ3 H5 x u _ I5' r5 (step x H5 y5)) λ_ s6 ⟨σ6,H6,I6,q6⟩=>?_
   refine thn (ht _ _ _ _ _ s6 σ6 H6 _ I6 q6) λb s7 ⟨H7,I7,q7⟩=>?_
   have keepT:∀{L:St}{G:Hp}{s':Shared},Inv (bZ X scope F.objs.size (bK U own cap) f H2 fp) ([(f.heap.objs.size,{cls:=.type "list",data:=.seq j k})]++qj fp s5.heap) L G s'->tn (i+1) s'.heap/\∀b∈fp,G b=none:=λ{L G s'} I'=>by
    refine⟨T.keep _ _ _ st5 λb l o e=>(I'.pin (b,o) (zU _ (zU _ (sJ l e)))).1,λb l=>?_⟩;obtain⟨o,e,d⟩:=T.obj _ _ st5 b l;exact(I'.pin (b,o) (zU _ (zU _ (sJ l e)))).2.1
   cases b with
   |false =>
    rw[if_neg zq] at q7 ⊢;obtain⟨m',hm,w7⟩:=hN _ _ _ q7;obtain⟨a,b⟩:=keepT I7;exact⟨m',hm,i+1,ys,j,k,σ6,H7,I7.unpinned,a,b,hv,w7⟩
   |true =>
    rw[if_pos rfl] at q7 ⊢
    refine thn (he _ _ _ _ _ s7 σ6 H7 _ I7 q7) λv s8 ⟨y,H8,I8,r8,q8⟩=>?_
    obtain⟨m',hm,w8⟩:=hN _ _ _ q8;obtain⟨a,b⟩:=keepT I8;obtain⟨hd8,hn8,_⟩:=I8.pin (f.heap.objs.size,{cls:=.type "list",data:=.seq j k}) (by simp[bZ]);dsimp only at hd8 hn8
    have hl:j.size<=sizeLine:=by
     have e:=hv.length;simp at e;omega
    refine wpAny_list_append_plain (hsz:=hl) ⟨k,hd8⟩ λh9 hl9 hs9=>?_
    obtain⟨k9,hd9⟩:=hl9
    have I8':Inv (bZ X scope F.objs.size (bK U own cap) f H2 fp) [] σ6 H8 s8:=I8.pins_of λp hp=>absurd hp (by simp)
    have I9:Inv (bZ X scope F.objs.size (bK U own cap) f H2 fp) [] σ6 H8 {s8 with heap:=h9}:=
     I8'.turned (t':=s8.toks) (it:=f.heap.objs.size) (λb o l e=>hs9.extBut b o l e) hn8 hDC (.inr (zc _)) notcell (λp hp=>absurd (show p∈([]:List (Addr×Obj)) from hp) (by simp))
    refine⟨m',hm,i+1,ys++[y],j.push v,k9,σ6,H8,pinD I9 hn8 hd9,T.keep _ _ _ a λb l o e=>hs9.extBut b o (hDno b l).symm e,b,?_,w8⟩;rw[Array.toList_push];exact hv.append (.cons r8 .nil)
 exact codeAny_compStart_list (loop _ rfl) (T.self _ 0 _ _ _ st₁ (loop _ rfl))
theorem RB{i:Pos}  (c:Scope)(a own:List Str)(cap:List Nat)(Y:X.calm=true)(R:PI X tg iter wi)
  (U:∀C s H ex,PG (bZ X scope C (bK a own cap) s H ex) tg g) (O:∀C s H ex,lO (bZ X scope C (bK a own cap) s H ex) ifs tt) (W:∀C s H ex,PE (bZ X scope C (bK a own cap) s H ex) elt te)
  (d:X.env.scope=c:=by rfl) (r:X.N=a:=by rfl) (ok:nQ c a scope own cap=true:=by decide +kernel) (hs:∀x,foldedSetIterable iter X.env x=pure x:=by intro _;rfl):
  PE X (.ListComp elt [⟨tg,iter,ifs,0⟩] scope i) (wD wi own cap g tt te):=by
 intro pins s σ H Q I h;have ok:=jE.of ok;rw[eval_ListComp];refine wpAny_comprehension_free (use:=none) rfl hs (Em (wG I d ok)) ok.kind ok.names (thn (R pins s σ H _ I h) λxv s1 h1=>thn h1 λitv s2 h2=>?_);obtain⟨it,fp,tn,J,H2,e,I2,T,f,f2,hW⟩:=h2;subst e
 refine Ep (RR:=λu C=>compPost (model X.prog X.w) X.A X.xe none (EP X pins σ Q) u C) Y I2 d r ok U O W T f f2 hW (λD C L y F G E l t hD q=>?_) λy F q=>q.1
 obtain⟨hC,hCn,_⟩:=E.pin (C,L) (by simp);obtain⟨m,P⟩:=l _ hC;refine⟨m,P,λh' j=>⟨.ref D,upd F D (.lst y),?_,rfl,q.2 D hD⟩⟩;obtain⟨f0,f1,f2',f3,f4,f5⟩:=t;exact E.unpinned.turned (t':=G.toks) (it:=C) (λb o Z e=>j.extBut b o Z e) f0 f1 f3 f4 f5
theorem RC    {a:Pos}(j:Scope)(d own:List Str)(cap:List Nat)(hN:X.N.Nodup)(W:X.N[i]?=some x)(hl:Loc X.env.scope x)(hc:X.calm=true)(hi:PI X tg iter wi)
  (hg:∀C s H ex,PG (bZ X scope C (bK d own cap) s H ex) tg g) (Y:∀C s H ex,lO (bZ X scope C (bK d own cap) s H ex) ifs tt) (he:∀C s H ex,PE (bZ X scope C (bK d own cap) s H ex) elt te)
  (y:swapsWith (.ListComp elt [⟨tg,iter,ifs,0⟩] scope pos) (some (.Name x pos')) a.line X.env=pure true:=by rfl)
  (hf:X.fn x=true\/X.env.scope.names.lookup x=some .local:=by first | exact .inl rfl | exact .inr rfl | assumption)
  (l:X.env.scope=j:=by rfl) (G:X.N=d:=by rfl) (ok:nQ j d scope own cap=true:=by decide +kernel) (hs:∀x,foldedSetIterable iter X.env x=pure x:=by intro _;rfl):
  PS X (.Assign [.Name x pos'] (.ListComp elt [⟨tg,iter,ifs,0⟩] scope pos) a) (nG (wD wi own cap g tt te) (nF i)):=by
 intro pins s σ H D I h;have ok:=jE.of ok;rw[exec_Assign_Name_used _ _ _ _ y];refine za (wpAny_standAt (za ?_));show wpAny _ X.A (do let _ <-comprehension (.ListComp elt [⟨tg,iter,ifs,0⟩] scope pos) scope X.env _ (newList []) false (eval iter X.env) (some (assign (.Name x pos') X.env))) _ _ s
 refine za (zw (wpAny_comprehension_free (use:=some (assign (.Name x pos') X.env)) (Q:=λ_ c=>SP X pins D .next c) rfl hs (Em (wG I l ok)) ok.kind ok.names
  (thn (hi pins s σ H _ I h) λxv s1 h1=>thn h1 λitv s2 h2=>?_)) (λ_ c Z=>zb (zb Z)) λ_ _ e=>e)
 obtain⟨it,fp,tn,J,H2,e,I2,T,t,f2,hW⟩:=h2;subst e
 refine Ep (RR:=λO C=>compPost (model X.prog X.w) X.A X.xe (some (assign (.Name x pos') X.env)) (λ_ c=>SP X pins D .next c) O C) hc I2 l G ok hg Y he T t f2 hW (λf C U P R c I' F L hD q=>?_) λP R q=>q.1
 show wpAny _ X.A (assign (.Name x pos') X.env (.ref f)) _ _ _;refine wpAny_assign_Name (nD (v:=.ref f) I' hN W hl rfl (λu r=>?_) hf);obtain⟨hC,hCn,_⟩:=r.pin (C,U) (by simp);obtain⟨m,hm⟩:=F _ hC;refine⟨m,hm,λh' E=>⟨σ.set i (some (.ref f)),upd R f (.lst P),?_,q.2 f hD⟩⟩;obtain⟨f0,f1,f2',f3,f4,f5⟩:=L;exact r.unpinned.turned (t':=u.toks) (it:=C) (λb o hb e=>E.extBut b o hb e) f0 f1 f3 f4 f5
noncomputable def Can(P:Program)(w:World)(K:PySem.W.Frag)(mg:Str->Option Value)(base:Heap)(x:Str)(b:List Str)(k:Nat)(sp:Sp):Prop :=
 ∃f fd,mg x=some (.ref f)/\PySem.W.keepIn K (.ref f)=true/\Binds K fd b []/\cH P w K mg base CX0 k f fd b sp/\∃d c a,K.lookup f=some ⟨d,c,.func fd,a⟩
noncomputable def Def(K:PySem.W.Frag)(mg:Str->Option Value)(x:Str)(st:Stmt):Prop:=∃f fd,mg x=some (.ref f)/\Fun K x x st f fd
theorem Def.can{K:PySem.W.Frag}  {st:Stmt}    (D:Def K mg x st)(S:bc N ps (aJ st))
  (hb:∀(kV d pm:Value) (m:Option Addr) (a ct:Value) (us:List Value),us.length=ps.length->bindArgs (PySem.W.fnOf x x (dh st) (bJ st) (aJ st) .none kV d pm m a ct) ⟨us,[]⟩=pure (ps.zip us))
  (len:∀vs H Q E,sp vs H Q E->vs.length=ps.length)
  (b:∀(f:Addr) (a:Value) (A:Around) (outer:List Env) (s:Shared) (H:Hp) (vs:List V) (Q:VK) (E:XK),aP k (A.deeper (envOfC x (aJ st) s.heap.objs.size f a))->sp vs H Q E ->
   ∃t,PSs (cY CX0 P w K mg base N x (aJ st) f a A outer s H E).nox (bJ st) t/\t {nx:=λ_ q=>Q .non q,rt:=Q} (start N vs) H):Can P w K mg base x ps (k+1) sp:=by
 obtain⟨f,fd,l,F⟩:=D;obtain⟨i,g,_,_,_,_,_,_,c,_,lk,_⟩:=F.ex;exact⟨f,fd,l,F.kp,F.binds hb,F.ok S len λa A outer s H vs Q E j h=>b f a A outer s H vs Q E j h,i,g,c,lk⟩
theorem RD{p a:Pos}(C:Can X.prog X.w X.K X.mg X.base x ps k sp)(d:aP k X.A)(m:PA X (e::es) t)(i:Gl X x:=by rfl)(c:(x == ("__debug__":Str))=false:=by decide)
  (j:starEach (e::es) X.env=(false,eval e X.env)::starEach es X.env:=by rfl) (b:(backTo a (starEach es X.env)).any (·.1)=false:=by rfl):
  PE X (.Call (.Name x p) (e::es) [] a) (nM sp [] E0 t):=by
 obtain⟨f,fd,g,h,l,F,_⟩:=C;exact Dv F d i g h l .nil qt m c j b
theorem RG{p a:Pos}(C:Can X.prog X.w X.K X.mg X.base x ps k sp)(c:aP k X.A)(h:Gl X x:=by rfl)(b:(x == ("__debug__":Str))=false:=by decide):
  PE X (.Call (.Name x p) [] [] a) (nM sp [] E0 qp):=by
 obtain⟨f,fd,d,g,i,F,_⟩:=C;exact Ql F c h d g i .nil qt b
theorem Same.seqT{K:PySem.W.Frag}    (e:Same H H')(h:SqT K H a xs):SqT K H' a xs:=by
 rcases h with(h | ⟨o,h⟩) | h
 ·exact .inl (.inl (e _ _ h))
 ·exact .inl (.inr ⟨o,e _ _ h⟩)
 ·exact .inr h
mutual
noncomputable def Rep(K:PySem.W.Frag)(H:Hp):V->PyData->Prop
 |v,.none=>v=.non
 |v,.bool b=>v=.bl b
 |v,.int i=>v=.int i
 |v,.str x=>v=.str x
 |v,.list ds=>∃a c,v=.ref a/\SqL K H a c/\bO K H c ds
 |v,.tuple ds=>∃a c,v=.ref a/\SqT K H a c/\bO K H c ds
 | _,.dict _=>False
noncomputable def bO(K:PySem.W.Frag)(H:Hp):List V->List PyData->Prop
 |xs,[]=>xs=[]
 |xs,d::ds=>∃x r,xs=x::r/\Rep K H x d/\bO K H r ds
end
mutual
theorem Rep.mono{K:PySem.W.Frag}  (e:Same H H'):∀(d:PyData) {v:V},Rep K H v d->Rep K H' v d
 | .none,v,h=>by rw[Rep] at h ⊢;exact h
 | .bool b,v,h=>by rw[Rep] at h ⊢;exact h
 | .int i,v,h=>by rw[Rep] at h ⊢;exact h
 | .str x,v,h=>by rw[Rep] at h ⊢;exact h
 | .list ds,v,h=>by
  rw[Rep] at h ⊢;obtain⟨a,c,h1,h2,h3⟩:=h;exact⟨a,c,h1,e.seq h2,bO.mono e ds h3⟩
 | .tuple ds,v,h=>by
  rw[Rep] at h ⊢;obtain⟨a,c,h1,h2,h3⟩:=h;exact⟨a,c,h1,e.seqT h2,bO.mono e ds h3⟩
 | .dict _,v,h=>by rw[Rep] at h;exact h.elim
theorem bO.mono{K:PySem.W.Frag}{H a:Hp}(e:Same H a):∀(ds:List PyData) {xs:List V},bO K H xs ds->bO K a xs ds
 | [],xs,h=>by rw[bO] at h ⊢;exact h
 |d::ds,xs,h=>by
  rw[bO] at h ⊢;obtain⟨x,r,h1,h2,h3⟩:=h;exact⟨x,r,h1,Rep.mono e d h2,bO.mono e ds h3⟩
end
theorem bO.nil{K:PySem.W.Frag} :bO K H [] []:=by rw[bO]
theorem bO.cons{K:PySem.W.Frag}{H:Hp}{x:V}{xs:List V}{d:PyData}{ds:List PyData}(h:Rep K H x d)(hs:bO K H xs ds):bO K H (x::xs) (d::ds):=by
 rw[bO];exact⟨x,xs,rfl,h,hs⟩
mutual
theorem Rep.reads{pins:List (Addr×Obj)}{σ:St}{H:Hp}{s:Shared}(I:Inv X pins σ H s):∀(d:PyData) {v:V}{u:Value},Rep X.K H v d->RelV v u->∃as,Reads s.heap u d as
 | .none,v,u,h,r=>by rw[Rep] at h;subst h;cases(show u=.none from r);exact⟨_,.none⟩
 | .bool b,v,u,h,r=>by rw[Rep] at h;subst h;cases(show u=.bool b from r);exact⟨_,.bool b⟩
 | .int i,v,u,h,r=>by rw[Rep] at h;subst h;obtain⟨t,rfl⟩:=(show ∃t,u=.int i t from r);exact⟨_,.int i t⟩
 | .str x,v,u,h,r=>by rw[Rep] at h;subst h;obtain⟨t,rfl⟩:=(show ∃t,u=.str x t from r);exact⟨_,.str x t⟩
 | .list ds,v,u,h,r=>by
  rw[Rep] at h;obtain⟨a,m,rfl,h2,h3⟩:=h;cases(show u=.ref a from r);obtain⟨l,c,f,_⟩:=I.list h2;obtain⟨as,q⟩:=bO.reads I ds h3 c;obtain⟨o,g,j,n,hd⟩:=f.isList;exact⟨_,.list g j hd (by simpa using q)⟩
 | .tuple ds,v,u,h,r=>by
  rw[Rep] at h;obtain⟨a,m,rfl,h2,h3⟩:=h;cases(show u=.ref a from r);obtain⟨l,c,f,_⟩:=I.tuple h2;obtain⟨as,q⟩:=bO.reads I ds h3 c;obtain⟨o,g,j,n,hd⟩:=f;exact⟨_,.tuple g j hd (by simpa using q)⟩
 | .dict _,v,u,h,r=>by rw[Rep] at h;exact h.elim
theorem bO.reads(I:Inv X pins σ H s):∀(ds:List PyData) {xs:List V}{us:List Value},bO X.K H xs ds->aL xs us->∃as,ReadsAll s.heap us ds as
 | [],xs,us,h,r=>by rw[bO] at h;subst h;cases r;exact⟨_,.nil⟩
 |d::ds,xs,us,h,r=>by
  rw[bO] at h;obtain⟨x,rest,rfl,h2,h3⟩:=h
  cases r with
  |cons r1 r2 =>
   obtain⟨as,q⟩:=Rep.reads I d h2 r1;obtain⟨bs,a⟩:=bO.reads I ds h3 r2;exact⟨_,.cons q a⟩
end
noncomputable def okD(d:PyData):Bool:=d.canLay0&&decide (d.depth<=60)
noncomputable def wH(K:PySem.W.Frag)(a:Bool):R2:=λx y H Q=>∃d e,Rep K H x d/\Rep K H y e/\okD d=true/\okD e=true/\Q (.bl (if a then !PyData.eqv d e else PyData.eqv d e)) H
theorem Er  (j:aP k X.A):OpR X (compareOp .Eq) (wH X.K false):=by
 intro pins s σ H x y v u Q I f c h;obtain⟨d,e,h1,h2,b,a,q⟩:=h;obtain⟨l,i⟩:=Rep.reads I d h1 f;obtain⟨bs,g⟩:=Rep.reads I e h2 c;unfold okD at b a;simp only[zm,decide_eq_true_eq] at b a;exact SeqAt.compareEq_reads i g b.1 a.1 (by have:=j.units;omega) ⟨.bl _,H,I,rfl,q⟩
theorem Es  (j:aP k X.A):OpR X (compareOp .NotEq) (wH X.K true):=by
 intro pins s σ H x y v u Q I f c h;obtain⟨d,e,h1,h2,b,a,q⟩:=h;obtain⟨l,i⟩:=Rep.reads I d h1 f;obtain⟨bs,g⟩:=Rep.reads I e h2 c;unfold okD at b a;simp only[zm,decide_eq_true_eq] at b a;exact SeqAt.compareNe_reads i g b.1 a.1 (by have:=j.units;omega) ⟨.bl _,H,I,rfl,q⟩
noncomputable def S(l:List Nat):Str:=⟨l.toArray⟩
theorem dR(l:List Nat):(S l).cps.toList=l:=by simp[S]
theorem cu(l:List Nat):(S l).length=l.length:=by simp[S,Str.length]
theorem tG(x:Str):S x.cps.toList=x:=by cases x;simp[S]
theorem RJ(a b:List Nat):S a++S b=S (a++b):=by
 show Str.mk _=Str.mk _;simp[S]
theorem wI  (h:S a=S b):a=b:=by have:=congrArg (λx:Str=>x.cps.toList) h;simpa [dR] using this
theorem RK:OpR X (compareOp .LtE) (λx y H Q=>∃i j,x=.str i/\y=.str j/\Q (.bl (!decide (j.cps.toList<i.cps.toList))) H):=by
 intro pins s σ H x y v u Q I b a h;obtain⟨i,j,rfl,rfl,q⟩:=h;obtain⟨t,rfl⟩:=b;obtain⟨c,rfl⟩:=a;exact P.le_str ⟨.bl _,H,I,rfl,q⟩
theorem RM:OpR X (compareOp .In) (λx y H Q=>∃c l,x=.str (S [c])/\y=.str (S l)/\Q (.bl (decide (c∈l))) H):=by
 intro pins s σ H x y v u Q I b a h;obtain⟨c,l,rfl,rfl,q⟩:=h;refine Pn pins s σ H _ _ v u Q I b a ⟨S [c],S l,rfl,rfl,?_⟩;have e:=PySem.StrLaws.found_one (S l) c;rw[dR] at e;show Q (.bl (!(Builtin.Str.occurrences (S l) (S [c]) 0 (S l).length 1).isEmpty)) H;rw[show S [c]=⟨#[c]⟩ from rfl,e];exact q
noncomputable def Its(l:List Nat):It:=⟨λi _=>i<l.length,λi H x a=>a=H/\∃c,l[i]?=some c/\x=.str (S [c]),λi _=>l.length<=i⟩
theorem RN   {K:PySem.W.Frag}  (l:List Nat)(it:Addr)(t:Tok):Turn P w K tg (Its l) [it] it (λi h=>h.IsStrIter it "str_ascii_iterator" (S l) t i) where
 mem:=by simp
 obj:=λi h st b hb=>by
  have e:b=it:=by simpa using hb
  subst e;obtain⟨o,e,c,d⟩:=st;exact⟨o,e,λv z=>by rw[d] at z;cases z⟩
 keep:=λi h h' st k=>let ⟨o,ho,r⟩:=st;⟨o,k it (by simp) o ho,r⟩
 item:=by
  intro X hP hw hK hc i pins s σ H E I hf st hg;subst hP hw hK;obtain⟨f0,f1,f2,f3,f4,f5⟩:=hf it (by simp);have hg':i<l.length:=hg
  refine wpAny_pyNext_ascii_item st (c:=l[i]) (by simp[S,hg']) λh' st' sb=>?_
  have I1:Inv X pins σ H {s with heap:=h',toks:=s.toks+1}:=I.turned (λb o hb e=>(sb.2 b hb).trans e) f0 f1 f3 f4 f5;obtain⟨o,e,c,d⟩:=id st';exact⟨_,rfl,qi (s:={s with heap:=h',toks:=s.toks+1}) e c d (by decide) ⟨.str (S [l[i]]),H,I1,⟨_,rfl⟩,⟨rfl,l[i],by simp[hg'],rfl⟩,st',λb hb=>(hf b hb).1⟩⟩
 done:=by
  intro X hP hw hK hc i pins s σ H E I hf st hg;subst hP hw hK;obtain⟨f0,f1,f2,f3,f4,f5⟩:=hf it (by simp);have hg':l.length<=i:=hg
  exact wpAny_pyNext_ascii_end (I.ok.hd hc) st (by simp[S,hg']) λh' eb=>⟨rfl,I.turned (t':=s.toks) (λb o hb e=>eb b o hb e) f0 f1 f3 f4 f5⟩
 self:=λ_ _ _ _ _ st h=>wpAny_pyIter_striter_ascii st h
noncomputable def ascii(l:List Nat):Bool:=l.all (· < 128)
noncomputable def RP(tl:TE):TI:=λσ H R=>tl σ H λx a=>∃l,x=.str (S l)/\ascii l=true/\R (Its l) a
theorem RQ   (a:PE X e tl):PI X tg e (RP tl):=by
 intro pins s σ H R I h
 refine thn (a pins s σ H _ I h) λv s1 ⟨x,H1,I1,r1,q1⟩=>?_
 obtain⟨l,e,d,q⟩:=q1;subst e;obtain⟨t,rfl⟩:=r1;refine wpAny_pyIter_ascii (by simpa [S,ascii] using d) ?_;refine⟨s1.heap.objs.size,[s1.heap.objs.size],_,_,H1,rfl,I1.kept (t':=s1.toks) λb o e=>zl _ e,RN l _ t,⟨_,zO _ rfl,rfl,rfl⟩,λb c=>?_,q⟩
 have e:b=s1.heap.objs.size:=by simpa using c
 subst e;exact I1.fpOk (zc _) (I1.hok.fresh (zc _))
structure Blt(mg:Str->Option Value):Prop where
 len_:mg "len" = none
 isinstance_:mg "isinstance" = none
 all_:mg "all" = none
 sum_:mg "sum" = none
 max_:mg "max" = none
 min_:mg "min" = none
 int_:mg "int" = none
 str_:mg "str" = none
 bool_:mg "bool" = none
 list_:mg "list" = none
 tuple_:mg "tuple" = none
 dict_:mg "dict" = none
 range_:mg "range" = none
 enumerate_:mg "enumerate" = none
 zip_:mg "zip" = none
theorem Et   {a:Pos}(h:∃u,X.mg x=some u/\RelV v u)(c:Gl X x:=by rfl)(hd:(x == ("__debug__":Str))=false:=by decide):PE X (.Name x a) (tC v):=by
 obtain⟨u,b,r⟩:=h;exact vK c b r hd
noncomputable def cB{α:Type}(l:List α)(a b:Option Int):List α:=(l.drop (HT.sIx l.length 0 a)).take (HT.sIx l.length l.length b - HT.sIx l.length 0 a)
theorem Eu(l:List Nat)(a b:Option Int):Txt.slice (S l) a b=S (cB l a b):=by
 obtain⟨h1,h2,h3⟩:=Ea a b l.length
 have e:Builtin.Str.strSliceIndices a b 1 (S l).length=(List.range (HT.sIx l.length l.length b - HT.sIx l.length 0 a)).map (HT.sIx l.length 0 a + ·):=by
  rw[cu];show sliceRange (sliceBounds a b none l.length).1 (sliceBounds a b none l.length).2.1 (sliceBounds a b none l.length).2.2=_;rw[h1,h2,h3,sliceRange_one]
 unfold Txt.slice;rw[e,pick_run,dR]
 split
 ·rename_i h
  have f:HT.sIx l.length l.length b - HT.sIx l.length 0 a=l.length:=by simpa [cu] using h
  have d:HT.sIx l.length l.length b<=l.length:=HT.sIx_le _ _ (zc _) b;have c:HT.sIx l.length 0 a<=l.length:=HT.sIx_le _ _ (Nat.zero_le _) a
  have h0:HT.sIx l.length 0 a=0:=by omega
  have h1:HT.sIx l.length l.length b=l.length:=by omega
  unfold cB;rw[h0,h1];simp
 ·rfl
noncomputable def RT:V->Option Int->Option Int->Hp->VK->Prop:=λx a b H Q=>∃l,x=.str (S l)/\l.length<=sizeLine/\Q (.str (S (cB l a b))) H
theorem part_of   (p:IsPart v o):∃q:Option (Int×Tok),v=partValue q/\q.map (·.1)=o:=by
 cases p with
 |none=>exact⟨none,rfl,rfl⟩
 |int i t=>exact⟨some (i,t),rfl,rfl⟩
theorem RV:SlR X RT:=by
 intro pins s σ H x v vl E a b sl Q I f hs m j h;obtain⟨l,rfl,r,q⟩:=h;obtain⟨t,rfl⟩:=f;obtain⟨i,rfl,C⟩:=part_of m;obtain⟨g,rfl,y⟩:=part_of j;refine⟨"str",_,F.slot_str_getitem.lookup,typeIs_str _ _ _,?_⟩;refine wpAny_getItem_str_slice (l:=i) (u:=g) (st:=none) hs rfl ?_;have key:(if((1:Int) == 1&&(Builtin.Str.strSliceIndices a b 1 (S l).length).length == (S l).length)=true then S l else⟨((Builtin.Str.strSliceIndices a b 1 (S l).length).filterMap ((S l).cps[·]?)).toArray⟩)=S (cB l a b):=Eu l a b;unfold sliceMade slicePicked;rw[C,y];refine post_val_or_str ⟨?_,λc k=>?_⟩
 ·show(Txt.slice (S l) a b).length<=_;exact zE (Txt.slice_le _ _ _) (by rw[cu];exact r)
 ·have d:=Eu l a b;unfold Txt.slice at d;show EP X pins σ Q (.str (if((1:Int) == 1&&(Builtin.Str.strSliceIndices a b 1 (S l).length).length == (S l).length)=true then S l else⟨((Builtin.Str.strSliceIndices a b 1 (S l).length).filterMap ((S l).cps[·]?)).toArray⟩) c) {s with toks:=k};rw[d];exact⟨.str _,H,I.tok k,⟨c,rfl⟩,q⟩
namespace HT2
theorem getItem_tuple_whole         {a:Option Int}  (b:IsTup s.heap t items)(hs:s.heap.IsSliceOf sl vl vu .none)(pl:IsPart vl a)(r:IsPart vu hi)
  (l:HT.sIx items.size 0 a=0/\HT.sIx items.size items.size hi=items.size) (h:Q (.ref t) s):wpAny (model prog w) A (getItem (.ref t) (.ref sl)) Q E s:=by
 obtain⟨os,f,i,u⟩:=id hs;have j:s.TypeIs (.ref sl) "slice":=⟨os,f,i⟩;unfold getItem
 try with_reducible refine zK ?_
 first | refine za (zb ?_) | skip
 refine za (wpAny_sequenceKey b.typeIs (by decide) ?_)
 refine za (wpAny_callSpecial?_slot (name:=Str.ofString "__getitem__") b.typeIs PyProof.Rows.slot_tuple_getitem
  (wpAny_call_entry PyProof.Rows.slot_tuple_getitem b.typeIs entry_tuple_getitem ?_ (args_tuple_getitem _ _)))
 show wpAny _ _ (Builtin.Tuple.tupleItemsOf (.ref t) >>= _) _ _ s;refine za (tupleItemsOf_ b ?_);refine za (wpAny_typeOf j ?_);rw[if_pos (by decide)];refine za (HT.sliceApplied_gen hs pl r ?_)
 have c:(((HT.sIx items.size 0 a:Nat):Int) == 0&&(1:Int) == 1&&(HT.sIx items.size items.size hi - HT.sIx items.size 0 a) == items.size)=true:=by
  rw[l.1,l.2];simp
 show wpAny _ _ (if(((HT.sIx items.size 0 a:Nat):Int) == 0&&(1:Int) == 1&&(HT.sIx items.size items.size hi - HT.sIx items.size 0 a) == items.size)=true then _ else _) _ _ s;rw[if_pos c]
 have g:∀{q:Around}{m:Value->Shared->Prop}{d:Bool->Shared->Prop},d true s->wpAny (model prog w) q (Builtin.Tuple.tupleIsExact (.ref t)) d m s:=λ{q m d} hq=>by
  unfold Builtin.Tuple.tupleIsExact;exact za (wpAny_typeOf b.typeIs (zb hq))
 refine za (g ?_);rw[if_pos rfl];exact za (wpAny_rule (zb ⟨_,rfl,zb h⟩))
end HT2
noncomputable def RW(K:PySem.W.Frag):V->Option Int->Option Int->Hp->VK->Prop:=λx c d H Q=>∃a b,x=.ref a/\SqT K H a b /\
 ((HT.sIx b.length 0 c=0/\HT.sIx b.length b.length d=b.length)->Q (.ref a) H)/\(¬(HT.sIx b.length 0 c=0/\HT.sIx b.length b.length d=b.length)->∀p,H p=none->Q (.ref p) (upd H p (.tup (jC b c d))))
theorem RX(K:PySem.W.Frag)(C:X.K=K:=by rfl):SlR X (RW K):=by
 subst C;intro pins s σ H x v vl t j q sl Q I f hs i g h;obtain⟨a,b,rfl,l,y,u⟩:=h
 by_cases c:HT.sIx b.length 0 j=0/\HT.sIx b.length b.length q=b.length
 ·cases f;obtain⟨d,r,m,E⟩:=I.tuple l
  have hlen:d.toArray.size=b.length:=by rw[zu];exact r.length.symm
  exact⟨"tuple",_,PyProof.Rows.slot_tuple_getitem.lookup,m.typeIs,HT2.getItem_tuple_whole m hs i g (by rw[hlen];exact c) ⟨.ref a,H,I,rfl,y c⟩⟩
 ·exact QB pins s σ H _ v vl t j q sl Q I f hs i g ⟨a,b,rfl,l,c,u c⟩
inductive TyQ (K:PySem.W.Frag) (H:Hp):V->String->Prop where
 | non:TyQ K H .non "NoneType"
 | bl (x:Bool):TyQ K H (.bl x) "bool"
 | int (i:Int):TyQ K H (.int i) "int"
 | str (x:Str):TyQ K H (.str x) "str"
 | lst {a:Addr}{xs:List V} (e:SqL K H a xs):TyQ K H (.ref a) "list"
 | tup {a:Addr}{xs:List V} (e:SqT K H a xs):TyQ K H (.ref a) "tuple"
 | dK {a:Addr}{kvs:List (Key×V)} (e:H a=some (.dK kvs)):TyQ K H (.ref a) "dict"
noncomputable def RZ(K:PySem.W.Frag):List V->Hp->VK->Prop:=λa H Q=>∃x n t b,a=[x,.ty n]/\TyQ K H x t/\PySem.W.kitOne K (.type t) (.type n)=some b/\Q (.bl b) H
theorem R0(K:PySem.W.Frag)(E:X.K=K:=by rfl):gO X (.builtin "isinstance") (RZ K):=by
 subst E;intro pins s σ H m F Q I r h;obtain⟨x,n,t,b,rfl,ty,e,q⟩:=h;obtain⟨u,c,rfl,f,C⟩:=vals2 r;cases(show c=.type n from C)
 have d:∀tk,EP X pins σ Q (.bool b) {s with toks:=tk}:=λtk=>⟨.bl b,H,I.tok tk,rfl,q⟩
 cases ty with
 |non=>exact qm I f .non e d
 |bl y=>exact qm I f (.bl y) e d
 |int i=>exact qm I f (.int i) e d
 |str y=>exact qm I f (.str y) e d
 | @lst a m ea =>
  cases(show u=Value.ref a from f);obtain⟨l,_,p,_⟩:=I.list ea;obtain⟨o,g,j,_⟩:=p.isList;exact PySem.W.kia_one PySem.W.kitx_list I.kIn ⟨o,g,j⟩ e (λz=>nomatch z) d
 | @tup a m ea =>
  cases(show u=Value.ref a from f);obtain⟨l,_,p,_⟩:=I.tuple ea;obtain⟨o,g,j,_⟩:=p;exact PySem.W.kia_one PySem.W.kitx_tuple I.kIn ⟨o,g,j⟩ e (λz=>nomatch z) d
 | @dK a kvs ea=>exact qm I f (.dK ea) e d
theorem R1(K:PySem.W.Frag)(n:String):PySem.W.kitOne K (.type n) (.type n)=some true:=by
 unfold PySem.W.kitOne;rw[if_pos (beq_self_eq_true _)]
theorem tH:∀{ds:List PyData},(∀d∈ds,d.canLay0=true)->PyData.canLayAll0 ds=true
 | [],_=>rfl
 |d::ds,h=>by rw[PyData.canLayAll0,h d zj,tH λx a=>h x (zp _ a)];rfl
theorem tK :∀{ds:List PyData},(∀d∈ds,d.depth<=n)->PyData.depthAll ds<=n
 | [],_=>by rw[PyData.depthAll];exact Nat.zero_le _
 |d::ds,h=>by
  rw[PyData.depthAll];exact Nat.max_le.mpr ⟨h d zj,tK λx a=>h x (zp _ a)⟩
theorem R3  (a:n<60)  (h:∀d∈ds,d.canLay0=true/\d.depth<=n):okD (.list ds)=true:=by
 unfold okD;rw[zm];refine⟨?_,zF ?_⟩
 ·show PyData.canLayAll0 ds=true
  exact tH λd hd=>(h d hd).1
 ·show PyData.depthAll ds+1<=60
  have:=tK λd hd=>(h d hd).2
  omega
theorem Ew:∀{ls:List (List Nat)}{us:List Value},aL (ls.map λl=>V.str (S l)) us->StrsAre us (ls.map S)
 | [],us,r=>by rw[zV] at r;cases r;exact .nil
 |l::ls,us,r=>by
  rw[zd] at r
  cases r with
  |cons r1 r2 =>
   obtain⟨t,e⟩:=r1;subst e;exact .cons _ t (Ew r2)
theorem Ex:∀(ls:List (List Nat)) (a:Array Nat),(ls.map S).foldl (λacc p=>acc++(S []).cps++p.cps) a=a++ls.flatten.toArray
 | [],a=>by simp
 |l::ls,a=>by
  rw[zd,List.foldl_cons,Ex ls];simp[S]
theorem R4(ls:List (List Nat)):Txt.join (S []) (ls.map S)=S ls.flatten:=by
 show Builtin.Str.glued (S []) (ls.map S)=_;unfold Builtin.Str.glued
 cases ls with
 |nil=>rfl
 |cons l ls =>
  show Str.mk ((ls.map S).foldl (λa p=>a++(S []).cps++p.cps) (S l).cps)=_;rw[Ex];simp[S]
noncomputable def rJoin(K:PySem.W.Frag):V->List V->Hp->VK->Prop:=λx a H Q=>∃(p:Addr) (ls:List (List Nat)),x=.str (S [])/\a=[.ref p]/\SqL K H p (ls.map λl=>V.str (S l))/\(ls.map List.length).sum<=1000000/\Q (.str (S ls.flatten)) H
theorem R5(K:PySem.W.Frag)(j:X.K=K:=by rfl):MtR X "str.join" (rJoin K):=by
 subst j;intro pins s σ H x r v y Q I b f h;obtain⟨p,ls,rfl,rfl,i,C,q⟩:=h;obtain⟨t,rfl⟩:=b;obtain⟨u,rfl,d⟩:=vals1 f;cases d;obtain⟨m,c,g,_⟩:=I.list i
 refine join_list g.isList (ys:=ls.map S) (by simpa using Ew c) ?_ λa k=>⟨.str (S ls.flatten),H,I.tok k,⟨a,?_⟩,q⟩
 ·have e:((ls.map S).map (·.length)).sum=(ls.map List.length).sum:=by
   rw[List.map_map];exact congrArg List.sum (ji λl _=>cu l)
  rw[e,cu];simp only[zJ,Nat.mul_zero];omega
 ·rw[R4]
noncomputable def R6:V->List V->Hp->VK->Prop:=λx a H Q=>∃l m,x=.str (S l)/\a=[.str (S m)]/\Q (.bl (decide (l.take m.length=m))) H
theorem R7(l m:List Nat):Txt.startswith (S l) (S m)=decide (l.take m.length=m):=by
 unfold Txt.startswith;rw[StrLaws.subAt_eq,dR,dR,cu,cu,List.drop_zero,Bool.eq_iff_iff,zm,decide_eq_true_eq,decide_eq_true_eq,beq_iff_eq];constructor
 ·exact λh=>h.2
 ·intro h;refine⟨?_,h⟩
  have:=congrArg List.length h
  rw[List.length_take] at this;omega
noncomputable def R8:R2:=λx y H Q=>∃(l:List Nat) (n:Int),x=.str (S l)/\y=.int n/\-1000000<n/\n<1000000/\l.length * n.toNat<=16777216/\Q (.str (S (List.replicate n.toNat l).flatten)) H
theorem Ey(l:List Nat):∀(n:Nat) (a:Array Nat),(List.replicate n (S l).cps).foldl (· ++ ·) a=a++(List.replicate n l).flatten.toArray
 | 0,a=>by simp
 |n+1,a=>by
  rw[List.replicate_succ,List.foldl_cons,Ey l n,List.replicate_succ,List.flatten_cons];simp[S]
theorem R9:OpR X (binaryOp .Mult) R8:=by
 intro pins s σ H x y v u Q I c b h;obtain⟨l,n,rfl,rfl,h1,h2,h3,q⟩:=h;obtain⟨t,rfl⟩:=c;obtain⟨m,rfl⟩:=b;have hs:sizeLine=16777216:=sizeLine_eq
 by_cases g:n<1
 ·have j:n.toNat=0:=by omega
  rw[j] at q;exact P.mul_str_none g (by omega) ⟨.str (S []),H,I.tok _,⟨s.toks,rfl⟩,q⟩
 refine P.mul_str ?_ (λ_ _=>?_) (λ_ _=>?_) ?_
 ·rw[zo (by omega),zo (by omega)];rfl
 ·rw[cu];intro d
  have h4:(l.length:Int) * n<=16777216:=by
   have:((l.length * n.toNat:Nat):Int)<=16777216:=by omega
   rw[Int.natCast_mul,Int.toNat_of_nonneg (by omega)] at this;exact this
  have i:(2 ^ 63 - 1) / n<(l.length:Int):=d;have r:=(Int.ediv_lt_iff_lt_mul (show 0<n by omega)).mp i;omega
 ·rw[cu];unfold Builtin.Str.tooLong;exact zo (by omega)
 ·rw[if_neg (by omega)]
  by_cases a:(n == 1 || (S l).length == 0)=true
  ·rw[if_pos a]
   have e:(List.replicate n.toNat l).flatten=l:=by
    rw[Bool.or_eq_true,beq_iff_eq,beq_iff_eq,cu] at a
    rcases a with z | z
    ·rw[z];show(List.replicate 1 l).flatten=l;simp
    ·have z':=List.eq_nil_of_length_eq_zero z;subst z';rw[List.flatten_eq_nil_iff];intro x f;exact(List.mem_replicate.mp f).2
   rw[e] at q;exact⟨.str (S l),H,I,⟨t,rfl⟩,q⟩
  ·rw[if_neg a,Ey];refine⟨?_,.str (S (List.replicate n.toNat l).flatten),H,I.tok _,⟨s.toks,?_⟩,q⟩
   ·show(#[]++(List.replicate n.toNat l).flatten.toArray).size<=sizeLine;simp only[Array.size_append,zu,List.length_flatten,List.map_replicate,List.sum_replicate_nat];simp;rw[Nat.mul_comm];omega
   ·congr 1;simp[S]
theorem Sd:MtR X "str.startswith" R6:=by
 intro pins s σ H x d v f Q I a c h;obtain⟨l,m,rfl,rfl,q⟩:=h;obtain⟨t,rfl⟩:=a;obtain⟨u,rfl,b⟩:=vals1 c;obtain⟨g,rfl⟩:=b;exact SC.startswith ⟨.bl _,H,I,rfl,by rw[R7];exact q⟩
inductive D where
 | non | bl (b:Bool) | int (i:Int) | str (l:List Nat) | lst (ds:List D) | tup (ds:List D) | dic (ks vs:List D) | ob (n:Nat)
inductive Ob where
 | ins (c:Str) (fs:List (Str×D))
 | ml (ds:List D)
 | dt (kvs:List (List Key×D))
 | df (kvs:List (List Key×D))
 | dk (kvs:List (Key×D))
 | kf (kvs:List (Key×D))
 | xc (c:Str) (fs:List (Str×D))
 | gone
 | dn (kvs:List (NK×D))
 | nf (kvs:List (NK×D))
abbrev az:=List Ob
abbrev aV:=List (Option D)
structure Xc where
 cls:Str
 fs:List (Str×D)
inductive Res (α:Type) where
 | ok (a:α) (O:az) | ex (x:Xc) (O:az) | no
inductive Fl where
 | nx (ρ:aV) (O:az) | rt (d:D) (O:az) | bk (ρ:aV) (O:az) | ct (ρ:aV) (O:az) | ex (x:Xc) (O:az) | no
abbrev M(α:Type):=aV->az->Res α
abbrev MS:=aV->az->Fl
noncomputable def Res.bind  (r:Res α)(f:α->az->Res β):Res β:=match r with
 | .ok a O=>f a O
 | .ex x O=>.ex x O
 | .no=>.no
theorem Res.bind_ok  {r:Res α}{f:α->az->Res β}{b:β}  (h:r.bind f=.ok b O'):∃a O,r=.ok a O/\f a O=.ok b O':=by
 cases r with
 |ok a O=>exact⟨a,O,rfl,h⟩
 |ex x O=>cases h
 |no=>cases h
noncomputable def wJ:Expr->Bool
 | .Starred _ _=>false
 | _=>true
theorem bF    (h:wJ e=true):starEach (e::es) env=(false,eval e env)::starEach es env:=by
 cases e<;>first | rfl | cases h
theorem cR  :∀{a:List Expr},a.all wJ=true->(backTo pos (starEach a env)).any (·.1)=false
 | [],_=>by simp[starEach,backTo]
 |e::a,h=>by
  rw[List.all_cons,zm] at h;rw[bF h.1];show(false || (backTo pos (starEach a env)).any (·.1))=false;rw[cR h.2];rfl
theorem nR   (h:wJ e=true):starEach [e] env=[(false,eval e env)]:=by rw[bF h];simp[starEach]
abbrev Frag:=PySem.W.Frag
noncomputable def lQ:Key->D
 | .inl i=>.int i
 | .inr x=>.str x.cps.toList
noncomputable def RdK(K:Frag)(H:Hp)(a:Addr)(xs:List V):Prop:=Rd H a (.lst xs)\/∃(b:List Value) (n:Nat),K.lookup a=some {cls:=.type "list",data:=.seq b.toArray n}/\b.length<=sizeLine/\aL xs b
theorem RdK.sq{K:Frag}    (h:RdK K H a xs):SqL K H a xs:=by
 rcases h with h | ⟨b,n,h1,h2,h3⟩
 ·exact .inl h
 ·exact .inr ⟨_,b.toArray,n,h1,rfl,rfl,rfl,by simpa using h2,by simpa using h3⟩
theorem RdK.ok   {σ:St}     (h:RdK X.K H a xs)(I:Inv X pins σ H s):xs.length<=sizeLine/\∃(b:List Value) (n:Nat),aL xs b/\s.heap.get? a=some {cls:=.type "list",data:=.seq b.toArray n}:=by
 rcases h with h | ⟨b,n,h1,h2,h3⟩
 ·exact h.ok I.hok
 ·exact⟨by rw[h3.length];exact h2,b,n,h3,I.kIn a _ h1⟩
noncomputable def TqT(K:Frag)(F:Hp)(a:Addr)(xs:List V):Prop :=
 F a=some (.tup xs)\/∃(o:Obj) (b:Array Value) (n:Nat),K.lookup a=some o/\o.cls=.type "tuple"/\o.data=.seq b n/\b.size<=sizeLine/\aL xs b.toList
theorem TqT.sq{K:Frag}    (h:TqT K F a xs):SqT K F a xs:=h.imp .inl id
mutual
noncomputable def Rp(K:Frag)(F:Hp)(as:List Addr):V->D->Prop
 |v,.non=>v=.non
 |v,.bl b=>v=.bl b
 |v,.int i=>v=.int i
 |v,.str l=>v=.str (S l)
 |v,.lst ds=>∃a c,v=.ref a/\RdK K F a c/\Rps K F as c ds
 |v,.tup ds=>∃a c,v=.ref a/\TqT K F a c/\Rps K F as c ds
 |v,.dic ks vs=>∃(a:Addr) (kvs:List (Key×V)),v=.ref a/\F a=some (.dK kvs)/\ks=kvs.map (λp=>lQ p.1)/\Rps K F as (kvs.map (·.2)) vs
 |v,.ob n=>∃a,v=.ref a/\as[n]?=some a
noncomputable def Rps(K:Frag)(F:Hp)(as:List Addr):List V->List D->Prop
 |xs,[]=>xs=[]
 |xs,d::ds=>∃x r,xs=x::r/\Rp K F as x d/\Rps K F as r ds
end
section
variable {K:Frag}{F F':Hp}{as as':List Addr}
theorem Rd.mono    (e:Same H H')(h:Rd H a u):Rd H' a u:=by
 rcases h with h | ⟨o,h⟩
 ·exact .inl (e _ _ h)
 ·exact .inr ⟨o,e _ _ h⟩
theorem RdK.mono{K:Frag}    (e:Same H H')(h:RdK K H a xs):RdK K H' a xs:=h.imp (λz=>z.mono e) id
mutual
theorem Rp.mono(e:Same F F')(ea:∀(n:Nat) (a:Addr),as[n]?=some a->as'[n]?=some a):∀(d:D) {v:V},Rp K F as v d->Rp K F' as' v d
 | .non,v,h=>by rw[Rp] at h ⊢;exact h
 | .bl b,v,h=>by rw[Rp] at h ⊢;exact h
 | .int i,v,h=>by rw[Rp] at h ⊢;exact h
 | .str x,v,h=>by rw[Rp] at h ⊢;exact h
 | .lst ds,v,h=>by
  rw[Rp] at h ⊢;obtain⟨a,c,h1,h2,h3⟩:=h;exact⟨a,c,h1,h2.mono e,Rps.mono e ea ds h3⟩
 | .tup ds,v,h=>by
  rw[Rp] at h ⊢;obtain⟨a,c,h1,h2,h3⟩:=h;exact⟨a,c,h1,h2.imp (e _ _) id,Rps.mono e ea ds h3⟩
 | .dic ks vs,v,h=>by
  rw[Rp] at h ⊢;obtain⟨a,kvs,h1,h2,h3,h4⟩:=h;exact⟨a,kvs,h1,e _ _ h2,h3,Rps.mono e ea vs h4⟩
 | .ob n,v,h=>by
  rw[Rp] at h ⊢;obtain⟨a,h1,h2⟩:=h;exact⟨a,h1,ea _ _ h2⟩
theorem Rps.mono(e:Same F F')(ea:∀(n:Nat) (a:Addr),as[n]?=some a->as'[n]?=some a):∀(ds:List D) {xs:List V},Rps K F as xs ds->Rps K F' as' xs ds
 | [],xs,h=>by rw[Rps] at h ⊢;exact h
 |d::ds,xs,h=>by
  rw[Rps] at h ⊢;obtain⟨x,r,h1,h2,h3⟩:=h;exact⟨x,r,h1,Rp.mono e ea d h2,Rps.mono e ea ds h3⟩
end
theorem Rp.non{K:Frag}:Rp K F as .non .non:=by rw[Rp]
theorem Rp.bl{K:Frag} :Rp K F as (.bl b) (.bl b):=by rw[Rp]
theorem Rp.int{K:Frag} :Rp K F as (.int i) (.int i):=by rw[Rp]
theorem Rp.str{K:Frag} :Rp K F as (.str (S l)) (.str l):=by rw[Rp]
theorem Rp.unN{K:Frag}  (h:Rp K F as v .non):v=.non:=by rw[Rp] at h;exact h
theorem Rp.unB{K:Frag}   (h:Rp K F as v (.bl b)):v=.bl b:=by rw[Rp] at h;exact h
theorem Rp.unI{K:Frag}   (h:Rp K F as v (.int i)):v=.int i:=by rw[Rp] at h;exact h
theorem Rp.unS{K:Frag}   (h:Rp K F as v (.str l)):v=.str (S l):=by rw[Rp] at h;exact h
theorem Rp.unL{K:Frag}   (h:Rp K F as v (.lst ds)):∃a xs,v=.ref a/\RdK K F a xs/\Rps K F as xs ds:=by rw[Rp] at h;exact h
theorem Rp.unT'{K:Frag}   (h:Rp K F as v (.tup ds)):∃a xs,v=.ref a/\TqT K F a xs/\Rps K F as xs ds:=by rw[Rp] at h;exact h
theorem Rp.unT{K:Frag}   (h:Rp K F as v (.tup ds)):∃a xs,v=.ref a/\SqT K F a xs/\Rps K F as xs ds:=let ⟨a,xs,e,h1,h2⟩:=h.unT';⟨a,xs,e,h1.sq,h2⟩
theorem Rp.unO{K:Frag}   (h:Rp K F as v (.ob n)):∃a,v=.ref a/\as[n]?=some a:=by rw[Rp] at h;exact h
theorem Rp.unD{K:Frag}   (h:Rp K F as v (.dic ks vs)):∃(a:Addr) (kvs:List (Key×V)),v=.ref a/\F a=some (.dK kvs)/\ks=kvs.map (λp=>lQ p.1)/\Rps K F as (kvs.map (·.2)) vs:=by rw[Rp] at h;exact h
theorem Rp.mkL{K:Frag}    (h:RdK K F a xs)(hs:Rps K F as xs ds):Rp K F as (.ref a) (.lst ds):=by rw[Rp];exact⟨a,xs,rfl,h,hs⟩
theorem Rp.mkT{K:Frag}    (h:TqT K F a xs)(hs:Rps K F as xs ds):Rp K F as (.ref a) (.tup ds):=by rw[Rp];exact⟨a,xs,rfl,h,hs⟩
theorem Rp.mkO{K:Frag}   (h:as[n]?=some a):Rp K F as (.ref a) (.ob n):=by rw[Rp];exact⟨a,rfl,h⟩
theorem Rps.nil{K:Frag}:Rps K F as [] []:=by rw[Rps]
theorem Rps.cons{K:Frag}{F:Hp}{as:List Addr}{x:V}{xs:List V}{d:D}{ds:List D}(h:Rp K F as x d)(hs:Rps K F as xs ds):Rps K F as (x::xs) (d::ds):=by
 rw[Rps];exact⟨x,xs,rfl,h,hs⟩
theorem Rps.un{K:Frag}    (h:Rps K F as xs (d::ds)):∃x r,xs=x::r/\Rp K F as x d/\Rps K F as r ds:=by rw[Rps] at h;exact h
theorem Rps.un0{K:Frag}  (h:Rps K F as xs []):xs=[]:=by rw[Rps] at h;exact h
theorem Rps.length{K:Frag}:∀{ds:List D}{xs:List V},Rps K F as xs ds->xs.length=ds.length
 | [],xs,h=>by rw[h.un0];rfl
 |d::ds,xs,h=>by
  obtain⟨x,r,rfl,_,h3⟩:=h.un;simp[Rps.length h3]
theorem Rps.get{K:Frag}{F:Hp}{as:List Addr}:∀{ds:List D}{xs:List V}{i:Nat}{x:V},Rps K F as xs ds->xs[i]?=some x->∃d,ds[i]?=some d/\Rp K F as x d
 | [],xs,i,x,h,e=>by rw[h.un0] at e;simp at e
 |d::ds,xs,i,x,h,e=>by
  obtain⟨y,r,rfl,h2,h3⟩:=h.un
  cases i with
  |zero=>simp at e;subst e;exact⟨d,rfl,h2⟩
  |succ i =>
   obtain⟨b,a,q⟩:=Rps.get (i:=i) (x:=x) h3 (by simpa using e);exact⟨b,by simpa using a,q⟩
theorem Rps.get'{K:Frag}{F:Hp}{as:List Addr}:∀{ds:List D}{xs:List V}{i:Nat}{d:D},Rps K F as xs ds->ds[i]?=some d->∃x,xs[i]?=some x/\Rp K F as x d:=by
 intro ds xs i d h e;have c:=h.length
 have a:i<xs.length:=by rw[c];exact(zk.mp e).1
 obtain⟨f,b,q⟩:=h.get (zM a);rw[e] at b;cases b;exact⟨_,zM a,q⟩
theorem Rps.append{K:Frag}   (a:Rps K F as ys es):∀{ds:List D}{xs:List V},Rps K F as xs ds->Rps K F as (xs++ys) (ds++es)
 | [],xs,h=>by rw[h.un0];exact a
 |e::ds,xs,h=>by
  obtain⟨y,r,rfl,h2,h3⟩:=h.un;exact Rps.cons h2 (Rps.append a h3)
theorem Rps.snoc{K:Frag}     (h:Rps K F as xs ds)(a:Rp K F as x d):Rps K F as (xs++[x]) (ds++[d]):=Rps.append (Rps.cons a Rps.nil) h
theorem Rps.take{K:Frag}:∀{ds:List D}{xs:List V} (n:Nat),Rps K F as xs ds->Rps K F as (xs.take n) (ds.take n)
 | _,_,0,_=>by simpa using Rps.nil
 | [],xs,n+1,h=>by rw[h.un0];simpa using Rps.nil
 |d::ds,xs,n+1,h=>by
  obtain⟨y,r,rfl,h2,h3⟩:=h.un;exact Rps.cons h2 (Rps.take n h3)
theorem Rps.drop{K:Frag}:∀{ds:List D}{xs:List V} (n:Nat),Rps K F as xs ds->Rps K F as (xs.drop n) (ds.drop n)
 | _,_,0,h=>by simpa using h
 | [],xs,n+1,h=>by rw[h.un0];simpa using Rps.nil
 |d::ds,xs,n+1,h=>by
  obtain⟨y,r,rfl,h2,h3⟩:=h.un;exact Rps.drop n h3
theorem Rps.set{K:Frag}{F:Hp}{as:List Addr}:∀{ds:List D}{xs:List V}{x:V}{d:D} (n:Nat),Rps K F as xs ds->Rp K F as x d->Rps K F as (xs.set n x) (ds.set n d)
 | [],xs,x,d,n,h,_=>by rw[h.un0];simpa using Rps.nil
 |e::ds,xs,x,d,0,h,hx=>by
  obtain⟨y,r,rfl,h2,h3⟩:=h.un;exact Rps.cons hx h3
 |e::ds,xs,x,d,n+1,h,hx=>by
  obtain⟨y,r,rfl,h2,h3⟩:=h.un;exact Rps.cons h2 (Rps.set n h3 hx)
theorem Rps.rep{K:Frag}   (h:Rps K F as xs ds):∀n:Nat,Rps K F as (List.replicate n xs).flatten (List.replicate n ds).flatten
 | 0=>by simpa using Rps.nil
 |n+1=>by
  rw[List.replicate_succ,List.replicate_succ,List.flatten_cons,List.flatten_cons];exact Rps.append (Rps.rep h n) h
end
noncomputable def isD:HO->Bool
 | .ins _ _ _=>false
 | .own _=>false
 | .xd _=>false
 | _=>true
noncomputable def isL:HO->Bool
 | .lst _=>true
 | .dK _=>true
 | _=>false
theorem Ez  (h:isL o=true):isD o=true:=by
 cases o<;>first | rfl | cases h
structure Gr(H F:Hp)(as:List Addr)(H' F':Hp)(as':List Addr):Prop where
 fz:∀a o,H a=some o->a∉as->isL o=true->F' a=F a
 ff:Same F F'
 nw:∃new,as'=as++new/\∀a∈new,H a=none
 fr:∀a o,H a=some o->a∉as->isD o=true->H' a=some o
 dm:∀a,H' a=none->H a=none
 kz:∀a o u,H a=some (.frz o u)->H' a=some (.frz o u)
structure Pt where
 p:Addr->Prop
 ss:List (Nat×V×D)
instance:CoeFun Pt (λ_=>Addr->Prop):=⟨Pt.p⟩
noncomputable def Pt.all(H:Hp):Pt:=⟨λa=>H a≠none,[]⟩
structure GrS(P:Pt)(H F:Hp)(as:List Addr)(H' F':Hp)(as':List Addr):Prop where
 fz:∀a o,P a->H a=some o->a∉as->isL o=true->F' a=F a
 ff:Same F F'
 nw:∃new,as'=as++new/\∀a∈new,H a=none
 fr:∀a o,P a->H a=some o->a∉as->isD o=true->H' a=some o
 dm:∀a,H' a=none->H a=none
 kz:∀a o u,H a=some (.frz o u)->H' a=some (.frz o u)
theorem Gr.refl:Gr H F as H F as:=⟨λ_ _ _ _ _=>rfl,Same.refl F,⟨[],by simp,λ_ h=>nomatch h⟩,λ_ _ h _ _=>h,λ_ h=>h,λ_ _ _ h=>h⟩
theorem Gr.trans(a:Gr H F as H' F' as')(b:Gr H' F' as' H2 F2 as2):Gr H F as H2 F2 as2:=by
 obtain⟨j,g,h1⟩:=a.nw;obtain⟨i,l,h2⟩:=b.nw;refine⟨λc o f d hd=>?_,a.ff.trans b.ff,⟨j++i,by rw[l,g,zD],λc f=>?_⟩,λc o e d hd=>?_,λc h=>a.dm c (b.dm c h),λc o u h=>b.kz c o u (a.kz c o u h)⟩
 ·have q:=a.fr c o f d (Ez hd);refine(b.fz c o q ?_ hd).trans (a.fz c o f d hd);rw[g];intro z
  rcases zv.mp z with z | z
  ·exact d z
  ·rw[h1 c z] at f;cases f
 ·rcases zv.mp f with z | z
  ·exact h1 c z
  ·exact a.dm c (h2 c z)
 ·have q:=a.fr c o e d hd;refine b.fr c o q ?_ hd;rw[g];intro z
  rcases zv.mp z with z | z
  ·exact d z
  ·rw[h1 c z] at e;cases e
theorem Gr.toS(a:Gr H F as H' F' as'):GrS P H F as H' F' as':=⟨λc o _=>a.fz c o,a.ff,a.nw,λc o _ e b hd=>a.fr c o e b hd,a.dm,a.kz⟩
theorem GrS.refl:GrS P H F as H F as:=Gr.refl.toS
theorem GrS.trans(a:GrS P H F as H' F' as')(b:GrS P H' F' as' H2 F2 as2):GrS P H F as H2 F2 as2:=by
 obtain⟨j,g,h1⟩:=a.nw;obtain⟨i,l,h2⟩:=b.nw;refine⟨λc o p f d hd=>?_,a.ff.trans b.ff,⟨j++i,by rw[l,g,zD],λc f=>?_⟩,λc o p e d hd=>?_,λc h=>a.dm c (b.dm c h),λc o u h=>b.kz c o u (a.kz c o u h)⟩
 ·have q:=a.fr c o p f d (Ez hd);refine(b.fz c o p q ?_ hd).trans (a.fz c o p f d hd);rw[g];intro z
  rcases zv.mp z with z | z
  ·exact d z
  ·rw[h1 c z] at f;cases f
 ·rcases zv.mp f with z | z
  ·exact h1 c z
  ·exact a.dm c (h2 c z)
 ·have q:=a.fr c o p e d hd;refine b.fr c o p q ?_ hd;rw[g];intro z
  rcases zv.mp z with z | z
  ·exact d z
  ·rw[h1 c z] at e;cases e
theorem GrS.gr(a:GrS (Pt.all H) H F as H' F' as'):Gr H F as H' F' as':=⟨λc o e=>a.fz c o (show H c≠none by rw[e];exact λz=>nomatch z) e,a.ff,a.nw,λc o e=>a.fr c o (show H c≠none by rw[e];exact λz=>nomatch z) e,a.dm,a.kz⟩
theorem Gr.at_(a:Gr H F as H' F' as'):∀(n:Nat) (c:Addr),as[n]?=some c->as'[n]?=some c:=λn c h=>by
 obtain⟨new,e,_⟩:=a.nw;rw[e,zA (zk.mp h).1];exact h
theorem GrS.at_(a:GrS P H F as H' F' as'):∀(n:Nat) (c:Addr),as[n]?=some c->as'[n]?=some c:=λn c h=>by
 obtain⟨new,e,_⟩:=a.nw;rw[e,zA (zk.mp h).1];exact h
theorem Gr.out(a:Gr H F as H' F' as')  (h:c∉as)(e:H c≠none):c∉as':=by
 obtain⟨new,b,h1⟩:=a.nw;rw[b];intro z
 rcases zv.mp z with z | z
 ·exact h z
 ·exact e (h1 c z)
theorem Rp.gr{K:Frag}   (h:Rp K F as v d)(a:Gr H F as H' F' as'):Rp K F' as' v d:=Rp.mono a.ff a.at_ d h
theorem Rps.gr{K:Frag}   (h:Rps K F as v d)(a:Gr H F as H' F' as'):Rps K F' as' v d:=Rps.mono a.ff a.at_ d h
theorem Rp.grS{K:Frag}   (h:Rp K F as v d)(a:GrS P H F as H' F' as'):Rp K F' as' v d:=Rp.mono a.ff a.at_ d h
structure FsR(K:Frag)(F:Hp)(as:List Addr)(gs:List (Str×V))(fs:List (Str×D)):Prop where
 nm:gs.map (·.1)=fs.map (·.1)
 vl:Rps K F as (gs.map (·.2)) (fs.map (·.2))
noncomputable def XF(K:Frag)(F:Hp)(as:List Addr)(a:Option Addr)(fs:List (Str×D)):Prop:=fs=[]\/∃b c gs,a=some b/\F b=some (.frz c (.xd gs))/\FsR K F as gs fs
theorem XF.mono{K:Frag}     (h:XF K F as dxo fs)(e:Same F F')(ea:∀(n:Nat) (a:Addr),as[n]?=some a->as'[n]?=some a):XF K F' as' dxo fs:=by
 rcases h with h | ⟨c,b,gs,h1,h2,h3,h4⟩
 ·exact .inl h
 ·exact .inr ⟨c,b,gs,h1,e _ _ h2,h3,Rps.mono e ea _ h4⟩
noncomputable def ObR(K:Frag)(mg:Str->Option Value)(H F:Hp)(as:List Addr)(a:Addr):Ob->Prop
 | .ins c fs=>∃C g gs,mg c=some (.ref C)/\H a=some (.ins C g gs)/\FsR K F as gs fs
 | .ml ds=>∃b,H a=some (.lst b)/\Rps K F as b ds
 | .dt kvs=>∃b:List (List Key×V),H a=some (.dT b)/\b.map (·.1)=kvs.map (·.1)/\Rps K F as (b.map (·.2)) (kvs.map (·.2))
 | .df kvs=>∃(o:Obj) (b:List (List Key×V)),H a=some (.frz o (.dT b))/\b.map (·.1)=kvs.map (·.1)/\Rps K F as (b.map (·.2)) (kvs.map (·.2))
 | .dk kvs=>∃b:List (Key×V),H a=some (.dK b)/\b.map (·.1)=kvs.map (·.1)/\Rps K F as (b.map (·.2)) (kvs.map (·.2))
 | .kf kvs=>∃(o:Obj) (b:List (Key×V)),H a=some (.frz o (.dK b))/\b.map (·.1)=kvs.map (·.1)/\Rps K F as (b.map (·.2)) (kvs.map (·.2))
 | .xc c fs=>∃(C:Addr) (d:Obj) (u:HO),mg c=some (.ref C)/\H a=some (.frz d u)/\d.cls=.ref C/\(∃f,d.data=.fields f)/\XF K F as d.dict fs
 | .gone=>∃φ,H a=some (.ext φ)
 | .dn kvs=>∃b:List (NK×V),H a=some (.dN K b)/\b.map (·.1)=kvs.map (·.1)/\Rps K F as (b.map (·.2)) (kvs.map (·.2))
 | .nf kvs=>∃(o:Obj) (b:List (NK×V)),H a=some (.frz o (.dN K b))/\b.map (·.1)=kvs.map (·.1)/\Rps K F as (b.map (·.2)) (kvs.map (·.2))
structure RlO(K:Frag)(mg:Str->Option Value)(O:az)(H F:Hp)(as:List Addr):Prop where
 fh:Same F H
 fd:∀a o,F a=some o->isD o=true
 nd:as.Nodup
 len:as.length=O.length
 fa:∀a∈as,F a=none
 ob:∀(n:Nat) (a:Addr) (o:Ob),as[n]?=some a->O[n]?=some o->ObR K mg H F as a o
inductive Md where
 | v | s | o
 deriving DecidableEq
noncomputable def fO:D->Bool
 | .lst _=>false
 | _=>true
noncomputable def j9(P:Pt)(K:Frag)(H F:Hp)(as:List Addr):Md->V->D->Prop
 | .v,v,d=>Rp K F as v d
 | .s,v,d=>Rp K F as v d\/∃a b c,v=.ref a/\d=.lst c/\H a=some (.lst b)/\a∉as/\P a/\Rps K F as b c
 | .o,v,d=>(fO d=true/\Rp K F as v d)\/∃a b c,v=.ref a/\d=.lst c/\H a=some (.lst b)/\F a=none/\a∉as/\¬P a/\Rps K F as b c
structure SlO(K:Frag)(md:List Md)(P:Pt)(ρ:aV)(σ:St)(H F:Hp)(as:List Addr):Prop where
 len:σ.length=md.length
 len':ρ.length=md.length
 pd:∀a,P a->H a≠none
 sl:∀(i:Nat) (m:Md) (d:D),md[i]?=some m->ρ[i]?=some (some d)->∃v,σ[i]?=some (some v)/\j9 P K H F as m v d
 inj:∀(i j:Nat) (a:Addr) (ds es:List D),md[i]?=some .o->md[j]?=some .o->ρ[i]?=some (some (.lst ds))->ρ[j]?=some (some (.lst es))->σ[i]?=some (some (.ref a))->σ[j]?=some (some (.ref a))->i=j
 pin:∀x∈P.ss,md[x.1]?=some .s/\ρ[x.1]?=some (some x.2.2)/\σ[x.1]?=some (some x.2.1)
theorem j9.step{K:Frag}    (h:j9 P K H F as m v d)(g:Gr H F as H' F' as'):j9 P K H' F' as' m v d:=by
 cases m with
 |v=>exact Rp.gr (show Rp K F as v d from h) g
 |s =>
  rcases h with h | ⟨a,f,r,q,l,c,b,j,i⟩
  ·exact .inl (h.gr g)
  ·exact .inr ⟨a,f,r,q,l,g.fr _ _ c b rfl,g.out b (by rw[c];exact λz=>nomatch z),j,i.gr g⟩
 |o =>
  rcases h with⟨h1,h⟩ | ⟨a,f,r,q,l,c,u,b,j,i⟩
  ·exact .inl ⟨h1,h.gr g⟩
  ·have t:H a≠none:=by rw[c];exact λz=>nomatch z
   exact .inr ⟨a,f,r,q,l,g.fr _ _ c b rfl,by rw[g.fz a _ c b rfl];exact u,g.out b t,j,i.gr g⟩
theorem SlO.step{K:Frag}(h:SlO K md P ρ σ H F as)(g:Gr H F as H' F' as'):SlO K md P ρ σ H' F' as' :=
 ⟨h.len,h.len',λa p z=>h.pd a p (g.dm a z),λi m d c b=>let ⟨v,q,r⟩:=h.sl i m d c b;⟨v,q,r.step g⟩,h.inj,h.pin⟩
noncomputable def Sv(K:Frag)(H F:Hp)(as:List Addr)(v:V)(d:D):Prop :=
 Rp K F as v d\/∃a b c,v=.ref a/\d=.lst c/\H a=some (.lst b)/\a∉as/\Rps K F as b c
noncomputable def Lk(K:Frag)(H F:Hp)(as:List Addr)(v:V)(d:D):Prop :=
 Rp K F as v d\/∃a b c,v=.ref a/\d=.lst c/\H a=some (.lst b)/\Rps K F as b c
noncomputable def Ow(K:Frag)(N:Addr->Prop)(H F:Hp)(as:List Addr)(v:V)(d:D):Prop :=
 (fO d=true/\Rp K F as v d)\/∃a b c,v=.ref a/\d=.lst c/\H a=some (.lst b)/\F a=none/\a∉as/\N a/\Rps K F as b c
noncomputable def aX(O:az)(d:D):D:=match d with
 | .ob n=>match O[n]? with
  |some (.ml ds)=>.lst ds
  | _=>.ob n
 |d=>d
theorem Sv.gr{K:Frag}(h:Sv K H F as v d)(g:Gr H F as H' F' as'):Sv K H' F' as' v d:=by
 rcases h with h | ⟨a,f,m,l,j,c,b,i⟩
 ·exact .inl (h.gr g)
 ·exact .inr ⟨a,f,m,l,j,g.fr _ _ c b rfl,g.out b (by rw[c];exact λz=>nomatch z),i.gr g⟩
theorem Sv.lk{K:Frag}(h:Sv K H F as v d)(r:RlO K mg O H F as):Lk K H F as v (aX O d):=by
 rcases h with h | ⟨a,b,c,rfl,rfl,i,m,g⟩
 ·cases d with
  |ob n =>
   obtain⟨a,rfl,f⟩:=h.unO;unfold aX;dsimp only
   split
   ·rename_i c e;obtain⟨b,l,j⟩:=r.ob n a _ f e;exact .inr ⟨a,b,c,rfl,rfl,l,j⟩
   ·exact .inl (Rp.mkO f)
  | _=>exact .inl h
 ·exact .inr ⟨a,b,c,rfl,rfl,i,g⟩
theorem Lk.list{K:Frag}  (h:Lk K H F as v (.lst ds))(fh:Same F H):∃a xs,v=.ref a/\RdK K H a xs/\Rps K F as xs ds:=by
 rcases h with h | ⟨a,xs,g,f,d,c,b⟩
 ·obtain⟨a,xs,e,h1,h2⟩:=h.unL;exact⟨a,xs,e,h1.mono fh,h2⟩
 ·cases d;exact⟨a,xs,f,.inl (.inl c),b⟩
theorem Lk.rp{K:Frag}(h:Lk K H F as v d)(b:fO d=true):Rp K F as v d:=by
 rcases h with h | ⟨a,f,c,j,rfl,i,g⟩
 ·exact h
 ·cases b
theorem Sv.rp{K:Frag}(h:Sv K H F as v d)(b:fO d=true):Rp K F as v d:=by
 rcases h with h | ⟨a,f,c,j,rfl,i,g⟩
 ·exact h
 ·cases b
theorem Ow.sv{K:Frag}  (h:Ow K N H F as v d):Sv K H F as v d:=by
 rcases h with⟨_,h⟩ | ⟨a,b,l,j,i,g,q,f,m,c⟩
 ·exact .inl h
 ·exact .inr ⟨a,b,l,j,i,g,f,c⟩
theorem Gr.lay   (b:H p=none):Gr H F as (upd H p o) F as :=
 ⟨λ_ _ _ _ _=>rfl,Same.refl F,⟨[],by simp,λ_ h=>nomatch h⟩,λa c e _ _=>by rw[aH (bI e b)];exact e,λa e=>by
  by_cases h:a=p
  ·subst h;exact b
  ·rwa [aH h] at e,λa c u e=>by rw[aH (bI e b)];exact e⟩
theorem ObR.keep{K:Frag}   (h:ObR K mg H F as a o)(d:H' a=H a)(e:Same F F')(ea:∀(n:Nat) (a:Addr),as[n]?=some a->as'[n]?=some a):ObR K mg H' F' as' a o:=by
 cases o with
 |ins c fs =>
  obtain⟨C,i,gs,h1,h2,h3,h4⟩:=h;exact⟨C,i,gs,h1,by rw[d];exact h2,h3,Rps.mono e ea _ h4⟩
 |ml ds =>
  obtain⟨b,h1,h2⟩:=h;exact⟨b,by rw[d];exact h1,Rps.mono e ea _ h2⟩
 |dt kvs =>
  obtain⟨b,h1,h2,h3⟩:=h;exact⟨b,by rw[d];exact h1,h2,Rps.mono e ea _ h3⟩
 |df kvs =>
  obtain⟨o,b,h1,h2,h3⟩:=h;exact⟨o,b,by rw[d];exact h1,h2,Rps.mono e ea _ h3⟩
 |dk kvs =>
  obtain⟨b,h1,h2,h3⟩:=h;exact⟨b,by rw[d];exact h1,h2,Rps.mono e ea _ h3⟩
 |kf kvs =>
  obtain⟨o,b,h1,h2,h3⟩:=h;exact⟨o,b,by rw[d];exact h1,h2,Rps.mono e ea _ h3⟩
 |xc c fs =>
  obtain⟨C,f,u,h1,h2,h3,h4,g⟩:=h;exact⟨C,f,u,h1,by rw[d];exact h2,h3,h4,g.mono e ea⟩
 |gone =>
  obtain⟨φ,h1⟩:=h;exact⟨φ,by rw[d];exact h1⟩
 |dn kvs =>
  obtain⟨b,h1,h2,h3⟩:=h;exact⟨b,by rw[d];exact h1,h2,Rps.mono e ea _ h3⟩
 |nf kvs =>
  obtain⟨o,b,h1,h2,h3⟩:=h;exact⟨o,b,by rw[d];exact h1,h2,Rps.mono e ea _ h3⟩
theorem RlO.at{K:Frag}{n:Nat}   (r:RlO K mg O H F as)(f:as[n]?=some a)(d:O[n]?=some o):H a≠none:=by
 have q:=r.ob n a o f d
 cases o with
 |ins c fs=>obtain⟨C,h,gs,h1,h2,_⟩:=q;rw[h2];exact λz=>nomatch z
 |ml i=>obtain⟨b,h1,_⟩:=q;rw[h1];exact λz=>nomatch z
 |dt kvs=>obtain⟨b,h1,_⟩:=q;rw[h1];exact λz=>nomatch z
 |df kvs=>obtain⟨o,b,h1,_⟩:=q;rw[h1];exact λz=>nomatch z
 |dk kvs=>obtain⟨b,h1,_⟩:=q;rw[h1];exact λz=>nomatch z
 |kf kvs=>obtain⟨o,b,h1,_⟩:=q;rw[h1];exact λz=>nomatch z
 |xc c fs=>obtain⟨C,g,u,_,h1,_⟩:=q;rw[h1];exact λz=>nomatch z
 |gone=>obtain⟨φ,h1⟩:=q;rw[h1];exact λz=>nomatch z
 |dn kvs=>obtain⟨b,h1,_⟩:=q;rw[h1];exact λz=>nomatch z
 |nf kvs=>obtain⟨o,b,h1,_⟩:=q;rw[h1];exact λz=>nomatch z
theorem RlO.all{K:Frag}  (r:RlO K mg O H F as)(c:a∈as):H a≠none:=by
 obtain⟨n,b,e⟩:=List.mem_iff_getElem.mp c
 have d:n<O.length:=by rw[<-r.len];exact b
 exact r.at (n:=n) (by rw[zM b,e]) (zM d)
theorem RlO.lay{K:Frag}   (r:RlO K mg O H F as)(c:H p=none):RlO K mg O (upd H p o) F as:=by
 refine⟨λa u e=>?_,r.fd,r.nd,r.len,r.fa,λn a u d b=>(r.ob n a u d b).keep (aH ?_) (Same.refl F) λ_ _ h=>h⟩
 ·have q:=r.fh a u e;rw[aH (bI q c)];exact q
 ·intro z;subst z;exact r.at d b c
theorem Gr.frz{H F f d:Hp}{as b:List Addr}{p:Addr}{o:HO}(i:H p=none)(g:Gr H F as f d b)(l:d p=none):Gr H F as f (upd d p o) b :=
 ⟨λa h c j hd=>by rw[aH (λz=>by subst z;rw[i] at c;cases c)];exact g.fz a h c j hd,λa u e=>by
  have q:=g.ff a u e
  rw[aH (bI q l)];exact q,g.nw,g.fr,g.dm,g.kz⟩
theorem RlO.frz{K:Frag}{mg:Str->Option Value}{H F:Hp}{as:List Addr}{O:az}{p:Addr}{o:HO}(r:RlO K mg O H F as)(b:H p=some o)(c:F p=none)(d:p∉as)(hd:isD o=true):RlO K mg O H (upd F p o) as:=by
 have ff:Same F (upd F p o):=λa u e=>by rw[aH (bI e c)];exact e
 refine⟨λa u e=>?_,λa u e=>?_,r.nd,r.len,λa h=>?_,λn a u h1 h2=>(r.ob n a u h1 h2).keep rfl ff λ_ _ h=>h⟩
 ·by_cases h:a=p
  ·subst h;rw[bu] at e;cases e;exact b
  ·rw[aH h] at e;exact r.fh a u e
 ·by_cases h:a=p
  ·subst h;rw[bu] at e;cases e;exact hd
  ·rw[aH h] at e;exact r.fd a u e
 ·rw[aH (λz=>by subst z;exact d h)];exact r.fa a h
abbrev RR:=(Addr->Prop)->Hp->Hp->List Addr->V->D->Prop
noncomputable def rV(K:Frag):RR:=λ_ _ F a v d=>Rp K F a v d
noncomputable def rS(K:Frag):RR:=λ_ H F a v d=>Sv K H F a v d
noncomputable def rO(K:Frag):RR:=λN H F a v d=>Ow K N H F a v d
noncomputable def rA(K:Frag):Md->RR
 | .v=>rV K
 | _=>rS K
noncomputable def cP(R:RR):Prop:=∀(N c:Addr->Prop) (H F:Hp) (b:List Addr) (v:V) (d:D),(∀a,N a->c a)->R N H F b v d->R c H F b v d
theorem bz{K:Frag}:cP (rV K):=λ_ _ _ _ _ _ _ _ h=>h
theorem eO{K:Frag}:cP (rO K):=λN u H F t v d c h=>by
 rcases h with h | ⟨a,b,r,q,m,l,j,i,g,f⟩
 ·exact .inl h
 ·exact .inr ⟨a,b,r,q,m,l,j,i,c a g,f⟩
noncomputable def tM(K:Frag)(mg:Str->Option Value)(md:List Md)(P:Pt)(R:RR)(m:M D):TE:=λσ H Q =>
 ∃ρ O F f d h,RlO K mg O H F f/\SlO K md P ρ σ H F f/\m ρ O=.ok d h /\
  ∀v c g b,Gr H F f c g b->RlO K mg h c g b->R (λa=>H a=none) c g b v d->Q v c
noncomputable def tMT(K:Frag)(mg:Str->Option Value)(md:List Md)(P:Pt)(m:M Bool):TT:=λσ H Q =>
 ∃ρ O F c b f,RlO K mg O H F c/\SlO K md P ρ σ H F c/\m ρ O=.ok b f /\
  ∀d g a,Gr H F c d g a->RlO K mg f d g a->Q b d
noncomputable def cC(K:Frag)(H F:Hp)(as:List Addr):List Md->List V->List D->Prop
 | [],[],[]=>True
 |m::ms,v::vs,d::ds=>rA K m (λ_=>True) H F as v d/\cC K H F as ms vs ds
 | _,_,_=>False
noncomputable def tMA(K:Frag)(mg:Str->Option Value)(md:List Md)(P:Pt)(ms:List Md)(m:M (List D)):TA:=λσ H Q =>
 ∃ρ O F c g h,RlO K mg O H F c/\SlO K md P ρ σ H F c/\m ρ O=.ok g h /\
  ∀f b d a,Gr H F c b d a->RlO K mg h b d a->cC K b d a ms f g->Q f b
noncomputable def XE(X:Cx)(md:List Md)(P:Pt)(R:RR)(e:Expr)(m:M D):Prop:=PE X e (tM X.K X.mg md P R m)
noncomputable def VE(X:Cx)(md:List Md)(P:Pt)(e:Expr)(m:M D):Prop:=PE X e (tM X.K X.mg md P (rV X.K) m)
noncomputable def SE(X:Cx)(md:List Md)(P:Pt)(e:Expr)(m:M D):Prop:=PE X e (tM X.K X.mg md P (rS X.K) m)
noncomputable def OE(X:Cx)(md:List Md)(P:Pt)(e:Expr)(m:M D):Prop:=PE X e (tM X.K X.mg md P (rO X.K) m)
noncomputable def TsE(X:Cx)(md:List Md)(P:Pt)(e:Expr)(m:M Bool):Prop:=PT X e (tMT X.K X.mg md P m)
noncomputable def TwE(X:Cx)(md:List Md)(P:Pt)(e:Expr)(m:M Bool):Prop:=PW X e (tMT X.K X.mg md P m)
noncomputable def AE(X:Cx)(md:List Md)(P:Pt)(ms:List Md)(a:List Expr)(m:M (List D)):Prop:=PA X a (tMA X.K X.mg md P ms m)
noncomputable def iu(K:Frag)(mg:Str->Option Value)(md:List Md)(P:Pt)(R:RR)(D:Ends)(H F:Hp)(as:List Addr):Fl->Prop
 | .nx ρ' O'=>∀f c g b,GrS P H F as c g b->RlO K mg O' c g b->SlO K md P ρ' f c g b->D.nx f c
 | .bk ρ' O'=>∀f c g b,GrS P H F as c g b->RlO K mg O' c g b->SlO K md P ρ' f c g b->D.bk f c
 | .ct ρ' O'=>∀f c g b,GrS P H F as c g b->RlO K mg O' c g b->SlO K md P ρ' f c g b->D.ct f c
 | .rt d O'=>∀v c g b,GrS P H F as c g b->RlO K mg O' c g b->R (λa=>¬P a) c g b v d->D.rt v c
 | .ex _ _=>False
 | .no=>False
noncomputable def tMS(K:Frag)(mg:Str->Option Value)(md:List Md)(P:Pt)(R:RR)(m:MS):TS:=λD σ H =>
 ∃ρ O F a,RlO K mg O H F a/\SlO K md P ρ σ H F a/\iu K mg md P R D H F a (m ρ O)
noncomputable def VS(X:Cx)(md:List Md)(P:Pt)(R:RR)(st:Stmt)(m:MS):Prop:=PS X st (tMS X.K X.mg md P R m)
noncomputable def VSs(X:Cx)(md:List Md)(P:Pt)(R:RR)(st:List Stmt)(m:MS):Prop:=PSs X st (tMS X.K X.mg md P R m)
theorem PE.imp   (h:PE X e t)(k:∀σ H Q,t' σ H Q->t σ H Q):PE X e t':=λpins s σ H Q I q=>h pins s σ H Q I (k σ H Q q)
theorem PT.imp   (h:PT X e t)(k:∀σ H Q,t' σ H Q->t σ H Q):PT X e t':=λpins s σ H Q I q=>h pins s σ H Q I (k σ H Q q)
theorem PW.imp   (h:PW X e t)(k:∀σ H Q,t' σ H Q->t σ H Q):PW X e t':=λw pins s σ H Q I q=>h w pins s σ H Q I (k σ H Q q)
theorem PA.imp   (h:PA X e t)(k:∀σ H Q,t' σ H Q->t σ H Q):PA X e t':=λa pins s σ H Q I q=>h a pins s σ H Q I (k σ H Q q)
theorem PS.imp   (h:PS X e t)(k:∀D σ H,t' D σ H->t D σ H):PS X e t':=λpins s σ H D I q=>h pins s σ H D I (k D σ H q)
theorem PSs.imp   (h:PSs X e t)(k:∀D σ H,t' D σ H->t D σ H):PSs X e t':=λpins s σ H D I q=>h pins s σ H D I (k D σ H q)
noncomputable def aa(i:Nat):M D:=λρ O=>match ρ[i]? with
 |some (some d)=>.ok d O
 | _=>.no
noncomputable def mC(d:D):M D:=λ_ O=>.ok d O
noncomputable def mG(m:M D):M D:=λρ O=>match m ρ O with
 | .ok d O'=>if fO d=true then .ok d O' else .no
 |r=>r
theorem tL     (h:aa i ρ O=.ok d O'):ρ[i]?=some (some d)/\O'=O:=by
 unfold aa at h;split at h
 ·rename_i a e;cases h;exact⟨e,rfl⟩
 ·cases h
theorem EY     (h:mG m ρ O=.ok d O'):m ρ O=.ok d O'/\fO d=true:=by
 unfold mG at h;split at h
 ·rename_i c f e;split at h
  ·rename_i b;cases h;exact⟨e,b⟩
  ·cases h
 ·rename_i a;exact absurd h (a _ _)
theorem SlO.get{md:List Md}{P:Pt}{K:Frag}{ρ:aV}{σ:St}{H F:Hp}{as:List Addr}{i:Nat}{d:D}(s:SlO K md P ρ σ H F as)(h:ρ[i]?=some (some d)):∃m v,md[i]?=some m/\σ[i]?=some (some v)/\j9 P K H F as m v d:=by
 have a:i<md.length:=by rw[<-s.len'];exact(zk.mp h).1
 obtain⟨v,h1,h2⟩:=s.sl i md[i] d (zM a) h;exact⟨_,v,zM a,h1,h2⟩
theorem j9.sv{K:Frag}      (h:j9 P K H F as m v d):Sv K H F as v d:=by
 cases m with
 |v=>exact .inl h
 |s =>
  rcases h with h | ⟨a,b,l,j,i,g,f,q,c⟩
  ·exact .inl h
  ·exact .inr ⟨a,b,l,j,i,g,f,c⟩
 |o =>
  rcases h with⟨_,h⟩ | ⟨a,b,l,j,i,g,r,f,q,c⟩
  ·exact .inl h
  ·exact .inr ⟨a,b,l,j,i,g,f,c⟩
theorem cJ{X:Cx}{md:List Md}{P:Pt}(i:Nat)  {a:Pos}(f:X.N[i]?=some x:=by rfl)(c:Vis X.env.scope x:=by first | exact Or.inl rfl | exact Or.inr (Or.inl rfl) | exact Or.inr (Or.inr rfl))
  (hd:(x == ("__debug__":Str))=false:=by decide) (b:(x == ("__classdict__":Str))=false:=by decide):SE X md P (.Name x a) (aa i):=by
 refine(iM (i:=i) f c hd b).imp λσ H Q h=>?_
 obtain⟨ρ,O,F,j,d,l,r,s,e,k⟩:=h;obtain⟨g,rfl⟩:=tL e;obtain⟨m,v,h1,h2,h3⟩:=s.get g;exact⟨v,h2,k v H F j Gr.refl r h3.sv⟩
theorem cQ{X:Cx}{P:Pt}(i:Nat){x:Str}{a:Pos}(f:md[i]?=some .v:=by rfl)(g:X.N[i]?=some x:=by rfl)(c:Vis X.env.scope x:=by first | exact Or.inl rfl | exact Or.inr (Or.inl rfl) | exact Or.inr (Or.inr rfl))
  (hd:(x == ("__debug__":Str))=false:=by decide) (b:(x == ("__classdict__":Str))=false:=by decide):VE X md P (.Name x a) (aa i):=by
 refine(iM (i:=i) g c hd b).imp λσ H Q h=>?_
 obtain⟨ρ,O,F,l,d,m,r,s,e,k⟩:=h;obtain⟨j,rfl⟩:=tL e;obtain⟨v,h2,h3⟩:=s.sl i .v d f j;exact⟨v,h2,k v H F l Gr.refl r h3⟩
theorem aY   (h:VE X md P e m):SE X md P e m:=h.imp λσ H Q q=>by
 obtain⟨ρ,O,F,f,d,l,r,s,e,k⟩:=q;exact⟨ρ,_,F,f,_,_,r,s,e,λv i j a g b c=>k v i j a g b (.inl c)⟩
theorem cT   (h:OE X md P e m):SE X md P e m:=h.imp λσ H Q q=>by
 obtain⟨ρ,O,F,f,d,l,r,s,e,k⟩:=q;exact⟨ρ,_,F,f,_,_,r,s,e,λv i j a g b c=>k v i j a g b (Ow.sv c)⟩
theorem nT   (h:SE X md P e m):VE X md P e (mG m):=h.imp λσ H Q q=>by
 obtain⟨ρ,O,F,i,d,t,r,s,e,k⟩:=q;obtain⟨e,f⟩:=EY e;exact⟨ρ,_,F,i,_,_,r,s,e,λv j l a g b c=>k v j l a g b (Sv.rp c f)⟩
theorem Sg   (h:VE X md P e m):OE X md P e (mG m):=h.imp λσ H Q q=>by
 obtain⟨ρ,O,F,i,d,t,r,s,e,k⟩:=q;obtain⟨e,f⟩:=EY e;exact⟨ρ,_,F,i,_,_,r,s,e,λv j l a g b c=>k v j l a g b (.inl ⟨f,c⟩)⟩
theorem fC   (h:OE X md P e m):VE X md P e m:=h.imp λσ H Q q=>by
 obtain⟨ρ,O,F,I,d,L,r,s,e,k⟩:=q;refine⟨ρ,_,F,I,_,_,r,s,e,λv x f c g t i=>?_⟩
 rcases i with⟨_,i⟩ | ⟨a,l,J,rfl,rfl,G,j,E,C,y⟩
 ·exact k v x f c g t i
 ·have ff:Same f (upd f a (.lst l)):=λb u q=>by rw[aH (bI q j)];exact q
  refine k _ x (upd f a (.lst l)) c (g.frz C j) (t.frz G j E rfl) (Rp.mkL (.inl (.inl bu)) (Rps.mono ff (λ_ _ z=>z) _ y))
theorem qz    (h:PE X e (tC v))(hd:∀K F as,Rp K F as v d):VE X md P e (mC d):=h.imp λσ H Q q=>by
 obtain⟨ρ,O,F,as,d,a,r,s,e,k⟩:=q;cases e;exact k v H F as Gr.refl r (hd _ _ _)
theorem cM  :VE X md P (.Constant (.int i) j pos) (mC (.int i)):=qz M4 λ_ _ _=>Rp.int
theorem Fb  :VE X md P (.Constant (.bool b) j pos) (mC (.bl b)):=qz M5 λ_ _ _=>Rp.bl
theorem wK :VE X md P (.Constant .none j pos) (mC .non):=qz M6 λ_ _ _=>Rp.non
theorem dU   (l:List Nat)(a:x=S l:=by decide +kernel):VE X md P (.Constant (.str x) j pos) (mC (.str l)):=qz Cr λ_ _ _=>by rw[a];exact Rp.str
theorem Sh{md:List Md}{P:Pt}    {a:Pos}(h:∃u,X.mg x=some u/\RelV v u)(hd:∀K F as,Rp K F as v d)(c:Gl X x:=by rfl)(b:(x == ("__debug__":Str))=false:=by decide):VE X md P (.Name x a) (mC d):=qz (Et h c b) hd
noncomputable def aq:M (List D):=λ_ O=>.ok [] O
noncomputable def aj(m:M D)(r:M (List D)):M (List D):=λρ O=>(m ρ O).bind λd c=>(r ρ c).bind λa b=>.ok (d::a) b
theorem di:AE X md P [] [] aq:=fM.imp λσ H Q q=>by
 obtain⟨ρ,O,F,a,d,b,r,s,e,k⟩:=q;cases e;exact k [] H F a Gr.refl r trivial
theorem rA.gr{K:Frag}       (h:rA K m N H F as v d)(g:Gr H F as H' F' as'):rA K m (λ_=>True) H' F' as' v d:=by
 cases m with
 |v=>exact Rp.gr (show Rp K F as v d from h) g
 |s=>exact Sv.gr (show Sv K H F as v d from h) g
 |o=>exact Sv.gr (show Sv K H F as v d from h) g
theorem cC.gr{K:Frag}   (g:Gr H F as H' F' as'):∀{ms:List Md}{vs:List V}{ds:List D},cC K H F as ms vs ds->cC K H' F' as' ms vs ds
 | [],[],[],_=>trivial
 |m::ms,v::vs,d::ds,h=>⟨rA.gr h.1 g,cC.gr g h.2⟩
 | [],[],_::_,h=>h.elim
 | [],_::_,[],h=>h.elim
 | [],_::_,_::_,h=>h.elim
 | _::_,[],[],h=>h.elim
 | _::_,[],_::_,h=>h.elim
 | _::_,_::_,[],h=>h.elim
theorem Fd(a:Md)      (h:XE X md P (rA X.K a) e m)(y:AE X md P ms es r)
  (hs:starEach (e::es) X.env=(false,eval e X.env)::starEach es X.env:=by exact bF rfl):AE X md P (a::ms) (e::es) (aj m r):=(dZ h y hs).imp λσ H Q q=>by
 obtain⟨ρ,O,F,G,d,W,u,s,e,k⟩:=q;obtain⟨d,U,E,e⟩:=Res.bind_ok e;obtain⟨R,T,C,e⟩:=Res.bind_ok e;cases e;refine⟨ρ,_,F,G,_,_,u,s,E,λv Y L f i t x=>?_⟩;refine⟨ρ,_,L,f,_,_,t,s.step i,C,λj I J c g l b=>?_⟩;exact k (v::j) I J c (i.trans g) l ⟨rA.gr x g,b⟩
theorem cN      (h:VE X md P e m)(a:AE X md P ms es r)
  (hs:starEach (e::es) X.env=(false,eval e X.env)::starEach es X.env:=by exact bF rfl):AE X md P (.v::ms) (e::es) (aj m r):=Fd .v h a hs
theorem dF      (h:SE X md P e m)(a:AE X md P ms es r)
  (hs:starEach (e::es) X.env=(false,eval e X.env)::starEach es X.env:=by exact bF rfl):AE X md P (.s::ms) (e::es) (aj m r):=Fd .s h a hs
theorem cC.rps{K:Frag}  :∀{n:Nat}{vs:List V}{ds:List D},cC K H F as (List.replicate n .v) vs ds->Rps K F as vs ds
 | 0,[],[],_=>Rps.nil
 |n+1,v::vs,d::ds,h=>by
  rw[List.replicate_succ] at h;exact Rps.cons h.1 (cC.rps h.2)
 | 0,[],_::_,h=>h.elim
 | 0,_::_,[],h=>h.elim
 | 0,_::_,_::_,h=>h.elim
 |n+1,[],[],h=>h.elim
 |n+1,[],_::_,h=>h.elim
 |n+1,_::_,[],h=>h.elim
noncomputable def bj(r:M (List D)):M D:=λρ O=>(r ρ O).bind λa b=>if a.length<=1000000 then .ok (.lst a) b else .no
noncomputable def aW(r:M (List D)):M D:=λρ O=>(r ρ O).bind λa b=>if a.length<=1000000 then .ok (.tup a) b else .no
theorem gQ  (h:n<=1000000):n<=sizeLine:=zE h (by decide)
theorem nU    (n:Nat)(h:AE X md P (List.replicate n .v) es r):OE X md P (.List es pos) (bj r):=(Qk h).imp λσ H Q q=>by
 obtain⟨ρ,O,F,as,d,O',j,s,e,k⟩:=q;obtain⟨ds,O1,t,e⟩:=Res.bind_ok e;split at e
 ·rename_i l;cases e;refine⟨ρ,_,F,as,_,_,j,s,t,λvs u c f i b hv=>?_⟩;have g:=hv.rps;refine⟨by rw[g.length];exact gQ l,λp a=>?_⟩
  have m:c p=none:=by
   cases q:c p with
   |none=>rfl
   |some o=>rw[b.fh p o q] at a;cases a
  refine k _ _ c f (i.trans (Gr.lay a)) (b.lay a) (.inr ⟨p,vs,ds,rfl,rfl,bu,m,λz=>b.all z a,i.dm p a,g⟩)
 ·cases e
theorem qC     (n:Nat)(h:AE X md P (List.replicate n .v) es r):VE X md P (.Tuple es x1 pos) (aW r):=(Dt h).imp λσ H Q q=>by
 obtain⟨ρ,O,F,as,d,O',m,s,e,k⟩:=q;obtain⟨ds,O1,x,e⟩:=Res.bind_ok e;split at e
 ·rename_i t;cases e;refine⟨ρ,_,F,as,_,_,m,s,x,λvs y c i l f hv=>?_⟩;have j:=hv.rps;refine⟨by rw[j.length];exact gQ t,λp a=>?_⟩
  have g:c p=none:=by
   cases q:c p with
   |none=>rfl
   |some o=>rw[f.fh p o q] at a;cases a
  have ff:Same c (upd c p (.tup vs)):=λb u q=>by rw[aH (bI q g)];exact q
  refine k _ _ (upd c p (.tup vs)) i ((l.trans (Gr.lay a)).frz (l.dm p a) g) ((f.lay a).frz bu g (λz=>f.all z a) rfl) (Rp.mkT (.inl bu) (Rps.mono ff (λ_ _ z=>z) _ j))
 ·cases e
noncomputable def rD(K:Frag)(mg:Str->Option Value)(g:D->D->Option D):R2:=λx y H Q=>∃O F b j i d,RlO K mg O H F b/\Lk K H F b x j/\Lk K H F b y i/\g j i=some d /\
 ∀h c f,Gr H F b c f b->RlO K mg O c f b->Ow K (λa=>H a=none) c f b h d->Q h c
abbrev OpD(X:Cx)(f:Value->Value->Sem Value)(g:D->D->Option D):Prop:=OpR X f (rD X.K X.mg g)
noncomputable def ak(g:D->D->Option D)(ma mb:M D):M D:=λρ O=>(ma ρ O).bind λx b=>(mb ρ b).bind λy a=>match g (aX a x) (aX a y) with
 |some d=>.ok d a
 |none=>.no
theorem wL{K:Frag}       (h:tM K mg md P (rO K) (ak g ma mb) σ H Q):tOp (rD K mg g) (tM K mg md P (rS K) ma) (tM K mg md P (rS K) mb) σ H Q:=by
 obtain⟨ρ,O,F,T,d,O',r,sl,e,k⟩:=h;obtain⟨x,O1,R,e⟩:=Res.bind_ok e;obtain⟨y,O2,L,e⟩:=Res.bind_ok e;split at e
 ·rename_i Z G;cases e;refine⟨ρ,_,F,T,_,_,r,sl,R,λv H1 X j i m C=>?_⟩;refine⟨ρ,_,X,j,_,_,m,sl.step i,L,λu H2 W b f c E=>?_⟩;refine⟨_,W,b,_,_,_,c,Sv.lk (Sv.gr C f) c,Sv.lk E c,G,λl U Y J q t=>?_⟩;exact k l U Y b ((i.trans f).trans J) q (eO _ _ _ _ _ _ _ (λa I=>(i.trans f).dm a I) t)
 ·cases e
theorem cU      (a:OpD X (binaryOp op) g)(b:SE X md P e1 ma)(hb:SE X md P e2 mb):OE X md P (.BinOp e1 op e2 pos) (ak g ma mb):=
 (Ou a b hb).imp λ_ _ _=>wL
theorem wM      (a:OpD X (compareOp op) g)(c:SE X md P e1 ma)(hb:SE X md P e2 mb)(b:behindInMarks op e2=false):OE X md P (.Compare e1 [op] [e2] pos) (ak g ma mb):=
 (Di a c hb b).imp λ_ _ _=>wL
noncomputable def aA(m:M D):M Bool:=λρ O=>(m ρ O).bind λd a=>match d with
 | .bl b=>.ok b a
 | _=>.no
theorem tO{K:Frag}      (h:tMT K mg md P (aA m) σ H Q):vV (tM K mg md P (rO K) m) σ H Q:=by
 obtain⟨ρ,O,F,q,d,E,r,sl,e,k⟩:=h;obtain⟨d,C,l,e⟩:=Res.bind_ok e
 cases d with
 |bl c =>
  cases e;refine⟨ρ,_,F,q,_,_,r,sl,l,λv t u f i g b=>?_⟩
  rcases b with⟨_,b⟩ | ⟨a,x,y,_,j,_⟩
  ·exact⟨_,b.unB,k t u f i g⟩
  ·cases j
 | _=>cases e
theorem gR      (a:OpD X (compareOp op) g)(c:SE X md P e1 ma)(hb:SE X md P e2 mb)(b:behindInMarks op e2=false):TsE X md P (.Compare e1 [op] [e2] pos) (aA (ak g ma mb)):=
 (Dj a c hb b).imp λσ H Q h=>by
  have q:=tO h;exact wL q
noncomputable def qD(g g':D->D->Option D)(ma mb c:M D):M D:=λρ O=>(ma ρ O).bind λx f=>(mb ρ f).bind λy a=>match g (aX a x) (aX a y) with
 |some (.bl true)=>(c ρ a).bind λz b=>match g' (aX b y) (aX b z) with
  |some d=>.ok d b
  |none=>.no
 |some (.bl false)=>.ok (.bl false) a
 | _=>.no
theorem Sq{K:Frag}       (h:tM K mg md P (rO K) (qD g i ma mb mc) σ H Q):
  Dk (rD K mg g) (rD K mg i) (tM K mg md P (rS K) ma) (tM K mg md P (rS K) mb) (tM K mg md P (rS K) mc) σ H Q:=by
 obtain⟨ρ,O,F,as,d,O',r,sl,e,k⟩:=h;obtain⟨x,O1,e1,e⟩:=Res.bind_ok e;obtain⟨y,O2,e2,e⟩:=Res.bind_ok e;refine⟨ρ,_,F,as,_,_,r,sl,e1,λv H1 F1 T I r1 U=>?_⟩;refine⟨ρ,_,F1,T,_,_,r1,sl.step I,e2,λu H2 X b l f t=>?_⟩;split at e
 ·rename_i C;obtain⟨z,O3,e3,e⟩:=Res.bind_ok e;refine⟨_,X,b,_,_,_,f,Sv.lk (Sv.gr U l) f,Sv.lk t f,C,λv' W J i q c=>?_⟩
  rcases c with⟨_,c⟩ | ⟨a,Y,ds,_,z,_⟩
  ·refine⟨true,c.unB,?_⟩;rw[if_pos rfl];split at e
   ·rename_i d' R;cases e;have G:=(I.trans l).trans i;refine⟨ρ,_,J,b,_,_,q,sl.step G,e3,λw H4 F4 j E m hz=>?_⟩;refine⟨_,F4,j,_,_,_,m,Sv.lk (Sv.gr (Sv.gr t i) E) m,Sv.lk hz m,R,λZ H5 F5 g5 r5 L=>?_⟩;exact k Z H5 F5 j ((G.trans E).trans g5) r5 (eO _ _ _ _ _ _ _ (λa ha=>(G.trans E).dm a ha) L)
   ·cases e
  ·cases z
 ·rename_i C;cases e;refine⟨_,X,b,_,_,_,f,Sv.lk (Sv.gr U l) f,Sv.lk t f,C,λv' W J i q c=>?_⟩
  rcases c with⟨_,c⟩ | ⟨a,Y,ds,_,z,_⟩
  ·refine⟨false,c.unB,?_⟩;rw[if_neg zq];exact k _ W J b ((I.trans l).trans i) q (.inl ⟨rfl,Rp.bl⟩)
  ·cases z
 ·cases e
theorem Ss      (f:OpD X (compareOp op) g)(d:OpD X (compareOp op') g')(j:SE X md P a ma)(hb:SE X md P b mb)(i:SE X md P c mc)
  (h:lastMarks [op,op'] [b,c]=false:=by with_unfolding_all rfl):OE X md P (.Compare a [op,op'] [b,c] pos) (qD g g' ma mb mc):=(Pq f d j hb i h).imp λ_ _ _=>Sq
noncomputable def isNon:D->Bool
 | .non=>true
 | _=>false
noncomputable def d9(m:M D):M D:=λρ O=>(m ρ O).bind λd a=>.ok (.bl (isNon d)) a
noncomputable def tQ(m:M D):M D:=λρ O=>(m ρ O).bind λd a=>.ok (.bl (!isNon d)) a
theorem Sv.isN{K:Frag}     (h:Sv K H F as v d):decide (v=.non)=isNon d:=by
 rcases h with h | ⟨a,c,f,rfl,rfl,_⟩
 ·cases d with
  |non=>rw[h.unN];rfl
  |bl b=>rw[h.unB];rfl
  |int b=>rw[h.unI];rfl
  |str b=>rw[h.unS];rfl
  |lst b=>obtain⟨a,c,rfl,_⟩:=h.unL;rfl
  |tup b=>obtain⟨a,c,rfl,_⟩:=h.unT;rfl
  |dic k b=>obtain⟨a,c,rfl,_⟩:=h.unD;rfl
  |ob b=>obtain⟨a,rfl,_⟩:=h.unO;rfl
 ·rfl
theorem Su{K:Frag}      (h:tM K mg md P (rO K) (d9 m) σ H Q):Cv (tM K mg md P (rS K) m) σ H Q:=by
 obtain⟨ρ,O,F,i,d,t,r,sl,e,k⟩:=h;obtain⟨x,q,g,e⟩:=Res.bind_ok e;cases e;refine⟨ρ,_,F,i,_,_,r,sl,g,λv j l a f b c=>?_⟩;dsimp only;rw[Sv.isN c];exact k _ j l a f b (.inl ⟨rfl,Rp.bl⟩)
theorem Sw{K:Frag}      (h:tM K mg md P (rO K) (tQ m) σ H Q):Cw (tM K mg md P (rS K) m) σ H Q:=by
 obtain⟨ρ,O,F,i,d,t,r,sl,e,k⟩:=h;obtain⟨x,q,g,e⟩:=Res.bind_ok e;cases e;refine⟨ρ,_,F,i,_,_,r,sl,g,λv j l a f b c=>?_⟩;dsimp only;rw[Sv.isN c];exact k _ j l a f b (.inl ⟨rfl,Rp.bl⟩)
theorem Fe     (h:∀a,t σ H a->t' σ H a)(q:vV t σ H Q):tB t' σ H Q:=h _ q
theorem wN     (h:SE X md P a m):TsE X md P (.Compare a [.Is] [.Constant .none j pos'] pos) (aA (d9 m)):=(Cy (M8 h)).imp λ_ _ _ q=>Fe (λ_=>Su) (tO q)
theorem Sx     (h:SE X md P a m):TsE X md P (.Compare a [.IsNot] [.Constant .none j pos'] pos) (aA (tQ m)):=(Cy (M9 h)).imp λ_ _ _ q=>Fe (λ_=>Sw) (tO q)
noncomputable def nW:D->Option Bool
 | .non=>some false
 | .bl b=>some b
 | .int i=>some (i != 0)
 | .str l=>if l.length<=1000000 then some (!l.isEmpty) else none
 | .lst ds=>some (!ds.isEmpty)
 | .tup ds=>some (!ds.isEmpty)
 | .dic ks _=>some (!ks.isEmpty)
 | .ob _=>none
noncomputable def cz(m:M D):M Bool:=λρ O=>(m ρ O).bind λd a=>match nW (aX a d) with
 |some b=>.ok b a
 |none=>.no
theorem Ff{α β:Type}{xs:List α}{ys:List β}(h:xs.length=ys.length):(!xs.isEmpty) = !ys.isEmpty:=by
 cases xs<;>cases ys<;>simp_all
theorem Lk.tru{K:Frag}      (h:Lk K H F as v d)(fh:Same F H)(e:nW d=some b):vW K v H b:=by
 cases d with
 |non=>rw[(h.rp rfl).unN];cases e;rfl
 |bl b=>rw[(h.rp rfl).unB];cases e;rfl
 |int b=>rw[(h.rp rfl).unI];cases e;rfl
 |str l =>
  rw[(h.rp rfl).unS];simp only[nW] at e;split at e
  ·rename_i g;cases e;refine⟨by rw[cu];exact gQ g,?_⟩;rw[cu]
   cases l with
   |nil=>rfl
   |cons c l =>
    have:((((c::l).length:Nat):Int) != 0)=true:=by
     rw[bne_iff_ne,zt];omega
    rw[this];rfl
  ·cases e
 |lst ds =>
  obtain⟨a,f,rfl,h1,h2⟩:=h.list fh;cases e;exact .inl ⟨f,h1.sq,(Ff h2.length).symm⟩
 |tup ds =>
  obtain⟨a,f,rfl,h1,h2⟩:=(h.rp rfl).unT;cases e;exact .inr (.inl ⟨f,Same.seqT fh h1,(Ff h2.length).symm⟩)
 |dic ks vs =>
  obtain⟨a,kvs,rfl,h1,rfl,h2⟩:=(h.rp rfl).unD;cases e;exact .inr (.inr ⟨kvs,fh _ _ h1,by cases kvs<;>rfl⟩)
 |ob n=>cases e
theorem qF   (h:SE X md P a m)(i:∀whole,isTrue a X.env whole=(do let v <-whole;standAt a.pos;holding [v] (truthy v)):=by intro _;rfl):TsE X md P a (cz m):=(Py h i).imp λσ H Q q=>by
 obtain⟨ρ,O,F,u,d,E,r,sl,e,k⟩:=q;obtain⟨d,C,t,e⟩:=Res.bind_ok e;split at e
 ·rename_i c j;cases e;exact⟨ρ,_,F,u,_,_,r,sl,t,λv x y f l b g=>⟨_,Lk.tru (Sv.lk g b) b.fh j,k x y f l b⟩⟩
 ·cases e
noncomputable def dG(a b:M Bool):M Bool:=λρ O=>(a ρ O).bind λc d=>if c=true then b ρ d else .ok false d
noncomputable def cZ(a b:M Bool):M Bool:=λρ O=>(a ρ O).bind λc d=>if c=true then .ok true d else b ρ d
noncomputable def fD(a:M Bool):M Bool:=λρ O=>(a ρ O).bind λc b=>.ok (!c) b
theorem Sy{K:Frag}      (h:tMT K mg md P (dG ma mb) σ H Q):Cz (tMT K mg md P ma) (tMT K mg md P mb) σ H Q:=by
 obtain⟨ρ,O,F,q,d,C,r,sl,e,k⟩:=h;obtain⟨c,y,m,e⟩:=Res.bind_ok e;refine⟨ρ,_,F,q,_,_,r,sl,m,λu i a b g=>?_⟩
 cases c with
 |true =>
  rw[if_pos rfl] at e ⊢;exact⟨ρ,_,i,a,_,_,g,sl.step b,e,λt x f l j=>k t x f (b.trans l) j⟩
 |false =>
  rw[if_neg zq] at e ⊢;cases e;exact k u i a b g
theorem SJ{K:Frag}      (h:tMT K mg md P (cZ ma mb) σ H Q):tOr (tMT K mg md P ma) (tMT K mg md P mb) σ H Q:=by
 obtain⟨ρ,O,F,q,d,C,r,sl,e,k⟩:=h;obtain⟨c,y,m,e⟩:=Res.bind_ok e;refine⟨ρ,_,F,q,_,_,r,sl,m,λu i a b g=>?_⟩
 cases c with
 |true =>
  rw[if_pos rfl] at e ⊢;cases e;exact k u i a b g
 |false =>
  rw[if_neg zq] at e ⊢;exact⟨ρ,_,i,a,_,_,g,sl.step b,e,λt x f l j=>k t x f (b.trans l) j⟩
theorem SM    (h:TsE X md P a m):TwE X md P (.BoolOp .And [a] pos) m:=Nf h
theorem wO    (h:TsE X md P a m):TwE X md P (.BoolOp .Or [a] pos) m:=Ng h
theorem SN  {rest:List Expr}   (c:TsE X md P a ma)(hb:TwE X md P (.BoolOp .And (b::rest) pos) mb):TwE X md P (.BoolOp .And (a::b::rest) pos) (dG ma mb):=(Nh c hb).imp λ_ _ _=>Sy
theorem qG  {rest:List Expr}   (c:TsE X md P a ma)(hb:TwE X md P (.BoolOp .Or (b::rest) pos) mb):TwE X md P (.BoolOp .Or (a::b::rest) pos) (cZ ma mb):=(Ni c hb).imp λ_ _ _=>SJ
theorem wQ   (h:TwE X md P e m):TsE X md P e m:=PW.pt h
theorem wR    (h:TsE X md P a m):TsE X md P (.UnaryOp .Not a pos) (fD m):=(Nj h).imp λσ H Q q=>by
 obtain⟨ρ,O,F,f,d,i,r,sl,e,k⟩:=q;obtain⟨c,g,b,e⟩:=Res.bind_ok e;cases e;exact⟨ρ,_,F,f,_,_,r,sl,b,k⟩
noncomputable def iU(ma mb:M D):M D:=λρ O=>(ma ρ O).bind λd a=>match d with
 | .bl true=>mb ρ a
 | .bl false=>.ok (.bl false) a
 | _=>.no
noncomputable def Fg(ma mb:M D):M D:=λρ O=>(ma ρ O).bind λd a=>match d with
 | .bl true=>.ok (.bl true) a
 | .bl false=>mb ρ a
 | _=>.no
noncomputable def jF(ma:M D):M D:=λρ O=>(ma ρ O).bind λd a=>match d with
 | .bl b=>.ok (.bl (!b)) a
 | _=>.no
theorem SQ     (h:VE X md P a m):VE X md P (.BoolOp op [a] pos) m:=Np h
theorem SX  {rest:List Expr}   (y:VE X md P a ma)(hb:VE X md P (.BoolOp .And (b::rest) pos) mb):VE X md P (.BoolOp .And (a::b::rest) pos) (iU ma mb):=(Nq y hb).imp λσ H Q q=>by
 obtain⟨ρ,O,F,G,d,T,r,sl,e,k⟩:=q;obtain⟨x,R,E,e⟩:=Res.bind_ok e;refine⟨ρ,_,F,G,_,_,r,sl,E,λv J l f g j u=>?_⟩
 cases x with
 |bl c =>
  refine⟨c,Rp.unB u,?_⟩
  cases c with
  |true =>
   rw[if_pos rfl];exact⟨ρ,_,l,f,_,_,j,sl.step g,e,λm I L i C t h=>k m I L i (g.trans C) t h⟩
  |false =>
   rw[if_neg zq];cases e;exact k _ J l f g j Rp.bl
 | _=>cases e
theorem S5    (h:VE X md P a m):VE X md P (.UnaryOp .Not a pos) (jF m):=(Nr h).imp λσ H Q q=>by
 obtain⟨ρ,O,F,l,d,C,r,sl,e,k⟩:=q;obtain⟨x,y,j,e⟩:=Res.bind_ok e;refine⟨ρ,_,F,l,_,_,r,sl,j,λv t u b i f g=>?_⟩
 cases x with
 |bl c =>
  cases e;exact⟨c,Rp.unB g,k _ t u b i f Rp.bl⟩
 | _=>cases e
noncomputable def mIf(t:M Bool)(a b:M D):M D:=λρ O=>(t ρ O).bind λc d=>if c=true then a ρ d else b ρ d
theorem S6(E:cP R)     (I:TsE X md P c mc)(i:PE X a (tM X.K X.mg md P R ma))(hb:PE X b (tM X.K X.mg md P R mb)):PE X (.IfExp c a b pos) (tM X.K X.mg md P R (mIf mc ma mb)):=(Nt I i hb).imp λσ H Q q=>by
 obtain⟨ρ,O,F,L,d,U,r,sl,e,k⟩:=q;obtain⟨x,T,J,e⟩:=Res.bind_ok e;refine⟨ρ,_,F,L,_,_,r,sl,J,λW G j h C=>?_⟩
 cases x with
 |true =>
  rw[if_pos rfl] at e ⊢;exact⟨ρ,_,G,j,_,_,C,sl.step h,e,λl u y g t m f=>k l u y g (h.trans t) m (E _ _ _ _ _ _ _ (λa i=>h.dm a i) f)⟩
 |false =>
  rw[if_neg zq] at e ⊢;exact⟨ρ,_,G,j,_,_,C,sl.step h,e,λl u y g t m f=>k l u y g (h.trans t) m (E _ _ _ _ _ _ _ (λa i=>h.dm a i) f)⟩
theorem S7     (d:TsE X md P c mc)(f:VE X md P a ma)(hb:VE X md P b mb):VE X md P (.IfExp c a b pos) (mIf mc ma mb):=S6 bz d f hb
theorem SlO.set{K:Frag}     (s:SlO K md P ρ σ H F as)(q:md[i]?=some m)(E:m≠.s)(hv:j9 P K H F as m v d)
  (G:∀(a:Addr) (ds:List D) (j:Nat) (r:List D),m=.o->v=.ref a->d=.lst ds->i≠j->md[j]?=some .o->ρ[j]?=some (some (.lst r))->σ[j]?≠some (some (.ref a))):SlO K md P (ρ.set i (some d)) (σ.set i (some v)) H F as:=by
 have f:i<md.length:=(zk.mp q).1;refine⟨by rw[zR];exact s.len,by rw[zR];exact s.len',s.pd,λj L Q C u=>?_,λj k a ds r h1 h2 h3 h4 l g=>?_,λx O=>?_⟩
 ·by_cases h:i=j
  ·subst h;rw[q] at C;cases C;rw[zL (by rw[s.len'];exact f)] at u;cases u;exact⟨v,zL (by rw[s.len];exact f),hv⟩
  ·rw[zy h] at u;rw[zy h];exact s.sl j L Q C u
 ·by_cases c:i=j
  ·by_cases b:i=k
   ·rw[<-c,<-b]
   ·exfalso
    subst c;rw[q] at h1;cases h1;rw[zL (by rw[s.len'];exact f)] at h3;rw[zL (by rw[s.len];exact f)] at l;rw[zy b] at h4 g;cases h3;cases l;exact G a ds k r rfl rfl rfl b h2 h4 g
  ·by_cases b:i=k
   ·exfalso
    subst b;rw[q] at h2;cases h2;rw[zL (by rw[s.len'];exact f)] at h4;rw[zL (by rw[s.len];exact f)] at g;rw[zy c] at h3 l;cases h4;cases g;exact G a r j ds rfl rfl rfl c h1 h3 l
   ·rw[zy c] at h3 l;rw[zy b] at h4 g;exact s.inj j k a ds r h1 h2 h3 h4 l g
 ·obtain⟨y,J,I⟩:=s.pin x O
  have t:i≠x.1:=λz=>by
   rw[<-z,q] at y;exact E (zH y)
  exact⟨y,by rw[zy t];exact J,by rw[zy t];exact I⟩
theorem SlO.setV{K:Frag}    (s:SlO K md P ρ σ H F as)(a:md[i]?=some .v)(hv:Rp K F as v d):SlO K md P (ρ.set i (some d)) (σ.set i (some v)) H F as :=
 s.set a (by decide) hv λ_ _ _ _ z=>nomatch z
theorem SlO.setN{K:Frag}    (s:SlO K md P ρ σ H F as)(b:md[i]?=some .o)(a:fO d=true)(hv:Rp K F as v d):SlO K md P (ρ.set i (some d)) (σ.set i (some v)) H F as :=
 s.set b (by decide) (.inl ⟨a,hv⟩) λ_ _ _ _ _ _ z=>by subst z;cases a
theorem SlO.setO{K:Frag}     (s:SlO K md P ρ σ H0 F as)(g:Gr H0 F as H' F' as')(f:md[i]?=some .o)(hv:Ow K (λa=>H0 a=none) H' F' as' v d):SlO K md P (ρ.set i (some d)) (σ.set i (some v)) H' F' as':=by
 have s':=s.step g
 rcases hv with⟨q,hv⟩ | ⟨a,m,G,rfl,rfl,E,C,y,h,x⟩
 ·exact s'.setN f q hv
 ·refine s'.set f (by decide) (.inr ⟨a,m,G,rfl,rfl,E,C,y,λp=>s.pd a p h,x⟩) λb J j L _ u hd I r t hs=>?_
  cases u;obtain⟨v,h1,h2⟩:=s.sl j .o _ r t;rw[hs] at h1;cases h1
  rcases h2 with⟨h2,_⟩ | ⟨O,H,_,l,_,c,_⟩
  ·cases h2
  ·cases l;rw[h] at c;cases c
noncomputable def aD:MS:=λρ O=>.nx ρ O
noncomputable def au(a b:MS):MS:=λρ O=>match a ρ O with
 | .nx ρ' O'=>b ρ' O'
 |r=>r
theorem jG:VSs X md P R [] aD:=CG.imp λD σ H q=>by
 obtain⟨ρ,O,F,a,r,s,k⟩:=q;exact k σ H F a GrS.refl r s
theorem fP{K:Frag}  {D:Ends}   (g:GrS P H F as H1 F1 as1)  (k:iu K mg md P R D H F as f):iu K mg md P R D H1 F1 as1 f:=by
 cases f with
 |nx j l=>exact λa h i b c=>k a h i b (g.trans c)
 |bk j l=>exact λa h i b c=>k a h i b (g.trans c)
 |ct j l=>exact λa h i b c=>k a h i b (g.trans c)
 |rt d l=>exact λa h i b c=>k a h i b (g.trans c)
 |ex _ _=>exact k
 |no=>exact k
theorem gU{st:Stmt}{rest:List Stmt}  (h1:VS X md P R st a)(h2:VSs X md P R rest b):VSs X md P R (st::rest) (au a b):=(CJ h1 h2).imp λD σ H q=>by
 obtain⟨ρ,O,F,l,r,s,k⟩:=q;refine⟨ρ,O,F,l,r,s,?_⟩;unfold au at k
 cases e:a ρ O with
 |nx c f =>
  rw[e] at k;dsimp only at k
  exact λt u m h g j i=>⟨c,f,m,h,j,i,fP g k⟩
 |bk c f=>rw[e] at k;exact k
 |ct c f=>rw[e] at k;exact k
 |rt d f=>rw[e] at k;exact k
 |ex x f=>rw[e] at k;exact k
 |no=>rw[e] at k;exact k
theorem gh{st:Stmt}  (h1:VS X md P R st a):VSs X md P R [st] a:=CK h1
noncomputable def S8(m:M D):MS:=λρ O=>match m ρ O with
 | .ok _ O'=>.nx ρ O'
 | .ex x O'=>.ex x O'
 | .no=>.no
noncomputable def aB(m:M D):MS:=λρ O=>match m ρ O with
 | .ok d O'=>.rt d O'
 | .ex x O'=>.ex x O'
 | .no=>.no
theorem Fi(j:cP R)    (h:PE X e (tM X.K X.mg md P R m)):VS X md P R (.Return (some e) pos) (aB m):=(CN h).imp λD σ H q=>by
 obtain⟨ρ,O,F,l,r,s,k⟩:=q;unfold aB at k
 cases e:m ρ O with
 |ok d t =>
  rw[e] at k;exact⟨ρ,_,F,l,_,_,r,s,e,λv u y b g c f=>k v u y b g.toS c (j _ _ _ _ _ _ _ (λa i p=>s.pd a p i) f)⟩
 |ex x t=>rw[e] at k;exact False.elim k
 |no=>rw[e] at k;exact False.elim k
theorem gW    (h:VE X md P e m):VS X md P (rV X.K) (.Return (some e) pos) (aB m):=Fi bz h
theorem S9    (h:OE X md P e m):VS X md P (rO X.K) (.Return (some e) pos) (aB m):=Fi eO h
theorem Tc{X:Cx}{P:Pt}(i:Nat){x:Str}{p c:Pos}(j:md[i]?=some .o:=by rfl)(l:X.N[i]?=some x:=by rfl)(h:Vis X.env.scope x:=by first | exact Or.inl rfl | exact Or.inr (Or.inl rfl) | exact Or.inr (Or.inr rfl))
  (hd:(x == ("__debug__":Str))=false:=by decide) (f:(x == ("__classdict__":Str))=false:=by decide):VS X md P (rO X.K) (.Return (some (.Name x p)) c) (aB (aa i)):=(CN (iM (i:=i) l h hd f)).imp λD σ H q=>by
 obtain⟨ρ,O,F,I,r,s,k⟩:=q;unfold aB at k
 cases e:aa i ρ O with
 |ok d J =>
  rw[e] at k;obtain⟨b,rfl⟩:=tL e;obtain⟨v,h1,h2⟩:=s.sl i .o d j b;refine⟨v,h1,k v H F I GrS.refl r ?_⟩
  rcases h2 with h2 | ⟨a,g,G,b,C,y,E,u,t,m⟩
  ·exact .inl h2
  ·exact .inr ⟨a,g,G,b,C,y,E,u,t,m⟩
 |ex x J=>rw[e] at k;exact False.elim k
 |no=>rw[e] at k;exact False.elim k
noncomputable def aK(t:M Bool)(a b:MS):MS:=λρ O=>match t ρ O with
 | .ok c O'=>if c=true then a ρ O' else b ρ O'
 | .ex x O'=>.ex x O'
 | .no=>.no
theorem jH      (j:TsE X md P c t)(l:VSs X md P R a ma)(hb:VSs X md P R b mb):VS X md P R (.If c a b pos) (aK t ma mb):=(CP j l hb).imp λD σ H q=>by
 obtain⟨ρ,O,F,m,r,s,k⟩:=q;unfold aK at k
 cases e:t ρ O with
 |ok c f =>
  rw[e] at k;refine⟨ρ,_,F,m,_,_,r,s,e,λu i d g h=>?_⟩;dsimp only at k
  cases c with
  |true =>
   rw[if_pos rfl] at k ⊢;exact⟨ρ,f,i,d,h,s.step g,fP g.toS k⟩
  |false =>
   rw[if_neg zq] at k ⊢;exact⟨ρ,f,i,d,h,s.step g,fP g.toS k⟩
 |ex x f=>rw[e] at k;exact False.elim k
 |no=>rw[e] at k;exact False.elim k
noncomputable def aF(i:Nat)(m:M D):MS:=λρ O=>match m ρ O with
 | .ok d O'=>.nx (ρ.set i (some d)) O'
 | .ex x O'=>.ex x O'
 | .no=>.no
theorem Fj{K:Frag}     (h:md[i]?=some .v)(f:∀σ H Q,tM K mg md P (rV K) m σ H Q->t σ H Q){D:Ends}   (q:tMS K mg md P R (aF i m) D σ H):nG t (nF i) D σ H:=by
 obtain⟨ρ,O,F,j,r,s,k⟩:=q;unfold aF at k
 cases e:m ρ O with
 |ok d l =>
  rw[e] at k;exact f _ _ _ ⟨ρ,_,F,j,_,_,r,s,e,λv u y a g b c=>k _ u y a g.toS b ((s.step g).setV h c)⟩
 |ex x l=>rw[e] at k;exact False.elim k
 |no=>rw[e] at k;exact False.elim k
theorem Fo{K:Frag}     (h:md[i]?=some .o)(f:∀σ H Q,tM K mg md P (rO K) m σ H Q->t σ H Q){D:Ends}   (q:tMS K mg md P R (aF i m) D σ H):nG t (nF i) D σ H:=by
 obtain⟨ρ,O,F,j,r,s,k⟩:=q;unfold aF at k
 cases e:m ρ O with
 |ok d l =>
  rw[e] at k;exact f _ _ _ ⟨ρ,_,F,j,_,_,r,s,e,λv u y a g b c=>k _ u y a g.toS b (s.setO g h c)⟩
 |ex x l=>rw[e] at k;exact False.elim k
 |no=>rw[e] at k;exact False.elim k
theorem qH{R:RR}    {a pos':Pos}  (g:X.N.Nodup)(d:X.N[i]?=some x)(b:Loc X.env.scope x)(h:VE X md P e m)(c:md[i]?=some .v:=by rfl)(hs:swapsWith e (some (.Name x pos')) a.line X.env=pure false:=by rfl)
  (f:X.fn x=true\/X.env.scope.names.lookup x=some .local:=by first | exact .inl rfl | exact .inr rfl | assumption):VS X md P R (.Assign [.Name x pos'] e a) (aF i m):=(vL (i:=i) g d b h hs f).imp λD σ H q=>Fj c (λ_ _ _ z=>z) q
theorem Td{R:RR}    {a pos':Pos}  (g:X.N.Nodup)(d:X.N[i]?=some x)(b:Loc X.env.scope x)(h:OE X md P e m)(c:md[i]?=some .o:=by rfl)(hs:swapsWith e (some (.Name x pos')) a.line X.env=pure false:=by rfl)
  (f:X.fn x=true\/X.env.scope.names.lookup x=some .local:=by first | exact .inl rfl | exact .inr rfl | assumption):VS X md P R (.Assign [.Name x pos'] e a) (aF i m):=(vL (i:=i) g d b h hs f).imp λD σ H q=>Fo c (λ_ _ _ z=>z) q
abbrev MG:=D->aV->Option aV
noncomputable def tMG(K:Frag)(mg:Str->Option Value)(md:List Md)(P:Pt)(g:MG):TG:=λv σ H Q=>∃ρ O F c d b,RlO K mg O H F c/\SlO K md P ρ σ H F c/\Rp K F c v d/\g d ρ=some b/\∀a,SlO K md P b a H F c->Q a H
noncomputable def Te(K:Frag)(mg:Str->Option Value)(md:List Md)(P:Pt)(g:List D->aV->Option aV):TGs:=λf σ H Q=>∃ρ O F c d b,RlO K mg O H F c/\SlO K md P ρ σ H F c/\Rps K F c f d/\g d ρ=some b/\∀a,SlO K md P b a H F c->Q a H
noncomputable def VG(X:Cx)(md:List Md)(P:Pt)(a:Expr)(g:MG):Prop:=PG X a (tMG X.K X.mg md P g)
noncomputable def VGs(X:Cx)(md:List Md)(P:Pt)(a:List Expr)(g:List D->aV->Option aV):Prop:=PGs X a (Te X.K X.mg md P g)
theorem PG.imp   (h:PG X e t)(k:∀v σ H Q,t' v σ H Q->t v σ H Q):PG X e t':=λpins s σ H v u Q I r q=>h pins s σ H v u Q I r (k v σ H Q q)
theorem PGs.imp   (h:PGs X e t)(k:∀v σ H Q,t' v σ H Q->t v σ H Q):PGs X e t':=λpins s σ H v u Q I r q=>h pins s σ H v u Q I r (k v σ H Q q)
noncomputable def mgN(i:Nat):MG:=λd ρ=>some (ρ.set i (some d))
theorem Fp{X:Cx}{P:Pt}   {a:Pos}(j:X.N.Nodup)(g:X.N[i]?=some x)(b:Loc X.env.scope x)(f:md[i]?=some .v:=by rfl)(h:X.fn x=true\/X.env.scope.names.lookup x=some .local:=by first | exact .inl rfl | exact .inr rfl | assumption):VG X md P (.Name x a) (mgN i):=
 (NP (i:=i) j g b h).imp λv σ H Q q=>by
  obtain⟨ρ,O,F,m,d,l,r,s,c,e,k⟩:=q;cases e;exact k _ (s.setV f c)
noncomputable def fQ:List D->aV->Option aV:=λa ρ=>match a with
 | []=>some ρ
 | _=>none
noncomputable def bQ(g:MG)(r:List D->aV->Option aV):List D->aV->Option aV:=λa ρ=>match a with
 |d::a=>(g d ρ).bind λb=>r a b
 | []=>none
theorem Tf:VGs X md P [] fQ:=NZ.imp λv σ H Q q=>by
 obtain⟨ρ,O,F,d,b,c,r,s,a,e,k⟩:=q
 cases b with
 |nil=>cases e;exact⟨a.un0,k _ s⟩
 |cons _ _=>cases e
theorem Tg     (h1:VG X md P e g)(h2:VGs X md P es r)(hs:(assignEach (e::es) X.env).map (·.2)=assign e X.env::(assignEach es X.env).map (·.2):=by rfl):VGs X md P (e::es) (bQ g r):=
 (N5 h1 h2 hs).imp λv σ H Q q=>by
  obtain⟨ρ,O,F,f,a,b,c,s,l,e,k⟩:=q
  cases a with
  |nil=>cases e
  |cons d a =>
   obtain⟨x,i,rfl,j,m⟩:=l.un;unfold bQ at e;dsimp only at e
   cases e1:g d ρ with
   |none=>rw[e1] at e;cases e
   |some ρ1 =>
    rw[e1] at e;exact⟨x,i,rfl,ρ,O,F,f,d,ρ1,c,s,j,e1,λt h=>⟨ρ1,O,F,f,a,b,c,h,m,e,k⟩⟩
noncomputable def fG(n:Nat)(r:List D->aV->Option aV):MG:=λd ρ=>match d with
 | .tup ds=>if ds.length=n then r ds ρ else none
 | _=>none
theorem Th  {c:Pos}{k:Nat}  (n:Nat)(t:X.calm=true)(h:VGs X md P es r)(l:(assignEach es X.env).length=n:=by rfl)(f:(assignEach es X.env).findIdx? (·.1)=none:=by rfl):VG X md P (.Tuple es k c) (fG n r):=
 (N7 t h l f).imp λv σ H Q q=>by
  obtain⟨ρ,O,F,u,d,b,g,s,j,e,k⟩:=q
  cases d with
  |tup ds =>
   obtain⟨a,i,rfl,h1,h2⟩:=j.unT;unfold fG at e;dsimp only at e;split at e
   ·rename_i m;exact⟨a,i,rfl,Same.seqT g.fh h1,by rw[h2.length];exact m,ρ,O,F,u,ds,b,g,s,h2,e,k⟩
   ·cases e
  | _=>cases e
noncomputable def qI(m:M D)(g:MG):MS:=λρ O=>match m ρ O with
 | .ok d O'=>match g d ρ with
  |some a=>.nx a O'
  |none=>.no
 | .ex x O'=>.ex x O'
 | .no=>.no
theorem Ti{R:RR}  {a:Pos}   (h:VE X md P e m)(C:VG X md P tg g)(hs:swapsWithSole [tg] e a.line X.env=pure false:=by rfl)(u:swappedStores [tg] e X.env=pure none:=by rfl)
  (h1:(assignEach [tg] X.env).map (·.2)=[assign tg X.env]:=by rfl):VS X md P R (.Assign [tg] e a) (qI m g):=(CV h C hs u h1).imp λD σ H q=>by
 obtain⟨ρ,O,F,E,r,s,k⟩:=q;unfold qI at k
 cases e:m ρ O with
 |ok d j =>
  rw[e] at k;dsimp only at k
  cases e2:g d ρ with
  |none=>rw[e2] at k;exact False.elim k
  |some ρ' =>
   rw[e2] at k;refine⟨ρ,_,F,E,_,_,r,s,e,λv G l b i f y=>?_⟩;exact⟨ρ,j,l,b,d,ρ',f,s.step i,y,e2,λc t=>k c G l b i.toS f t⟩
 |ex x j=>rw[e] at k;exact False.elim k
 |no=>rw[e] at k;exact False.elim k
structure kh(K:Frag)(mg:Str->Option Value)(P:Pt)(J:It)(ds:List D)(H F:Hp)(as:List Addr):Prop where
 turn:∀(i:Nat) (d:D) (H2 F2:Hp) (as2:List Addr),GrS P H F as H2 F2 as2->(∃O,RlO K mg O H2 F2 as2)->ds[i]?=some d->J.go i H2/\∀x H3,J.yld i H2 x H3->∃F3,Gr H2 F2 as2 H3 F3 as2/\(∀O,RlO K mg O H2 F2 as2->RlO K mg O H3 F3 as2)/\Rp K F3 as2 x d
 stop:∀(H2 F2:Hp) (as2:List Addr),GrS P H F as H2 F2 as2->(∃O,RlO K mg O H2 F2 as2)->J.stop ds.length H2
structure Fq(K:Frag)(mg:Str->Option Value)(J:It)(ds:List D)(H F:Hp)(as:List Addr):Prop where
 turn:∀(i:Nat) (d:D) (H2 F2:Hp) (as2:List Addr),Gr H F as H2 F2 as2->(∃O,RlO K mg O H2 F2 as2)->ds[i]?=some d->J.go i H2/\∀x H3,J.yld i H2 x H3->∃F3,Gr H2 F2 as2 H3 F3 as2/\(∀O,RlO K mg O H2 F2 as2->RlO K mg O H3 F3 as2)/\Rp K F3 as2 x d
 stop:∀(H2 F2:Hp) (as2:List Addr),Gr H F as H2 F2 as2->(∃O,RlO K mg O H2 F2 as2)->J.stop ds.length H2
theorem kh.e{K:Frag}       (h:kh K mg P J ds H F as):Fq K mg J ds H F as:=⟨λi d b c a g=>h.turn i d b c a g.toS,λb c a g=>h.stop b c a g.toS⟩
noncomputable def Ft(K:Frag)(mg:Str->Option Value)(md:List Md)(P:Pt)(m:M (List D)):TI:=λσ H Q=>∃ρ O F c f g,RlO K mg O H F c/\SlO K md P ρ σ H F c/\m ρ O=.ok f g /\
 ∀J b d a,Gr H F c b d a->RlO K mg g b d a->Fq K mg J f b d a->Q J b
noncomputable def VIc(X:Cx)(md:List Md)(P:Pt)(a iter:Expr)(m:M (List D)):Prop:=PI X a iter (Ft X.K X.mg md P m)
noncomputable def tMI(K:Frag)(mg:Str->Option Value)(md:List Md)(P:Pt)(m:M (List D)):TI:=λσ H Q=>∃ρ O F c f g,RlO K mg O H F c/\SlO K md P ρ σ H F c/\m ρ O=.ok f g /\
 ∀J b d a,Gr H F c b d a->RlO K mg g b d a->kh K mg P J f b d a->Q J b
noncomputable def VI(X:Cx)(md:List Md)(P:Pt)(a iter:Expr)(m:M (List D)):Prop:=PI X a iter (tMI X.K X.mg md P m)
theorem PI.imp   (h:PI X tg e t)(k:∀σ H Q,t' σ H Q->t σ H Q):PI X tg e t':=λpins s σ H Q I q=>h pins s σ H Q I (k σ H Q q)
theorem wU   (h:VI X md P tg e m):VIc X md P tg e m:=h.imp λσ H Q q=>by
 obtain⟨ρ,O,F,f,d,i,r,s,e,k⟩:=q;exact⟨ρ,O,F,f,d,i,r,s,e,λJ j l a g b c=>k J j l a g b c.e⟩
noncomputable def aO(g:MG)(b:MS):List D->MS
 | [],ρ,O=>.nx ρ O
 |d::ds,ρ,O=>match g d ρ with
  |none=>.no
  |some a=>match b a O with
   | .nx ρ2 O2=>aO g b ds ρ2 O2
   | .ct ρ2 O2=>aO g b ds ρ2 O2
   | .bk ρ2 O2=>.nx ρ2 O2
   |r=>r
noncomputable def bM(m:M (List D))(g:MG)(b:MS):MS:=λρ O=>match m ρ O with
 | .ok ds O'=>aO g b ds ρ O'
 | .ex x O'=>.ex x O'
 | .no=>.no
theorem Tj{K:Frag}     {D:Ends}   (q:tMS K mg md P R (bM m g b) D σ H):sI (tMI K mg md P m) (tMG K mg md P g) (tMS K mg md P R b) D σ H:=by
 obtain⟨ρ,O,F,as,r,s,k⟩:=q;unfold bM at k
 cases e:m ρ O with
 |ex x C=>rw[e] at k;exact False.elim k
 |no=>rw[e] at k;exact False.elim k
 |ok ds O1 =>
  rw[e] at k;dsimp only at k;refine⟨ρ,_,F,as,_,_,r,s,e,λJ H1 Z G g1 r1 hJ=>?_⟩;have k1:=fP (R:=R) g1.toS k;refine⟨λi m W L=>m=ds.length - i/\i<=ds.length/\∃u C Q c,GrS P H1 Z G L Q c/\RlO K mg C L Q c/\SlO K md P u W L Q c/\iu K mg md P R D L Q c (aO g b (ds.drop i) u C),⟨ds.length,by simp,Nat.zero_le _,ρ,O1,Z,G,GrS.refl,r1,s.step g1,by rw[List.drop_zero];exact k1⟩,?_⟩;rintro i n W L ⟨rfl,hi,u,C,Q,c,g',r',s',k'⟩
  by_cases X:i<ds.length
  ·have hd:=zM X;obtain⟨go,yl⟩:=hJ.turn i _ L Q c g' ⟨C,r'⟩ hd;rw[List.drop_eq_getElem_cons X] at k';refine .inr ⟨go,λj t=>∃h I l a,GrS P H1 Z G t l a/\RlO K mg I t l a/\SlO K md P h j t l a/\iu K mg md P R D t l a (aO g b (ds.drop (i+1)) h I),λj t h2=>⟨ds.length - (i+1),by omega,rfl,X,h2⟩,λx H3 y=>?_⟩;obtain⟨F3,Y,r3,hx⟩:=yl x H3 y;have r3':=r3 C r';unfold aO at k'
   cases eg:g ds[i] u with
   |none=>rw[eg] at k';exact False.elim k'
   |some ρ1 =>
    rw[eg] at k';dsimp only at k';refine⟨u,C,F3,c,ds[i],ρ1,r3',s'.step Y,hx,eg,λσ4 s4=>?_⟩;refine⟨ρ1,C,F3,c,r3',s4,?_⟩;have g4:GrS P H1 Z G H3 F3 c:=g'.trans Y.toS
    have keep:=λ{f}=>fP (K:=K) (mg:=mg) (md:=md) (R:=R) (D:=D) (f:=f) (Y.toS (P:=P))
    cases eb:b ρ1 C with
    |nx h I =>
     rw[eb] at k'
     exact λj t l a E U T=>⟨h,I,l,a,g4.trans E,U,T,fP E (keep k')⟩
    |ct h I =>
     rw[eb] at k'
     exact λj t l a E U T=>⟨h,I,l,a,g4.trans E,U,T,fP E (keep k')⟩
    |bk h I =>
     rw[eb] at k'
     exact λj t l a E U T=>k' j t l a (Y.toS.trans E) U T
    |rt d I =>
     rw[eb] at k'
     exact λv t l a E U T=>k' v t l a (Y.toS.trans E) U T
    |ex _ _=>rw[eb] at k';exact False.elim k'
    |no=>rw[eb] at k';exact False.elim k'
  ·have hi':i=ds.length:=by omega
   subst hi';refine .inl ⟨hJ.stop L Q c g' ⟨C,r'⟩,?_⟩;rw[List.drop_length] at k';exact k' W L Q c GrS.refl r' s'
theorem Tn   {a:Pos}    (h:X.calm=true)(d:VI X md P tg iter m)(f:VG X md P tg g)(hb:VSs X md P R body b)(c:PassesOwn (model X.prog X.w) X.A X.env X.xe:=by exact PassesOwn.never)
  (hs:∀x,foldedSetIterable iter X.env x=pure x:=by intro _;rfl):VS X md P R (.For tg iter body [] a) (bM m g b):=(vN c h d f hb hs).imp λ_ _ _ q=>Tj q
noncomputable def jJ(t:M Bool)(b:MS):Nat->MS
 | 0,_,_=>.no
 |n+1,ρ,O=>match t ρ O with
  | .ok true O1=>match b ρ O1 with
   | .nx ρ2 O2=>jJ t b n ρ2 O2
   | .ct ρ2 O2=>jJ t b n ρ2 O2
   | .bk ρ2 O2=>.nx ρ2 O2
   |r=>r
  | .ok false O1=>.nx ρ O1
  | .ex x O'=>.ex x O'
  | .no=>.no
noncomputable def qJ(n:Nat)(t:M Bool)(b:MS):MS:=jJ t b n
theorem Tp{K:Frag}     {D:Ends}   (q:tMS K mg md P R (qJ n t b) D σ H):CW (tMT K mg md P t) (tMS K mg md P R b) D σ H:=by
 refine⟨λn h G=>tMS K mg md P R (jJ t b n) D h G,⟨n,q⟩,?_⟩;rintro m σ1 H1 ⟨ρ,O,F,as,r,s,k⟩
 cases m with
 |zero=>exact False.elim k
 |succ m =>
  unfold jJ at k
  cases e:t ρ O with
  |ex x T=>rw[e] at k;exact False.elim k
  |no=>rw[e] at k;exact False.elim k
  |ok c O1 =>
   rw[e] at k;refine⟨ρ,_,F,as,_,_,r,s,e,λQ J E y I=>?_⟩
   cases c with
   |false =>
    rw[if_neg zq];exact k σ1 Q J E y.toS I (s.step y)
   |true =>
    rw[if_pos rfl];refine⟨λh G=>tMS K mg md P R (jJ t b m) D h G,λh G L=>⟨m,jg m,L⟩,ρ,O1,J,E,I,s.step y,?_⟩;dsimp only at k
    have keep:=λ{f}=>fP (K:=K) (mg:=mg) (md:=md) (R:=R) (D:=D) (f:=f) (y.toS (P:=P))
    cases eb:b ρ O1 with
    |nx ρ2 O2 =>
     rw[eb] at k
     exact λg C u a l j i=>⟨ρ2,O2,u,a,j,i,fP l (keep k)⟩
    |ct ρ2 O2 =>
     rw[eb] at k
     exact λg C u a l j i=>⟨ρ2,O2,u,a,j,i,fP l (keep k)⟩
    |bk ρ2 O2 =>
     rw[eb] at k
     exact λg C u a l j i=>k g C u a (y.toS.trans l) j i
    |rt d O2 =>
     rw[eb] at k
     exact λg C u a l j i=>k g C u a (y.toS.trans l) j i
    |ex _ _=>rw[eb] at k;exact False.elim k
    |no=>rw[eb] at k;exact False.elim k
theorem Tq(n:Nat)      (d:TsE X md P c t)(hb:VSs X md P R body b)(a:PassesOwn (model X.prog X.w) X.A X.env X.xe:=by exact PassesOwn.never):VS X md P R (.While c body [] pos) (qJ n t b):=
 (Oc a d hb).imp λ_ _ _ q=>Tp q
noncomputable def dH(g:MG)(t:M Bool)(m:M D):List D->aV->az->List D->Res (List D)
 | [],ρ,O,acc=>.ok acc O
 |d::ds,ρ,O,acc=>match g d ρ with
  |none=>.no
  |some a=>match t a O with
   | .ok true O1=>match m a O1 with
    | .ok y O2=>dH g t m ds a O2 (acc++[y])
    | .ex x O'=>.ex x O'
    | .no=>.no
   | .ok false O1=>dH g t m ds a O1 acc
   | .ex x O'=>.ex x O'
   | .no=>.no
noncomputable def gY(own:Nat)(cap:List Nat)(ρ:aV):aV:=List.replicate own none++cap.map λj=>(ρ[j]?).join
noncomputable def c7(m:M (List D))(own:Nat)(cap:List Nat)(g:MG)(t:M Bool)(e:M D):M D:=λρ O=>(m ρ O).bind λa d=>if a.length<=1000000 then(dH g t e a (gY own cap ρ) d []).bind λb c=>.ok (.lst b) c else .no
noncomputable def cO:M Bool:=λ_ O=>.ok true O
noncomputable def cMd(own:Nat)(cap:List Nat)(md:List Md):List Md:=List.replicate own .v++cap.map λj=>match md[j]? with
 |some .v=>.v
 | _=>.s
theorem Tr{K:Frag}       (s:SlO K md P ρ σ H F as)(x:∀j∈cap,j<md.length):SlO K (cMd own.length cap md) (Pt.all H) (gY own.length cap ρ) (compSt own cap σ) H F as:=by
 refine⟨by simp[compSt,cMd],by simp[gY,cMd],λa h=>h,λi m d c b=>?_,λi j a l E h1=>?_,λ_ z=>nomatch z⟩
 ·unfold gY at b;unfold cMd at c;unfold compSt
  by_cases f:i<own.length
  ·rw[zA (by simpa using f),List.getElem?_replicate_of_lt f] at b;cases b
  ·have hi':own.length<=i:=Nat.le_of_not_lt f;rw[zC (by simpa using hi'),List.length_replicate,zP] at b c;rw[zC (by simpa using hi'),zx,zP]
   cases q:cap[i - own.length]? with
   |none=>rw[q] at b;cases b
   |some j =>
    rw[q] at c b;simp only[Option.map_some,Option.some.injEq] at c b ⊢
    cases q2:ρ[j]? with
    |none=>rw[q2] at b;cases b
    |some o =>
     rw[q2] at b;have e2':o=some d:=b;subst e2';obtain⟨y,v,h1,h2,h3⟩:=s.get q2;rw[h1] at c;refine⟨v,by rw[h2];rfl,?_⟩
     cases y with
     |v=>dsimp only at c;subst c;exact h3
     |s =>
      dsimp only at c;subst c
      rcases h3 with h3 | ⟨a,r,l,c,b,g,u,C,t⟩
      ·exact .inl h3
      ·exact .inr ⟨a,r,l,c,b,g,u,(show H a≠none by rw[g];exact λz=>nomatch z),t⟩
     |o =>
      dsimp only at c;subst c
      rcases h3 with⟨_,h3⟩ | ⟨a,r,l,c,b,g,G,u,C,t⟩
      ·exact .inl h3
      ·exact .inr ⟨a,r,l,c,b,g,u,(show H a≠none by rw[g];exact λz=>nomatch z),t⟩
 ·exfalso
  unfold cMd at h1
  by_cases f:i<own.length
  ·rw[zA (by simpa using f),List.getElem?_replicate_of_lt f] at h1;cases h1
  ·have hi':own.length<=i:=Nat.le_of_not_lt f;rw[zC (by simpa using hi'),List.length_replicate,zP] at h1
   cases q:cap[i - own.length]? with
   |none=>rw[q] at h1;cases h1
   |some j =>
    rw[q] at h1;simp only[Option.map_some,Option.some.injEq] at h1
    split at h1<;>cases h1
noncomputable def xM(K:Frag)(mg:Str->Option Value)(md:List Md)(R:RR)(m:M D):TE:=λσ H Q=>∃P,tM K mg md P R m σ H Q
noncomputable def xMT(K:Frag)(mg:Str->Option Value)(md:List Md)(m:M Bool):TT:=λσ H Q=>∃P,tMT K mg md P m σ H Q
noncomputable def xMG(K:Frag)(mg:Str->Option Value)(md:List Md)(g:MG):TG:=λv σ H Q=>∃P,tMG K mg md P g v σ H Q
theorem xm   (h:∀P,PE X e (tM X.K X.mg md P R m)):PE X e (xM X.K X.mg md R m):=λpins s σ H Q I ⟨P,q⟩=>h P pins s σ H Q I q
theorem xmg   (h:∀P,VG X md P e g):PG X e (xMG X.K X.mg md g):=λpins s σ H v u Q I r ⟨P,q⟩=>h P pins s σ H v u Q I r q
theorem xmt   (h:∀P,lO X e (tMT X.K X.mg md P m)):lO X e (xMT X.K X.mg md m):=λpins s σ H Q I ⟨P,q⟩=>h P pins s σ H Q I q
noncomputable def VIf(X:Cx)(md:List Md)(P:Pt)(e:List Expr)(m:M Bool):Prop:=lO X e (tMT X.K X.mg md P m)
theorem Fv:VIf X md P [] cO:=λpins s σ H Q I q=>by
 obtain⟨ρ,O,F,a,d,b,r,s,e,k⟩:=q;cases e;exact Rv pins _ σ H Q I (k H F a Gr.refl r)
theorem Fw{K:Frag}        (hcap:∀j∈cap,j<md.length)    (q:tM K mg md P (rO K) (c7 m own.length cap g t e) σ H Q):
  wD (Ft K mg md P m) own cap (xMG K mg (cMd own.length cap md) g) (xMT K mg (cMd own.length cap md) t) (xM K mg (cMd own.length cap md) (rV K) e) σ H Q:=by
 obtain⟨ρ,O,F,as,d,OZ,r,s,I,k⟩:=q;obtain⟨l,O1,e1,I⟩:=Res.bind_ok I;split at I
 ·rename_i hz;obtain⟨yf,O2,e2,I⟩:=Res.bind_ok I;cases I;refine⟨ρ,_,F,as,_,_,r,s,e1,λJ H1 F1 R g1 r1 hJ=>?_⟩;have sb:=Tr (own:=own) (s.step g1) hcap
  refine⟨λi n W Y U=>n=l.length - i/\i<=l.length/\∃f E u a b,Gr H1 F1 R U u a/\RlO K mg E U u a/\SlO K (cMd own.length cap md) (Pt.all H1) f Y U u a/\Rps K u a W b/\b.length<=i /\
   dH g t e (l.drop i) f E b=.ok yf OZ,⟨l.length,by simp,Nat.zero_le _,gY own.length cap ρ,O1,F1,R,[],Gr.refl,r1,sb,Rps.nil,zc _,by rw[List.drop_zero];exact e2⟩,?_⟩
  rintro i n W Y U ⟨rfl,hi,f,E,u,a,b,g',r',s',hy,hl,ec⟩
  by_cases L:i<l.length
  ·obtain⟨go,yl⟩:=hJ.turn i _ U u a g' ⟨E,r'⟩ (zM L)
   refine .inr ⟨go,?_,λW X H2=>∃Z O3 F2 C h,Gr H1 F1 R H2 F2 C/\RlO K mg O3 H2 F2 C/\SlO K (cMd own.length cap md) (Pt.all H1) Z X H2 F2 C/\Rps K F2 C W h/\h.length<=i+1 /\
    dH g t e (l.drop (i+1)) Z O3 h=.ok yf OZ,λys2 X H2 h2=>⟨l.length - (i+1),by omega,rfl,L,h2⟩,λx H3 y=>?_⟩
   ·rw[hy.length]
    have:=gQ hz
    omega
   obtain⟨F3,g3,r3,hx⟩:=yl x H3 y;have r3':=r3 E r';have g13:=g'.trans g3;rw[List.drop_eq_getElem_cons L] at ec;unfold dH at ec
   cases eg:g l[i] f with
   |none=>rw[eg] at ec;cases ec
   |some ρ1 =>
    rw[eg] at ec;dsimp only at ec;refine⟨_,f,E,F3,a,l[i],ρ1,r3',s'.step g3,hx,eg,λσ4 s4=>?_⟩
    cases et:t ρ1 E with
    |ex _ _=>rw[et] at ec;cases ec
    |no=>rw[et] at ec;cases ec
    |ok c O4 =>
     rw[et] at ec;refine⟨_,ρ1,E,F3,a,c,O4,r3',s4,et,λH5 F5 as5 G r5=>?_⟩
     cases c with
     |false =>
      rw[if_neg zq];exact⟨ρ1,O4,F5,as5,b,g13.trans G,r5,s4.step G,(hy.gr g3).gr G,by omega,ec⟩
     |true =>
      rw[if_pos rfl];dsimp only at ec
      cases em:e ρ1 O4 with
      |ex _ _=>rw[em] at ec;cases ec
      |no=>rw[em] at ec;cases ec
      |ok yd O6 =>
       rw[em] at ec;refine⟨_,ρ1,O4,F5,as5,yd,O6,r5,s4.step G,em,λvy H7 F7 as7 g7 r7 hvy=>?_⟩;exact⟨ρ1,O6,F7,as7,b++[yd],(g13.trans G).trans g7,r7,(s4.step G).step g7,(((hy.gr g3).gr G).gr g7).snoc hvy,by rw[zf];show b.length+1<=i+1;omega,ec⟩
  ·have hi':i=l.length:=by omega
   subst hi';rw[List.drop_length] at ec;cases ec;refine .inl ⟨hJ.stop U u a g' ⟨_,r'⟩,?_,λp T=>?_⟩
   ·rw[hy.length];exact zE hl (gQ hz)
   ·have hF:u p=none:=by
     cases q:u p with
     |none=>rfl
     |some o=>rw[r'.fh p o q] at T;cases T
    exact k _ _ u a ((g1.trans g').trans (Gr.lay T)) (r'.lay T) (.inr ⟨p,W,yf,rfl,rfl,bu,hF,λz=>r'.all z T,(g1.trans g').dm p T,hy⟩)
 ·cases I
theorem lR{d:Pos}(a:Scope)(b own:List Str)(cap:List Nat)(u:X.calm=true)(l:VIc X md P tg iter mi)
  (m:∀C s H ex P,VG (bZ X scope C (bK b own cap) s H ex) (cMd own.length cap md) P tg g) (i:∀C s H ex P,VIf (bZ X scope C (bK b own cap) s H ex) (cMd own.length cap md) P ifs t)
  (r:∀C s H ex P,VE (bZ X scope C (bK b own cap) s H ex) (cMd own.length cap md) P elt e)
  (c:∀j∈cap,j<md.length:=by decide) (f:X.env.scope=a:=by rfl) (h:X.N=b:=by rfl) (ok:nQ a b scope own cap=true:=by decide +kernel) (hs:∀x,foldedSetIterable iter X.env x=pure x:=by intro _;rfl):
  OE X md P (.ListComp elt [⟨tg,iter,ifs,0⟩] scope d) (c7 mi own.length cap g t e):=
 (RB a b own cap u l (λC s H ex=>xmg (m C s H ex)) (λC s H ex=>xmt (i C s H ex)) (λC s H ex=>xm (r C s H ex)) f h ok hs).imp λ_ _ _ q=>Fw c q
theorem Fx{R:RR}{d:Pos}   {pos' a:Pos}(b:Scope)(c own:List Str)(cap:List Nat)(O:X.N.Nodup)(r:X.N[i]?=some x)(E:Loc X.env.scope x)(L:X.calm=true)(F:VIc X md P tg iter mi)
  (G:∀C s H ex P,VG (bZ X scope C (bK c own cap) s H ex) (cMd own.length cap md) P tg g) (u:∀C s H ex P,VIf (bZ X scope C (bK c own cap) s H ex) (cMd own.length cap md) P ifs t)
  (J:∀C s H ex P,VE (bZ X scope C (bK c own cap) s H ex) (cMd own.length cap md) P elt e)
  (y:md[i]?=some .o:=by rfl) (f:∀j∈cap,j<md.length:=by decide) (h:swapsWith (.ListComp elt [⟨tg,iter,ifs,0⟩] scope d) (some (.Name x pos')) a.line X.env=pure true:=by rfl)
  (I:X.fn x=true\/X.env.scope.names.lookup x=some .local:=by first | exact .inl rfl | exact .inr rfl | assumption)
  (l:X.env.scope=b:=by rfl) (m:X.N=c:=by rfl) (ok:nQ b c scope own cap=true:=by decide +kernel) (hs:∀x,foldedSetIterable iter X.env x=pure x:=by intro _;rfl):
  VS X md P R (.Assign [.Name x pos'] (.ListComp elt [⟨tg,iter,ifs,0⟩] scope d) a) (aF i (c7 mi own.length cap g t e)):=
 (RC (i:=i) b c own cap O r E L F (λC s H ex=>xmg (G C s H ex)) (λC s H ex=>xmt (u C s H ex)) (λC s H ex=>xm (J C s H ex)) h I l m ok hs).imp λD σ H q =>
  Fo y (λσ H Q z=>Fw f z) q
noncomputable def vSp(K:Frag)(mg:Str->Option Value)(pm:List Md)(R:RR)(c:List D->az->Res D):Sp:=λvs H Q _ =>
 ∃i O F g d j,RlO K mg O H F g/\cC K H F g pm vs i/\c i O=.ok d j/\∀v f h b,Gr H F g f h b->RlO K mg j f h b->R (λa=>H a=none) f h b v d->Q v f
noncomputable def bf(n:Nat)(b:MS):List D->az->Res D:=λa O=>match b (a.map some++List.replicate (n - a.length) none) O with
 | .rt d O'=>.ok d O'
 | .nx _ O'=>.ok .non O'
 | .ex x O'=>.ex x O'
 | _=>.no
theorem cC.len{K:Frag}  :∀{ms:List Md}{vs:List V}{ds:List D},cC K H F as ms vs ds->vs.length=ms.length/\ds.length=ms.length
 | [],[],[],_=>⟨rfl,rfl⟩
 |m::ms,v::vs,d::ds,h=>by
  have:=cC.len h.2
  simp[this.1,this.2]
 | [],[],_::_,h=>h.elim
 | [],_::_,[],h=>h.elim
 | [],_::_,_::_,h=>h.elim
 | _::_,[],[],h=>h.elim
 | _::_,[],_::_,h=>h.elim
 | _::_,_::_,[],h=>h.elim
theorem cC.get{K:Frag}{H F:Hp}{as:List Addr}:∀{ms:List Md}{vs:List V}{ds:List D}{i:Nat}{m:Md}{d:D},cC K H F as ms vs ds->ms[i]?=some m->ds[i]?=some d->∃v,vs[i]?=some v/\rA K m (λ_=>True) H F as v d
 |m::ms,v::vs,d::ds,0,m',d',h,e1,e2=>by
  simp at e1 e2
  subst e1 e2;exact⟨v,rfl,h.1⟩
 |m::ms,v::vs,d::ds,i+1,m',d',h,e1,e2=>by
  obtain⟨a,h1,h2⟩:=cC.get (i:=i) (m:=m') (d:=d') h.2 (by simpa using e1) (by simpa using e2);exact⟨a,by simpa using h1,h2⟩
 | [],[],[],_,_,_,_,e1,_=>by simp at e1
 | [],[],_::_,_,_,_,h,_,_=>h.elim
 | [],_::_,[],_,_,_,h,_,_=>h.elim
 | [],_::_,_::_,_,_,_,h,_,_=>h.elim
 | _::_,[],[],_,_,_,h,_,_=>h.elim
 | _::_,[],_::_,_,_,_,h,_,_=>h.elim
 | _::_,_::_,[],_,_,_,h,_,_=>h.elim
theorem tR{K:Frag}       (h:cC K H F as pm vs ds)(E:(pm++lm).length=N.length)(l:∀m∈pm,m≠.o):
  SlO K (pm++lm) (Pt.all H) (ds.map some++List.replicate (N.length - ds.length) none) (start N vs) H F as:=by
 obtain⟨h1,h2⟩:=h.len;rw[zf] at E
 have I:vs.length<=N.length:=by omega
 have no:∀i a,(ds.map some++List.replicate (N.length - ds.length) none)[i]?=some (some a)->i<ds.length:=λi a e=>by
  by_cases f:i<ds.length
  ·exact f
  ·rw[zC (by simpa using f),List.getElem?_replicate] at e
   split at e<;>cases e
 refine⟨by unfold start;simp;omega,by simp;omega,λa z=>z,λi m d c b=>?_,λi j a r fs c b G=>?_,λ_ z=>nomatch z⟩
 ·have f:=no i d b;rw[zA (by simpa using f),zP] at b;rw[zA (by omega)] at c
  cases q:ds[i]? with
  |none=>rw[q] at b;cases b
  |some d' =>
   rw[q] at b;cases b;obtain⟨v,h3,h4⟩:=h.get c q;refine⟨v,?_,?_⟩
   ·unfold start;rw[zA (by simp;omega),zP,h3];rfl
   ·cases m with
    |v=>exact h4
    |s =>
     rcases h4 with h4 | ⟨a,C,r,y,x,g,u,t⟩
     ·exact .inl h4
     ·exact .inr ⟨a,C,r,y,x,g,u,(show H a≠none by rw[g];exact λz=>nomatch z),t⟩
    |o=>exact absurd rfl (l .o (zT c))
 ·have f:=no i _ G;rw[zA (by omega)] at c;exact absurd rfl (l .o (zT c))
theorem cL{L:Program}{w:World}{K:Frag}{base:Heap}  {st:Stmt}  {k:Nat}(Df:Def K mg x st)(S:bc N ps (aJ st))
  (hb:∀(kV I pm:Value) (an:Option Addr) (i ct:Value) (us:List Value),us.length=ps.length->bindArgs (PySem.W.fnOf x x (dh st) (bJ st) (aJ st) .none kV I pm an i ct) ⟨us,[]⟩=pure (ps.zip us))
  (pm J:List Md)  {b:MS} (hR:cP R) (G:∀N H F as,R N H F as .non .non) (C:pm.length=ps.length:=by rfl) (Z:(pm++J).length=N.length:=by rfl) (Y:∀m∈pm,m≠.o:=by decide)
  (body:∀(f:Addr) (i:Value) (A:Around) (outer:List Env) (s:Shared) (H:Hp) (E:XK),aP k (A.deeper (envOfC x (aJ st) s.heap.objs.size f i))->∀P,VSs ((cY CX0 L w K mg base N x (aJ st) f i A outer s H E).nox) (pm++J) P R (bJ st) b):
  Can L w K mg base x ps (k+1) (vSp K mg pm R (bf N.length b)):=by
 refine Df.can (k:=k) S hb (λT H Q E h=>?_) (λf i A outer s H T Q E X h=>?_)
 ·obtain⟨t,O,F,as,d,O',r,a,_⟩:=h;rw[a.len.1,C]
 ·obtain⟨t,O,F,as,d,O',r,a,e,q⟩:=h;refine⟨_,body f i A outer s H E X (Pt.all H),?_⟩;refine⟨_,O,F,as,r,tR a Z Y,?_⟩;unfold bf at e
  cases eb:b (t.map some++List.replicate (N.length - t.length) none) O with
  |rt d' O2 =>
   rw[eb] at e;cases e
   exact λv u y j g l U=>q v u y j g.gr l (hR _ _ _ _ _ _ _ (λc hc=>jj.mp hc) U)
  |nx ρ O2 =>
   rw[eb] at e;cases e
   exact λσ' u y j g l _=>q _ u y j g.gr l (G _ _ _ _)
  |bk _ _=>rw[eb] at e;cases e
  |ct _ _=>rw[eb] at e;cases e
  |ex _ _=>rw[eb] at e;cases e
  |no=>rw[eb] at e;cases e
noncomputable def aG(c:List D->az->Res D)(ma:M (List D)):M D:=λρ O=>(ma ρ O).bind λa b=>c a b
theorem Fy{K:Frag}  (t:cP R)     (q:tM K mg md P R (aG c ma) σ H Q):nM (vSp K mg pm R c) [] E (tMA K mg md P pm ma) σ H Q:=by
 obtain⟨ρ,O,F,C,d,I,r,s,e,k⟩:=q;obtain⟨y,G,x,e⟩:=Res.bind_ok e;refine⟨ρ,_,F,C,_,_,r,s,x,λU W L b g h l=>?_⟩;dsimp only;rw[zI];exact⟨y,G,L,b,d,I,h,l,e,λv J T f u i j=>k v J T f (g.trans u) i (t _ _ _ _ _ _ _ (λa m=>g.dm a m) j)⟩
theorem Fz{p a:Pos}(j:cP R)(C:Can X.prog X.w X.K X.mg X.base x ps k (vSp X.K X.mg pm R c))(f:aP k X.A)(i:AE X md P pm (e::es) ma)(g:Gl X x:=by rfl)(d:(x == ("__debug__":Str))=false:=by decide)
  (h:starEach (e::es) X.env=(false,eval e X.env)::starEach es X.env:=by exact bF rfl) (b:(backTo a (starEach es X.env)).any (·.1)=false:=by exact cR rfl):PE X (.Call (.Name x p) (e::es) [] a) (tM X.K X.mg md P R (aG c ma)):=
 (RD C f i g d h b).imp λ_ _ _ q=>Fy j q
theorem Tt{md:List Md}{P:Pt}{p a:Pos}(h:cP R)(C:Can X.prog X.w X.K X.mg X.base x ps k (vSp X.K X.mg [] R c))(f:aP k X.A)(g:Gl X x:=by rfl)(b:(x == ("__debug__":Str))=false:=by decide):PE X (.Call (.Name x p) [] [] a) (tM X.K X.mg md P R (aG c aq)):=
 (RG C f g b).imp λσ H Q q=>by
  have:=Fy (pm:=[]) (E:=E0) h q
  obtain⟨ρ,O,F,j,d,l,r,s,i,k⟩:=this;cases i;exact k [] H F j Gr.refl r trivial
theorem b7{K:Frag}{Q:VK}  (r:RlO K mg O H F as)(k:∀f b c,Gr H F as b c as->RlO K mg O b c as->Ow K (λa=>H a=none) b c as f d->Q f b)(g:fO d=true)(hv:Rp K F as v d):Q v H:=k v H F Gr.refl r (.inl ⟨g,hv⟩)
theorem RlO.frF{K:Frag}(r:RlO K mg O H F as)(a:H p=none):F p=none:=by
 cases q:F p with
 |none=>rfl
 |some o=>rw[r.fh p o q] at a;cases a
theorem nY{K:Frag}{Q:VK}(r:RlO K mg O H F as)(k:∀f c d,Gr H F as c d as->RlO K mg O c d as->Ow K (λa=>H a=none) c d as f (.lst ds)->Q f c)(b:H p=none)(hs:Rps K F as xs ds):Q (.ref p) (upd H p (.lst xs)):=
 k _ _ F (Gr.lay b) (r.lay b) (.inr ⟨p,xs,ds,rfl,rfl,bu,r.frF b,λz=>r.all z b,b,hs⟩)
theorem FJ{K:Frag}{Q:VK}(r:RlO K mg O H F as)(k:∀h d g,Gr H F as d g as->RlO K mg O d g as->Ow K (λa=>H a=none) d g as h (.tup ds)->Q h d)(c:H p=none)(hs:Rps K F as xs ds):Q (.ref p) (upd H p (.tup xs)):=by
 have f:=r.frF c
 have ff:Same F (upd F p (.tup xs)):=λb u q=>by rw[aH (bI q f)];exact q
 exact k _ _ (upd F p (.tup xs)) ((Gr.lay c).frz c f) ((r.lay c).frz bu f (λz=>r.all z c) rfl) (.inl ⟨rfl,Rp.mkT (.inl bu) (Rps.mono ff (λ_ _ z=>z) _ hs)⟩)
section
variable {X:Cx}
noncomputable def Tu(K:Frag):R2:=λx y H Q=>∃l b c a,x=.ref l/\y=.ref b/\RdK K H l c/\RdK K H b a/\c.length+a.length<=sizeLine/\∀p,H p=none->Q (.ref p) (upd H p (.lst (c++a)))
theorem Tv:OpR X (binaryOp .Add) (Tu X.K):=by
 intro pins s σ H x y v u Q I g f h;obtain⟨l,b,G,E,rfl,rfl,i,j,L,q⟩:=h;cases g;cases f;obtain⟨z,c,n,r,e⟩:=i.ok I;obtain⟨F,a,J,d,t⟩:=j.ok I;have O:=r.length;have C:=d.length;refine PySem.P.add_list e t ?_ (by rw[zu,zu];omega)
 have m:c.toArray++a.toArray=(c++a).toArray:=by simp
 rw[m];exact⟨.ref _,_,I.lnew (t':=s.toks) (r.append d) (by rw[zf];omega),rfl,q _ I.fresh⟩
noncomputable def Tw(K:Frag):R2:=λx y H Q=>∃l k a,x=.ref l/\y=.int k/\RdK K H l a/\-(2 ^ 63)<=k/\k<2 ^ 63/\a.length * k.toNat<=sizeLine /\
 ∀p,H p=none->Q (.ref p) (upd H p (.lst (List.replicate k.toNat a).flatten))
theorem Tz:OpR X (binaryOp .Mult) (Tw X.K):=by
 intro pins s σ H x y v u Q I J G h;obtain⟨l,k,R,rfl,rfl,O,h1,h2,C,q⟩:=h;cases J;obtain⟨t,rfl⟩:=G;obtain⟨z,b,n,r,e⟩:=O.ok I;have L:=r.length
 have hlen:b.toArray.size * k.toNat<=sizeLine:=by rw[zu,<-L];exact C
 have g:¬b.toArray.size * k.toNat>(2 ^ 63 - 1) / 8:=by
  have:(sizeLine:Nat)<=(2 ^ 63 - 1) / 8:=by decide
  omega
 have f:¬(!Builtin.List.listFitsIndex k)=true:=by
  rw[fitsIndex_both h1 h2];exact zq
 have c:¬Builtin.List.listTooLong (b.toArray.size * k.toNat)=true:=by
  rw[Ed hlen];exact zq
 have d:List.foldl (λj i=>j++i) #[] (List.replicate (if b.toArray.isEmpty=true then 0 else k.toNat) b.toArray)=(List.replicate k.toNat b).flatten.toArray:=by
  have P:∀m:Nat,List.foldl (λj i=>j++i) #[] (List.replicate m b.toArray)=(List.replicate m b).flatten.toArray:=λm=>by
   have:=foldl_rep b m []
   rw[zN] at this;exact this
  rw[P]
  cases b with
  |nil=>simp
  |cons a W=>rw[if_neg (by simp)]
 refine wpAny_binaryOp_repeat_ref (T:="list") (U:="int") (by decide) ⟨_,e,rfl⟩ (λE=>typeIs_int E k t) noFill_list_mul F.fills_int_mul F.slot_int_rmul repeat_list F.slot_int_index.lookup
  (call_meets F.slot_int_rmul (typeIs_int s k t) F.entry_int_rmul (F.args_int_rmul_2 _ _) (int___rmul___int_list k t l b.toArray n)
   ⟨e,rfl,⟨_,e,rfl⟩,call_meets F.slot_list_mul ⟨_,e,rfl⟩ F.entry_list_mul (F.args_list_mul_2 _ _) (AutoListH.list___mul___list_int_3 l b.toArray n k t f g c) ⟨e,?_⟩⟩)
 rw[d];exact⟨.ref _,_,I.lnew (t':=s.toks) (r.rep k.toNat) (by rw[len_rep,Nat.mul_comm];exact C),rfl,q _ I.fresh⟩
noncomputable def aC:D->D->Option D
 | .int i,.int j=>some (.int (i+j))
 | .int i,.bl k=>some (.int (i+b2i k))
 | .str a,.str b=>if a.length+b.length<=1000000 then some (.str (a++b)) else none
 | .lst a,.lst b=>if a.length+b.length<=1000000 then some (.lst (a++b)) else none
 | .tup a,.tup b=>if a.length+b.length<=1000000/\a≠[] then some (.tup (a++b)) else none
 | _,_=>none
instance (a:List D):Decidable (a≠[]):=match a with
 | []=>isFalse λh=>h rfl
 | _::_=>isTrue λh=>nomatch h
theorem gj:OpD X (binaryOp .Add) aC:=by
 intro pins s σ H x y v u Q I g f h;obtain⟨O,F,T,R,C,d,r,m,l,e,k⟩:=h
 cases R with
 |int i =>
  cases(m.rp rfl).unI
  cases C with
  |int j =>
   cases(l.rp rfl).unI;cases e;exact OD pins s σ H _ _ v u Q I g f ⟨i,j,rfl,rfl,b7 r k rfl Rp.int⟩
  |bl j =>
   cases(l.rp rfl).unB;cases e;exact Pg pins s σ H _ _ v u Q I g f ⟨i,j,rfl,rfl,b7 r k rfl Rp.int⟩
  | _=>cases e
 |str a =>
  cases(m.rp rfl).unS
  cases C with
  |str b =>
   cases(l.rp rfl).unS;simp only[aC] at e;split at e
   ·rename_i c;cases e;refine Pz pins s σ H _ _ v u Q I g f ⟨S a,S b,rfl,rfl,by rw[cu,cu];exact gQ c,?_⟩;rw[RJ];exact b7 r k rfl Rp.str
   ·cases e
  | _=>cases e
 |lst a =>
  obtain⟨p,t,rfl,h1,h2⟩:=m.list r.fh
  cases C with
  |lst b =>
   obtain⟨G,E,rfl,h3,h4⟩:=l.list r.fh;simp only[aC] at e;split at e
   ·rename_i c;cases e;exact Tv pins s σ H _ _ v u Q I g f ⟨p,G,t,E,rfl,rfl,h1,h3,by rw[h2.length,h4.length];exact gQ c,λq J=>nY r k J (Rps.append h4 h2)⟩
   ·cases e
  | _=>cases e
 |tup a =>
  obtain⟨p,t,rfl,h1,h2⟩:=(m.rp rfl).unT
  cases C with
  |tup b =>
   obtain⟨G,E,rfl,h3,h4⟩:=(l.rp rfl).unT;simp only[aC] at e;split at e
   ·rename_i c;cases e
    have L:t≠[]:=λz=>c.2 (List.eq_nil_of_length_eq_zero (by rw[<-h2.length,z];rfl))
    refine QD pins s σ H _ _ v u Q I g f ⟨p,G,t,E,rfl,rfl,Same.seqT r.fh h1,Same.seqT r.fh h3,L,by rw[h2.length,h4.length];exact gQ c.1,λz=>?_,λ_ q J=>FJ r k J (Rps.append h4 h2)⟩;have P:b=[]:=List.eq_nil_of_length_eq_zero (by rw[<-h4.length,z];rfl);subst P;rw[zI] at k;exact b7 r k rfl (m.rp rfl)
   ·cases e
  | _=>cases e
 | _=>cases e
noncomputable def gI(C:Int->Int->Bool)(f:Int->Int->Int):D->D->Option D
 | .int i,.int j=>if C i j=true then some (.int (f i j)) else none
 | _,_=>none
theorem wV     (h:OpR X f (rI Cp λi j=>.int (g i j)))(m:∀i j,C i j=true->Cp i j):OpD X f (gI C g):=by
 intro pins s σ H x y v u Q I b a t;obtain⟨O,F,J,G,E,d,r,l,c,e,k⟩:=t
 cases G with
 |int i =>
  cases(l.rp rfl).unI
  cases E with
  |int j =>
   cases(c.rp rfl).unI;simp only[gI] at e;split at e
   ·rename_i q;cases e;exact h pins s σ H _ _ v u Q I b a ⟨i,j,rfl,rfl,m i j q,b7 r k rfl Rp.int⟩
   ·cases e
  | _=>cases e
 | _=>cases e
noncomputable def gk:D->D->Option D:=gI (λ_ _=>true) λi j=>i - j
theorem FN:OpD X (binaryOp .Sub) gk:=by
 intro pins s σ H x y v u Q I b a g;obtain⟨O,F,m,l,h,d,r,f,c,e,k⟩:=g
 cases l with
 |int i =>
  cases(f.rp rfl).unI
  cases h with
  |int j =>
   cases(c.rp rfl).unI;cases e;exact OJ pins s σ H _ _ v u Q I b a ⟨i,j,rfl,rfl,b7 r k rfl Rp.int⟩
  | _=>cases e
 | _=>cases e
noncomputable def nZ(i:Int):Bool:=decide (-(2 ^ 64)<i)&&decide (i<2 ^ 64)
theorem wW  (h:nZ i=true):-(2 ^ 64)<i/\i<2 ^ 64:=by
 unfold nZ at h;rw[zm,decide_eq_true_eq,decide_eq_true_eq] at h;exact h
noncomputable def cV:D->D->Option D
 | .int i,.int j=>if(nZ i || nZ j)=true then some (.int (i * j)) else none
 | .str l,.int n=>if -1000000<n/\n<1000000/\l.length * n.toNat<=16777216 then some (.str (List.replicate n.toNat l).flatten) else none
 | .lst l,.int n=>if -1000000<n/\n<1000000/\l.length * n.toNat<=1000000 then some (.lst (List.replicate n.toNat l).flatten) else none
 | _,_=>none
theorem TF:OpD X (binaryOp .Mult) cV:=by
 intro pins s σ H x y v u Q I c b h;obtain⟨O,F,G,E,m,d,r,g,f,e,k⟩:=h
 cases E with
 |int i =>
  cases(g.rp rfl).unI
  cases m with
  |int j =>
   cases(f.rp rfl).unI;simp only[cV] at e;split at e
   ·rename_i a;cases e;refine O7 pins s σ H _ _ v u Q I c b ⟨i,j,rfl,rfl,?_,b7 r k rfl Rp.int⟩;rw[Bool.or_eq_true] at a
    rcases a with z | z
    ·exact .inl (wW z)
    ·exact .inr (wW z)
   ·cases e
  | _=>cases e
 |str l =>
  cases(g.rp rfl).unS
  cases m with
  |int n =>
   cases(f.rp rfl).unI;simp only[cV] at e;split at e
   ·rename_i a;cases e;exact R9 pins s σ H _ _ v u Q I c b ⟨l,n,rfl,rfl,a.1,a.2.1,a.2.2,b7 r k rfl Rp.str⟩
   ·cases e
  | _=>cases e
 |lst l =>
  obtain⟨p,t,rfl,h1,h2⟩:=g.list r.fh
  cases m with
  |int n =>
   cases(f.rp rfl).unI;simp only[cV] at e;split at e
   ·rename_i a;cases e;exact Tz pins s σ H _ _ v u Q I c b ⟨p,n,t,rfl,rfl,h1,by omega,by omega,by rw[h2.length];exact gQ a.2.2,λq C=>nY r k C (h2.rep _)⟩
   ·cases e
  | _=>cases e
 | _=>cases e
noncomputable def aZ:D->D->Option D:=gI (λ_ j=>decide (0<j)) λi j=>i % j
theorem n6:OpD X (binaryOp .Mod) aZ:=wV O9 λ_ _ h=>jc h
noncomputable def kj:D->D->Option D:=gI (λ_ j=>decide (0<j)&&decide (j<1073741824)) λi j=>i / j
theorem TJ:OpD X (binaryOp .FloorDiv) kj:=wV O8 λi j h=>by
 rw[zm,decide_eq_true_eq,decide_eq_true_eq] at h;exact h
noncomputable def iV:D->D->Option D:=gI (λi j=>decide (0<=j)&&(decide (j<=1000000)&&nZ i)) λi j=>i ^ j.toNat
theorem TQ:OpD X (binaryOp .Pow) iV:=wV Pa λi j h=>by
 rw[zm,zm,decide_eq_true_eq,decide_eq_true_eq] at h
 have:=wW h.2.2
 exact⟨h.1,h.2.1,by omega⟩
noncomputable def mUn(g:D->Option D)(m:M D):M D:=λρ O=>(m ρ O).bind λd a=>match g (aX a d) with
 |some y=>.ok y a
 |none=>.no
noncomputable def tU:D->Option D
 | .int i=>some (.int (-i))
 | _=>none
theorem FP      (h:SE X md P a m):OE X md P (.UnaryOp .USub a pos) (mUn tU m):=(Ov Pb h).imp λσ H Q q=>by
 obtain⟨ρ,O,F,l,d,C,r,s,e,k⟩:=q;obtain⟨x,t,j,e⟩:=Res.bind_ok e;refine⟨ρ,_,F,l,_,_,r,s,j,λv u y b g c f=>?_⟩
 cases ed:aX t x with
 |int i =>
  rw[ed] at e;cases e
  have:=Sv.lk f c
  rw[ed] at this;exact⟨i,(this.rp rfl).unI,k _ u y b g c (.inl ⟨rfl,Rp.int⟩)⟩
 | _=>rw[ed] at e;cases e
noncomputable def gCI(f:Int->Int->Bool):D->D->Option D
 | .int i,.int j=>some (.bl (f i j))
 | _,_=>none
theorem FQ   (h:OpR X f (rI0 λi j=>.bl (g i j))):OpD X f (gCI g):=by
 intro pins s σ H x y v u Q I b a m;obtain⟨O,F,C,t,q,d,r,l,c,e,k⟩:=m
 cases t with
 |int i =>
  cases(l.rp rfl).unI
  cases q with
  |int j =>
   cases(c.rp rfl).unI;cases e;exact h pins s σ H _ _ v u Q I b a ⟨i,j,rfl,rfl,b7 r k rfl Rp.bl⟩
  | _=>cases e
 | _=>cases e
noncomputable def gLt:D->D->Option D:=gCI λi j=>decide (i<j)
noncomputable def gGt:D->D->Option D:=gCI λi j=>decide (j<i)
noncomputable def gGe:D->D->Option D:=gCI λi j=>decide (j<=i)
noncomputable def gLe:D->D->Option D
 | .int i,.int j=>some (.bl (decide (i<=j)))
 | .str a,.str b=>some (.bl (!decide (b<a)))
 | _,_=>none
theorem FT:OpD X (compareOp .LtE) gLe:=by
 intro pins s σ H x y v u Q I f c m;obtain⟨O,F,t,q,l,d,r,h,g,e,k⟩:=m
 cases q with
 |int i =>
  cases(h.rp rfl).unI
  cases l with
  |int j =>
   cases(g.rp rfl).unI;cases e;exact Pj pins s σ H _ _ v u Q I f c ⟨i,j,rfl,rfl,b7 r k rfl Rp.bl⟩
  | _=>cases e
 |str a =>
  cases(h.rp rfl).unS
  cases l with
  |str b =>
   cases(g.rp rfl).unS;cases e;refine RK pins s σ H _ _ v u Q I f c ⟨S a,S b,rfl,rfl,?_⟩;rw[dR,dR];exact b7 r k rfl Rp.bl
  | _=>cases e
 | _=>cases e
theorem wX:OpD X (compareOp .Lt) gLt:=FQ Ph
theorem TV:OpD X (compareOp .Gt) gGt:=FQ Pk
mutual
noncomputable def toP:D->PyData
 | .non=>.none
 | .bl b=>.bool b
 | .int i=>.int i
 | .str l=>.str (S l)
 | .lst ds=>.list (fU ds)
 | .tup ds=>.tuple (fU ds)
 | .dic _ _=>.none
 | .ob _=>.none
noncomputable def fU:List D->List PyData
 | []=>[]
 |d::ds=>toP d::fU ds
end
mutual
noncomputable def cW:D->Bool
 | .lst ds=>jK ds
 | .tup ds=>jK ds
 | .dic _ _=>false
 | .ob _=>false
 | _=>true
noncomputable def jK:List D->Bool
 | []=>true
 |d::ds=>cW d&&jK ds
end
section
variable {K:Frag}{F:Hp}{as:List Addr}
mutual
theorem Rp.rep:∀(d:D) {v:V},cW d=true->Rp K F as v d->Rep K F v (toP d)
 | .non,v,_,h=>by rw[toP,Rep];exact h.unN
 | .bl b,v,_,h=>by rw[toP,Rep];exact h.unB
 | .int i,v,_,h=>by rw[toP,Rep];exact h.unI
 | .str x,v,_,h=>by rw[toP,Rep];exact h.unS
 | .lst ds,v,hp,h=>by
  obtain⟨a,c,h1,h2,h3⟩:=h.unL;rw[toP,Rep];rw[cW] at hp;exact⟨a,c,h1,h2.sq,Rps.rep' ds hp h3⟩
 | .tup ds,v,hp,h=>by
  obtain⟨a,c,h1,h2,h3⟩:=h.unT;rw[toP,Rep];rw[cW] at hp;exact⟨a,c,h1,h2,Rps.rep' ds hp h3⟩
 | .dic _ _,v,hp,h=>by rw[cW] at hp;cases hp
 | .ob _,v,hp,h=>by rw[cW] at hp;cases hp
theorem Rps.rep':∀(ds:List D) {xs:List V},jK ds=true->Rps K F as xs ds->bO K F xs (fU ds)
 | [],xs,_,h=>by rw[h.un0,fU];exact bO.nil
 |d::ds,xs,hp,h=>by
  obtain⟨x,r,rfl,h2,h3⟩:=h.un;rw[jK,zm] at hp;rw[fU];exact bO.cons (Rp.rep d hp.1 h2) (Rps.rep' ds hp.2 h3)
end
theorem Lk.rep{K:Frag}    (h:Lk K H F as v d)(fh:Same F H)(b:cW d=true):Rep K H v (toP d):=by
 rcases h with h | ⟨a,c,f,rfl,rfl,h1,h2⟩
 ·exact Rep.mono fh _ (Rp.rep d b h)
 ·rw[cW] at b;rw[toP,Rep];exact⟨a,c,rfl,.inl (.inl h1),bO.mono fh _ (Rps.rep' f b h2)⟩
end
noncomputable def okE(d:D):Bool:=cW d&&okD (toP d)
noncomputable def eQ(a b:D):Bool:=PyData.eqv (toP a) (toP b)
noncomputable def gEq:D->D->Option D
 | .int i,.int j=>some (.bl (decide (i=j)))
 | .str a,.str b=>some (.bl (decide (a=b)))
 | .bl a,.bl b=>some (.bl (decide (a=b)))
 |a,b=>if(okE a&&okE b)=true then some (.bl (eQ a b)) else none
noncomputable def gNe:D->D->Option D
 | .int i,.int j=>some (.bl (!decide (i=j)))
 | .str a,.str b=>some (.bl (!decide (a=b)))
 | .bl a,.bl b=>some (.bl (!decide (a=b)))
 |a,b=>if(okE a&&okE b)=true then some (.bl (!eQ a b)) else none
theorem FW(a b:List Nat):decide (V.str (S a)=V.str (S b))=decide (a=b):=by
 by_cases h:a=b
 ·subst h;simp
 ·rw[zo h,zo];intro z;exact h (wI (V.str.inj z))
theorem FZ(a b:Int):decide (V.int a=V.int b)=decide (a=b):=by
 by_cases h:a=b
 ·subst h;simp
 ·rw[zo h,zo];intro z;exact h (V.int.inj z)
theorem Ga(a b:Bool):decide (V.bl a=V.bl b)=decide (a=b):=by
 cases a<;>cases b<;>rfl
theorem TX  (h:gEq a b=some d):(∃i j,a=.int i/\b=.int j/\d=.bl (decide (i=j)))\/(∃i j,a=.str i/\b=.str j/\d=.bl (decide (i=j)))\/(∃i j,a=.bl i/\b=.bl j/\d=.bl (decide (i=j))) \/
  (okE a=true/\okE b=true/\d=.bl (eQ a b)):=by
 unfold gEq at h;split at h
 ·cases h;exact .inl ⟨_,_,rfl,rfl,rfl⟩
 ·cases h;exact .inr (.inl ⟨_,_,rfl,rfl,rfl⟩)
 ·cases h;exact .inr (.inr (.inl ⟨_,_,rfl,rfl,rfl⟩))
 ·split at h
  ·rename_i c;rw[zm] at c;cases h;exact .inr (.inr (.inr ⟨c.1,c.2,rfl⟩))
  ·cases h
theorem TY  (h:gNe a b=some d):(∃i j,a=.int i/\b=.int j/\d=.bl (!decide (i=j)))\/(∃i j,a=.str i/\b=.str j/\d=.bl (!decide (i=j)))\/(∃i j,a=.bl i/\b=.bl j/\d=.bl (!decide (i=j))) \/
  (okE a=true/\okE b=true/\d=.bl (!eQ a b)):=by
 unfold gNe at h;split at h
 ·cases h;exact .inl ⟨_,_,rfl,rfl,rfl⟩
 ·cases h;exact .inr (.inl ⟨_,_,rfl,rfl,rfl⟩)
 ·cases h;exact .inr (.inr (.inl ⟨_,_,rfl,rfl,rfl⟩))
 ·split at h
  ·rename_i c;rw[zm] at c;cases h;exact .inr (.inr (.inr ⟨c.1,c.2,rfl⟩))
  ·cases h
theorem lU  (g:aP k X.A):OpD X (compareOp .Eq) gEq:=by
 intro pins s σ H x y v u Q I b a h;obtain⟨O,F,q,m,l,d,r,f,c,e,k⟩:=h
 rcases TX e with⟨i,j,rfl,rfl,rfl⟩ | ⟨i,j,rfl,rfl,rfl⟩ | ⟨i,j,rfl,rfl,rfl⟩ | ⟨h1,h2,rfl⟩
 ·cases(f.rp rfl).unI;cases(c.rp rfl).unI;refine vR pins s σ H _ _ v u Q I b a ⟨rfl,?_⟩;rw[FZ];exact b7 r k rfl Rp.bl
 ·cases(f.rp rfl).unS;cases(c.rp rfl).unS;refine vR pins s σ H _ _ v u Q I b a ⟨rfl,?_⟩;rw[FW];exact b7 r k rfl Rp.bl
 ·cases(f.rp rfl).unB;cases(c.rp rfl).unB;refine vR pins s σ H _ _ v u Q I b a ⟨rfl,?_⟩;rw[Ga];exact b7 r k rfl Rp.bl
 ·unfold okE at h1 h2;rw[zm] at h1 h2;exact Er g pins s σ H _ _ v u Q I b a ⟨toP m,toP l,f.rep r.fh h1.1,c.rep r.fh h2.1,h1.2,h2.2,b7 r k rfl Rp.bl⟩
theorem Gb  (g:aP k X.A):OpD X (compareOp .NotEq) gNe:=by
 intro pins s σ H x y v u Q I b a h;obtain⟨O,F,q,m,l,d,r,f,c,e,k⟩:=h
 rcases TY e with⟨i,j,rfl,rfl,rfl⟩ | ⟨i,j,rfl,rfl,rfl⟩ | ⟨i,j,rfl,rfl,rfl⟩ | ⟨h1,h2,rfl⟩
 ·cases(f.rp rfl).unI;cases(c.rp rfl).unI;refine vU pins s σ H _ _ v u Q I b a ⟨rfl,?_⟩;rw[FZ];exact b7 r k rfl Rp.bl
 ·cases(f.rp rfl).unS;cases(c.rp rfl).unS;refine vU pins s σ H _ _ v u Q I b a ⟨rfl,?_⟩;rw[FW];exact b7 r k rfl Rp.bl
 ·cases(f.rp rfl).unB;cases(c.rp rfl).unB;refine vU pins s σ H _ _ v u Q I b a ⟨rfl,?_⟩;rw[Ga];exact b7 r k rfl Rp.bl
 ·unfold okE at h1 h2;rw[zm] at h1 h2;exact Es g pins s σ H _ _ v u Q I b a ⟨toP m,toP l,f.rep r.fh h1.1,c.rep r.fh h2.1,h1.2,h2.2,b7 r k rfl Rp.bl⟩
noncomputable def toV:D->V
 | .bl b=>.bl b
 | .int i=>.int i
 | .str l=>.str (S l)
 | _=>.non
noncomputable def iw:D->Bool
 | .non=>true
 | .bl _=>true
 | .int _=>true
 | .str _=>true
 | _=>false
noncomputable def eqF(x y:D):Bool:=eqV (toV x) (toV y)
theorem Rp.flat{K:Frag}     (h:Rp K F as v d)(a:iw d=true):v=toV d/\iR v=true:=by
 cases d with
 |non=>rw[h.unN];exact⟨rfl,rfl⟩
 |bl b=>rw[h.unB];exact⟨rfl,rfl⟩
 |int b=>rw[h.unI];exact⟨rfl,rfl⟩
 |str b=>rw[h.unS];exact⟨rfl,rfl⟩
 | _=>cases a
theorem Rps.flat{K:Frag}{F:Hp}{as:List Addr}:∀{ds:List D}{xs:List V},Rps K F as xs ds->ds.all iw=true->xs=ds.map toV/\xs.all iR=true
 | [],xs,h,_=>by rw[h.un0];exact⟨rfl,rfl⟩
 |d::ds,xs,h,hf=>by
  obtain⟨x,r,rfl,h2,h3⟩:=h.un;rw[List.all_cons,zm] at hf;obtain⟨f,c⟩:=h2.flat hf.1;obtain⟨b,a⟩:=Rps.flat h3 hf.2;exact⟨by rw[zd,<-f,<-b],by rw[List.all_cons,c,a];rfl⟩
noncomputable def gIn(a:Bool):D->D->Option D
 | .str [c],.str l=>some (.bl (a ^^ decide (c∈l)))
 |x,.lst ds=>if(iw x&&ds.all iw)=true then some (.bl (a ^^ ds.any λy=>eqF y x)) else none
 |x,.tup ds=>if(iw x&&ds.all iw)=true then some (.bl (a ^^ ds.any λy=>eqF y x)) else none
 | _,_=>none
theorem T3   (h:gIn neg a b=some d):(∃c l,a=.str [c]/\b=.str l/\d=.bl (neg ^^ decide (c∈l)))\/(∃ds,(b=.lst ds\/b=.tup ds)/\iw a=true/\ds.all iw=true/\d=.bl (neg ^^ ds.any λy=>eqF y a)):=by
 unfold gIn at h;split at h
 ·cases h;exact .inl ⟨_,_,rfl,rfl,rfl⟩
 ·split at h
  ·rename_i f;rw[zm] at f;cases h;exact .inr ⟨_,.inl rfl,f.1,f.2,rfl⟩
  ·cases h
 ·split at h
  ·rename_i f;rw[zm] at f;cases h;exact .inr ⟨_,.inr rfl,f.1,f.2,rfl⟩
  ·cases h
 ·cases h
theorem T4  {ds:List D}:inV (toV x) (ds.map toV)=ds.any λy=>eqF y x:=by
 unfold inV;rw[List.any_map];rfl
theorem T5{K:Frag}        (r:RlO K mg O H F as)(a:Lk K H F as v b)(hb:b=.lst ds\/b=.tup ds):∃p xs,v=.ref p/\(SqL K H p xs\/SqT K H p xs)/\Rps K F as xs ds:=by
 rcases hb with rfl | rfl
 ·obtain⟨p,xs,e,h1,h2⟩:=a.list r.fh;exact⟨p,xs,e,.inl h1.sq,h2⟩
 ·obtain⟨p,xs,e,h1,h2⟩:=(a.rp rfl).unT;exact⟨p,xs,e,.inr (Same.seqT r.fh h1),h2⟩
theorem T6  (h:iw d=true):fO d=true:=by cases d<;>first | rfl | cases h
theorem Ge:OpD X (compareOp .In) (gIn false):=by
 intro pins s σ H x y v u Q I b a j;obtain⟨O,F,L,G,E,d,r,g,f,e,k⟩:=j
 rcases T3 e with⟨c,l,rfl,rfl,rfl⟩ | ⟨J,i,h1,h2,rfl⟩
 ·cases(g.rp rfl).unS;cases(f.rp rfl).unS;refine RM pins s σ H _ _ v u Q I b a ⟨c,l,rfl,rfl,?_⟩;rw[Bool.false_xor] at k;exact b7 r k rfl Rp.bl
 ·obtain⟨p,h,rfl,h3,h4⟩:=T5 r f i;obtain⟨C,t⟩:=(g.rp (T6 h1)).flat h1;obtain⟨q,m⟩:=h4.flat h2;refine QX pins s σ H _ _ v u Q I b a ⟨p,h,rfl,h3,t,m,?_⟩;rw[if_neg zq,C,q,T4];rw[Bool.false_xor] at k;exact b7 r k rfl Rp.bl
noncomputable def gIx:D->D->Option D
 | .lst ds,.int i=>atI ds i
 | .tup ds,.int i=>atI ds i
 | .str l,.int i=>if l.length<=1000000 then(atI l i).map λc=>.str [c] else none
 | _,_=>none
theorem Rps.atI{K:Frag}       (h:Rps K F as xs ds)(e:atI ds i=some d):∃v,L2.atI xs i=some v/\Rp K F as v d:=by
 unfold L2.atI at e ⊢;rw[h.length]
 cases q:ixN ds.length i with
 |none=>rw[q] at e;cases e
 |some j =>
  rw[q] at e;exact h.get' e
noncomputable def rDv(K:Frag)(mg:Str->Option Value)(g:D->D->Option D):R2:=λx y H Q=>∃O F a f c d,RlO K mg O H F a/\Lk K H F a x f/\Lk K H F a y c/\g f c=some d/\∀b,Rp K F a b d->Q b H
theorem T7:IxR X (rDv X.K X.mg gIx):=by
 intro value slice pins s σ H x y v u Q I g f G a;obtain⟨O,F,L,J,C,d,r,j,h,e,k⟩:=G
 cases J with
 |lst ds =>
  obtain⟨p,b,rfl,h1,h2⟩:=j.list r.fh
  cases C with
  |int i =>
   cases(h.rp rfl).unI;obtain⟨z,t,m⟩:=h2.atI e;exact QK value slice pins s σ H _ _ v u Q I g f ⟨p,b,i,z,rfl,rfl,h1.sq,t,k z m⟩ a
  | _=>cases e
 |tup ds =>
  obtain⟨p,b,rfl,h1,h2⟩:=(j.rp rfl).unT
  cases C with
  |int i =>
   cases(h.rp rfl).unI;obtain⟨z,t,m⟩:=h2.atI e;exact QL value slice pins s σ H _ _ v u Q I g f ⟨p,b,i,z,rfl,rfl,Same.seqT r.fh h1,t,k z m⟩ a
  | _=>cases e
 |str l =>
  cases(j.rp rfl).unS
  cases C with
  |int i =>
   cases(h.rp rfl).unI;simp only[gIx] at e;split at e
   ·rename_i E
    cases q:L2.atI l i with
    |none=>rw[q] at e;cases e
    |some c =>
     rw[q] at e;cases e;exact QM value slice pins s σ H _ _ v u Q I g f ⟨S l,i,c,rfl,rfl,by rw[cu];exact gQ E,by rw[dR];exact q,k _ Rp.str⟩ a
   ·cases e
  | _=>cases e
 | _=>cases e
theorem km      (I:SE X md P a ma)(hb:SE X md P b mb)(hs:sX b:=by intro _ _;rfl):VE X md P (.Subscript a b pos) (ak gIx ma mb):=(QF T7 I hb hs).imp λσ H Q h=>by
 obtain⟨ρ,O,F,R,d,O',r,sl,e,k⟩:=h;obtain⟨x,Z,L,e⟩:=Res.bind_ok e;obtain⟨y,Y,J,e⟩:=Res.bind_ok e;split at e
 ·rename_i W G;cases e;refine⟨ρ,_,F,R,_,_,r,sl,L,λv H1 U g j q C=>?_⟩;refine⟨ρ,_,U,g,_,_,q,sl.step j,J,λu T l c i f E=>?_⟩;exact⟨_,l,c,_,_,_,f,Sv.lk (Sv.gr C i) f,Sv.lk E f,G,λm t=>k m T l c (j.trans i) f t⟩
 ·cases e
noncomputable def tMO(K:Frag)(mg:Str->Option Value)(md:List Md)(P:Pt)(m:M (Option Int)):TO:=λσ H Q =>
 ∃ρ O F c b f,RlO K mg O H F c/\SlO K md P ρ σ H F c/\m ρ O=.ok b f/\∀d g a,Gr H F c d g a->RlO K mg f d g a->Q b d
noncomputable def VO(X:Cx)(md:List Md)(P:Pt)(e:Option Expr)(m:M (Option Int)):Prop:=PO X e (tMO X.K X.mg md P m)
theorem PO.imp   (h:PO X e t)(k:∀σ H Q,t' σ H Q->t σ H Q):PO X e t':=λpins s σ H Q I q=>h pins s σ H Q I (k σ H Q q)
noncomputable def moN:M (Option Int):=λ_ O=>.ok none O
noncomputable def moS(m:M D):M (Option Int):=λρ O=>(m ρ O).bind λd a=>match d with
 | .int i=>.ok (some i) a
 | _=>.no
theorem jL  :VO X md P none moN:=Qw.imp λσ H Q q=>by
 obtain⟨ρ,O,F,a,d,b,r,s,e,k⟩:=q;cases e;exact k H F a Gr.refl r
theorem jM     (h:VE X md P e m):VO X md P (some e) (moS m):=(Qx h).imp λσ H Q q=>by
 obtain⟨ρ,O,F,j,d,y,r,s,e,k⟩:=q;obtain⟨x,u,g,e⟩:=Res.bind_ok e
 cases x with
 |int i =>
  cases e;exact⟨ρ,_,F,j,_,_,r,s,g,λv l t a f b c=>⟨i,Rp.unI c,k l t a f b⟩⟩
 | _=>cases e
noncomputable def gSl(d:D)(a b:Option Int):Option D:=match d with
 | .lst ds=>some (.lst (cB ds a b))
 | .tup ds=>some (.tup (cB ds a b))
 | .str l=>if l.length<=16777216 then some (.str (cB l a b)) else none
 | _=>none
noncomputable def T8(K:Frag)(mg:Str->Option Value):V->Option Int->Option Int->Hp->VK->Prop:=λx i j H Q=>∃O F b h d,RlO K mg O H F b/\Lk K H F b x h/\gSl h i j=some d /\
 ∀g c f,Gr H F b c f b->RlO K mg O c f b->Ow K (λa=>H a=none) c f b g d->Q g c
theorem Rps.cut{K:Frag}     (h:Rps K F as xs ds)(a b:Option Int):Rps K F as (jC xs a b) (cB ds a b):=by
 unfold jC cB;rw[h.length];exact(h.drop _).take _
theorem T9:SlR X (T8 X.K X.mg):=by
 intro pins s σ H x v vl g a b sl Q I i hs m j h;obtain⟨O,F,C,y,d,r,c,e,k⟩:=h
 cases y with
 |lst ds =>
  obtain⟨p,f,rfl,h1,h2⟩:=c.list r.fh;cases e;exact QV pins s σ H _ v vl g a b sl Q I i hs m j ⟨p,f,rfl,h1.sq,λq t=>nY r k t (h2.cut a b)⟩
 |tup ds =>
  obtain⟨p,f,rfl,h1,h2⟩:=(c.rp rfl).unT;cases e;refine RX X.K rfl pins s σ H _ v vl g a b sl Q I i hs m j ⟨p,f,rfl,Same.seqT r.fh h1,λz=>?_,λ_ q t=>FJ r k t (h2.cut a b)⟩
  have:cB ds a b=ds:=by
   unfold cB;rw[<-h2.length,z.1,z.2,List.drop_zero,Nat.sub_zero,h2.length,List.take_length]
  rw[this] at k;exact b7 r k rfl (c.rp rfl)
 |str l =>
  cases(c.rp rfl).unS;simp only[gSl] at e;split at e
  ·rename_i u;cases e;exact RV pins s σ H _ v vl g a b sl Q I i hs m j ⟨l,rfl,zE u (Nat.le_of_eq sizeLine_eq.symm),b7 r k rfl Rp.str⟩
  ·cases e
 | _=>cases e
noncomputable def mSl(m:M D)(b c:M (Option Int)):M D:=λρ O=>(m ρ O).bind λd g=>(b ρ g).bind λl f=>(c ρ f).bind λh a=>match gSl (aX a d) l h with
 |some y=>.ok y a
 |none=>.no
end
theorem jN  {t:Option Expr}    (Z:SE X md P e m)(U:VO X md P t ml)(W:VO X md P hi mh):OE X md P (.Subscript e (.Slice t hi none p2) pos) (mSl m ml mh):=(Qy T9 Z U W).imp λσ H Q q=>by
 obtain⟨ρ,O,F,as,d,O',r,s,e,k⟩:=q;obtain⟨x,O1,e1,e⟩:=Res.bind_ok e;obtain⟨l,O2,e2,e⟩:=Res.bind_ok e;obtain⟨h,O3,e3,e⟩:=Res.bind_ok e;split at e
 ·rename_i y Y;cases e;refine⟨ρ,_,F,as,_,_,r,s,e1,λv H1 F1 i E J T=>?_⟩;refine⟨ρ,_,F1,i,_,_,J,s.step E,e2,λH2 F2 g C I=>?_⟩;have c:=E.trans C;refine⟨ρ,_,F2,g,_,_,I,s.step c,e3,λH3 F3 f u j=>?_⟩;have b:=c.trans u;exact⟨_,F3,f,_,_,j,Sv.lk (Sv.gr (Sv.gr T C) u) j,Y,λG H' F' g' L R=>k G H' F' f (b.trans g') L (eO _ _ _ _ _ _ _ (λa ha=>b.dm a ha) R)⟩
 ·cases e
noncomputable def Lks(K:Frag)(H F:Hp)(as:List Addr):List V->List D->Prop
 | [],[]=>True
 |v::vs,d::ds=>Lk K H F as v d/\Lks K H F as vs ds
 | _,_=>False
theorem cC.lks{K:Frag}     (r:RlO K mg O H F as):∀{ms:List Md}{vs:List V}{ds:List D},cC K H F as ms vs ds->Lks K H F as vs (ds.map (aX O))
 | [],[],[],_=>trivial
 |m::ms,v::vs,d::ds,h=>by
  refine⟨?_,cC.lks r h.2⟩
  have h1:Sv K H F as v d:=by
   cases m with
   |v=>exact .inl h.1
   |s=>exact h.1
   |o=>exact h.1
  exact h1.lk r
 | [],[],_::_,h=>h.elim
 | [],_::_,[],h=>h.elim
 | [],_::_,_::_,h=>h.elim
 | _::_,[],[],h=>h.elim
 | _::_,[],_::_,h=>h.elim
 | _::_,_::_,[],h=>h.elim
noncomputable def rC(K:Frag)(mg:Str->Option Value)(g:List D->Option D):List V->Hp->VK->Prop:=λj H Q=>∃O F b i d,RlO K mg O H F b/\Lks K H F b j i/\g i=some d /\
 ∀h c f,Gr H F b c f b->RlO K mg O c f b->Ow K (λa=>H a=none) c f b h d->Q h c
abbrev kE(X:Cx)(f:Value)(g:List D->Option D):Prop:=gO X f (rC X.K X.mg g)
noncomputable def aM(g:List D->Option D)(ma:M (List D)):M D:=λρ O=>(ma ρ O).bind λb a=>match g (b.map (aX a)) with
 |some d=>.ok d a
 |none=>.no
theorem Gf{K:Frag}        (q:tM K mg md P (rO K) (aM g ma) σ H Q):tCB (rC K mg g) (tMA K mg md P ms ma) σ H Q:=by
 obtain⟨ρ,O,F,C,d,T,r,s,e,k⟩:=q;obtain⟨L,R,x,e⟩:=Res.bind_ok e;split at e
 ·rename_i y m;cases e;refine⟨ρ,_,F,C,_,_,r,s,x,λJ U G b f c l=>?_⟩;exact⟨_,G,b,_,_,c,l.lks c,m,λh E I u i j=>k h E I b (f.trans u) i (eO _ _ _ _ _ _ _ (λa t=>f.dm a t) j)⟩
 ·cases e
theorem tV  {p a:Pos}   {d:String}    (l:kE X (.builtin d) g)(h:X.mg x=none)(m:AE X md P ms (e::es) ma)(hv:bootBuiltins x=some (.builtin d):=by decide +kernel)(i:Gl X x:=by rfl)
  (f:x≠"__name__":=by decide) (c:(x == ("__debug__":Str))=false:=by decide) (j:starEach (e::es) X.env=(false,eval e X.env)::starEach es X.env:=by exact bF rfl) (b:(backTo a (starEach es X.env)).any (·.1)=false:=by exact cR rfl):
  OE X md P (.Call (.Name x p) (e::es) [] a) (aM g ma):=(sW l i h hv m f c j b).imp λ_ _ _ q=>Gf q
theorem wY  {p a:Pos}       (j:kE X (.type T) g)(f:X.mg x=none)(l:AE X md P ms (e::es) ma)(hv:bootBuiltins x=some (.type T):=by decide +kernel)(h:Gl X x:=by rfl)
  (d:x≠"__name__":=by decide) (c:(x == ("__debug__":Str))=false:=by decide) (i:starEach (e::es) X.env=(false,eval e X.env)::starEach es X.env:=by exact bF rfl) (b:(backTo a (starEach es X.env)).any (·.1)=false:=by exact cR rfl):
  OE X md P (.Call (.Name x p) (e::es) [] a) (aM g ma):=(DQ j h f hv l d c i b).imp λ_ _ _ q=>Gf q
theorem Lks.one{K:Frag}{H F:Hp}{as:List Addr}{vs:List V}{d:D}(h:Lks K H F as vs [d]):∃v,vs=[v]/\Lk K H F as v d:=by
 cases vs with
 |nil=>exact h.elim
 |cons v vs =>
  cases vs with
  |nil=>exact⟨v,rfl,h.1⟩
  |cons u a=>exact h.2.elim
theorem Lks.two{K:Frag}{H F:Hp}{as:List Addr}{vs:List V}{d e:D}(h:Lks K H F as vs [d,e]):∃v u,vs=[v,u]/\Lk K H F as v d/\Lk K H F as u e:=by
 cases vs with
 |nil=>exact h.elim
 |cons v vs =>
  cases vs with
  |nil=>exact h.2.elim
  |cons u us =>
   cases us with
   |nil=>exact⟨v,u,rfl,h.1,h.2.1⟩
   |cons w a=>exact h.2.2.elim
noncomputable def aU:List D->Option D
 | [.str l]=>if l.length<=1000000 then some (.int l.length) else none
 | [.lst ds]=>some (.int ds.length)
 | [.tup ds]=>some (.int ds.length)
 | _=>none
theorem Gg:kE X (.builtin "len") aU:=by
 intro pins s σ H c f Q I g h;obtain⟨O,F,m,j,d,r,a,e,k⟩:=h;unfold aU at e;split at e
 ·rename_i l;obtain⟨v,rfl,b⟩:=a.one;split at e
  ·rename_i i;cases e;cases(b.rp rfl).unS;refine call_len pins s σ H _ f Q I g ⟨_,_,rfl,⟨by rw[cu];exact gQ i,rfl⟩,?_⟩;rw[cu];exact b7 r k rfl Rp.int
  ·cases e
 ·rename_i l;obtain⟨v,rfl,b⟩:=a.one;cases e;obtain⟨p,c,rfl,h1,h2⟩:=b.list r.fh;refine call_len pins s σ H _ f Q I g ⟨_,_,rfl,.inl ⟨c,h1.sq,rfl⟩,?_⟩;rw[h2.length];exact b7 r k rfl Rp.int
 ·rename_i l;obtain⟨v,rfl,b⟩:=a.one;cases e;obtain⟨p,c,rfl,h1,h2⟩:=(b.rp rfl).unT;refine call_len pins s σ H _ f Q I g ⟨_,_,rfl,.inr ⟨c,Same.seqT r.fh h1,rfl⟩,?_⟩;rw[h2.length];exact b7 r k rfl Rp.int
 ·cases e
noncomputable def Ua:List D->Option D
 | [.int i,.int j]=>some (.int (if j>i then j else i))
 | _=>none
noncomputable def tW:List D->Option D
 | [.int i,.int j]=>some (.int (if j<i then j else i))
 | _=>none
theorem Ub(i:X.calm=true):kE X (.builtin "min") tW:=by
 intro pins s σ H j b Q I c h;obtain⟨O,F,m,l,d,r,a,e,k⟩:=h;unfold tW at e;split at e
 ·obtain⟨v,u,rfl,f,g⟩:=a.two;cases e;cases(f.rp rfl).unI;cases(g.rp rfl).unI;exact PB i pins s σ H _ b Q I c ⟨_,_,rfl,b7 r k rfl Rp.int⟩
 ·cases e
noncomputable def gm:List D->Option D
 | [.int i]=>some (.int i)
 | [.bl b]=>some (.int (if b then 1 else 0))
 | _=>none
theorem Uc:kE X (.type "int") gm:=by
 intro pins s σ H g c Q I f h;obtain⟨O,F,j,i,d,r,a,e,k⟩:=h;unfold gm at e;split at e
 ·obtain⟨v,rfl,b⟩:=a.one;cases e;cases(b.rp rfl).unI;exact Dm pins s σ H _ c Q I f (.inl ⟨_,rfl,b7 r k rfl Rp.int⟩)
 ·obtain⟨v,rfl,b⟩:=a.one;cases e;cases(b.rp rfl).unB;exact Dm pins s σ H _ c Q I f (.inr ⟨_,rfl,b7 r k rfl Rp.int⟩)
 ·cases e
noncomputable def gZ:List D->Option D
 | [.lst ds]=>some (.lst ds)
 | [.tup ds]=>some (.lst ds)
 | _=>none
theorem Ud:kE X (.type "list") gZ:=by
 intro pins s σ H b g Q I i h;obtain⟨O,F,m,j,d,r,a,e,k⟩:=h;unfold gZ at e;split at e
 ·obtain⟨v,rfl,c⟩:=a.one;cases e;obtain⟨p,b,rfl,h1,h2⟩:=c.list r.fh;exact Ec pins s σ H _ g Q I i ⟨p,b,rfl,.inl h1.sq,λl f=>nY r k f h2⟩
 ·obtain⟨v,rfl,c⟩:=a.one;cases e;obtain⟨p,b,rfl,h1,h2⟩:=(c.rp rfl).unT;exact Ec pins s σ H _ g Q I i ⟨p,b,rfl,.inr (Same.seqT r.fh h1),λl f=>nY r k f h2⟩
 ·cases e
noncomputable def kI:List D->Option (List Int)
 | []=>some []
 | .int b::ds=>(kI ds).map (b :: ·)
 | _=>none
theorem Rps.ints{K:Frag}{F:Hp}{as:List Addr}:∀{ds:List D}{xs:List V}{bs:List Int},Rps K F as xs ds->kI ds=some bs->xs=bs.map V.int
 | [],xs,bs,h,e=>by cases e;rw[h.un0];rfl
 |d::ds,xs,bs,h,e=>by
  obtain⟨x,r,rfl,h2,h3⟩:=h.un
  cases d with
  |int b =>
   unfold kI at e
   cases q:kI ds with
   |none=>rw[q] at e;cases e
   |some cs =>
    rw[q] at e;cases e;rw[h2.unI,Rps.ints h3 q];rfl
  | _=>cases e
theorem Gh:bootBuiltins "len" = some (.builtin "len"):=by decide +kernel
theorem Ue:bootBuiltins "max" = some (.builtin "max"):=by decide +kernel
theorem Ug:bootBuiltins "min" = some (.builtin "min"):=by decide +kernel
theorem Uh:bootBuiltins "int" = some (.type "int"):=by decide +kernel
theorem Gi:bootBuiltins "str" = some (.type "str"):=by decide +kernel
theorem Ui:bootBuiltins "bool" = some (.type "bool"):=by decide +kernel
theorem Uj:bootBuiltins "list" = some (.type "list"):=by decide +kernel
noncomputable def tyD:D->Option String
 | .non=>some "NoneType"
 | .bl _=>some "bool"
 | .int _=>some "int"
 | .str _=>some "str"
 | .lst _=>some "list"
 | .tup _=>some "tuple"
 | .dic _ _=>some "dict"
 | .ob _=>none
noncomputable def dI(t n:String):Bool:=t == n || (t == "bool" && n == "int")
noncomputable def eU(n:String)(m:M D):M D:=λρ O=>(m ρ O).bind λd a=>match tyD (aX a d) with
 |some t=>.ok (.bl (dI t n)) a
 |none=>.no
noncomputable def wZ:List String:=["str","int","bool","list","tuple","dict"]
theorem Uk(K:Frag):∀d t,tyD d=some t->∀n∈wZ,PySem.W.kitOne K (.type t) (.type n)=some (dI t n):=by
 intro d t e n a;simp only[wZ,zh,List.not_mem_nil,or_false] at a
 cases d<;>cases e<;>rcases a with rfl | rfl | rfl | rfl | rfl | rfl<;>first | exact R1 K _ | kernel_rfl
theorem Lk.ty{K:Frag}      (h:Lk K H F as v d)(fh:Same F H)(e:tyD d=some t):TyQ K H v t:=by
 cases d with
 |non=>cases e;rw[(h.rp rfl).unN];exact .non
 |bl b=>cases e;rw[(h.rp rfl).unB];exact .bl _
 |int b=>cases e;rw[(h.rp rfl).unI];exact .int _
 |str b=>cases e;rw[(h.rp rfl).unS];exact .str _
 |lst c=>cases e;obtain⟨p,a,rfl,h1,h2⟩:=h.list fh;exact .lst h1.sq
 |tup c=>cases e;obtain⟨p,a,rfl,h1,h2⟩:=(h.rp rfl).unT;exact .tup (Same.seqT fh h1)
 |dic g f=>cases e;obtain⟨p,a,rfl,h1,h2⟩:=(h.rp rfl).unD;exact .dK (fh _ _ h1)
 |ob n=>cases e
theorem Gj(n:String)   {p b c:Pos}  (J:X.mg "isinstance" = none)(R:X.mg T=none)(h:SE X md P a m)(hb:bootBuiltins T=some (.type n):=by decide +kernel)(I:n∈wZ:=by decide)(L:Gl X "isinstance":=by rfl)(l:Gl X T:=by rfl)
  (u:T≠"__name__":=by decide) (y:(T == ("__debug__":Str))=false:=by decide)
  (f:starEach [a,.Name T b] X.env=(false,eval a X.env)::starEach [.Name T b] X.env:=by exact bF rfl) (i:starEach [.Name T b] X.env=(false,eval (.Name T b) X.env)::starEach [] X.env:=by rfl) (j:(backTo c (starEach [.Name T b] X.env)).any (·.1)=false:=by exact cR rfl):
  OE X md P (.Call (.Name "isinstance" p) [a,.Name T b] [] c) (eU n m):=
 (sW (R0 X.K) L J (by decide +kernel) (dZ h (dZ (Cu (v:=.ty n) l R hb rfl u y) fM i) f) (by decide) (by decide) f j).imp λσ H Q q=>by
  obtain⟨ρ,O,F,Y,d,O',r,s,e,k⟩:=q;obtain⟨x,O1,W,e⟩:=Res.bind_ok e;split at e
  ·rename_i t E;cases e;refine⟨ρ,_,F,Y,_,_,r,s,W,λv Z F1 C U g G=>?_⟩;exact⟨v,n,t,_,rfl,Lk.ty (Sv.lk G g) g.fh E,Uk _ _ t E n I,k _ Z F1 C U g (.inl ⟨rfl,Rp.bl⟩)⟩
  ·cases e
noncomputable def gn(m:M D):M (List D):=λρ O=>(m ρ O).bind λd a=>match d with
 | .lst ds=>.ok ds a
 | _=>.no
noncomputable def xf(m:M D):M (List D):=λρ O=>(m ρ O).bind λd a=>match d with
 | .tup ds=>.ok ds a
 | _=>.no
theorem Gk{K:Frag}       (hs:Rps K F as xs ds)(j:∀(c f:Hp) (b:List Addr),GrS P H F as c f b->(∃O,RlO K mg O c f b)->RdK K c a xs):kh K mg P (Itl K a) ds H F as:=by
 refine⟨λi d c f b g r e=>?_,λc f b g r=>⟨xs,(j c f b g r).sq,by rw[hs.length];exact zc _⟩⟩;obtain⟨x,h1,h2⟩:=hs.get' e;have q:=j c f b g r;refine⟨⟨xs,x,q.sq,h1⟩,λy l h=>?_⟩;obtain⟨rfl,h⟩:=h
 have:=h xs q.sq
 rw[h1] at this;cases this;exact⟨f,Gr.refl,λ_ r=>r,h2.grS g⟩
theorem Inv.turnL{σ:St}{ch:List Addr}   (I:Inv X pins σ H s)(d:∀b∈ch,fL X pins H b)(k:∀b o,b∉ch->s.heap.get? b=some o->h'.get? b=some o):Inv X pins σ H {s with heap:=h',toks:=t'}:=by
 have f:∀b u,H b=some u->b∉ch:=λb u e z=>by rw[(d b z).1] at e;cases e
 refine I.step (g':=s.gens) (d':=s.drawn) (ch:=ch) (λb i=>?_) (λb o _ _ a e _=>k b o a e) (λb o _ _ a e _=>⟨o.slots,k b o a e⟩) (λ_ _ _ _ n=>n)
  (λb o a e=>⟨o,k b o a e⟩) (λ_ _ e=>e) (λ_ _ _ e=>e) (λb E e=>⟨#[],by rw[e];simp⟩) (λm h=>?_) (λb u e=>?_) I.bare
 ·obtain⟨G,x,F,t,l,j⟩:=d b i;exact⟨t,x,l,j⟩
 ·obtain⟨o,y,C,g,r⟩:=h;exact⟨o,y,C,k _ o (λz=>(d _ z).2.1 rfl) g,r⟩
 ·refine(I.hok b u e).stay (λc v a q=>k c v ?_ q) (λ_ q=>q) λ_ _ q=>q
  rcases a with z | z
  ·rw[z];exact f b u e
  ·exact f c _ z
theorem Inv.turnT{σ:St}{ch:List Addr}   {T:Addr}   (I:Inv X pins σ H s)(d:∀b∈ch,fL X pins H b)(k:∀b o,b∉ch->s.heap.get? b=some o->h'.get? b=some o)
  (i:s.heap.objs.size<=T) (new:IsTup h' T us.toArray) (hv:aL vs us) (j:vs.length<=sizeLine):Inv X pins σ (upd H T (.tup vs)) {s with heap:=h',toks:=t'}:=by
 have f:H T=none:=I.hok.fresh i
 have g:∀b u,H b=some u->b∉ch:=λb u e z=>by rw[(d b z).1] at e;cases e
 have ne:∀b o,s.heap.get? b=some o->b≠T:=λb o e z=>by
  subst z;exact absurd (ze e) (Nat.not_lt_of_le i)
 refine I.step (g':=s.gens) (d':=s.drawn) (ch:=ch) (λb h=>?_) (λb o _ _ a e _=>k b o a e) (λb o _ _ a e _=>⟨o.slots,k b o a e⟩) (λb o _ e n=>by rw[aH (ne b o e)];exact n)
  (λb o a e=>⟨o,k b o a e⟩) (λb _ e=>by rw[aH (bI e f)];exact e) (λb _ _ e=>by rw[aH (bI e f)];exact e) (λb L e=>⟨#[],by rw[aH (bI e f),e];simp⟩) (λm t=>?_) (λb u e=>?_) I.bare
 ·obtain⟨P,E,O,C,y,x⟩:=d b h;exact⟨C,E,y,x⟩
 ·obtain⟨o,F,G,l,r⟩:=t;exact⟨o,F,G,k _ o (λz=>(d _ z).2.1 rfl) l,r⟩
 ·by_cases h:b=T
  ·subst h;rw[bu] at e;cases e;exact⟨j,us,hv,new⟩
  ·rw[aH h] at e
   refine(I.hok b u e).stay (λc v a q=>k c v ?_ q) (λc q=>by rw[aH (bI q f)];exact q) λc J q=>by rw[aH (bI q f)];exact q
   rcases a with z | z
   ·rw[z];exact g b u e
   ·exact g c _ z
noncomputable def Ite(K:Frag)(l:Addr):It:=⟨λi H=>∃a x,SqL K H l a/\a[i]?=some x,λi H v b=>∃T x,v=.ref T/\H T=none/\b=upd H T (.tup [.int i,x])/\∀a,SqL K H l a->a[i]?=some x,λi H=>∃a,SqL K H l a/\a.length<=i⟩
noncomputable def Gm(l:List Nat):It:=⟨λi _=>i<l.length,λi H v a=>∃T c,v=.ref T/\H T=none/\a=upd H T (.tup [.int i,.str (S [c])])/\l[i]?=some c,λi _=>l.length<=i⟩
theorem tX{h:Heap}    (e:h.get? b=some o)(d:o.data=.fields vs):∃o,h.get? b=some o/\∀v,o.data≠.cell v:=⟨o,e,λv z=>by rw[d] at z;cases z⟩
theorem Ul   {K:Frag}    (e it l:Addr)(hne:e≠it):Turn P w K (.Tuple elts x1 pos) (Ite K l) [e,it] e (λi h=>(∃old,IsEnum h e it i old)/\h.IsListIter it l i) where
 mem:=by simp
 obj:=λi h st b hb=>by
  obtain⟨⟨old,he⟩,o,ho,hc,hd⟩:=st
  rcases zh.mp hb with rfl | hb
  ·exact tX he rfl
  ·rw[zg.mp hb];exact tX ho hd
 keep:=λi h h' st k=>by
  obtain⟨⟨old,he⟩,o,ho,r⟩:=st;exact⟨⟨old,k e (by simp) _ he⟩,o,k it (by simp) o ho,r⟩
 item:=by
  intro X hP hw hK hc i pins s σ H E I hf st hg;subst hP hw hK;obtain⟨⟨old,he⟩,hit⟩:=st;obtain⟨xs,x,hq,hx⟩:=hg;obtain⟨its,rv,pl,hz⟩:=I.list hq;obtain⟨u,hu,ru⟩:=rv.get hx;have hT:H s.heap.objs.size=none:=I.hok.fresh (zc _);have elt:e<s.heap.objs.size:=ze he
  refine wpAny_pyNext_enum_item he hit pl.isList (x:=u) (by simpa using hu) hne λh' ho hit' hTup hsz hk=>⟨_,rfl,?_⟩
  refine wpAny_letOwnedTupleGo_enum ho λh'' he'' hs''=>⟨.ref s.heap.objs.size,_,?_,rfl,⟨s.heap.objs.size,x,rfl,hT,rfl,λys hy=>by rw[I.list_inj hy hq];exact hx⟩,⟨⟨_,by simpa using he''⟩,hit'.extBut hs''.extBut (Ne.symm hne)⟩,λb hb=>?_⟩
  ·show Inv X pins σ _ {s with heap:=h'',toks:=s.toks+1};refine I.turnT (ch:=[e,it]) (us:=[.int i s.toks,u]) hf (λb o hb q=>?_) (zc _) ⟨_,hs''.extBut _ _ (Nat.ne_of_gt elt) hTup,rfl,_,rfl⟩ (.cons ⟨_,rfl⟩ (.cons ru .nil)) (by show 2<=sizeLine;decide)
   have h1:b≠e:=λz=>hb (by simp[z])
   have h2:b≠it:=λz=>hb (by simp[z])
   exact hs''.extBut _ _ h1 (hk b o h1 h2 q)
  ·have q:=hf b hb;rw[aH (λz=>?_)]
   ·exact q.1
   ·obtain⟨o,ho⟩:∃o,s.heap.get? b=some o:=by
     rcases zh.mp hb with rfl | hb
     ·exact⟨_,he⟩
     ·rw[zg.mp hb];obtain⟨o,ho,_⟩:=hit;exact⟨o,ho⟩
    exact absurd (ze ho) (by rw[z];exact zS _)
 done:=by
  intro X hP hw hK hc i pins s σ H E I hf st hg;subst hP hw hK;obtain⟨⟨old,he⟩,hit⟩:=st;obtain⟨xs,hq,hl⟩:=hg;obtain⟨its,rv,pl,hz⟩:=I.list hq
  refine wpAny_pyNext_enum_end (I.ok.hd hc) he hit pl.isList (by have:=rv.length;simp;omega) λh' hx=>⟨rfl,?_⟩
  exact I.turnL (t':=s.toks) (ch:=[e,it]) hf λb o hb q=>hx b o (λz=>hb (by simp[z])) q
 self:=λA i s Q E st h=>by
  obtain⟨⟨old,he⟩,_⟩:=st;exact wpAny_pyIter_enum he h
theorem Um   {K:Frag}    (e it:Addr)(l:List Nat)(t:Tok)(hne:e≠it):Turn P w K (.Tuple elts x1 pos) (Gm l) [e,it] e (λi h=>(∃old,IsEnum h e it i old)/\h.IsStrIter it "str_ascii_iterator" (S l) t i) where
 mem:=by simp
 obj:=λi h st b hb=>by
  obtain⟨⟨old,he⟩,o,ho,hc,hd⟩:=st
  rcases zh.mp hb with rfl | hb
  ·exact tX he rfl
  ·rw[zg.mp hb];exact tX ho hd
 keep:=λi h h' st k=>by
  obtain⟨⟨old,he⟩,o,ho,r⟩:=st;exact⟨⟨old,k e (by simp) _ he⟩,o,k it (by simp) o ho,r⟩
 item:=by
  intro X hP hw hK hc i pins s σ H E I hf st hg;subst hP hw hK;obtain⟨⟨old,he⟩,hit⟩:=st;have hg':i<l.length:=hg;have hT:H s.heap.objs.size=none:=I.hok.fresh (zc _);have elt:e<s.heap.objs.size:=ze he;have hd:X.A.in1.handled=none:=I.ok.hd hc
  refine wpAny_pyNext_enum_itemD (Draws.strAscii hd it (S l) t) he hit (by simpa [S] using hg') hne (λz=>hne (by simpa using z)) λu h' tk hP ho hit' hTup hsz hk=>⟨_,rfl,?_⟩
  obtain⟨c,tc,hcx,rfl⟩:=hP
  have hcl:l[i]?=some c:=by
   rw[<-hcx];simp[S]
  refine wpAny_letOwnedTupleGo_enum ho λh'' he'' hs''=>⟨.ref s.heap.objs.size,_,?_,rfl,⟨s.heap.objs.size,c,rfl,hT,rfl,hcl⟩,⟨⟨_,by simpa using he''⟩,?_⟩,λb hb=>?_⟩
  ·show Inv X pins σ _ {s with heap:=h'',toks:=tk+1};refine I.turnT (ch:=[e,it]) (us:=[.int i tk,.str ⟨#[c]⟩ tc]) hf (λb o hb q=>?_) (zc _) ⟨_,hs''.extBut _ _ (Nat.ne_of_gt elt) hTup,rfl,_,rfl⟩ (.cons ⟨_,rfl⟩ (.cons ⟨_,rfl⟩ .nil)) (by show 2<=sizeLine;decide)
   have h1:b≠e:=λz=>hb (by simp[z])
   have h2:b≠it:=λz=>hb (by simp[z])
   exact hs''.extBut _ _ h1 (hk b o h1 h2 q)
  ·obtain⟨o,ho',r⟩:=hit';exact⟨o,hs''.extBut _ _ (Ne.symm hne) ho',r⟩
  ·have q:=hf b hb;rw[aH (λz=>?_)]
   ·exact q.1
   ·obtain⟨o,ho⟩:∃o,s.heap.get? b=some o:=by
     rcases zh.mp hb with rfl | hb
     ·exact⟨_,he⟩
     ·rw[zg.mp hb];obtain⟨o,ho,_⟩:=hit;exact⟨o,ho⟩
    exact absurd (ze ho) (by rw[z];exact zS _)
 done:=by
  intro X hP hw hK hc i pins s σ H E I hf st hg;subst hP hw hK;obtain⟨⟨old,he⟩,hit⟩:=st;have hd:X.A.in1.handled=none:=I.ok.hd hc;have hg':l.length<=i:=hg;have hT:s.TypeIs (.ref e) "enumerate":=⟨_,he,rfl⟩;unfold pyNext
  refine za (wpAny_attempt (wpAny_callSpecial?_slot (name:=Str.ofString "__next__") hT F.slot_enumerate_next
   (wpAny_call_entry F.slot_enumerate_next hT F.entry_enumerate_next ?_ (F.args_enumerate_next_1 _))))
  show wpAny _ _ (field (.ref e) 2 >>= _) _ _ _;refine za (wpAny_field he rfl (x:=.ref it) rfl ?_);refine za (wpAny_nextOf_ascii_end hd hit (by simp[S];exact hg') λh' x he' hx'=>?_);obtain⟨o,ho,hc⟩:=hx';refine za (wpAny_isInstance (T:="StopIteration") (b:=true) ⟨o,ho,hc⟩ isSubtype_stop ?_);exact zb ⟨rfl,I.turnL (t':=s.toks) (ch:=[e,it]) hf λb o hb q=>he' b o (λz=>hb (by simp[z])) q⟩
 self:=λA i s Q E st h=>by
  obtain⟨⟨old,he⟩,_⟩:=st;exact wpAny_pyIter_enum he h
noncomputable def Uo(K:Frag)(f:TA):TI:=λσ H R=>f σ H λd b=>∃a,d=[.ref a]/\(∃c,SqL K b a c)/\R (Ite K a) b
noncomputable def Up(b:TA):TI:=λσ H R=>b σ H λa c=>∃l,a=[.str (S l)]/\ascii l=true/\R (Gm l) c
theorem Uq  (h:ascii l=true):strIterType (S l) = "str_ascii_iterator":=by
 unfold strIterType;rw[if_pos];unfold ascii at h;rw[jh] at h;simp[S];intro i a;simpa using h i a
theorem Ur    (t:Gl X "enumerate")(m:X.mg "enumerate" = none)(x:PA X [a] ta)(hs:starEach [a] X.env=[(false,eval a X.env)]:=by exact nR rfl):PI X (.Tuple elts x1 tpos) (.Call (.Name "enumerate" p) [a] [] pos) (Uo X.K ta):=by
 intro pins s σ H R I h;refine Call_ (lJ I t m boot_enumerate (PyProof.Rows.callWith_type1 (thn (x pos pins s σ H _ I h) λus s1 ⟨vs,H1,I1,r1,q1⟩=>?_) hs rfl));obtain⟨l,e,⟨E,j⟩,q⟩:=q1;subst e;obtain⟨u,rfl,g⟩:=vals1 r1;cases g;obtain⟨y,F,i,G⟩:=I1.list j
 refine call_enumerate_list i.isList λJ f d C r=>wpAny_pyIter_enum f ?_
 refine⟨s1.heap.objs.size+1,[s1.heap.objs.size+1,s1.heap.objs.size],_,_,H1,rfl,I1.kept (t':=s1.toks) r,Ul (s1.heap.objs.size+1) s1.heap.objs.size l (Nat.succ_ne_self _),⟨⟨_,f⟩,d⟩,λb c=>?_,q⟩
 have hb':s1.heap.objs.size<=b:=by
  rcases zh.mp c with rfl | c
  ·exact Nat.le_succ _
  ·rw[zg.mp c];exact zc _
 exact I1.fpOk hb' (I1.hok.fresh hb')
theorem Us    (m:Gl X "enumerate")(g:X.mg "enumerate" = none)(r:PA X [a] ta)(hs:starEach [a] X.env=[(false,eval a X.env)]:=by exact nR rfl):PI X (.Tuple elts x1 tpos) (.Call (.Name "enumerate" p) [a] [] pos) (Up ta):=by
 intro pins s σ H R I h;refine Call_ (lJ I m g boot_enumerate (PyProof.Rows.callWith_type1 (thn (r pos pins s σ H _ I h) λus s1 ⟨vs,H1,I1,r1,q1⟩=>?_) hs rfl));obtain⟨l,e,i,q⟩:=q1;subst e;obtain⟨u,rfl,t,rfl⟩:=vals1 r1
 refine call_enumerate_str λy f c x j=>wpAny_pyIter_enum f ?_
 rw[Uq i] at c;refine⟨s1.heap.objs.size+1,[s1.heap.objs.size+1,s1.heap.objs.size],_,_,H1,rfl,I1.kept (t':=s1.toks) j,Um (s1.heap.objs.size+1) s1.heap.objs.size l t (Nat.succ_ne_self _),⟨⟨_,f⟩,c⟩,λb d=>?_,q⟩
 have hb':s1.heap.objs.size<=b:=by
  rcases zh.mp d with rfl | d
  ·exact Nat.le_succ _
  ·rw[zg.mp d];exact zc _
 exact I1.fpOk hb' (I1.hok.fresh hb')
noncomputable def rW(K:Frag)(P:Pt):RR:=λ_ H F b v d=>Rp K F b v d\/∃a c f,v=.ref a/\d=.lst f/\H a=some (.lst c)/\a∉b/\P a/\Rps K F b c f
noncomputable def WE(X:Cx)(md:List Md)(P:Pt)(e:Expr)(m:M D):Prop:=PE X e (tM X.K X.mg md P (rW X.K P) m)
theorem Ut   (h:VE X md P e m):WE X md P e m:=h.imp λσ H Q q=>by
 obtain⟨ρ,O,F,f,d,i,r,s,e,k⟩:=q;exact⟨ρ,O,F,f,d,i,r,s,e,λv j l a g b c=>k v j l a g b (.inl c)⟩
theorem Uu{X:Cx}{P:Pt}(i:Nat){x:Str}{a:Pos}(f:md[i]?=some .s:=by rfl)(g:X.N[i]?=some x:=by rfl)(c:Vis X.env.scope x:=by first | exact Or.inl rfl | exact Or.inr (Or.inl rfl) | exact Or.inr (Or.inr rfl))
  (hd:(x == ("__debug__":Str))=false:=by decide) (b:(x == ("__classdict__":Str))=false:=by decide):WE X md P (.Name x a) (aa i):=by
 refine(iM (i:=i) g c hd b).imp λσ H Q h=>?_
 obtain⟨ρ,O,F,l,d,m,r,s,e,k⟩:=h;obtain⟨j,rfl⟩:=tL e;obtain⟨v,h2,h3⟩:=s.sl i .s d f j;exact⟨v,h2,k v H F l Gr.refl r h3⟩
theorem xg{K:Frag}       (hv:rW K P N H F as v (.lst ds)):
  ∃a xs,v=.ref a/\Rps K F as xs ds/\∀(c d:Hp) (b:List Addr),GrS P H F as c d b->(∃O,RlO K mg O c d b)->RdK K c a xs:=by
 rcases hv with hv | ⟨a,xs,l,rfl,e,j,i,h,f⟩
 ·obtain⟨a,xs,rfl,h1,h2⟩:=hv.unL;exact⟨a,xs,rfl,h2,λc d b g ⟨O,r⟩=>(h1.mono g.ff).mono r.fh⟩
 ·cases e;exact⟨a,xs,rfl,f,λc d b g _=>.inl (.inl (g.fr _ _ h j i rfl))⟩
theorem Uv   (h:WE X md P e m):VI X md P tg e (gn m):=(vM h).imp λσ H Q q=>by
 obtain⟨ρ,O,F,u,x,C,r,s,e,k⟩:=q;obtain⟨d,y,t,e⟩:=Res.bind_ok e
 cases d with
 |lst es =>
  cases e;refine⟨ρ,_,F,u,_,_,r,s,t,λv f g b l c j=>?_⟩;obtain⟨a,i,rfl,h1,h2⟩:=xg (mg:=X.mg) j;exact⟨a,rfl,⟨i,(h2 f g b GrS.refl ⟨_,c⟩).sq⟩,k _ f g b l c (Gk h1 h2)⟩
 | _=>cases e
theorem Gn   (h:VE X md P e m):VI X md P tg e (xf m):=(Oj h).imp λσ H Q q=>by
 obtain⟨ρ,O,F,R,T,W,r,s,e,k⟩:=q;obtain⟨d,U,L,e⟩:=Res.bind_ok e
 cases d with
 |tup es =>
  cases e;refine⟨ρ,_,F,R,_,_,r,s,L,λv C E j J G I=>?_⟩;obtain⟨a,l,rfl,h1,h2⟩:=Rp.unT I
  have u:∀(c f:Hp) (b:List Addr),GrS P C E j c f b->(∃O,RlO X.K X.mg O c f b)->SqT X.K c a l:=λc f b g ⟨O,r⟩=>Same.seqT r.fh (Same.seqT g.ff h1)
  refine⟨a,rfl,⟨l,u C E j GrS.refl ⟨_,G⟩⟩,k _ C E j J G ⟨λi d c f b g r e=>?_,λc f b g r=>⟨l,u c f b g r,by rw[h2.length];exact zc _⟩⟩⟩;obtain⟨x,h3,h4⟩:=h2.get' e;have q:=u c f b g r;refine⟨⟨l,x,q,h3⟩,λy Y t=>?_⟩;obtain⟨rfl,t⟩:=t
  have:=t l q
  rw[h3] at this;cases this;exact⟨f,Gr.refl,λ_ r=>r,h4.grS g⟩
 | _=>cases e
noncomputable def bR(l:List Nat):List D:=l.map λc=>.str [c]
noncomputable def xj(m:M D):M (List D):=λρ O=>(m ρ O).bind λd a=>match d with
 | .str l=>if ascii l=true then .ok (bR l) a else .no
 | _=>.no
theorem xn{K:Frag}      (h1:∀(i:Nat) (d:D) (a:Hp),ds[i]?=some d->J.go i a/\∀x b,J.yld i a x b->b=a/\∀K F as,Rp K F as x d)(h2:∀a,J.stop ds.length a):kh K mg P J ds H F as :=
 ⟨λi d a f g _ _ e=>⟨(h1 i d a e).1,λx b y=>by
  obtain⟨rfl,c⟩:=(h1 i d a e).2 x b y
  exact⟨f,Gr.refl,λ_ r=>r,c _ _ _⟩⟩,λa _ _ _ _=>h2 a⟩
theorem Gp   (h:SE X md P e m):VI X md P tg e (xj m):=(RQ h).imp λσ H Q q=>by
 obtain⟨ρ,O,F,C,J,T,r,s,e,k⟩:=q;obtain⟨d,R,a,e⟩:=Res.bind_ok e
 cases d with
 |str l =>
  dsimp only at e;split at e
  ·rename_i t;cases e;refine⟨ρ,_,F,C,_,_,r,s,a,λv G I b u g j=>?_⟩;refine⟨l,(Sv.rp j rfl).unS,t,k _ G I b u g (xn (λi d E e=>?_) λE=>by simp[bR,Its])⟩;unfold bR at e;rw[zP] at e
   cases q:l[i]? with
   |none=>rw[q] at e;cases e
   |some c =>
    rw[q] at e;cases e;refine⟨(zk.mp q).1,λx U y=>?_⟩;obtain⟨a,L,f,rfl⟩:=y;rw[q] at f;cases f;exact⟨a,λ_ _ _=>Rp.str⟩
  ·cases e
 | _=>cases e
noncomputable def dJ(a:Int)(n:Nat):List D:=(List.range n).map λ(k:Nat)=>.int (a+(k:Int))
noncomputable def eV(m:M (List D)):M (List D):=λρ O=>(m ρ O).bind λa b=>match a with
 | [.int j]=>if j<=1000000000/\-1000000000<=j then .ok (dJ 0 j.toNat) b else .no
 | _=>.no
theorem Uw{K:Frag}  {b:Int}   :kh K mg P (Itr b n) (dJ b n) H F as:=xn (λi d f e=>by
 unfold dJ at e;rw[zP] at e
 by_cases a:i<n
 ·rw[List.getElem?_range a] at e;cases e;refine⟨a,λx g y=>?_⟩;obtain⟨c,rfl⟩:=y;exact⟨c,λ_ _ _=>Rp.int⟩
 ·rw[List.getElem?_eq_none (by simpa using a)] at e
  cases e) λf=>by simp[dJ,Itr]
theorem cC.one{K:Frag}{H F:Hp}{as:List Addr}{m:Md}{vs:List V}{d:D}(h:cC K H F as [m] vs [d]):∃v,vs=[v]/\rA K m (λ_=>True) H F as v d:=by
 cases vs with
 |nil=>exact h.elim
 |cons v vs =>
  cases vs with
  |nil=>exact⟨v,rfl,h.1⟩
  |cons u a=>exact h.2.elim
theorem cC.two{K:Frag}{H F:Hp}{as:List Addr}{m n:Md}{vs:List V}{d e:D}(h:cC K H F as [m,n] vs [d,e]):∃v u,vs=[v,u]/\rA K m (λ_=>True) H F as v d/\rA K n (λ_=>True) H F as u e:=by
 cases vs with
 |nil=>exact h.elim
 |cons v vs =>
  cases vs with
  |nil=>exact h.2.elim
  |cons u us =>
   cases us with
   |nil=>exact⟨v,u,rfl,h.1,h.2.1⟩
   |cons w a=>exact h.2.2.elim
theorem Ux{f:Expr}{p b:Pos}  (i:X.mg "range" = none)(t:AE X md P [.s] [a] m)(l:Gl X "range":=by rfl)(hs:starEach [a] X.env=[(false,eval a X.env)]:=by exact nR rfl):VI X md P f (.Call (.Name "range" p) [a] [] b) (eV m):=(Oo l i t hs).imp λσ H Q q=>by
 obtain⟨ρ,O,F,y,L,T,r,s,e,k⟩:=q;obtain⟨J,R,x,e⟩:=Res.bind_ok e;split at e
 ·rename_i j;split at e
  ·rename_i I;cases e;refine⟨ρ,_,F,y,_,_,r,s,x,λG C E d u g h=>?_⟩;obtain⟨v,rfl,c⟩:=h.one
   have:=(Sv.rp c rfl).unI
   subst this;exact⟨j,rfl,by omega,by omega,k _ C E d u g Uw⟩
  ·cases e
 ·cases e
noncomputable def bV:Nat->List D->List D
 | _,[]=>[]
 |k,d::ds=>.tup [.int k,d]::bV (k+1) ds
theorem tY:∀(k:Nat) (ds:List D),(bV k ds).length=ds.length
 | _,[]=>rfl
 |k,d::ds=>by simp[bV,tY (k+1) ds]
theorem tZ:∀(k:Nat) (ds:List D) (i:Nat),(bV k ds)[i]?=(ds[i]?).map λd=>.tup [.int ((k+i:Nat):Int),d]
 |k,[],i=>by simp[bV]
 |k,d::ds,0=>by simp[bV]
 |k,d::ds,i+1=>by
  rw[bV,zY,zY,tZ (k+1) ds i];congr 1
  funext d
  congr 3;omega
theorem Gq{K:Frag}       (h:∃O,RlO K mg O H2 F2 as2)(a:H2 T=none)(g:Rps K F2 as2 xs ds):
  ∃d,Gr H2 F2 as2 (upd H2 T (.tup xs)) d as2/\(∀O,RlO K mg O H2 F2 as2->RlO K mg O (upd H2 T (.tup xs)) d as2)/\Rp K d as2 (.ref T) (.tup ds):=by
 obtain⟨O,r⟩:=h;have c:=r.frF a
 have ff:Same F2 (upd F2 T (.tup xs)):=λb u q=>by rw[aH (bI q c)];exact q
 exact⟨upd F2 T (.tup xs),(Gr.lay a).frz a c,λi f=>(f.lay a).frz bu c (λz=>f.all z a) rfl,Rp.mkT (.inl bu) (Rps.mono ff (λ_ _ z=>z) _ g)⟩
noncomputable def Gs(m:M D):M (List D):=λρ O=>(m ρ O).bind λd a=>match d with
 | .lst ds=>.ok (bV 0 ds) a
 | _=>.no
noncomputable def Gu(m:M D):M (List D):=λρ O=>(m ρ O).bind λd a=>match d with
 | .str l=>if ascii l=true then .ok (bV 0 (bR l)) a else .no
 | _=>.no
theorem Uy{elts:List Expr}{R:Nat}{f:Pos}  {p u:Pos}  (Y:X.mg "enumerate" = none)(h:WE X md P a m)(Z:Gl X "enumerate":=by rfl)(hs:starEach [a] X.env=[(false,eval a X.env)]:=by exact nR rfl)(E:starEach [a] X.env=(false,eval a X.env)::starEach [] X.env:=by exact bF rfl):
  VI X md P (.Tuple elts R f) (.Call (.Name "enumerate" p) [a] [] u) (Gs m):=(Ur Z Y (dZ h fM E) hs).imp λσ H Q q=>by
 obtain⟨ρ,O,F,as,ds,O',r,s,e,k⟩:=q;obtain⟨d,O1,e1,e⟩:=Res.bind_ok e
 cases d with
 |lst es =>
  cases e;refine⟨ρ,_,F,as,_,_,r,s,e1,λv J L c g1 G W=>?_⟩;obtain⟨a,j,rfl,h1,h2⟩:=xg (mg:=X.mg) W;refine⟨a,rfl,⟨j,(h2 J L c GrS.refl ⟨_,G⟩).sq⟩,k _ J L c g1 G ⟨λi d l t b g r e=>?_,λl t b g r=>⟨j,(h2 l t b g r).sq,by rw[tY,h1.length];exact zc _⟩⟩⟩;rw[tZ] at e
  cases q:es[i]? with
  |none=>rw[q] at e;cases e
  |some y =>
   rw[q] at e;cases e;obtain⟨x,h3,h4⟩:=h1.get' q;have I:=h2 l t b g r;refine⟨⟨j,x,I.sq,h3⟩,λz H3 U=>?_⟩;obtain⟨T,x',rfl,hT,rfl,C⟩:=U
   have:=C j I.sq
   rw[h3] at this;cases this;rw[jd];exact Gq r hT (Rps.cons Rp.int (Rps.cons (h4.grS g) Rps.nil))
 | _=>cases e
theorem Uz{elts:List Expr}{y:Nat}{f:Pos}  {p j:Pos}  (I:X.mg "enumerate" = none)(h:SE X md P a m)(L:Gl X "enumerate":=by rfl)(hs:starEach [a] X.env=[(false,eval a X.env)]:=by exact nR rfl)(t:starEach [a] X.env=(false,eval a X.env)::starEach [] X.env:=by exact bF rfl):
  VI X md P (.Tuple elts y f) (.Call (.Name "enumerate" p) [a] [] j) (Gu m):=(Us L I (dZ h fM t) hs).imp λσ H Q q=>by
 obtain⟨ρ,O,F,Y,ds,O',r,s,e,k⟩:=q;obtain⟨d,O1,W,e⟩:=Res.bind_ok e
 cases d with
 |str l =>
  dsimp only at e;split at e
  ·rename_i J;cases e;refine⟨ρ,_,F,Y,_,_,r,s,W,λv H1 F1 x U C G=>?_⟩;refine⟨l,by rw[(Sv.rp G rfl).unS],J,k _ H1 F1 x U C ⟨λi d Z F2 u g r e=>?_,λZ F2 u g r=>?_⟩⟩
   ·rw[tZ] at e;unfold bR at e;rw[zP] at e
    cases q:l[i]? with
    |none=>rw[q] at e;cases e
    |some c =>
     rw[q] at e;cases e;refine⟨(zk.mp q).1,λz H3 E=>?_⟩;obtain⟨T,c',rfl,R,rfl,b⟩:=E;rw[q] at b;cases b;rw[jd];exact Gq r R (Rps.cons Rp.int (Rps.cons Rp.str Rps.nil))
   ·show l.length<=_;rw[tY];simp[bR]
  ·cases e
 | _=>cases e
noncomputable def iW:List D->Option (List (List Nat))
 | []=>some []
 | .str l::ds=>(iW ds).map (l :: ·)
 | _=>none
theorem Rps.strs{K:Frag}{F:Hp}{as:List Addr}:∀{ds:List D}{xs:List V}{ls:List (List Nat)},Rps K F as xs ds->iW ds=some ls->xs=ls.map λl=>V.str (S l)
 | [],xs,bs,h,e=>by cases e;rw[h.un0];rfl
 |d::ds,xs,bs,h,e=>by
  obtain⟨x,r,rfl,h2,h3⟩:=h.un
  cases d with
  |str b =>
   unfold iW at e
   cases q:iW ds with
   |none=>rw[q] at e;cases e
   |some cs =>
    rw[q] at e;cases e;rw[h2.unS,Rps.strs h3 q];rfl
  | _=>cases e
noncomputable def oh(m:M D):M D:=λρ O=>(m ρ O).bind λd a=>match aX a d with
 | .lst ds=>match iW ds with
  |some ls=>if(ls.map List.length).sum<=1000000 then .ok (.str ls.flatten) a else .no
  |none=>.no
 | _=>.no
theorem Gv  {j:Nat}{p apos b:Pos}  (h:SE X md P e m)  (C:x=S []:=by decide +kernel)
  (i:((backTo b (starEach [e] X.env)).all (λx=>!x.1)&&(backToKw b (keywordEach [] X.env)).all (λx=>x.1.isSome)&&decide ([e].length+([]:List Keyword).length+(if([]:List Keyword).isEmpty then 0 else 1)<30))=true:=by rfl)
  (f:(apos.endLine == b.line)=true:=by rfl) (hs:starEach [e] X.env=(false,eval e X.env)::starEach [] X.env:=by exact bF rfl) (g:attributeBase (.Constant (.str x) j p) "join" X.env (eval (.Constant (.str x) j p) X.env)=eval (.Constant (.str x) j p) X.env:=by rfl) (c:(backTo b (starEach [] X.env)).any (·.1)=false:=by exact cR rfl):
  OE X md P (.Call (.Attribute (.Constant (.str x) j p) "join" apos) [e] [] b) (oh m):=
 (nO PySem.F.plainAttrs_str PySem.F.slot_str_join PySem.F.type_str_join (R5 X.K) (Cr (x:=x)) (dZ h fM hs) g i f hs c).imp λσ H Q q=>by
  obtain⟨ρ,O,F,J,d,W,r,s,e,k⟩:=q;obtain⟨y,L,I,e⟩:=Res.bind_ok e
  cases ed:aX L y with
  |lst ds =>
   rw[ed] at e;dsimp only at e
   cases es:iW ds with
   |none=>rw[es] at e;cases e
   |some ls =>
    rw[es] at e;dsimp only at e;split at e
    ·rename_i u;cases e;refine⟨rfl,ρ,_,F,J,_,_,r,s,I,λv R T t G l E=>?_⟩;have q:=Sv.lk E l;rw[ed] at q;obtain⟨a,U,rfl,h1,h2⟩:=q.list l.fh;refine⟨a,ls,by rw[C],rfl,?_,u,k _ R T t G l (.inl ⟨rfl,Rp.str⟩)⟩;rw[<-h2.strs es];exact h1.sq
    ·cases e
  | _=>rw[ed] at e;cases e
noncomputable def lV(mo m:M D):M D:=λρ O=>(mo ρ O).bind λa d=>(m ρ d).bind λb c=>match a,b with
 | .str l,.str n=>.ok (.bl (decide (l.take n.length=n))) c
 | _,_=>.no
theorem UG  {apos c:Pos}  (J:VE X md P o mo)(h:VE X md P e m)
  (i:attributeBase o "startswith" X.env (eval o X.env)=eval o X.env:=by rfl)
  (j:((backTo c (starEach [e] X.env)).all (λx=>!x.1)&&(backToKw c (keywordEach [] X.env)).all (λx=>x.1.isSome)&&decide ([e].length+([]:List Keyword).length+(if([]:List Keyword).isEmpty then 0 else 1)<30))=true:=by rfl)
  (g:(apos.endLine == c.line)=true:=by rfl) (hs:starEach [e] X.env=(false,eval e X.env)::starEach [] X.env:=by exact bF rfl) (f:(backTo c (starEach [] X.env)).any (·.1)=false:=by exact cR rfl):
  OE X md P (.Call (.Attribute o "startswith" apos) [e] [] c) (lV mo m):=
 (nO PySem.F.plainAttrs_str PySem.F.slot_str_startswith PySem.F.type_str_startswith Sd J (dZ h fM hs) i j g hs f).imp λσ H Q q=>by
  obtain⟨ρ,O,F,U,d,O',r,s,e,k⟩:=q;obtain⟨a,O1,T,e⟩:=Res.bind_ok e;obtain⟨b,O2,R,e⟩:=Res.bind_ok e;split at e
  ·cases e;refine⟨ρ,_,F,U,_,_,r,s,T,λv H1 Z t y E G=>?_⟩;cases Rp.unS G;refine⟨rfl,ρ,_,Z,t,_,_,E,s.step y,R,λu W Y l L C I=>?_⟩;cases Rp.unS I;exact⟨_,_,rfl,rfl,k _ W Y l (y.trans L) C (.inl ⟨rfl,Rp.bl⟩)⟩
  ·cases e
theorem SlO.own{K:Frag}{i:Nat}(s:SlO K md P ρ σ H F as)(c:md[i]?=some .o)(b:ρ[i]?=some (some (.lst ds))):∃a xs,σ[i]?=some (some (.ref a))/\H a=some (.lst xs)/\F a=none/\a∉as/\¬P a/\Rps K F as xs ds:=by
 obtain⟨v,h1,h2⟩:=s.sl i .o _ c b
 rcases h2 with⟨h2,_⟩ | ⟨a,xs,m,rfl,j,h,l,g,f,d⟩
 ·cases h2
 ·cases j;exact⟨a,xs,h1,h,l,g,f,d⟩
theorem SlO.mut{K:Frag}(s:SlO K md P ρ σ H F as)(I:md[i]?=some .o)(y:ρ[i]?=some (some (.lst ds)))(u:σ[i]?=some (some (.ref a)))(hF:F a=none)(ha:a∉as)(Y:¬P a)(r:Rps K F as xs' ds'):SlO K md P (ρ.set i (some (.lst ds'))) σ (upd H a (.lst xs')) F as:=by
 have hi:i<md.length:=(zk.mp I).1;refine⟨s.len,by rw[zR];exact s.len',λc p=>?_,λj m d J t=>?_,λj k c b fs h1 h2 h3 h4 h5 h6=>?_,λx hx=>?_⟩
 ·have:=s.pd c p
  unfold upd
  split
  ·exact λz=>nomatch z
  ·exact this
 ·by_cases h:i=j
  ·subst h;rw[I] at J;cases J;rw[zL (by rw[s.len'];exact hi)] at t;cases t;exact⟨_,u,.inr ⟨a,xs',ds',rfl,rfl,bu,hF,ha,Y,r⟩⟩
  ·rw[zy h] at t;obtain⟨v,X,g⟩:=s.sl j m d J t;refine⟨v,X,?_⟩
   cases m with
   |v=>exact g
   |s =>
    rcases g with g | ⟨c,R,b,G,E,Q,O,C,L⟩
    ·exact .inl g
    ·exact .inr ⟨c,R,b,G,E,by rw[aH (λz=>Y (by rw[<-z];exact C))];exact Q,O,C,L⟩
   |o =>
    rcases g with g | ⟨c,R,b,G,E,Q,Z,O,C,L⟩
    ·exact .inl g
    ·refine .inr ⟨c,R,b,G,E,?_,Z,O,C,L⟩;rw[aH]
     ·exact Q
     ·intro z;subst z G E;exact h (s.inj i j c ds b I J y t u X)
 ·have f:∀k b,(ρ.set i (some (.lst ds')))[k]?=some (some (D.lst b))->∃l,ρ[k]?=some (some (D.lst l)):=λk b q=>by
   by_cases h:i=k
   ·subst h;exact⟨ds,y⟩
   ·rw[zy h] at q;exact⟨b,q⟩
  obtain⟨l,q3⟩:=f j b h3;obtain⟨W,q4⟩:=f k fs h4;exact s.inj j k c l W h1 h2 q3 q4 h5 h6
 ·obtain⟨T,p2,p3⟩:=s.pin x hx
  have U:i≠x.1:=λz=>by rw[<-z,I] at T;cases T
  exact⟨T,by rw[zy U];exact p2,p3⟩
theorem t7  (d:H a=some (.lst xs))(b:¬P a) :GrS P H F as (upd H a o) F as :=
 ⟨λ_ _ _ _ _ _=>rfl,Same.refl F,⟨[],by simp,λ_ h=>nomatch h⟩,λc u p e _ _=>by rw[aH (λz=>b (by rw[<-z];exact p))];exact e,λc e=>by
  by_cases h:c=a
  ·subst h;rw[bu] at e;cases e
  ·rwa [aH h] at e,λc f u e=>by rw[aH (λz=>by rw[z,d] at e;cases e)];exact e⟩
theorem RlO.mut{K:Frag}(r:RlO K mg O H F as)(g:F a=none)(f:a∉as) :RlO K mg O (upd H a o) F as:=by
 refine⟨λc u e=>?_,r.fd,r.nd,r.len,r.fa,λn c u b d=>(r.ob n c u b d).keep (aH ?_) (Same.refl F) λ_ _ h=>h⟩
 ·rw[aH (bI e g)];exact r.fh c u e
 ·intro z;subst z;exact f (zT b)
noncomputable def dW(i:Nat)(m:M D):MS:=λρ O=>match m ρ O with
 | .ok d O'=>match ρ[i]? with
  |some (some (.lst ds))=>if ds.length<1000000 then .nx (ρ.set i (some (.lst (ds++[d])))) O' else .no
  | _=>.no
 | .ex x O'=>.ex x O'
 | .no=>.no
theorem UJ     (K:Frag)(mg:Str->Option Value){D:Ends}   (k:iu K mg md P R D H F as (dW i m ρ O)):
  ∃d O' ds,m ρ O=.ok d O'/\ρ[i]?=some (some (.lst ds))/\ds.length<1000000/\iu K mg md P R D H F as (.nx (ρ.set i (some (.lst (ds++[d])))) O'):=by
 unfold dW at k;split at k
 ·rename_i d O' e;split at k
  ·rename_i ds b;split at k
   ·rename_i a;exact⟨d,O',ds,e,b,a,k⟩
   ·exact False.elim k
  ·exact False.elim k
 ·exact False.elim k
 ·exact False.elim k
theorem UL{R:RR}(i:Nat){x:Str}{p apos b l:Pos}   (h:VE X md P e m)(Q:md[i]?=some .o:=by rfl)(hN:X.N[i]?=some x:=by rfl)(hv:Vis X.env.scope x:=by first | exact Or.inl rfl | exact Or.inr (Or.inl rfl) | exact Or.inr (Or.inr rfl))
  (hd:(x == ("__debug__":Str))=false:=by decide) (E:(x == ("__classdict__":Str))=false:=by decide)
  (g:attributeBase (.Name x p) "append" X.env (eval (.Name x p) X.env)=eval (.Name x p) X.env:=by rfl)
  (t:((backTo b (starEach [e] X.env)).all (λx=>!x.1)&&(backToKw b (keywordEach [] X.env)).all (λx=>x.1.isSome)&&decide ([e].length+([]:List Keyword).length+(if([]:List Keyword).isEmpty then 0 else 1)<30))=true:=by rfl)
  (f:(apos.endLine == b.line)=true:=by rfl) (hs:starEach [e] X.env=(false,eval e X.env)::starEach [] X.env:=by exact bF rfl) (c:(backTo b (starEach [] X.env)).any (·.1)=false:=by exact cR rfl)
  (C:swapsWith (.Call (.Attribute (.Name x p) "append" apos) [e] [] b) none l.line X.env=pure false:=by rfl):
  VS X md P R (.Expr (.Call (.Attribute (.Name x p) "append" apos) [e] [] b) l) (dW i m):=
 (qg (nO PySem.F.plainAttrs_list PySem.F.slot_list_append PySem.F.type_list_append Ef (iM (i:=i) hN hv hd E) (dZ h fM hs) g t f hs c) C).imp λD σ H q=>by
  obtain⟨ρ,O,F,as,r,s,k⟩:=q;obtain⟨d,O',ds,e,W,hz,k⟩:=UJ X.K X.mg k;obtain⟨a,I,h1,h2,h3,h4,U,T⟩:=s.own Q W;refine⟨_,h1,.inl ⟨rfl,I,.inl (.inl h2)⟩,ρ,O,F,as,d,O',r,s,e,λy H1 Y G j r1 hy=>?_⟩;have Z:=s.step j
  have hn:H a≠none:=by rw[h2];exact λz=>nomatch z
  have u:=j.fr _ _ h2 h4 rfl
  have L:Y a=none:=by rw[j.fz a _ h2 h4 rfl];exact h3
  have J:=j.out h4 hn
  have hn1:H1 a≠none:=by rw[u];exact λz=>nomatch z
  exact⟨a,I,y,rfl,rfl,u,by rw[T.length];exact zG hz (by decide),k σ _ Y G (j.toS.trans (t7 u U)) (r1.mut L J) (Z.mut Q W h1 L J U ((T.gr j).snoc hy))⟩
noncomputable def UT(K:Frag):V->List V->Hp->VK->Prop:=λx d H Q=>∃l b c a,x=.ref l/\d=[.ref b]/\H l=some (.lst c)/\RdK K H b a/\c.length+a.length<=sizeLine/\Q .non (upd H l (.lst (c++a)))
theorem UV:MtM X "list.extend" (UT X.K):=by
 intro pins s σ H x P v R Q I j m h;obtain⟨l,b,O,J,rfl,rfl,i,C,T,q⟩:=h;cases j;obtain⟨u,rfl,t⟩:=m.one;cases t;obtain⟨z,c,n,r,U,e⟩:=I.lstM i;obtain⟨L,a,y,g,E⟩:=C.ok I;have G:=g.length
 have f:c.toArray.size+a.toArray.size<=sizeLine:=by rw[zu,zu];omega
 have d:¬(!c.toArray.isEmpty&&Builtin.List.listTooLong (c.toArray.size+a.toArray.size))=true:=by
  rw[Ed f,Bool.and_false];exact zq
 refine call_meets F.slot_list_extend ⟨_,e,rfl⟩ F.entry_list_extend (F.args_list_extend_2 _ _)
  (AutoSeq1.list_extend_list_list_0 l c.toArray n b a.toArray y d (by rw[zu];omega) (by omega)) ⟨e,E,?_⟩
 refine⟨.non,_,I.lset (its':=c++a) i e (by simp) (r.append g) ?_,rfl,q⟩;rw[zf];omega
noncomputable def ou(i:Nat)(m:M D):MS:=λρ O=>match m ρ O with
 | .ok d O'=>match ρ[i]?,aX O' d with
  |some (some (.lst ds)),.lst es=>if ds.length+es.length<=1000000 then .nx (ρ.set i (some (.lst (ds++es)))) O' else .no
  | _,_=>.no
 | .ex x O'=>.ex x O'
 | .no=>.no
theorem UW     (K:Frag)(mg:Str->Option Value){D:Ends}   (k:iu K mg md P R D H F as (ou i m ρ O)):
  ∃d O' ds a,m ρ O=.ok d O'/\ρ[i]?=some (some (.lst ds))/\aX O' d=.lst a/\ds.length+a.length<=1000000/\iu K mg md P R D H F as (.nx (ρ.set i (some (.lst (ds++a)))) O'):=by
 unfold ou at k;split at k
 ·rename_i d O' e;split at k
  ·rename_i ds a f c;split at k
   ·rename_i b;exact⟨d,O',ds,a,e,f,c,b,k⟩
   ·exact False.elim k
  ·exact False.elim k
 ·exact False.elim k
 ·exact False.elim k
theorem U0{R:RR}(i:Nat){x:Str}{p apos c t:Pos}   (h:SE X md P e m)(Y:md[i]?=some .o:=by rfl)(hN:X.N[i]?=some x:=by rfl)(hv:Vis X.env.scope x:=by first | exact Or.inl rfl | exact Or.inr (Or.inl rfl) | exact Or.inr (Or.inr rfl))
  (hd:(x == ("__debug__":Str))=false:=by decide) (I:(x == ("__classdict__":Str))=false:=by decide)
  (j:attributeBase (.Name x p) "extend" X.env (eval (.Name x p) X.env)=eval (.Name x p) X.env:=by rfl)
  (u:((backTo c (starEach [e] X.env)).all (λx=>!x.1)&&(backToKw c (keywordEach [] X.env)).all (λx=>x.1.isSome)&&decide ([e].length+([]:List Keyword).length+(if([]:List Keyword).isEmpty then 0 else 1)<30))=true:=by rfl)
  (g:(apos.endLine == c.line)=true:=by rfl) (hs:starEach [e] X.env=(false,eval e X.env)::starEach [] X.env:=by exact bF rfl) (f:(backTo c (starEach [] X.env)).any (·.1)=false:=by exact cR rfl)
  (G:swapsWith (.Call (.Attribute (.Name x p) "extend" apos) [e] [] c) none t.line X.env=pure false:=by rfl):
  VS X md P R (.Expr (.Call (.Attribute (.Name x p) "extend" apos) [e] [] c) t) (ou i m):=
 (qg (nO PySem.F.plainAttrs_list PySem.F.slot_list_extend PySem.F.type_list_extend UV (iM (i:=i) hN hv hd I) (dZ h fM hs) j u g hs f) G).imp λD σ H q=>by
  obtain⟨ρ,O,F,as,r,s,k⟩:=q;obtain⟨d,O',ds,es,e,e2,e3,hz,k⟩:=UW X.K X.mg k;obtain⟨a,L,h1,h2,h3,h4,h5,Z⟩:=s.own Y e2;refine⟨_,h1,.inl ⟨rfl,L,.inl (.inl h2)⟩,ρ,O,F,as,d,O',r,s,e,λy H1 F1 J l C hy=>?_⟩;have s1:=s.step l
  have hn:H a≠none:=by rw[h2];exact λz=>nomatch z
  have E:=l.fr _ _ h2 h4 rfl
  have U:F1 a=none:=by rw[l.fz a _ h2 h4 rfl];exact h3
  have T:=l.out h4 hn
  have hn1:H1 a≠none:=by rw[E];exact λz=>nomatch z
  have W:=Sv.lk hy C;rw[e3] at W;obtain⟨b,zs,rfl,w1,Q⟩:=W.list C.fh;exact⟨a,b,L,zs,rfl,rfl,E,w1,by rw[Z.length,Q.length];exact gQ hz,k σ _ F1 J (l.toS.trans (t7 E h5)) (C.mut U T) (s1.mut Y e2 h1 U T h5 (Rps.append Q (Z.gr l)))⟩
noncomputable def iy(i:Nat)(a m:M D):MS:=λρ O=>match m ρ O with
 | .ok d O1=>match a ρ O1 with
  | .ok (.int j) O2=>match ρ[i]? with
   |some (some (.lst ds))=>match ixN ds.length j with
    |some n=>.nx (ρ.set i (some (.lst (ds.set n d)))) O2
    |none=>.no
   | _=>.no
  | _=>.no
 | .ex x O'=>.ex x O'
 | .no=>.no
theorem U3{R:RR}(i:Nat){x:Str}{p b apos:Pos}   (h:VE X md P e m)(hi:VE X md P ix mi)(E:md[i]?=some .o:=by rfl)(hN:X.N[i]?=some x:=by rfl)(hv:Vis X.env.scope x:=by first | exact Or.inl rfl | exact Or.inr (Or.inl rfl) | exact Or.inr (Or.inr rfl))
  (hd:(x == ("__debug__":Str))=false:=by decide) (f:(x == ("__classdict__":Str))=false:=by decide)
  (ha:∀v,assign (.Subscript (.Name x p) ix apos) X.env v=(do
   let ov <-holding [v] (eval (.Name x p) X.env)
   let iv <-holding [v,ov] (eval ix X.env)
   standAt apos
   holding [v,ov,iv] (setItem ov iv v)
   release [v,ov,iv] []):=by intro _;rfl)
  (hs:swapsWithSole [.Subscript (.Name x p) ix apos] e b.line X.env=pure false:=by rfl) (hw:swappedStores [.Subscript (.Name x p) ix apos] e X.env=pure none:=by rfl)
  (h1:(assignEach [.Subscript (.Name x p) ix apos] X.env).map (·.2)=[assign (.Subscript (.Name x p) ix apos) X.env]:=by rfl):
  VS X md P R (.Assign [.Subscript (.Name x p) ix apos] e b) (iy i mi m):=
 (CV h (Oa (iM (i:=i) hN hv hd f) hi set_list ha) hs hw h1).imp λD σ H q=>by
  obtain⟨ρ,O,F,as,r,s,k⟩:=q;unfold iy at k;split at k
  ·rename_i d T e1;split at k
   ·rename_i j O2 e2;split at k
    ·rename_i ds Q;split at k
     ·rename_i n e4;obtain⟨a,W,h1,h2,h3,h4,I,G⟩:=s.own E Q;refine⟨ρ,O,F,as,d,T,r,s,e1,λy H1 F1 t L Z hy=>?_⟩;refine⟨_,h1,ρ,T,F1,t,.int j,O2,Z,s.step L,e2,λz H2 U l J Y hz=>?_⟩;have g:=L.trans J
      have hn:H a≠none:=by rw[h2];exact λz=>nomatch z
      have c:=g.fr _ _ h2 h4 rfl
      have C:U a=none:=by rw[g.fz a _ h2 h4 rfl];exact h3
      have u:=g.out h4 hn
      have hn1:H2 a≠none:=by rw[c];exact λz=>nomatch z
      exact⟨a,W,j,n,rfl,Rp.unI hz,c,by rw[G.length];exact e4,k σ _ U l (g.toS.trans (t7 c I)) (Y.mut C u) ((s.step g).mut E Q h1 C u I ((G.gr g).set n (Rp.gr hy J)))⟩
     ·exact False.elim k
    ·exact False.elim k
   ·exact False.elim k
  ·exact False.elim k
  ·exact False.elim k
noncomputable def putD(f:Str)(v:D):List (Str×D)->List (Str×D)
 | []=>[(f,v)]
 | (g,x)::r=>if g=f then(g,v)::r else(g,x)::putD f v r
theorem FsR.cons_inv{K:Frag}     (h:FsR K F as gs ((f,d)::fs)):∃v a,gs=(f,v)::a/\Rp K F as v d/\FsR K F as a fs:=by
 obtain⟨h1,h2⟩:=h
 cases gs with
 |nil=>cases h1
 |cons g a =>
  obtain⟨c,b⟩:=g;simp only[zd,List.cons.injEq] at h1;obtain⟨x,r,e,h3,h4⟩:=h2.un;simp only[zd,List.cons.injEq] at e;obtain⟨rfl,rfl⟩:=e;exact⟨b,a,by rw[h1.1],h3,⟨h1.2,h4⟩⟩
theorem FsR.nil_inv{K:Frag}  (h:FsR K F as gs []):gs=[]:=List.map_eq_nil_iff.mp h.nm
theorem FsR.get{K:Frag}{F:Hp}{as:List Addr}:∀{fs:List (Str×D)}{gs:List (Str×V)}{f:Str}{d:D},FsR K F as gs fs->fs.lookup f=some d->∃v,gs.lookup f=some v/\Rp K F as v d
 | [],_,_,_,_,e=>by cases e
 | (g,x)::fs,gs,f,d,h,e=>by
  obtain⟨v,a,rfl,h1,h2⟩:=h.cons_inv;rw[List.lookup_cons] at e ⊢
  cases q:f == g with
  |true =>
   rw[q] at e;cases e;exact⟨v,rfl,h1⟩
  |false =>
   rw[q] at e;exact FsR.get h2 e
theorem FsR.no{K:Frag}{F:Hp}{as:List Addr}:∀{fs:List (Str×D)}{gs:List (Str×V)}{f:Str},FsR K F as gs fs->fs.lookup f=none->gs.lookup f=none
 | [],_,_,h,e=>by rw[h.nil_inv];rfl
 | (g,x)::fs,gs,f,h,e=>by
  obtain⟨v,a,rfl,h1,h2⟩:=h.cons_inv;rw[List.lookup_cons] at e ⊢
  cases q:f == g with
  |true=>rw[q] at e;cases e
  |false =>
   rw[q] at e;exact FsR.no h2 e
theorem FsR.put{K:Frag}    (hv:Rp K F as v d):∀{fs:List (Str×D)}{gs:List (Str×V)},FsR K F as gs fs->FsR K F as (dD f v gs) (putD f d fs)
 | [],_,h=>by
  rw[h.nil_inv];exact⟨rfl,Rps.cons hv Rps.nil⟩
 | (g,x)::fs,gs,h=>by
  obtain⟨u,b,rfl,h1,h2⟩:=h.cons_inv;rw[dD,putD]
  by_cases q:g=f
  ·rw[if_pos q,if_pos q];exact⟨by simp[h2.nm],Rps.cons hv h2.vl⟩
  ·rw[if_neg q,if_neg q];have a:=FsR.put (f:=f) hv h2;exact⟨by simp[a.nm],Rps.cons h1 a.vl⟩
theorem FsR.length{K:Frag}   (h:FsR K F as gs fs):gs.length=fs.length:=by
 have:=congrArg List.length h.nm
 simpa using this
theorem RlO.set{K:Frag}        (r:RlO K mg O H F as)(f:as[n]?=some a)(j:ObR K mg (upd H a u) F as a o):RlO K mg (O.set n o) (upd H a u) F as:=by
 have l:=r.fa a (zT f);refine⟨λc w e=>?_,r.fd,r.nd,by rw[zR];exact r.len,r.fa,λk c w d b=>?_⟩
 ·rw[aH (bI e l)];exact r.fh c w e
 ·by_cases h:n=k
  ·subst h;rw[f] at d;cases d;rw[zL (by rw[<-r.len];exact(zk.mp f).1)] at b;cases b;exact j
  ·rw[zy h] at b
   refine(r.ob k c w d b).keep (aH ?_) (Same.refl F) λ_ _ h=>h
   intro z;subst z;obtain⟨l1,i⟩:=zk.mp f;obtain⟨m,g⟩:=zk.mp d;exact h ((List.getElem_inj r.nd).mp (i.trans g.symm))
noncomputable def KC(K:Frag)(mg:Str->Option Value)(c f:Str):Prop:=∃C,mg c=some (.ref C)/\Cls K C/\lL K C f
noncomputable def iY(b:List Str)(f:Str)(m:M D):M D:=λρ O=>(m ρ O).bind λd a=>match d with
 | .ob n=>match a[n]? with
  |some (.ins c fs)=>if c∈b then match fs.lookup f with
   |some y=>.ok y a
   |none=>.no else .no
  | _=>.no
 | _=>.no
theorem U4      (l:∀c∈cs,KC X.K X.mg c f)(h:VE X md P o m)(hb:attributeBase o f X.env (eval o X.env)=eval o X.env:=by rfl):VE X md P (.Attribute o f pos) (iY cs f m):=(Qd h hb).imp λσ H Q q=>by
 obtain⟨ρ,O,F,W,d,O',r,s,e,k⟩:=q;obtain⟨x,O1,T,e⟩:=Res.bind_ok e
 cases x with
 |ob n =>
  dsimp only at e;split at e
  ·rename_i c fs R;split at e
   ·rename_i b;split at e
    ·rename_i y L;cases e;refine⟨ρ,_,F,W,_,_,r,s,T,λv Y Z g J i j=>?_⟩;obtain⟨a,rfl,t⟩:=Rp.unO j;obtain⟨C,U,gs,h1,h2,h3⟩:=i.ob n a _ t R;obtain⟨C',h4,I,G⟩:=l c b;rw[h1] at h4;cases h4;obtain⟨w,E,u⟩:=h3.get L;exact⟨a,C,U,gs,w,rfl,h2,I,G,E,k w Y Z g J i u⟩
    ·cases e
   ·cases e
  ·cases e
 | _=>cases e
noncomputable def g8(b:List Str)(f:Str)(mo a:M D):MS:=λρ O=>match a ρ O with
 | .ok d O1=>match mo ρ O1 with
  | .ok (.ob n) O2=>match O2[n]? with
   |some (.ins c fs)=>if c∈b/\fs.length<900 then .nx ρ (O2.set n (.ins c (putD f d fs))) else .no
   | _=>.no
  | _=>.no
 | .ex x O'=>.ex x O'
 | .no=>.no
theorem U5      (hc:∀c∈cs,KC X.K X.mg c f)(Z:VE X md P o mo)(hv:VE X md P value mv)(hs:swapsWith value (some (.Attribute o f pos')) pos.line X.env=pure false:=by rfl):VS X md P R (.Assign [.Attribute o f pos'] value pos) (g8 cs f mo mv):=(Qe Z hv hs).imp λD σ H q=>by
 obtain⟨ρ,O,F,as,r,s,k⟩:=q;unfold g8 at k;split at k
 ·rename_i d T e1;split at k
  ·rename_i n O2 e2;split at k
   ·rename_i c fs eo;split at k
    ·rename_i E;refine⟨ρ,O,F,as,d,T,r,s,e1,λy H1 F1 G Q U Y=>?_⟩;refine⟨ρ,T,F1,G,.ob n,O2,U,s.step Q,e2,λz t x i L I W=>?_⟩;have g:=Q.trans L;obtain⟨a,rfl,l⟩:=Rp.unO W;obtain⟨C,m,gs,h1,h2,h3⟩:=I.ob n a _ l eo;obtain⟨C',h4,h5,h6⟩:=hc c E.1;rw[h1] at h4;cases h4;have j:=zT l
     have hn:t a≠none:=by rw[h2];exact λz=>nomatch z
     have J:Gr t x i (upd t a (.ins C m (dD f y gs))) x i:=⟨λ_ _ _ _ _=>rfl,Same.refl _,⟨[],by simp,λ_ h=>nomatch h⟩,λb u e hb _=>by rw[aH (λz=>hb (by rw[z];exact j))];exact e,λb e=>by
      by_cases h:b=a
      ·subst h;rw[bu] at e;cases e
      ·rwa [aH h] at e,λb o' u e=>by rw[aH (λz=>by rw[z,h2] at e;cases e)];exact e⟩
     refine⟨a,C,m,gs,rfl,h2,h5,h6,by rw[h3.length];omega,?_⟩;exact k σ _ x i (g.trans J).toS (I.set l ⟨C,m,_,h1,bu,h3.put (Rp.gr Y L)⟩) ((s.step g).step J)
    ·exact False.elim k
   ·exact False.elim k
  ·exact False.elim k
 ·exact False.elim k
 ·exact False.elim k
theorem Gw{K:Frag}  {st:Stmt}     (Fn:Fun K x qual st f fd)(S:bc N ps (aJ st))
  (pm I:List Md)   (Y:cP R) (G:∀N H F as,R N H F as .non .non) (C:pm.length=ps.length) (W:(pm++I).length=N.length) (U:∀m∈pm,m≠.o)
  (body:∀(i:Value) (A:Around) (outer:List Env) (s:Shared) (H:Hp) (E:XK),aP k (A.deeper (envOfC qual (aJ st) s.heap.objs.size f i))->∀P,VSs ((cY CX0 Pr w K mg base N qual (aJ st) f i A outer s H E).nox) (pm++I) P R (bJ st) b):
  cH Pr w K mg base CX0 (k+1) f fd ps (vSp K mg pm R (bf N.length b)):=by
 refine Fn.ok S (λJ H Q E h=>?_) (λi A outer s H J Q E T h=>?_)
 ·obtain⟨t,O,F,as,d,Z,r,a,_⟩:=h;rw[a.len.1,C]
 ·obtain⟨t,O,F,as,d,Z,r,a,e,q⟩:=h;refine⟨_,body i A outer s H E T (Pt.all H),?_⟩;refine⟨_,O,F,as,r,tR a W U,?_⟩;unfold bf at e
  cases eb:b (t.map some++List.replicate (N.length - t.length) none) O with
  |rt d' O2 =>
   rw[eb] at e;cases e
   exact λv u y j g l L=>q v u y j g.gr l (Y _ _ _ _ _ _ _ (λc X=>jj.mp X) L)
  |nx ρ O2 =>
   rw[eb] at e;cases e
   exact λσ' u y j g l _=>q _ u y j g.gr l (G _ _ _ _)
  |bk _ _=>rw[eb] at e;cases e
  |ct _ _=>rw[eb] at e;cases e
  |ex _ _=>rw[eb] at e;cases e
  |no=>rw[eb] at e;cases e
noncomputable def oA(K:Frag)(mg:Str->Option Value)(c m qual:Str)(st:Stmt):Prop:=∃C f fd,mg c=some (.ref C)/\Cls K C/\nJ K C m f/\Fun K m qual st f fd
noncomputable def lW(P:Program)(w:World)(K:Frag)(mg:Str->Option Value)(base:Heap)(c m:Str)(a:List Str)(k:Nat)(sp:Sp):Prop :=
 ∃C f fd,mg c=some (.ref C)/\Cls K C/\nJ K C m f/\Binds K fd a []/\cH P w K mg base CX0 k f fd a sp
noncomputable def xq(P:Program)(w:World)(K:Frag)(mg:Str->Option Value)(base:Heap)(c:Str)(a:List Str)(k:Nat)(sp:Sp):Prop :=
 ∃C f fd,mg c=some (.ref C)/\Mk K C f/\Binds K fd a []/\cH P w K mg base CX0 k f fd a sp
noncomputable def xu(K:Frag)(mg:Str->Option Value)(c qual:Str)(st:Stmt):Prop:=∃C f fd,mg c=some (.ref C)/\Mk K C f/\Fun K "__init__" qual st f fd
theorem Gx{j:Program}{w:World}{K:Frag}{base:Heap}  {st:Stmt}  {k:Nat}(u:oA K mg c x qual st)(S:bc N ps (aJ st))
  (hb:∀(kV i pm:Value) (t:Option Addr) (a ct:Value) (us:List Value),us.length=ps.length->bindArgs (PySem.W.fnOf x qual (dh st) (bJ st) (aJ st) .none kV i pm t a ct) ⟨us,[]⟩=pure (ps.zip us))
  (pm d:List Md)  {b:MS} (r:cP R) (h:∀N H F as,R N H F as .non .non) (g:pm.length=ps.length:=by rfl) (q:(pm++d).length=N.length:=by rfl) (l:∀m∈pm,m≠.o:=by decide)
  (body:∀(f:Addr) (a:Value) (A:Around) (outer:List Env) (s:Shared) (H:Hp) (E:XK),aP k (A.deeper (envOfC qual (aJ st) s.heap.objs.size f a))->∀P,VSs ((cY CX0 j w K mg base N qual (aJ st) f a A outer s H E).nox) (pm++d) P R (bJ st) b):
  lW j w K mg base c x ps (k+1) (vSp K mg pm R (bf N.length b)):=by
 obtain⟨C,f,fd,h1,h2,h3,h4⟩:=u;exact⟨C,f,fd,h1,h2,h3,h4.binds hb,Gw h4 S pm d r h g q l (body f)⟩
theorem U6{j:Program}{w:World}{K:Frag}{base:Heap}  {st:Stmt}  {k:Nat}(u:xu K mg c qual st)(S:bc N ps (aJ st))
  (hb:∀(kV i pm:Value) (t:Option Addr) (a ct:Value) (us:List Value),us.length=ps.length->bindArgs (PySem.W.fnOf "__init__" qual (dh st) (bJ st) (aJ st) .none kV i pm t a ct) ⟨us,[]⟩=pure (ps.zip us))
  (pm d:List Md)  {b:MS} (r:cP R) (h:∀N H F as,R N H F as .non .non) (g:pm.length=ps.length:=by rfl) (q:(pm++d).length=N.length:=by rfl) (l:∀m∈pm,m≠.o:=by decide)
  (body:∀(f:Addr) (a:Value) (A:Around) (outer:List Env) (s:Shared) (H:Hp) (E:XK),aP k (A.deeper (envOfC qual (aJ st) s.heap.objs.size f a))->∀P,VSs ((cY CX0 j w K mg base N qual (aJ st) f a A outer s H E).nox) (pm++d) P R (bJ st) b):
  xq j w K mg base c ps (k+1) (vSp K mg pm R (bf N.length b)):=by
 obtain⟨C,f,fd,h1,h2,h4⟩:=u;exact⟨C,f,fd,h1,h2,h4.binds hb,Gw h4 S pm d r h g q l (body f)⟩
noncomputable def jO(c m:Str)(f:List D->az->Res D)(mo:M D)(ma:M (List D)):M D:=λρ O=>(mo ρ O).bind λd a=>match d with
 | .ob n=>match a[n]? with
  |some (.ins c' fs)=>if c'=c/\(fs.lookup m).isNone=true then(ma ρ a).bind λb g=>f (.ob n::b) g else .no
  | _=>.no
 | _=>.no
theorem Gy{K:Frag}   (Z:cP R)(hC:mg c=some (.ref C))     (q:tM K mg md P R (jO c m cf mo ma) σ H Q):
  sS C m (vSp K mg (.v::pm) R cf) [] E (tM K mg md P (rV K) mo) (tMA K mg md P pm ma) σ H Q:=by
 obtain⟨ρ,O,F,as,d,O',r,s,e,k⟩:=q;obtain⟨x,J,e1,e⟩:=Res.bind_ok e
 cases x with
 |ob n =>
  dsimp only at e;split at e
  ·rename_i c' fs eo;split at e
   ·rename_i y;obtain⟨G,I,e2,e⟩:=Res.bind_ok e;refine⟨ρ,O,F,as,.ob n,J,r,s,e1,λv H1 F1 j g t u=>?_⟩;obtain⟨a,rfl,Y⟩:=Rp.unO u;obtain⟨C',dx,gs,h1,h2,h3⟩:=t.ob n a _ Y eo;rw[y.1,hC] at h1;cases h1;refine⟨a,dx,gs,rfl,h2,h3.no (Option.isNone_iff_eq_none.mp y.2),?_⟩;refine⟨ρ,J,F1,j,G,I,t,s.step g,e2,λvs H2 F2 i f T h=>?_⟩;dsimp only;rw[zI];exact⟨.ob n::G,I,F2,i,d,O',T,⟨Rp.gr u f,h⟩,e,λL H' F' l g' U W=>k L H' F' l ((g.trans f).trans g') U (Z _ _ _ _ _ _ _ (λb X=>(g.trans f).dm b X) W)⟩
   ·cases e
  ·cases e
 | _=>cases e
theorem U7{a apos:Pos}{pl:Sem Bool}(l:cP R)(M:lW X.prog X.w X.K X.mg X.base c m ps k (vSp X.K X.mg (.v::pm) R cf))(h:aP k X.A)(i:VE X md P o mo)(j:AE X md P pm (e::es) ma)
  (b:starEach (e::es) X.env=(false,eval e X.env)::starEach es X.env:=by exact bF rfl) (d:(backTo a (starEach es X.env)).any (·.1)=false:=by exact cR rfl)
  (g:eval (.Call (.Attribute o m apos) (e::es) [] a) X.env=(do
   let ov <-eval o X.env
   standAt apos.atName
   let (f,first) <-holding [ov] (getMethod ov m pl)
   callWith a f first (backTo a (starEach (e::es) X.env)) (backToKw a (keywordEach [] X.env))):=by rfl):
  PE X (.Call (.Attribute o m apos) (e::es) [] a) (tM X.K X.mg md P R (jO c m cf mo ma)):=by
 obtain⟨C,f,fd,h1,h2,h3,h4,r⟩:=M
 exact(Dw (pl:=pl) (E:=E0) (ds:=[]) (dvs:=[]) i h2 h3 r h h4 .nil qt j b d g).imp λ_ _ _ q=>Gy l h1 q
theorem U8  (J:cP R)(M:lW X.prog X.w X.K X.mg X.base c m ps k (vSp X.K X.mg [.v] R cf))(G:aP k X.A)(I:VE X md P o mo)
  (y:eval (.Call (.Attribute o m apos) [] [] pos) X.env=(do
   let ov <-eval o X.env
   standAt apos.atName
   let (f,first) <-holding [ov] (getMethod ov m pl)
   callWith pos f first (backTo pos (starEach [] X.env)) (backToKw pos (keywordEach [] X.env))):=by rfl):
  PE X (.Call (.Attribute o m apos) [] [] pos) (tM X.K X.mg md P R (jO c m cf mo aq)):=by
 obtain⟨C,f,fd,h1,h2,h3,h4,L⟩:=M
 refine(Qm (pl:=pl) (E:=E0) (ds:=[]) (dvs:=[]) I h2 h3 L G h4 .nil qt y).imp λσ H Q q=>?_
 obtain⟨ρ,O,F,as,d,O',r,s,e,k⟩:=Gy (pm:=[]) (E:=E0) J h1 q;refine⟨ρ,O,F,as,d,O',r,s,e,λv i F' h g l x=>?_⟩;obtain⟨a,Z,fs,Y,W,U,t⟩:=k v i F' h g l x;refine⟨a,Z,fs,Y,W,U,?_⟩;obtain⟨ρ1,O1,F1,b,ds1,O2,j,s1,T,u⟩:=t;cases T;exact u [] i F1 b Gr.refl j trivial
noncomputable def lX(c:Str)(d:List D->az->Res D)(ma:M (List D)):M D:=λρ O=>(ma ρ O).bind λb a=>match d (.ob a.length::b) (a++[.ins c []]) with
 | .ok .non O2=>.ok (.ob a.length) O2
 | .ok _ _=>.no
 | .ex x O2=>.ex x O2
 | .no=>.no
theorem U9{K:Frag}   (hC:mg c=some (.ref C))     (q:tM K mg md P (rV K) (lX c cf ma) σ H Q):
  Du C (vSp K mg (.v::pm) (rV K) cf) [] E (tMA K mg md P pm ma) σ H Q:=by
 obtain⟨ρ,O,F,as,d,O',r,s,e,k⟩:=q;obtain⟨ds,u,e1,e⟩:=Res.bind_ok e;split at e
 ·rename_i O2 ec;cases e;refine⟨ρ,O,F,as,ds,u,r,s,e1,λvs m j f g1 t T=>?_⟩;intro x g L J U;rw[zI]
  have G:upd m g (.own x) x=none:=by rw[aH U.symm];exact L
  have gA:Gr m j f (upd m g (.own x)) j f:=Gr.lay J;have gB:Gr (upd m g (.own x)) j f (upd (upd m g (.own x)) x (.ins C g [])) j f:=Gr.lay G;have gC:Gr (upd (upd m g (.own x)) x (.ins C g [])) j f (upd (upd m g (.own x)) x (.ins C g [])) j f:=Gr.refl;have l:=gA.trans gB;have Z:Gr m j f (upd (upd m g (.own x)) x (.ins C g [])) j (f++[x]):=⟨l.fz,l.ff,⟨[x],rfl,λa i=>by rw[zg.mp i];exact L⟩,λa o e i hd=>l.fr a o e i hd,l.dm,l.kz⟩
  have nx:x∉f:=λz=>t.all z L
  have R:=(t.lay (o:=.own x) J).lay (o:=.ins C g []) G
  have at_:∀(n:Nat) (a:Addr),f[n]?=some a->(f++[x])[n]?=some a:=λn a h=>by
   rw[zA (zk.mp h).1];exact h
  have r2:RlO K mg (u++[.ins c []]) (upd (upd m g (.own x)) x (.ins C g [])) j (f++[x]):=by
   refine⟨R.fh,R.fd,?_,by simp[t.len],λa i=>?_,λn a o i y=>?_⟩
   ·rw[zZ];refine⟨t.nd,by simp,λa i b hb=>?_⟩;rw[zg.mp hb];intro z;subst z;exact nx i
   ·rcases zv.mp i with z | z
    ·exact t.fa a z
    ·rw[zg.mp z];exact t.frF L
   ·by_cases X:n<u.length
    ·rw[zA (by rw[t.len];exact X)] at i;rw[zA X] at y;exact(R.ob n a o i y).keep rfl (Same.refl _) at_
    ·have hn':n=u.length:=by
      have:=(zk.mp y).1
      simp at this
      omega
     subst hn';rw[zC (zc _),Nat.sub_self] at y;rw[<-t.len,zC (zc _),Nat.sub_self] at i;cases y;cases i;exact⟨C,g,[],hC,bu,⟨rfl,Rps.nil⟩⟩
  have I:Rp K j (f++[x]) (.ref x) (.ob u.length):=Rp.mkO (by rw[<-t.len,zC (zc _),Nat.sub_self];rfl);refine⟨.ob u.length::ds,_,j,f++[x],.non,_,r2,⟨I,T.gr Z⟩,ec,λv H3 F3 W Y r3 hv=>?_⟩;exact⟨Rp.unN hv,k _ H3 F3 W ((g1.trans Z).trans Y) r3 (Rp.gr I Y)⟩
 ·cases e
 ·cases e
 ·cases e
theorem Va{md:List Md}{P:Pt}{p a:Pos}(M:xq X.prog X.w X.K X.mg X.base c ps k (vSp X.K X.mg [.v] (rV X.K) cf))(d:aP (k+1) X.A)(g:Gl X c:=by rfl)(b:(c == ("__debug__":Str))=false:=by decide):VE X md P (.Call (.Name c p) [] [] a) (lX c cf aq):=by
 obtain⟨C,f,fd,h1,h3,h4,h⟩:=M
 refine(Qo (E:=E0) (ds:=[]) (dvs:=[]) h3 h d g h1 h4 .nil qt b).imp λσ H Q q=>?_
 obtain⟨ρ,O,F,i,ds,j,r,s,e,k⟩:=U9 (pm:=[]) (E:=E0) h1 q;cases e;exact k [] H F i Gr.refl r trivial
noncomputable def kJ:D->Option (List D)
 | .lst ds=>some ds
 | .tup ds=>some ds
 | .str l=>if ascii l=true then some (bR l) else none
 | _=>none
noncomputable def bG(m:M D):M (List D):=λρ O=>(m ρ O).bind λd b=>match kJ d with
 |some a=>.ok a b
 |none=>.no
theorem xx   (h:WE X md P e m):SE X md P e m:=h.imp λσ H Q q=>by
 obtain⟨ρ,O,F,C,d,E,r,s,e,k⟩:=q;refine⟨ρ,O,F,C,d,E,r,s,e,λv G I c g i b=>k v G I c g i ?_⟩
 rcases b with b | ⟨a,f,y,x,u,t,l,J,j⟩
 ·exact .inl b
 ·exact .inr ⟨a,f,y,x,u,t,l,j⟩
theorem Vb   (h:WE X md P e m):VI X md P tg e (bG m):=λpins s σ H Q I q=>by
 obtain⟨ρ,O,F,c,i,t,r,sl,e,k⟩:=q;obtain⟨d,j,b,e⟩:=Res.bind_ok e
 cases d with
 |lst f =>
  cases e;exact Uv h pins s σ H Q I ⟨ρ,O,F,c,_,_,r,sl,by unfold gn;rw[b];rfl,k⟩
 |tup f =>
  cases e;exact Gn (nT (xx h)) pins s σ H Q I ⟨ρ,O,F,c,_,_,r,sl,by unfold xf mG;rw[b];rfl,k⟩
 |str l =>
  simp only[kJ] at e;split at e
  ·rename_i f a;split at a
   ·rename_i g;cases a;cases e;refine Gp (xx h) pins s σ H Q I ⟨ρ,O,F,c,bR l,_,r,sl,?_,k⟩;unfold xj;rw[b];show(if ascii l=true then _ else _)=_;rw[if_pos g]
   ·cases a
  ·cases e
 | _=>cases e
theorem Vc   (h:SE X md P e m):VIc X md P tg e (gn m):=(vM h).imp λσ H Q q=>by
 obtain⟨ρ,O,F,as,ds,O',r,s,e,k⟩:=q;obtain⟨d,O1,T,e⟩:=Res.bind_ok e
 cases d with
 |lst es =>
  cases e;refine⟨ρ,_,F,as,_,_,r,s,T,λv E t l I G C=>?_⟩
  obtain⟨a,c,rfl,h1,h2⟩:∃a c,v=.ref a/\Rps X.K t l c ds/\∀(f j:Hp) (b:List Addr),Gr E t l f j b->(∃O,RlO X.K X.mg O f j b)->RdK X.K f a c:=by
   rcases C with C | ⟨a,c,U,rfl,e,R,L,J⟩
   ·obtain⟨a,c,rfl,h1,h2⟩:=C.unL;exact⟨a,c,rfl,h2,λf j b g ⟨O,r⟩=>(h1.mono g.ff).mono r.fh⟩
   ·cases e;exact⟨a,c,rfl,J,λf j b g _=>.inl (.inl (g.fr _ _ R L rfl))⟩
  refine⟨a,rfl,⟨c,(h2 E t l Gr.refl ⟨_,G⟩).sq⟩,k _ E t l I G ⟨λi d f j b g r e=>?_,λf j b g r=>⟨c,(h2 f j b g r).sq,by rw[h1.length];exact zc _⟩⟩⟩;obtain⟨x,h3,h4⟩:=h1.get' e;have q:=h2 f j b g r;refine⟨⟨c,x,q.sq,h3⟩,λy W u=>?_⟩;obtain⟨rfl,u⟩:=u
  have:=u c q.sq
  rw[h3] at this;cases this;exact⟨j,Gr.refl,λ_ r=>r,h4.gr g⟩
 | _=>cases e
theorem Gz   (h:SE X md P e m):VIc X md P tg e (bG m):=λpins s σ H Q I q=>by
 obtain⟨ρ,O,F,c,i,t,r,sl,e,k⟩:=q;obtain⟨d,j,b,e⟩:=Res.bind_ok e
 cases d with
 |lst f =>
  cases e;exact Vc h pins s σ H Q I ⟨ρ,O,F,c,_,_,r,sl,by unfold gn;rw[b];rfl,k⟩
 |tup f =>
  cases e;exact wU (Gn (nT h)) pins s σ H Q I ⟨ρ,O,F,c,_,_,r,sl,by unfold xf mG;rw[b];rfl,k⟩
 |str l =>
  simp only[kJ] at e;split at e
  ·rename_i f a;split at a
   ·rename_i g;cases a;cases e;refine wU (Gp h) pins s σ H Q I ⟨ρ,O,F,c,bR l,_,r,sl,?_,k⟩;unfold xj;rw[b];show(if ascii l=true then _ else _)=_;rw[if_pos g]
   ·cases a
  ·cases e
 | _=>cases e
noncomputable def iZ(m:M D):M (List D):=λρ O=>(m ρ O).bind λd a=>match d with
 | .lst ds=>.ok (bV 0 ds) a
 | .str l=>if ascii l=true then .ok (bV 0 (bR l)) a else .no
 | _=>.no
theorem Vd{elts:List Expr}{u:Nat}{c:Pos}  {p f:Pos}  (g:X.mg "enumerate" = none)(h:WE X md P a m)(i:Gl X "enumerate":=by rfl)(hs:starEach [a] X.env=[(false,eval a X.env)]:=by exact nR rfl)(b:starEach [a] X.env=(false,eval a X.env)::starEach [] X.env:=by exact bF rfl):
  VI X md P (.Tuple elts u c) (.Call (.Name "enumerate" p) [a] [] f) (iZ m):=λpins s σ H Q I q=>by
 obtain⟨ρ,O,F,t,x,y,r,sl,e,k⟩:=q;obtain⟨d,C,j,e⟩:=Res.bind_ok e
 cases d with
 |lst es =>
  cases e;exact Uy g h i hs b pins s σ H Q I ⟨ρ,O,F,t,_,_,r,sl,by unfold Gs;rw[j];rfl,k⟩
 |str l=>exact Uz g (xx h) i hs b pins s σ H Q I ⟨ρ,O,F,t,x,y,r,sl,by unfold Gu;rw[j];exact e,k⟩
 | _=>cases e
theorem Ve   {K:PySem.W.Frag}
  (Z:K.In s₁.heap) (l:s₁.heap.Ns mainGlobals mg) (hb:s₁.heap.Ns builtinsNs mb) (L:∀x:Str,x≠"__name__"->mb x=bootBuiltins x) (E:s₁.heap.NoLimit) (hg:s₁.gens = #[])
  (G:s₁.heap.get? a=some {cls:=.type "list",data:=.seq vs.toArray}) (T:IntsAre vs ns) (R:ns.length<=sizeLine) (hr:aP k callerA)
  (F:∀base:Heap,K.In base->base.Ns mainGlobals mg->cH P w K mg base CX k fa fd [x] sp) (g:∀(s:Shared) (u:Value),BindsTo s fd ⟨[u],[]⟩ [(x,u)])
  (J:∀H:Hp,lM H->RdK K H a (ns.map V.int)->sp [.ref a] H (λv _=>v=.bl true) λ_ _ _=>False)
  (O:∀H e s',CX [] H s₁ (λ_ _ _=>False) e s'->False):
  codeAny (model P w) callerA (.call (.ref fa) ⟨[.ref a],[]⟩) (λr s'=>r=.ok (.ret (.bool true))/\OldK s₁.heap s'.heap/\s'.os=s₁.os/\AllBare s'.gens) s₁:=by
 have Q:=v8 T;have y:=T.length;have core:∀H:Hp,lM H->RdK K H a (ns.map V.int)->HOk P w H s₁.heap->(∀b,H b≠none->b=a)->(H a≠none->K.lookup a=none) ->
   codeAny (model P w) callerA (.call (.ref fa) ⟨[.ref a],[]⟩) (λr s'=>r=.ok (.ret (.bool true))/\OldK s₁.heap s'.heap/\s'.os=s₁.os/\AllBare s'.gens) s₁:=by
  intro H U hS hok X hK
  have c:∀{b:Addr}{o:Obj},s₁.heap.get? b=some o->H b=none->(fK s₁.heap H).get? b=some o:=λe n=>Ck e n
  have I:∀{b:Addr}{o:Obj}{i:Array DictEntry}{j:Nat},s₁.heap.get? b=some o->o.data=.dict i j->H b=none:=λ{b o i j} e d=>by
   cases q:H b with
   |none=>rfl
   |some u =>
    have e':b=a:=X b (by rw[q];simp);subst e';rw[G] at e;cases e;have d':Data.seq vs.toArray _=Data.dict i j:=d;cases d'
  have f:∀{b:Addr}{m:Str->Option Value},s₁.heap.Ns b m->(fK s₁.heap H).Ns b m:=λ{b m} ⟨o,i,j,e,d,r⟩=>⟨o,i,j,c e (I e d),d,r⟩
  have t:K.In (fK s₁.heap H):=λb o e=>c (Z b o e) (by
   cases q:H b with
   |none=>rfl
   |some u =>
    have e':b=a:=X b (by rw[q];simp);subst e'
    rw[hK (by rw[q];simp)] at e;cases e)
  have hM:Mod K mg (fK s₁.heap H):=⟨t,f l,⟨mb,f hb,L⟩,let ⟨mc,h1,h2⟩:=E;⟨mc,f h1,h2⟩⟩;have e0:iQ P w K mg (fK s₁.heap H) callerA [] s₁ H:=⟨rfl,hM,λb o e=>Cm e,Nat.le_of_eq (Cj _ _),trivial,λb hb=>absurd (show b∈([]:List Addr) from hb) (by simp),hok,.of_eq hg⟩
  refine codeAny_mono ((F _ t (f l)).run callerA [] s₁ H ⟨[.ref a],[]⟩ [.ref a] [.ref a] _ _ hr e0 (g s₁ (.ref a)) (.cons rfl .nil) (J H U hS)) λr s' h=>?_
  cases r with
  |error e=>exact(O H e s' h).elim
  |ok fl =>
   cases fl with
   |next=>exact False.elim h
   |brk=>exact False.elim h
   |cont=>exact False.elim h
   |ret u =>
    obtain⟨v,H',os,bare,un,C,r',q⟩:=h;have q':v=.bl true:=q;subst q';obtain rfl:u=Value.bool true:=r';refine⟨rfl,OldK.of_keep λb o e=>?_,os,bare⟩
    cases q:H b with
    |none=>exact un.keep b o e q (by intro z;exact absurd (show b∈([]:List Addr) from z) (by simp)) (by simp)
    |some u =>
     rcases U b with z | ⟨ob,xs,z⟩
     ·rw[q] at z;cases z
     ·have z2:=un.frzs b ob _ z;obtain⟨Y,_⟩:=hok b _ z;obtain⟨e2,_⟩:=C b _ z2;rw[e] at Y;cases Y;exact e2
 cases hk:K.lookup a with
 |some o =>
  have e:=Z a o hk;rw[G] at e;cases e
  refine core (λ_=>none) (λ_=>.inl rfl) (.inr ⟨vs,_,hk,by rw[y];exact R,Q⟩) (λb u z=>by have z':(none:Option HO)=some u:=z;cases z') (λb z=>absurd rfl z) λz=>absurd rfl z
 |none =>
  refine core (λb=>if b=a then some (.frz {cls:=.type "list",data:=.seq vs.toArray} (.lst (ns.map V.int))) else none) (λb=>?_) (.inl (.inr ⟨{cls:=.type "list",data:=.seq vs.toArray},if_pos rfl⟩)) (λb u z=>?_) (λb z=>?_) λ_=>hk
  ·by_cases hb:b=a
   ·exact .inr ⟨_,_,if_pos hb⟩
   ·exact .inl (if_neg hb)
  ·by_cases hb:b=a
   ·have z':=(if_pos hb).symm.trans z;cases z';subst hb;exact⟨G,by rw[zx];exact R,vs,_,Q,G⟩
   ·have z':=(if_neg hb).symm.trans z;cases z'
  ·by_cases hb:b=a
   ·exact hb
   ·exact absurd (if_neg hb) z
theorem walk_ofR{l:PySem.W.OpenLaw}       {K:Params->PySem.W.Frag}{CX:World->CXT}{sp:World->Sp}
  (hn:l.most=some n) (hn2:n<=sizeLine) (hdf:d.params.defaults=[]) (hr:aP k callerA)
  (hY:∀(w:World) (h:Heap),YP w h->(K w.params).In h)
  (F:∀(w:World) (mg:Str->Option Value) (fa:Addr) (h:Heap),(K w.params).In h->h.Ns mainGlobals mg->mg d.name=some (.ref fa) ->
   ∃fd:FuncData,(∀(s:Shared) (u:Value),BindsTo s fd ⟨[u],[]⟩ [(x,u)]) /\
    ∀base:Heap,(K w.params).In base->base.Ns mainGlobals mg->cH l.prog w (K w.params) mg base (CX w) k fa fd [x] (sp w))
  (hsp:∀(w:World) (H:Hp) (a:Addr) (ns:List Int),ns.length<=n->lM H->RdK (K w.params) H a (ns.map V.int)->sp w [.ref a] H (λv _=>v=.bl true) λ_ _ _=>False)
  (hCX:∀(w:World) (H:Hp) (s:Shared) (e:Value) (s':Shared),CX w [] H s (λ_ _ _=>False) e s'->False):
  PySem.W.WalkO q loose XP YP l.row.toRowW d [] (λf vs=>PySem.call f vs):=by
 refine Att.attach_call hn hdf λw s₀ s₁ mg mb fa o pm cd doc a vs ns G Y ho hd hcd hmg hobj hints hlen hg=>?_
 have KX:=hY w _ Y;obtain⟨fd,hb,hF⟩:=F w mg fa _ KX G.T.g hmg
 exact Ve KX G.T.g G.T.b G.T.builtins G.T.nolimit hg hobj hints (zE hlen hn2) hr hF hb (λH hO hS=>hsp w H a ns hlen hO hS) λH e s'=>hCX w H s₁ e s'
theorem Vf{K:Frag}  :∀c∈([]:List Str),KC K mg c f:=λ_ h=>nomatch h
theorem Vg{K:Frag}    (h:KC K mg c f)(d:∀c∈cs,KC K mg c f):∀b∈c::cs,KC K mg b f:=λb a=>by
 rcases zh.mp a with rfl | a
 ·exact h
 ·exact d b a
noncomputable def wF:Nat:=1000000
noncomputable def sp_law(K:Frag):Sp:=λvs H Q _=>∃(a:Addr) (ns:List Int),vs=[.ref a]/\RdK K H a (ns.map V.int)/\ns.length<=63/\lM H/\∀b,Q (.bl true) b
theorem Rps.ofInts{K:Frag}  :∀ns:List Int,Rps K F as (ns.map V.int) (ns.map D.int)
 | []=>Rps.nil
 |n::ns=>Rps.cons Rp.int (Rps.ofInts ns)
theorem Vh{K:Frag}   (h:∀ns:List Int,ns.length<=63->∃O',c [.lst (ns.map D.int)] []=.ok (.bl true) O'):∀vs H Q E,sp_law K vs H Q E->vSp K mg [.s] (rV K) c vs H Q E:=by
 rintro vs H Q E ⟨a,ns,rfl,hS,hl,hO,q⟩;obtain⟨O',e⟩:=h ns hl
 have r:RlO K mg [] H H []:=⟨Same.refl H,λb o e=>by
  rcases hO b with z | ⟨m,j,z⟩
  ·rw[e] at z;cases z
  ·rw[e] at z;cases z;rfl,List.nodup_nil,rfl,(λ_ z=>nomatch z),λn b o z=>by cases z⟩
 refine⟨[.lst (ns.map D.int)],[],H,[],.bl true,O',r,⟨.inl (Rp.mkL hS (Rps.ofInts ns)),trivial⟩,e,λv f t i g l d=>?_⟩;rw[Rp.unB d];exact q f
noncomputable def keyOf:D->Option Key
 | .int i=>some (.inl i)
 | .str l=>some (.inr (S l))
 | _=>none
theorem Vi   (h:keyOf d=some k):lQ k=d:=by
 cases d with
 |int i=>cases h;rfl
 |str l=>cases h;show D.str (S l).cps.toList=_;rw[dR]
 | _=>cases h
theorem Rp.key{K:Frag}      (h:Rp K F as v d)(e:keyOf d=some k):v=kV k:=by
 cases d with
 |int i=>cases e;exact h.unI
 |str l=>cases e;exact h.unS
 | _=>cases e
theorem Vj(k:Key):keyOf (lQ k)=some k:=by
 cases k with
 |inl i=>rfl
 |inr x=>show some (Sum.inr (S x.cps.toList))=_;rw[tG]
noncomputable def oE:List D->List D->Key->Option D
 |k::ks,v::vs,x=>if keyOf k=some x then some v else oE ks vs x
 | _,_,_=>none
theorem GC{K:Frag}  :∀{kvs:List (Key×V)}{vs:List D} (x:Key),Rps K F as (kvs.map (·.2)) vs ->
  (oE (kvs.map λp=>lQ p.1) vs x=none/\cI kvs x=none)\/∃d v,oE (kvs.map λp=>lQ p.1) vs x=some d/\cI kvs x=some v/\Rp K F as v d
 | [],vs,x,h=>.inl ⟨by cases vs<;>rfl,rfl⟩
 | (k,v)::kvs,vs,x,h=>by
  cases vs with
  |nil=>have:=h.un0;cases this
  |cons d ds =>
   obtain⟨y,r,e,h1,h2⟩:=h.un;simp only[zd,List.cons.injEq] at e;obtain⟨rfl,rfl⟩:=e;rw[zd,oE,Vj]
   by_cases a:k=x
   ·subst a;exact .inr ⟨d,v,by rw[if_pos rfl],by simp[cI],h1⟩
   ·rw[if_neg (λz=>a (zH z))]
    have b:cI ((k,v)::kvs) x=cI kvs x:=by
     unfold cI;rw[List.find?_cons_of_neg (by simpa using a)]
    rw[b];exact GC x h2
noncomputable def Prs(K:Frag)(F:Hp)(as:List Addr):List (V×V)->List (D×D)->Prop
 | [],[]=>True
 |p::ps,d::ds=>Rp K F as p.1 d.1/\Rp K F as p.2 d.2/\Prs K F as ps ds
 | _,_=>False
noncomputable def DPE(X:Cx)(md:List Md)(P:Pt)(g:Pos)(keys:List (Option Expr))(values:List Expr)(m:M (List (D×D))):Prop:=∃b:List (TE×TE),
 PPs X g keys values b/\∀σ H Q,(∃ρ O F c i j,RlO X.K X.mg O H F c/\SlO X.K md P ρ σ H F c/\m ρ O=.ok i j/\∀h d f a,Gr H F c d f a->RlO X.K X.mg j d f a->Prs X.K f a h i->Q h d)->tD b σ H Q
noncomputable def qK:M (List (D×D)):=λ_ O=>.ok [] O
noncomputable def kO(mk d:M D)(r:M (List (D×D))):M (List (D×D)):=λρ O=>(mk ρ O).bind λa h=>(d ρ h).bind λb g=>(r ρ g).bind λc f=>.ok ((a,b)::c) f
theorem Vk :DPE X md P pos [] [] qK:=⟨[],Ro,λσ H Q q=>by
 obtain⟨ρ,O,F,a,b,c,r,s,e,k⟩:=q;cases e
 exact k [] H F a Gr.refl r trivial⟩
theorem Vl       (R:VE X md P G mk)(hv:VE X md P v mv)(d:DPE X md P pos ks vs m):
  DPE X md P pos (some G::ks) (v::vs) (kO mk mv m):=by
 obtain⟨g,d⟩:=d
 exact⟨(tM X.K X.mg md P (rV X.K) mk,tM X.K X.mg md P (rV X.K) mv)::g,Rq R hv d.1,λσ H Q q=>by
 obtain⟨ρ,O,F,Y,kv,O',r,s,e,k⟩:=q;obtain⟨a,O1,W,e⟩:=Res.bind_ok e;obtain⟨b,O2,U,e⟩:=Res.bind_ok e;obtain⟨ps,O3,T,e⟩:=Res.bind_ok e;cases e;refine⟨ρ,_,F,Y,_,_,r,s,W,λx H1 F1 j t E J=>?_⟩;refine⟨ρ,_,F1,j,_,_,E,s.step t,U,λy H2 F2 i l C I=>?_⟩;have c:=t.trans l;refine d.2 σ H2 _ ⟨ρ,_,F2,i,_,_,C,s.step c,T,λqs Z F3 h f u L=>?_⟩
 exact k _ Z F3 h (c.trans f) u ⟨(Rp.gr J l).gr f,Rp.gr I f,L⟩⟩
noncomputable def keysOf:List (D×D)->Option (List Key)
 | []=>some []
 | (a,_)::r=>(keyOf a).bind λk=>(keysOf r).map (k :: ·)
theorem Prs.kvs{K:Frag}{F:Hp}{as:List Addr}:∀{d:List (D×D)}{c:List (V×V)}{f:List Key},Prs K F as c d->keysOf d=some f ->
  ∃kvs:List (Key×V),c=kvs.map (λp=>(kV p.1,p.2))/\kvs.map (·.1)=f/\d.map (·.1)=kvs.map (λp=>lQ p.1)/\Rps K F as (kvs.map (·.2)) (d.map (·.2))
 | [],c,f,h,e=>by
  cases c with
  |nil=>cases e;exact⟨[],rfl,rfl,rfl,Rps.nil⟩
  |cons _ _=>exact h.elim
 | (a,b)::d,c,f,h,e=>by
  cases c with
  |nil=>exact h.elim
  |cons p c =>
   obtain⟨i,g⟩:=p;unfold keysOf at e
   cases ea:keyOf a with
   |none=>rw[ea] at e;cases e
   |some k =>
    rw[ea] at e
    cases er:keysOf d with
    |none=>rw[er] at e;cases e
    |some ks' =>
     rw[er] at e;cases e;obtain⟨kvs,h1,h2,h3,h4⟩:=Prs.kvs h.2.2 er;refine⟨(k,g)::kvs,?_,?_,?_,Rps.cons h.2.1 h4⟩
     ·rw[zd,<-h1]
      have:i=kV k:=Rp.key h.1 ea
      rw[this]
     ·rw[zd,h2]
     ·rw[zd,zd,h3,Vi ea]
theorem GD:∀(more acc:List (Key×V)),((acc++more).map (·.1)).Nodup->gf acc more=acc++more
 | [],acc,_=>by simp[gf]
 | (k,v)::r,acc,h=>by
  have b:cI acc k=none:=by
   cases q:cI acc k with
   |none=>rfl
   |some w =>
    exfalso
    unfold cI at q
    cases f:acc.find? λa=>decide (a.1=k) with
    |none=>rw[f] at q;cases q
    |some z =>
     have h1:=List.find?_some f;have h2:=List.mem_of_find?_eq_some f;rw[zW,zZ] at h;exact h.2.2 z.1 (List.mem_map_of_mem h2) k (by simp) (jc h1)
  show gf (putK acc k v) r=_;rw[Ra _ b,GD r _ (by rw[zD];exact h),zD];rfl
noncomputable def qL(m:M (List (D×D))):M D:=λρ O=>(m ρ O).bind λa c=>match keysOf a with
 |some b=>if b.Nodup/\a.length<=15 then .ok (.dic (a.map (·.1)) (a.map (·.2))) c else .no
 |none=>.no
theorem Prs.length{K:Frag}  :∀{b:List (D×D)}{a:List (V×V)},Prs K F as a b->a.length=b.length
 | [],[],_=>rfl
 | _::b,_::a,h=>by simp[Prs.length h.2.2]
 | [],_::_,h=>h.elim
 | _::_,[],h=>h.elim
theorem Vm     (h:DPE X md P pos keys values m)(x:keys.all (·.isSome)=true:=by rfl)(hl:keys.length=values.length:=by rfl)(h0:keys≠[]:=by exact λz=>nomatch z)(G:keys.length<=15:=by decide):
  VE X md P (.Dict keys values pos) (qL m):=by
 obtain⟨trs,h⟩:=h
 refine(Rt h.1 x hl h0 G).imp λσ H Q q=>?_
 obtain⟨ρ,O,F,t,d,O',r,s,e,k⟩:=q;obtain⟨kv,O1,e1,e⟩:=Res.bind_ok e;split at e
 ·rename_i ks ek;split at e
  ·rename_i hz;cases e;intro p f;have R:Gr H F t (upd H p (.dK [])) F t:=Gr.lay f;refine h.2 σ _ _ ⟨ρ,_,F,t,kv,_,r.lay f,s.step R,e1,λps E l c C U J=>?_⟩
   have j:p∉t:=λz=>r.all z f
   have h2:E p=some (.dK []):=C.fr _ _ bu j rfl;obtain⟨kvs,I,Z,Y,W⟩:=J.kvs ek
   have hlen:kvs.length<=15:=by
    have:=J.length
    rw[I,zx] at this;omega
   refine⟨h2,kvs,I,hlen,?_⟩;rw[GD kvs [] (by rw[zN,Z];exact hz.1),zN]
   have hn:upd H p (.dK []) p≠none:=by rw[bu];exact λz=>nomatch z
   have y:l p=none:=by rw[C.fz p _ bu j rfl];exact r.frF f
   have i:p∉c:=C.out j hn
   have ff:Same l (upd l p (.dK kvs)):=λb u q=>by rw[aH (bI q y)];exact q
   have g3:Gr H F t (upd E p (.dK kvs)) l c:=by
    have g:=R.trans C
    exact⟨g.fz,g.ff,g.nw,λa o e ha hd=>by rw[aH (bI e f)];exact g.fr a o e ha hd,λa e=>by
     by_cases L:a=p
     ·subst L;exact f
     ·rw[aH L] at e;exact g.dm a e,λa o u e=>by rw[aH (bI e f)];exact g.kz a o u e⟩
   have T:RlO X.K X.mg _ (upd E p (.dK kvs)) l c:=U.mut y i;refine k _ _ (upd l p (.dK kvs)) c (g3.frz f y) (T.frz bu y i rfl) ?_;show Rp X.K _ _ _ _;rw[Rp];exact⟨p,kvs,rfl,bu,Y,Rps.mono ff (λ_ _ z=>z) _ W⟩
  ·cases e
 ·cases e
noncomputable def t8:D->D->Option D
 | .dic ks vs,y=>(keyOf y).bind λk=>oE ks vs k
 |x,y=>gIx x y
theorem Vn{K:Frag}        (r:RlO K mg O H F as)(c:Rp K F as x (.dic ks vs))(b:Rp K F as y dy)(e:(keyOf dy).bind (λk=>oE ks vs k)=some d):
  ∃a v,x=.ref a/\lN H a y (some v)/\Rp K F as v d:=by
 obtain⟨a,kvs,rfl,h1,rfl,h2⟩:=c.unD
 cases ek:keyOf dy with
 |none=>rw[ek] at e;cases e
 |some k =>
  rw[ek] at e
  rcases GC k h2 with⟨z,_⟩ | ⟨f,v,z,h3,h4⟩
  ·exact absurd (e.symm.trans z) (λw=>nomatch w)
  ·have:some d=some f:=e.symm.trans z
   cases this;exact⟨a,v,rfl,.inl ⟨kvs,k,.inl (r.fh _ _ h1),Rp.key b ek,h3.symm⟩,h4⟩
theorem Vo  (W:aP k X.A)    (m:SE X md P a ma)(hb:SE X md P b mb)(hs:sX b:=by intro _ _;rfl):VE X md P (.Subscript a b pos) (ak t8 ma mb):=λpins s σ H Q I q=>by
 obtain⟨ρ,O,F,J,d,c,r,sl,e,k⟩:=q;obtain⟨x,h,G,e⟩:=Res.bind_ok e;obtain⟨y,O2,E,e⟩:=Res.bind_ok e;split at e
 ·rename_i d' f;cases e
  cases ex:aX c x with
  |dic ks vs =>
   have ex':x=.dic ks vs:=by
    cases x with
    |ob n =>
     unfold aX at ex;dsimp only at ex
     split at ex<;>cases ex
    | _=>exact ex
   subst ex';rw[ex] at f;refine Ej (v9 W) m hb hs pins s σ H Q I ⟨ρ,O,F,J,_,h,r,sl,G,λv H1 F1 l C L T=>⟨ρ,h,F1,l,_,_,L,sl.step C,E,λu Z F2 j t g U=>?_⟩⟩;have R:=Sv.lk U g
   have i:fO (aX c y)=true:=by
    cases q:aX c y with
    |lst ds=>rw[q] at f;cases f
    | _=>rfl
   obtain⟨Y,w,rfl,h1,h2⟩:=Vn g (Sv.rp (Sv.gr T t) rfl) (R.rp i) f;exact⟨Y,w,rfl,h1,k w Z F2 j (C.trans t) g h2⟩
  | _ =>
   have hg':gIx (aX c x) (aX c y)=some d:=by rw[ex] at f ⊢;exact f
   refine km m hb hs pins s σ H Q I ⟨ρ,O,F,J,d,_,r,sl,?_,k⟩;unfold ak;rw[G];show(mb ρ h).bind _=_;rw[E];show(match gIx (aX c x) (aX c y) with | some d=>Res.ok d c | none=>Res.no)=_;rw[hg']
 ·cases e
theorem lY{p a:Pos}(C:Can X.prog X.w X.K X.mg X.base x ps k (vSp X.K X.mg pm (rV X.K) cf))(d:aP k X.A)(h:AE X md P pm (e::es) ma)(f:Gl X x:=by rfl)(c:(x == ("__debug__":Str))=false:=by decide)(g:starEach (e::es) X.env=(false,eval e X.env)::starEach es X.env:=by exact bF rfl)(b:(backTo a (starEach es X.env)).any (·.1)=false:=by exact cR rfl):
  VE X md P (.Call (.Name x p) (e::es) [] a) (aG cf ma):=Fz bz C d h f c g b
theorem xA{p a:Pos}(C:Can X.prog X.w X.K X.mg X.base x ps k (vSp X.K X.mg pm (rO X.K) cf))(d:aP k X.A)(h:AE X md P pm (e::es) ma)(f:Gl X x:=by rfl)(c:(x == ("__debug__":Str))=false:=by decide)(g:starEach (e::es) X.env=(false,eval e X.env)::starEach es X.env:=by exact bF rfl)(b:(backTo a (starEach es X.env)).any (·.1)=false:=by exact cR rfl):
  OE X md P (.Call (.Name x p) (e::es) [] a) (aG cf ma):=Fz eO C d h f c g b
theorem Vp{md:List Md}{P:Pt}{p a:Pos}(C:Can X.prog X.w X.K X.mg X.base x ps k (vSp X.K X.mg [] (rV X.K) cf))(c:aP k X.A)(d:Gl X x:=by rfl)(b:(x == ("__debug__":Str))=false:=by decide):VE X md P (.Call (.Name x p) [] [] a) (aG cf aq):=Tt bz C c d b
theorem Vq{a apos:Pos}{pl:Sem Bool}(M:lW X.prog X.w X.K X.mg X.base c m ps k (vSp X.K X.mg (.v::pm) (rO X.K) cf))(h:aP k X.A)(i:VE X md P o mo)(j:AE X md P pm (e::es) ma)(b:starEach (e::es) X.env=(false,eval e X.env)::starEach es X.env:=by exact bF rfl)(d:(backTo a (starEach es X.env)).any (·.1)=false:=by exact cR rfl)
  (g:eval (.Call (.Attribute o m apos) (e::es) [] a) X.env=(do
   let ov <-eval o X.env
   standAt apos.atName
   let (f,first) <-holding [ov] (getMethod ov m pl)
   callWith a f first (backTo a (starEach (e::es) X.env)) (backToKw a (keywordEach [] X.env))):=by rfl):OE X md P (.Call (.Attribute o m apos) (e::es) [] a) (jO c m cf mo ma):=U7 eO M h i j b d g
theorem Vr  (M:lW X.prog X.w X.K X.mg X.base c m ps k (vSp X.K X.mg [.v] (rV X.K) cf))(b:aP k X.A)(d:VE X md P o mo)
  (a:eval (.Call (.Attribute o m apos) [] [] pos) X.env=(do
   let ov <-eval o X.env
   standAt apos.atName
   let (f,first) <-holding [ov] (getMethod ov m pl)
   callWith pos f first (backTo pos (starEach [] X.env)) (backToKw pos (keywordEach [] X.env))):=by rfl):VE X md P (.Call (.Attribute o m apos) [] [] pos) (jO c m cf mo aq):=U8 bz M b d a
noncomputable def uc:List D->List D->List D
 |d::ds,e::es=>.tup [d,e]::uc ds es
 | _,_=>[]
noncomputable def GF(ma mb:M D):M (List D):=λρ O=>(ma ρ O).bind λd b=>(mb ρ b).bind λe a=>match d,e with
 | .lst ds,.lst es=>.ok (uc ds es) a
 | _,_=>.no
noncomputable def oF(m:MS):MS:=λρ O=>match m ρ O with
 | .rt d O'=>.rt d O'
 | _=>.no
theorem SlO.toV{K:Frag}      (s:SlO K md P ρ σ H F as)(I:md[i]?=some .o)(ff:Same F F')
  (f:∀(j:Nat) (ds:List D) (a:Addr),j≠i->md[j]?=some .o->ρ[j]?=some (some (.lst ds))->σ[j]?=some (some (.ref a))->F' a=F a)
  (hv:∀d,ρ[i]?=some (some d)->∃v,σ[i]?=some (some v)/\Rp K F' as v d):SlO K (md.set i .v) P ρ σ H F' as:=by
 have J:i<md.length:=(zk.mp I).1
 have back:∀(j:Nat),(md.set i Md.v)[j]?=some Md.o->j≠i/\md[j]?=some .o:=λj e=>by
  by_cases b:j=i
  ·subst b;rw[zL J] at e;cases e
  ·rw[zy (Ne.symm b)] at e;exact⟨b,e⟩
 refine⟨by rw[zR];exact s.len,by rw[zR];exact s.len',s.pd,λj m d c E=>?_,λj k a ds U h1 h2 h3 h4 T R=>s.inj j k a ds U (back j h1).2 (back k h2).2 h3 h4 T R,λx Q=>?_⟩
 ·by_cases b:j=i
  ·subst b;rw[zL J] at c;cases c;exact hv d E
  ·rw[zy (Ne.symm b)] at c;obtain⟨v,q,t⟩:=s.sl j m d c E;refine⟨v,q,?_⟩
   cases m with
   |v=>exact Rp.mono ff (λ_ _ z=>z) _ t
   |s =>
    rcases t with t | ⟨a,g,ds,t1,t2,u,r,l,h⟩
    ·exact .inl (Rp.mono ff (λ_ _ z=>z) _ t)
    ·exact .inr ⟨a,g,ds,t1,t2,u,r,l,Rps.mono ff (λ_ _ z=>z) _ h⟩
   |o =>
    rcases t with⟨y,t⟩ | ⟨a,g,ds,rfl,rfl,u,y,r,l,h⟩
    ·exact .inl ⟨y,Rp.mono ff (λ_ _ z=>z) _ t⟩
    ·exact .inr ⟨a,g,ds,rfl,rfl,u,by rw[f j ds a b c E q];exact y,r,l,Rps.mono ff (λ_ _ z=>z) _ h⟩
 ·obtain⟨C,O,L⟩:=s.pin x Q
  have G:i≠x.1:=λz=>by rw[<-z,I] at C;cases C
  exact⟨by rw[zy G];exact C,O,L⟩
theorem Vs{K:Frag}    (t:md[i]?=some .o){D:Ends}   (q:tMS K mg md P R (oF m) D σ H):tMS K mg (md.set i .v) P R m D σ H:=by
 obtain⟨ρ,O,F,C,r,s,k⟩:=q;unfold oF at k
 cases e:m ρ O with
 |rt d O' =>
  rw[e] at k
  by_cases I:∃x,ρ[i]?=some (some (.lst x))
  ·obtain⟨x,l⟩:=I;obtain⟨a,y,h1,h2,h3,h4,Y,X⟩:=s.own t l
   have ff:Same F (upd F a (.lst y)):=λb u q=>by rw[aH (bI q h3)];exact q
   have Z:GrS P H F C H (upd F a (.lst y)) C:=⟨λc _ p _ _ _=>aH (λz=>Y (by rw[<-z];exact p)),ff,⟨[],by simp,λ_ h=>nomatch h⟩,λ_ _ _ h _ _=>h,λ_ h=>h,λ_ _ _ h=>h⟩;refine⟨ρ,O,upd F a (.lst y),C,r.frz h2 h3 h4 rfl,s.toV t ff (λj es b W T Q G=>?_) (λJ f=>?_),?_⟩
   ·refine aH λz=>W ?_
    rw[z] at G;exact s.inj j i a es x T t Q l G h1
   ·rw[l] at f;cases f;exact⟨_,h1,Rp.mkL (.inl (.inl bu)) (Rps.mono ff (λ_ _ z=>z) _ X)⟩
   ·rw[e]
    exact λv H' F' E g L U=>k v H' F' E (Z.trans g) L U
  ·refine⟨ρ,O,F,C,r,s.toV t (Same.refl F) (λ_ _ _ _ _ _ _=>rfl) (λJ f=>?_),by rw[e];exact k⟩;obtain⟨v,h1,h2⟩:=s.sl i .o J t f
   rcases h2 with⟨_,h2⟩ | ⟨a,y,x,_,rfl,_⟩
   ·exact⟨v,h1,h2⟩
   ·exact absurd ⟨x,f⟩ I
 | _=>rw[e] at k;exact False.elim k
theorem Vt(i:Nat){st:Stmt}  (a:md[i]?=some .o)(h:VS X (md.set i .v) P R st m):VS X md P R st (oF m):=h.imp λ_ _ _=>Vs a
noncomputable def mMl(m:M D):M D:=λρ O=>(m ρ O).bind λd a=>match d with
 | .lst ds=>.ok (.ob a.length) (a++[.ml ds])
 |d=>.ok d a
theorem xB  :∀(n:Nat) (c:Addr),as[n]?=some c->(as++[a])[n]?=some c:=λn c h=>by
 rw[zA (zk.mp h).1];exact h
theorem RlO.snocMl{K:Frag}        (r:RlO K mg O H F as)(j:H a=some (.lst xs))(l:F a=none)(i:a∉as)(h:Rps K F as xs ds):RlO K mg (O++[.ml ds]) H F (as++[a]):=by
 refine⟨r.fh,r.fd,zZ.mpr ⟨r.nd,by simp,λc b d hd=>by rw[zg.mp hd];exact λz=>i (z ▸ b)⟩,by rw[zf,zf,r.len];rfl,λc b=>?_,λn c o b f=>?_⟩
 ·rcases zv.mp b with b | b
  ·exact r.fa c b
  ·rw[zg.mp b];exact l
 ·by_cases g:n<as.length
  ·rw[zA g] at b;rw[zA (by rw[<-r.len];exact g)] at f;exact(r.ob n c o b f).keep rfl (Same.refl F) xB
  ·have hn':n=as.length:=by
    have:=(zk.mp b).1
    rw[zf,zB] at this;omega
   subst hn';rw[zC (zc _),Nat.sub_self] at b;rw[r.len,zC (zc _),Nat.sub_self] at f;cases b;cases f;exact⟨xs,j,Rps.mono (Same.refl F) xB _ h⟩
theorem Vu   (h:OE X md P e m):VE X md P e (mMl m):=h.imp λσ H Q q=>by
 obtain⟨ρ,O,F,U,d,Z,r,s,e,k⟩:=q;obtain⟨x,Y,R,e⟩:=Res.bind_ok e;refine⟨ρ,_,F,U,_,_,r,s,R,λv t u g b i j=>?_⟩
 rcases j with⟨y,j⟩ | ⟨a,W,T,rfl,rfl,L,J,I,G,E⟩
 ·cases x with
  |lst T=>cases y
  | _=>cases e;exact k v t u g b i j
 ·cases e;obtain⟨new,C,l⟩:=b.nw;refine k (.ref a) t u (g++[a]) ⟨b.fz,b.ff,⟨new++[a],by rw[C,zD],λc f=>?_⟩,b.fr,b.dm,b.kz⟩ (i.snocMl L J I E) (Rp.mkO ?_)
  ·rcases zv.mp f with f | f
   ·exact l c f
   ·rw[zg.mp f];exact G
  ·rw[<-i.len,zC (zc _),Nat.sub_self];rfl
theorem GJ     (f:a∈as)(b:H a=some h)  (d:∀o u,h≠.frz o u:=by intro _ _ z;cases z):Gr H F as (upd H a o) F as :=
 ⟨λ_ _ _ _ _=>rfl,Same.refl F,⟨[],by simp,λ_ h=>nomatch h⟩,λc u e hn _=>by rw[aH (λz=>hn (by rw[z];exact f))];exact e,λc e=>by
  by_cases h:c=a
  ·subst h;rw[bu] at e;cases e
  ·rwa [aH h] at e,λc g u e=>by rw[aH (λz=>by rw[z,b] at e;cases e;exact d _ _ rfl)];exact e⟩
theorem RlO.mutO{K:Frag}         (r:RlO K mg O H F as)(d:as[n]?=some a)(q:Rps K F as xs ds):RlO K mg (O.set n (.ml ds)) (upd H a (.lst xs)) F as:=by
 have t:=zT d;refine⟨λc u e=>?_,r.fd,r.nd,by rw[zR];exact r.len,r.fa,λm c o f b=>?_⟩
 ·rw[aH (λz=>by rw[z,r.fa a t] at e;cases e)];exact r.fh c u e
 ·by_cases g:m=n
  ·subst g;rw[d] at f;cases f
   have i:m<O.length:=by rw[<-r.len];exact(zk.mp d).1
   rw[zL i] at b;cases b;exact⟨xs,bu,q⟩
  ·rw[zy (Ne.symm g)] at b
   refine(r.ob m c o f b).keep (aH λz=>g ?_) (Same.refl F) λ_ _ h=>h
   obtain⟨x,j⟩:=zk.mp f;obtain⟨y,l⟩:=zk.mp d;exact(List.getElem_inj r.nd).mp (j.trans (z.trans l.symm))
theorem RlO.ml{K:Frag}     {n:Nat}   (r:RlO K mg O H F as)(b:as[n]?=some a)(c:O[n]?=some (.ml ds)):∃xs,H a=some (.lst xs)/\Rps K F as xs ds:=r.ob n a _ b c
noncomputable def kY(mo m:M D):MS:=λρ O=>match mo ρ O with
 | .ok (.ob n) O1=>match O1[n]? with
  |some (.ml _)=>match m ρ O1 with
   | .ok d O2=>match O2[n]? with
    |some (.ml ds)=>if ds.length<1000000 then .nx ρ (O2.set n (.ml (ds++[d]))) else .no
    | _=>.no
   | _=>.no
  | _=>.no
 | _=>.no
theorem Vv{R:RR}  {apos b l:Pos}  (ho:VE X md P o mo)(h:VE X md P e m)
  (j:attributeBase o "append" X.env (eval o X.env)=eval o X.env:=by rfl)
  (t:((backTo b (starEach [e] X.env)).all (λx=>!x.1)&&(backToKw b (keywordEach [] X.env)).all (λx=>x.1.isSome)&&decide ([e].length+([]:List Keyword).length+(if([]:List Keyword).isEmpty then 0 else 1)<30))=true:=by rfl)
  (i:(apos.endLine == b.line)=true:=by rfl) (hs:starEach [e] X.env=(false,eval e X.env)::starEach [] X.env:=by exact bF rfl) (c:(backTo b (starEach [] X.env)).any (·.1)=false:=by exact cR rfl)
  (I:swapsWith (.Call (.Attribute o "append" apos) [e] [] b) none l.line X.env=pure false:=by rfl):
  VS X md P R (.Expr (.Call (.Attribute o "append" apos) [e] [] b) l) (kY mo m):=
 (qg (nO PySem.F.plainAttrs_list PySem.F.slot_list_append PySem.F.type_list_append Ef ho (dZ h fM hs) j t i hs c) I).imp λD σ H q=>by
  obtain⟨ρ,O,F,as,r,s,k⟩:=q;unfold kY at k;split at k
  ·rename_i n O1 e1;split at k
   ·rename_i ds0 e2;split at k
    ·rename_i d O2 e3;split at k
     ·rename_i ds e4;split at k
      ·rename_i hz;refine⟨ρ,O,F,as,_,_,r,s,e1,λv H1 F1 J C W hv=>?_⟩;obtain⟨a,rfl,Y⟩:=Rp.unO hv;obtain⟨G,x1,x2⟩:=W.ml Y e2;refine⟨.inl ⟨rfl,G,.inl (.inl x1)⟩,ρ,O1,F1,J,d,O2,W,s.step C,e3,λy H2 E g u U hy=>?_⟩;have f:=u.at_ n a Y;obtain⟨T,Q,L⟩:=U.ml f e4;have Z:Gr H2 E g (upd H2 a (.lst (T++[y]))) E g:=GJ (zT f) Q;exact⟨a,T,y,rfl,rfl,Q,by rw[L.length];exact zG hz (by decide),k σ _ E g ((C.trans u).trans Z).toS (U.mutO f (L.snoc hy)) (s.step ((C.trans u).trans Z))⟩
      ·exact False.elim k
     ·exact False.elim k
    ·exact False.elim k
   ·exact False.elim k
  ·exact False.elim k
noncomputable def ud(K:Frag)(mg:Str->Option Value)(x:Str)(ls:List (List Nat)):Prop:=∃(a:Addr) (o:Obj) (b:Array Value) (n:Nat),mg x=some (.ref a)/\K.lookup a=some o/\o.cls=.type "tuple"/\o.data=.seq b n/\b.size<=sizeLine/\aL (ls.map λl=>V.str (S l)) b.toList
theorem Rps.texts{K:Frag}  :∀ls:List (List Nat),Rps K F as (ls.map λl=>V.str (S l)) (ls.map D.str)
 | []=>Rps.nil
 |l::ls=>Rps.cons Rp.str (Rps.texts ls)
theorem Vw  {md:List Md}{P:Pt}   {b:Pos}(h:ud X.K X.mg x ls)(j:Gl X x:=by rfl)(f:(x == ("__debug__":Str))=false:=by decide):VE X md P (.Name x b) (mC (.tup (ls.map D.str))):=by
 obtain⟨a,o,c,n,g,i,h1,h2,h3,h4⟩:=h
 refine(Et (v:=.ref a) ⟨_,g,rfl⟩ j f).imp λσ H Q q=>?_
 obtain⟨ρ,O,F,l,d,m,r,s,e,k⟩:=q;cases e;exact k _ H F l Gr.refl r (Rp.mkT (.inr ⟨o,c,n,i,h1,h2,h3,h4⟩) (Rps.texts ls))
theorem bA{α:Type}{p:List α->Prop}(h:p []):∀us:List α,us.length=0->p us:=λus e=>by
 cases us with
 |nil=>exact h
 |cons a b=>cases e
theorem aR{α:Type}{p:List α->Prop}  (h:∀a,∀us:List α,us.length=n->p (a::us)):∀us:List α,us.length=n+1->p us:=λus e=>by
 cases us with
 |nil=>cases e
 |cons a b=>exact h a b (Nat.succ.inj e)
theorem RlO.snocO{K:Frag}   (r:RlO K mg O H F as)(j:F a=none)(i:a∉as)(h:ObR K mg H F (as++[a]) a o):RlO K mg (O++[o]) H F (as++[a]):=by
 refine⟨r.fh,r.fd,zZ.mpr ⟨r.nd,by simp,λc b d hd=>by rw[zg.mp hd];exact λz=>i (z ▸ b)⟩,by rw[zf,zf,r.len];rfl,λc b=>?_,λn c u b f=>?_⟩
 ·rcases zv.mp b with b | b
  ·exact r.fa c b
  ·rw[zg.mp b];exact j
 ·by_cases g:n<as.length
  ·rw[zA g] at b;rw[zA (by rw[<-r.len];exact g)] at f;exact(r.ob n c u b f).keep rfl (Same.refl F) xB
  ·have hn':n=as.length:=by
    have:=(zk.mp b).1
    rw[zf,zB] at this;omega
   subst hn';rw[zC (zc _),Nat.sub_self] at b;rw[r.len,zC (zc _),Nat.sub_self] at f;cases b;cases f;exact h
theorem RlO.mutG{K:Frag}     (r:RlO K mg O H F as)(d:as[n]?=some a)(q:ObR K mg (upd H a h) F as a o):RlO K mg (O.set n o) (upd H a h) F as:=by
 have t:=zT d;refine⟨λc u e=>?_,r.fd,r.nd,by rw[zR];exact r.len,r.fa,λm c u f b=>?_⟩
 ·rw[aH (λz=>by rw[z,r.fa a t] at e;cases e)];exact r.fh c u e
 ·by_cases g:m=n
  ·subst g;rw[d] at f;cases f
   have i:m<O.length:=by rw[<-r.len];exact(zk.mp d).1
   rw[zL i] at b;cases b;exact q
  ·rw[zy (Ne.symm g)] at b
   refine(r.ob m c u f b).keep (aH λz=>g ?_) (Same.refl F) λ_ _ h=>h
   obtain⟨x,j⟩:=zk.mp f;obtain⟨y,l⟩:=zk.mp d;exact(List.getElem_inj r.nd).mp (j.trans (z.trans l.symm))
theorem RlO.unF{K:Frag}  (r:RlO K mg O H F as)(a:H p=none):F p=none:=by
 cases e:F p with
 |none=>rfl
 |some o=>rw[r.fh p o e] at a;cases a
theorem Gr.snoc   (b:H p=none):Gr H F as (upd H p o) F (as++[p]):=
 ⟨λ_ _ _ _ _=>rfl,Same.refl F,⟨[p],rfl,λa h=>by rw[zg.mp h];exact b⟩,λa u e _ _=>by rw[aH (bI e b)];exact e,λa e=>by
  by_cases h:a=p
  ·subst h;exact b
  ·rwa [aH h] at e,λa c u e=>by rw[aH (bI e b)];exact e⟩
noncomputable def cA(O:az):Nat->D->D
 | 0,d=>d
 |n+1,.ob i=>match O[i]? with
  |some (.ml ds)=>.lst (ds.map (cA O n))
  | _=>.ob i
 |n+1,.lst ds=>.lst (ds.map (cA O n))
 |n+1,.tup ds=>.tup (ds.map (cA O n))
 | _+1,d=>d
theorem qM{K:Frag}{O:az}{H F:Hp}{as:List Addr}{n:Nat}(a:∀(d:D) (v:V),Rp K F as v d->cW (cA O n d)=true->Rep K H v (toP (cA O n d))):∀(ds:List D) (xs:List V),Rps K F as xs ds->jK (ds.map (cA O n))=true->bO K H xs (fU (ds.map (cA O n)))
 | [],xs,h,_=>by rw[h.un0];exact bO.nil
 |d::ds,xs,h,hp=>by
  obtain⟨x,r,rfl,h1,h2⟩:=h.un;rw[zd,jK,zm] at hp;rw[zd,fU];exact bO.cons (a d x h1 hp.1) (qM a ds r h2 hp.2)
theorem lZ{K:Frag}{mg:Str->Option Value}{O:az}{H F:Hp}{as:List Addr}(r:RlO K mg O H F as):∀(n:Nat) (d:D) (v:V),Rp K F as v d->cW (cA O n d)=true->Rep K H v (toP (cA O n d))
 | 0,d,v,h,hp=>Lk.rep (Or.inl h) r.fh hp
 |n+1,.ob i,v,h,hp=>by
  unfold cA at hp ⊢;split at hp
  ·rename_i c e;obtain⟨a,rfl,f⟩:=h.unO;obtain⟨b,h1,h2⟩:=r.ml f e;rw[cW] at hp;rw[toP,Rep];exact⟨a,b,rfl,.inl (.inl h1),qM (lZ r n) c b h2 hp⟩
  ·cases hp
 |n+1,.lst c,v,h,hp=>by
  unfold cA at hp ⊢;obtain⟨a,b,rfl,h1,h2⟩:=h.unL;rw[cW] at hp;rw[toP,Rep];exact⟨a,b,rfl,(h1.mono r.fh).sq,qM (lZ r n) c b h2 hp⟩
 |n+1,.tup c,v,h,hp=>by
  unfold cA at hp ⊢;obtain⟨a,b,rfl,h1,h2⟩:=h.unT;rw[cW] at hp;rw[toP,Rep];exact⟨a,b,rfl,Same.seqT r.fh h1,qM (lZ r n) c b h2 hp⟩
 |n+1,.non,v,h,hp=>Lk.rep (Or.inl h) r.fh hp
 |n+1,.bl _,v,h,hp=>Lk.rep (Or.inl h) r.fh hp
 |n+1,.int _,v,h,hp=>Lk.rep (Or.inl h) r.fh hp
 |n+1,.str _,v,h,hp=>Lk.rep (Or.inl h) r.fh hp
 |n+1,.dic _ _,v,h,hp=>Lk.rep (Or.inl h) r.fh hp
theorem GK{K:Frag}(r:RlO K mg O H F as)    (h:Sv K H F as v d)(b:cW (cA O n d)=true):Rep K H v (toP (cA O n d)):=by
 rcases h with h | ⟨a,c,i,rfl,rfl,g,j,f⟩
 ·exact lZ r n d v h b
 ·cases n with
  |zero=>exact Lk.rep (Or.inr ⟨a,c,i,rfl,rfl,g,f⟩) r.fh b
  |succ n =>
   unfold cA at b ⊢;rw[cW] at b;rw[toP,Rep];exact⟨a,c,rfl,.inl (.inl g),qM (lZ r n) i c f b⟩
end L2
namespace L2
open PySem PySem.Spec PyProof.Rows PySem.W PySem.Calls
structure GP(mg:Str->Option Value):Prop extends Blt mg where
 sorted_:mg "sorted" = none
end L2
namespace L2
open PySem PySem.Spec PyProof.Rows
abbrev Vx(h:Heap)(z TI TO T:Addr)(b:Bool):Prop :=
 h.get? z=some {cls:=.type "zip",dict:=none,data:=.fields #[rawInt T,.bool b,.bool false,.ref TI,.ref TO],slots:=#[]}
structure ZS(base:Nat)(h:Heap)(z TI TO i1 i2 l1 l2 S:Addr)(xs ys acc:Array Value)(c i:Nat):Prop where
 zi:(IsZip h z TI TO .none/\∃a b,IsPair h TO a b)\/∃T b o,Vx h z TI TO T b/\h.get? T=some o/\T∉[z,TO,i1,i2,S]
 ti:IsPair h TI (.ref i1) (.ref i2)
 it1:h.IsListIter i1 l1 i
 it2:h.IsListIter i2 l2 i
 a1:h.IsList l1 xs
 a2:h.IsList l2 ys
 ls:h.get? S=some {cls:=.type "list",dict:=none,data:=.seq acc c,slots:=#[]}
 sz:acc.size=i
 tl:TO<h.objs.size
 nd:acc.toList.Nodup
 ts:∀(j:Nat) (v:Value),acc[j]?=some v->∃(T:Addr) (x y:Value),v=Value.ref T/\xs[j]?=some x/\ys[j]?=some y/\IsPair h T x y/\T∉[z,TO,i1,i2,S]/\base<=T
end L2
namespace L2
open PySem PySem.Spec PyProof.Rows PySem.W
end L2
namespace L2
open PySem PySem.Spec PyProof.Rows
theorem Vy(i:Int)(h:0<=i):Str.ofString (toString i)=S ((Nat.toDigits 10 i.toNat).map Char.toNat):=by
 obtain⟨m,rfl⟩:∃m:Nat,i=(m:Int):=⟨i.toNat,(Int.toNat_of_nonneg h).symm⟩;rw[Int.toNat_natCast,<-PySem.W.KIN.signs_num m,tG]
noncomputable def iz:List D->Option D
 | [.int i]=>if 0<=i/\i<1000000000 then some (.str ((Nat.toDigits 10 i.toNat).map Char.toNat)) else none
 | _=>none
theorem Vz:kE X (.type "str") iz:=by
 intro pins s σ H j b Q I c h;obtain⟨O,F,m,l,d,r,a,e,k⟩:=h;unfold iz at e;split at e
 ·rename_i i;split at e
  ·rename_i g;obtain⟨v,rfl,f⟩:=a.one;cases e;cases(f.rp rfl).unI;refine PJ pins s σ H _ b Q I c ⟨i,rfl,shown (N:=2 ^ 1920) (by omega) (by omega) (Int.le_refl _),?_⟩;have z:=Vy i g.1;refine b7 (v:=.str (Str.ofString (toString i))) r k rfl ?_;rw[z];exact Rp.str
  ·cases e
 ·cases e
structure QBY(mg:Str->Option Value):Prop extends GP mg where
 reversed_:mg "reversed" = none
end L2
namespace L2
open PySem PySem.Spec PyProof.Rows PySem.W
theorem cC.three{K:Frag}      (h:cC K H F as [m1,m2,m3] vs [d,e,f]):∃v u z,vs=[v,u,z]/\rA K m1 (λ_=>True) H F as v d/\rA K m2 (λ_=>True) H F as u e/\rA K m3 (λ_=>True) H F as z f:=by
 cases vs with
 |nil=>exact h.elim
 |cons v vs =>
  obtain⟨h1,h2⟩:=h;obtain⟨u,z,rfl,h3,h4⟩:=cC.two h2;exact⟨v,u,z,rfl,h1,h3,h4⟩
noncomputable def jm(kvs:List (Key×D))(k:Key):Option D:=(kvs.find? λp=>decide (p.1=k)).map (·.2)
noncomputable def kZ(kvs:List (Key×D))(k:Key)(d:D):List (Key×D):=
 if(kvs.any λp=>decide (p.1=k))=true then kvs.map (λp=>if p.1=k then(p.1,d) else p) else kvs++[(k,d)]
noncomputable def DkR(K:Frag)(F:Hp)(as:List Addr)(xs:List (Key×V))(kvs:List (Key×D)):Prop:=xs.map (·.1)=kvs.map (·.1)/\Rps K F as (xs.map (·.2)) (kvs.map (·.2))
theorem DkR.len{K:Frag}   (h:DkR K F as xs kvs):xs.length=kvs.length:=by
 have:=congrArg List.length h.1
 simpa using this
theorem DkR.un{K:Frag}    (h:DkR K F as xs (p::kvs)):∃v r,xs=(p.1,v)::r/\Rp K F as v p.2/\DkR K F as r kvs:=by
 obtain⟨h1,h2⟩:=h
 cases xs with
 |nil=>cases h1
 |cons x r =>
  obtain⟨v,d,e,c,b⟩:=h2.un;cases e;rw[zd,zd] at h1;have a:=(List.cons.inj h1).1;refine⟨x.2,r,?_,c,(List.cons.inj h1).2,b⟩;rw[<-a]
theorem DkR.val{K:Frag} :∀{kvs:List (Key×D)}{xs:List (Key×V)},DkR K F as xs kvs->(jm kvs k=none/\cI xs k=none)\/∃d v,jm kvs k=some d/\cI xs k=some v/\Rp K F as v d
 | [],xs,h=>by
  have:=h.len
  cases xs with
  |nil=>exact .inl ⟨rfl,rfl⟩
  |cons=>cases this
 |p::kvs,xs,h=>by
  obtain⟨v,r,rfl,h1,h2⟩:=h.un
  by_cases e:p.1=k
  ·exact .inr ⟨p.2,v,by simp[jm,List.find?_cons,e],sZ e,h1⟩
  ·rw[show jm (p::kvs) k=jm kvs k by simp[jm,List.find?_cons,e],tu (p:=(p.1,v)) e];exact DkR.val h2
theorem DkR.any{K:Frag} :∀{kvs:List (Key×D)}{xs:List (Key×V)},DkR K F as xs kvs->(xs.any λp=>decide (p.1=k))=kvs.any λp=>decide (p.1=k)
 | [],xs,h=>by
  have:=h.len
  cases xs with
  |nil=>rfl
  |cons=>cases this
 |p::kvs,xs,h=>by
  obtain⟨v,r,rfl,h1,h2⟩:=h.un;rw[List.any_cons,List.any_cons,DkR.any h2]
theorem DkR.repl{K:Frag}    (hv:Rp K F as v d):∀{kvs:List (Key×D)}{xs:List (Key×V)},DkR K F as xs kvs ->
  DkR K F as (xs.map λp=>if p.1=k then(p.1,v) else p) (kvs.map λp=>if p.1=k then(p.1,d) else p)
 | [],xs,h=>by
  have:=h.len
  cases xs with
  |nil=>exact⟨rfl,Rps.nil⟩
  |cons=>cases this
 |p::kvs,xs,h=>by
  obtain⟨u,r,rfl,h1,h2⟩:=h.un;obtain⟨b,a⟩:=DkR.repl (k:=k) hv h2
  by_cases e:p.1=k
  ·rw[zd,zd,if_pos e,if_pos e];exact⟨by rw[zd,zd,b],Rps.cons hv a⟩
  ·rw[zd,zd,if_neg e,if_neg e];exact⟨by rw[zd,zd,b],Rps.cons h1 a⟩
theorem DkR.put{K:Frag}   (h:DkR K F as xs kvs)(k:Key)   (hv:Rp K F as v d):DkR K F as (putK xs k v) (kZ kvs k d):=by
 unfold putK kZ;rw[h.any]
 split
 ·exact h.repl hv
 ·exact⟨by rw[zW,zW,h.1];rfl,by rw[zW,zW];exact Rps.snoc h.2 hv⟩
theorem RlO.dk{K:Frag}{n:Nat}   (r:RlO K mg O H F as)(b:as[n]?=some a)(c:O[n]?=some (.dk kvs)):∃xs,H a=some (.dK xs)/\DkR K F as xs kvs:=let ⟨xs,h1,h2,h3⟩:=r.ob n a _ b c;⟨xs,h1,h2,h3⟩
noncomputable def xC:M D:=λ_ O=>.ok (.ob O.length) (O++[.dk []])
theorem VB :VE X md P (.Dict [] [] pos) xC:=Rn.imp λσ H Q q p a=>by
 obtain⟨ρ,O,F,b,d,c,r,s,e,k⟩:=q;cases e;refine k _ _ F (b++[p]) (Gr.snoc a) ((r.lay a).snocO (r.unF a) (λz=>r.all z a) ⟨[],bu,rfl,Rps.nil⟩) (Rp.mkO ?_);rw[<-r.len,zC (zc _),Nat.sub_self];rfl
noncomputable def qN(mo my a:M D):MS:=λρ O=>match a ρ O with
 | .ok d O1=>match mo ρ O1 with
  | .ok (.ob n) O2=>match my ρ O2 with
   | .ok y O3=>match keyOf y,O3[n]? with
    |some k,some (.dk kvs)=>if kvs.length<1000000 then .nx ρ (O3.set n (.dk (kZ kvs k d))) else .no
    | _,_=>.no
   | _=>.no
  | _=>.no
 | _=>.no
theorem VD  (hr:aP kk X.A)    (ho:VE X md P o mo)(hi:VE X md P i my)(hv:VE X md P value mv)
  (hs:swapsWith value (some (.Subscript o i pos')) pos.line X.env=pure false:=by rfl):VS X md P R (.Assign [.Subscript o i pos'] value pos) (qN mo my mv):=
 (Rk (v9 hr) ho hi hv hs).imp λD σ H q=>by
  obtain⟨ρ,O,F,as,r,s,k⟩:=q;unfold qN at k;split at k
  ·rename_i d O1 e1;split at k
   ·rename_i n O2 e2;split at k
    ·rename_i y O3 e3;split at k
     ·rename_i h kvs e4 e5;split at k
      ·rename_i hz;refine⟨ρ,O,F,as,_,_,r,s,e1,λv H1 U f m r1 hv=>⟨ρ,O1,U,f,_,_,r1,s.step m,e2,λx H2 F2 E l Z hx=>⟨ρ,O2,F2,E,_,_,Z,s.step (m.trans l),e3,λu T g b j L hu=>?_⟩⟩⟩;obtain⟨a,rfl,ha⟩:=Rp.unO hx;have c:=j.at_ n a ha;obtain⟨G,J,I⟩:=L.dk c e5;have C:u=kV h:=(show Rp X.K g b u y from hu).key e4;subst C;have t:=(show Rp X.K U f v d from hv).gr (l.trans j)
       have hl:G.length<sizeLine:=by rw[I.len];exact zG hz (by decide)
       have g4:Gr T g b (upd T a (.dK (putK G h v))) g b:=GJ (zT c) J;have Q:=((m.trans l).trans j).trans g4;obtain⟨Y,W⟩:=I.put h t;exact⟨a,_,rfl,qy.k J hl,k σ _ g b Q.toS (L.mutG c ⟨_,bu,Y,W⟩) (s.step Q)⟩
      ·exact False.elim k
     ·exact False.elim k
    ·exact False.elim k
   ·exact False.elim k
  ·exact False.elim k
noncomputable def mj(mo my:M D):M D:=λρ O=>(mo ρ O).bind λx b=>match x with
 | .ob n=>(my ρ b).bind λy a=>match keyOf y,a[n]? with
  |some k,some (.dk kvs)=>match jm kvs k with
   |some d=>.ok d a
   |none=>.no
  | _,_=>.no
 | _=>.no
theorem VF  (W:aP kk X.A)    (Y:VE X md P o mo)(Z:VE X md P i my)(hs:sX i:=by intro _ _;rfl):VE X md P (.Subscript o i pos) (mj mo my):=
 (Ej (v9 W) Y Z hs).imp λσ H Q q=>by
  obtain⟨ρ,O,F,as,d,O',r,s,e,k⟩:=q;obtain⟨x,O1,e1,e⟩:=Res.bind_ok e
  cases x with
  |ob n =>
   obtain⟨y,O2,e2,e⟩:=Res.bind_ok e;split at e
   ·rename_i m kvs e3 e4;split at e
    ·rename_i d' c;cases e;refine⟨ρ,_,F,as,_,_,r,s,e1,λx H1 F1 h C R T=>⟨ρ,_,F1,h,_,_,R,s.step C,e2,λu H2 E b t l U=>?_⟩⟩;obtain⟨a,rfl,ha⟩:=Rp.unO T;obtain⟨xs,J,I⟩:=l.dk (t.at_ n a ha) e4;have g:u=kV m:=(show Rp X.K E b u y from U).key e3;subst g
     rcases I.val (k:=m) with⟨f,j⟩ | ⟨d2,L,f,j,G⟩
     ·rw[f] at c;cases c
     ·rw[f] at c;cases c;refine⟨a,L,rfl,?_,k _ H2 E b (C.trans t) l G⟩;rw[<-j];exact lN.k J
    ·cases e
   ·cases e
  | _=>cases e
theorem Rps.reverse{K:Frag}  :∀{ds:List D}{xs:List V},Rps K F as xs ds->Rps K F as xs.reverse ds.reverse
 | [],xs,h=>by rw[h.un0];exact Rps.nil
 |d::ds,xs,h=>by
  obtain⟨x,r,rfl,h1,h2⟩:=h.un;rw[List.reverse_cons,List.reverse_cons];exact Rps.snoc (Rps.reverse h2) h1
noncomputable def ue(i:Nat):MS:=λρ O=>match ρ[i]? with
 |some (some (.lst ds))=>.nx (ρ.set i (some (.lst ds.reverse))) O
 | _=>.no
theorem VH{X:Cx}{P:Pt}{R:RR}(i:Nat){x:Str}{p apos b f:Pos}(l:md[i]?=some .o:=by rfl)(y:X.N[i]?=some x:=by rfl)(u:Vis X.env.scope x:=by first | exact Or.inl rfl | exact Or.inr (Or.inl rfl) | exact Or.inr (Or.inr rfl))
  (hd:(x == ("__debug__":Str))=false:=by decide) (h:(x == ("__classdict__":Str))=false:=by decide)
  (d:attributeBase (.Name x p) "reverse" X.env (eval (.Name x p) X.env)=eval (.Name x p) X.env:=by rfl) (c:(apos.endLine == b.line)=true:=by rfl)
  (g:swapsWith (.Call (.Attribute (.Name x p) "reverse" apos) [] [] b) none f.line X.env=pure false:=by rfl):
  VS X md P R (.Expr (.Call (.Attribute (.Name x p) "reverse" apos) [] [] b) f) (ue i):=
 (qg (Q0 PySem.F.plainAttrs_list PySem.F.slot_list_reverse PySem.F.type_list_reverse Q5 (iM (i:=i) y u hd h) d c) g).imp λD σ H q=>by
  obtain⟨ρ,O,F,E,r,s,k⟩:=q;unfold ue at k;split at k
  ·rename_i I t;obtain⟨a,j,h1,h2,h3,h4,m,C⟩:=s.own l t
   have G:H a≠none:=by rw[h2];exact λz=>nomatch z
   exact⟨_,h1,.inl ⟨rfl,j,.inl (.inl h2)⟩,a,j,rfl,rfl,h2,k σ _ F E (t7 h2 m) (r.mut h3 h4) (s.mut l t h1 h3 h4 m (Rps.reverse C))⟩
  ·exact False.elim k
noncomputable def VJ(d ts:TE)(K:Frag):TE:=λσ H Q=>d σ H λx f=>ts σ f λy b=>y=.int (-1)/\∃a c,x=.ref a/\SqL K b a c/\∀p,b p=none->Q (.ref p) (upd b p (.lst c.reverse))
theorem VL{st:Expr}   (m:PE X e te)(d:PE X st ts)(f:∀v i,∃ops,subscripted (.Slice none none (some st) p2) false v i=operate ops (getItem v i)):PE X (.Subscript e (.Slice none none (some st) p2) pos) (VJ te ts X.K):=by
 intro pins s σ H Q I h;refine Subscript_ (thn (m pins s σ H _ I h) λv s1 ⟨x,H1,I1,r1,q1⟩=>wpAny_Slice ?_);rw[evalPart_none];refine zb (zb ?_);rw[evalPart_some]
 refine thn (d pins s1 σ H1 _ I1 q1) λu s2 ⟨y,H2,I2,ry,hy,a,xs,hxa,hx,q⟩=>?_
 subst hy;subst hxa;obtain⟨t,rfl⟩:=ry;cases r1
 have c:Inv X pins σ H2 {s2 with heap:=s2.heap.push {cls:=.type "slice",data:=.fields #[.none,.none,.int (-1) t]}}:=I2.kept (t':=s2.toks) λb ob q=>zl _ q
 obtain⟨C,r,j,l⟩:=c.list hx;have hlen:=r.length;show wpAny (model X.prog X.w) X.A (subscriptTail e (.Slice none none (some st) p2) (.ref a) (.ref s2.heap.objs.size)) (EP X pins σ Q) X.xe {s2 with heap:=s2.heap.push {cls:=.type "slice",data:=.fields #[.none,.none,.int (-1) t]}};obtain⟨ops,g⟩:=f (.ref a) (.ref s2.heap.objs.size);refine tail_any (ops:=ops) j.isList.typeIs slot_list_getitem.lookup ?_ g;refine wpAny_getItem_list_slice j.isList (Heap.IsSliceOf.new ..) .none .none (.int (-1) t) (by decide) ?_ (by rw[zu]<;>omega);rw[PySem.W.krv_pick];refine⟨.ref _,_,c.laid (t':=s2.toks) (o:=.lst xs.reverse) (λb ob q=>zl _ q) (zc _) ?_,rfl,q _ (c.hok.fresh (zc _))⟩
 exact⟨by rw[List.length_reverse];exact l,_,0,r.reverse,zO _ rfl⟩
noncomputable def GQ(m ms:M D):M D:=λρ O=>(m ρ O).bind λd b=>(ms ρ b).bind λy a=>match aX a d,y with
 | .lst ds,.int (-1)=>.ok (.lst ds.reverse) a
 | _,_=>.no
theorem VM{st:Expr}   (T:SE X md P e m)(i:VE X md P st ms)(j:∀v f,∃ops,subscripted (.Slice none none (some st) p2) false v f=operate ops (getItem v f):=by intro v f;exact⟨_,by with_unfolding_all rfl⟩):OE X md P (.Subscript e (.Slice none none (some st) p2) pos) (GQ m ms):=
 (VL T i j).imp λσ H Q q=>by
  obtain⟨ρ,O,F,as,d,O',r,s,e,k⟩:=q;obtain⟨x,O1,e1,e⟩:=Res.bind_ok e;obtain⟨y,O2,Z,e⟩:=Res.bind_ok e;split at e
  ·rename_i ds Y;cases e;refine⟨ρ,_,F,as,_,_,r,s,e1,λv H1 F1 l h G J=>⟨ρ,_,F1,l,_,_,G,s.step h,Z,λu H2 F2 b g c L=>⟨(show Rp X.K F2 b u (.int (-1)) from L).unI,?_⟩⟩⟩;have t:=Sv.lk (J.gr g) c;rw[Y] at t;obtain⟨p,C,rfl,h1,h2⟩:=t.list c.fh;exact⟨p,C,rfl,h1.sq,λq R=>nY c (λE H' F' W I o=>k E H' F' b (h.trans (g.trans W)) I (eO _ _ _ _ _ _ _ (λa U=>(h.trans g).dm a U) o)) R (Rps.reverse h2)⟩
  ·cases e
noncomputable def jn:List Int->Option Int
 | []=>none
 |n::ns=>match jn ns with
  |some m=>some (if m<n then n else m)
  |none=>some n
theorem xD:∀{ns:List Int}{M:Int},M∈ns->(∀a,a∈ns->a<=M)->jn ns=some M
 | [],M,h,_=>nomatch h
 |n::ns,M,h,hM=>by
  unfold jn
  rcases zh.mp h with rfl | h
  ·cases e:jn ns with
   |none=>rfl
   |some m =>
    dsimp only
    have:∀{ns:List Int}{m:Int},jn ns=some m->m∈ns:=by
     intro ns
     induction ns with
     |nil=>intro m h;cases h
     |cons n ns ih =>
      intro m h;unfold jn at h
      cases e:jn ns with
      |none=>rw[e] at h;cases h;exact zj
      |some k =>
       rw[e] at h;dsimp only at h;cases h
       split
       ·exact zj
       ·exact zp _ (ih e)
    have d:=hM m (zp _ (this e))
    by_cases b:m<M
    ·rw[if_pos b]
    ·rw[if_neg b];exact congrArg some (by omega)
  ·rw[xD h λa c=>hM a (zp _ c)];dsimp only
   have:=hM n zj
   by_cases b:M<n
   ·omega
   ·rw[if_neg b]
noncomputable def lg:List D->Option D
 | [.lst ds]=>match kI ds with
  |some ns=>(jn ns).map D.int
  |none=>none
 | _=>none
theorem VP(P:X.calm=true):gO X (.builtin "max") (λxs H Q=>∃(a:Addr) (ns:List Int) (M:Int),xs=[.ref a]/\SqL X.K H a (ns.map V.int)/\jn ns=some M/\Q (.int M) H):=by
 intro pins s σ H xs R Q I r h;obtain⟨a,ns,M,rfl,f,C,q⟩:=h;obtain⟨u,rfl,F⟩:=vals1 r;cases F;obtain⟨c,E,p,T⟩:=I.list f;have l:=intsAre_of E;have y:=p.isList;obtain⟨xs,d⟩:=l.allInts.items;have J:=l.numsOf
 have x:0<ns.length:=by
  cases ns with
  |nil=>cases C
  |cons n ns=>exact Nat.succ_pos _
 have m:0<xs.size:=by
  have h1:c.toArray.size=xs.size:=by rw[d];simp[intItems]
  rw[<-h1,zu,l.length];exact x
 rw[d] at y
 refine max_intList (I.ok.hd P) y m λv U tk G L=>?_
 obtain⟨t,rfl⟩:=intItems_at G;have g:numsOf c=numsOf c.toArray.toList:=rfl;rw[d,nums_intItems] at g;rw[J] at g;obtain⟨h1,h2⟩:=argBest_gt (numAt xs) (xs.size - 1)
 have b:=xD (ns:=ns) (M:=numAt xs (argBest (λi j=>decide (numAt xs i>numAt xs j)) (xs.size - 1))) (by
  rw[g,numAt_eq]
  exact getD_mem (by rw[zx,Array.length_toList];omega)) (λa f=>by
  rw[g] at f;obtain⟨j,O,rfl⟩:=mem_getD f;rw[zx,Array.length_toList] at O;rw[<-numAt_eq]
  exact h2 j (by omega))
 rw[C] at b
 have:=zH b
 rw[<-this];exact⟨.int M,H,I.kept (t':=tk) L,⟨t,rfl⟩,q⟩
theorem VR(l:X.calm=true):kE X (.builtin "max") lg:=by
 intro pins s σ H c f Q I g h;obtain⟨O,F,t,q,d,r,b,e,k⟩:=h;unfold lg at e;split at e
 ·rename_i m;obtain⟨v,rfl,j⟩:=b.one;obtain⟨a,c,rfl,h1,h2⟩:=j.list r.fh
  cases hi:kI m with
  |none=>rw[hi] at e;cases e
  |some ns =>
   rw[hi] at e;dsimp only at e
   cases hm:jn ns with
   |none=>rw[hm] at e;cases e
   |some M =>
    rw[hm] at e;cases e;have i:=h2.ints hi;exact VP l pins s σ H _ f Q I g ⟨a,ns,M,rfl,by rw[<-i];exact h1.sq,hm,b7 r k rfl Rp.int⟩
 ·cases e
end L2
namespace L2
open PySem PySem.Spec PyProof.Rows PySem.W PySem.Calls
structure QBX(mg:Str->Option Value):Prop extends GP mg where
 set_:mg "set" = none
end L2
namespace L2
open PySem PySem.Spec PyProof.Rows
end L2
namespace L2
open PySem PySem.Spec PyProof.Rows PySem.W
noncomputable def msN(m:MS):MS:=λρ O=>match m ρ O with
 | .ex _ _=>.no
 |f=>f
noncomputable def ie(t:M Bool)(a b:MS):MS:=λρ O=>match t ρ O with
 | .ok v O'=>if v=true then a ρ O' else b ρ O'
 | _=>.no
noncomputable def bmV:List Value:=[.type "ValueError",.type "Exception",.type "BaseException",.type "object"]
theorem cj.has       (x:cj P w H h a o):∃u,h.get? a=some u:=by
 cases o with
 |lst b=>exact let ⟨_,_,_,_,e⟩:=x;⟨_,e⟩
 |tup b=>exact let ⟨_,_,_,_,e,_⟩:=x;⟨_,e⟩
 |dK kvs=>exact let ⟨_,_,_,_,_,_,_,e,_⟩:=x;⟨_,e⟩
 |dT kvs=>exact let ⟨_,_,_,_,_,_,_,e,_⟩:=x;⟨_,e⟩
 |dN K kvs=>exact let ⟨_,_,_,_,_,_,_,e,_⟩:=x;⟨_,e⟩
 |set S n=>exact let ⟨_,_,_,_,e,_⟩:=x;⟨_,e⟩
 |ins C i fs=>exact let ⟨_,_,_,e,_⟩:=x;⟨_,e⟩
 |own y=>exact let ⟨_,e⟩:=x;⟨_,e⟩
 |xd fs=>exact let ⟨_,⟨_,_,_,e,_⟩,_⟩:=x;⟨_,e⟩
 |rng d g=>exact let ⟨_,_,_,e⟩:=x;⟨_,e⟩
 |frz ob u=>exact⟨_,x.1⟩
 |tbl c=>exact⟨_,x⟩
 |met f y=>exact⟨_,x⟩
 |ext φ=>exact x.2.1
theorem HOk.only     (x:HOk P w H h)(k:∀b v u,H b=some v->h.get? b=some u->h'.get? b=some u):HOk P w H h':=λa o e =>
 (x a o e).stay (λb u c q=>by
  rcases c with rfl | c
  ·exact k _ _ u e q
  ·exact k b _ u c q) (λ_ q=>q) λ_ _ q=>q
theorem Un.then    (u:Un fs [] H0 H h0 h1)(st:∀b o,h1.get? b=some o->b∉fs->(∃o',h0.get? b=some o')->h2.get? b=some o)
  (fr:∀b o,h1.get? b=some o->b∈fs->∃sl,h2.get? b=some {o with slots:=sl}):Un fs [] H0 H h0 h2 where
 keep:=λb o q n nf nx=>st b o (u.keep b o q n nf nx) nf ⟨o,q⟩
 slot:=λb o q n hb nx=>by
  obtain⟨sl,e⟩:=u.slot b o q n hb nx;obtain⟨sl2,e2⟩:=fr b _ e hb;exact⟨sl2,e2⟩
 free:=u.free
 there:=λb o q nx=>by
  obtain⟨o',e⟩:=u.there b o q nx
  by_cases hb:b∈fs
  ·obtain⟨sl,e2⟩:=fr b o' e hb;exact⟨_,e2⟩
  ·exact⟨o',st b o' e hb ⟨o,q⟩⟩
 tups:=u.tups
 frzs:=u.frzs
 tbls:=u.tbls
theorem xE    (un:Un (frs l) [] H H' h0 h1)(j:B.StaysIn h1)(ff:h1.FunFrames B l)(c:∀b o,h0.get? b=some o->b∉frs l->∃a,B.get? b=some a)(d:B.StaysIn h2)(h:h1.UpToSlots h2):Un (frs l) [] H H' h0 h2 :=
 Un.then un (λb o q n z=>by
  obtain⟨i,z⟩:=z;obtain⟨a,e⟩:=c b i z n;have g:=j b a e;rw[q] at g;cases g
  exact d b _ e) λb o q z=>by
  obtain⟨_,a,f,nf⟩:=ff.mem z;rw[q] at f;cases f;exact h b o q nf
theorem xF    {B:Heap}(hok:HOk P w H h1)(trk:∀b u,H b=some u->∃o,B.get? b=some o)(f:B.StaysIn h1)(a:B.StaysIn h2):HOk P w H h2:=hok.only λb v u e q=>by
 obtain⟨o,d⟩:=trk b v e;have c:=f b o d;rw[q] at c;cases c;exact a b _ d
theorem Inv.gone{σ:St}    (I:Inv X pins σ H s)(m:h'.Ns X.env.locals m')(hs:Heap.SameBut X.env.locals s.heap h'):Inv X pins (List.replicate X.N.length none) H {s with heap:=h',toks:=t'}:=by
 have ne:∀b o,X.s₀.heap.get? b=some o->b≠X.env.locals:=λb o e=>zz (zG (ze e) I.ok.above)
 refine⟨I.ok,I.os,I.bare,⟨λb o e n f a=>(hs.2 b (ne b o e)).trans (I.base.keep b o e n f a),λb o e n f a=>?_,I.base.free,λb o e a=>?_,I.base.tups,I.base.frzs,I.base.tbls⟩,⟨m',m,λi x v _ e2 _=>?_⟩,λy c e=>?_,I.free,I.freeC,λp l=>?_,I.hok.only λb v u e q=>(hs.2 b λz=>?_).trans q,List.length_replicate⟩
 ·obtain⟨sl,g⟩:=I.base.slot b o e n f a;exact⟨sl,(hs.2 b (ne b o e)).trans g⟩
 ·obtain⟨j,g⟩:=I.base.there b o e a;exact⟨j,(hs.2 b (ne b o e)).trans g⟩
 ·rw[List.getElem?_replicate] at e2
  split at e2<;>cases e2
 ·obtain⟨v,z⟩:=I.cell y c e;exact⟨v,z.sameBut hs (I.cne y c e)⟩
 ·obtain⟨e,n,h,nf,d⟩:=I.pin p l;exact⟨(hs.2 p.1 h).trans e,n,h,nf,d⟩
 ·rw[z,I.free] at e;cases e
noncomputable def D2(D:Ends):Ends:={nx:=λ_ _=>False,rt:=D.rt}
end L2
namespace L2
open PySem PySem.Spec PyProof.Rows PySem.W PySem.Calls PySem.Builtin PySem.Builtin.ObjectAttr PySem.Builtin.Getset_descriptor
theorem V0{K:Frag}{os:OsState}   (X:K.In h)(b:h.get? a=some o)(i:o.cls=.ref C)(f:mroIn K C (.type "object")=some true)(c:R (.ok (.ret (.ref C))) ⟨h,g,d,t,os⟩):
  codeAny (model prog w) A (.call (.builtin "getset_descriptor.__get__") ⟨[.builtin "object.__class__",.ref a,tp],[]⟩) R ⟨h,g,d,t,os⟩:=by
 have l:Looks (model prog w) h (typeOf (.ref a)) (.ref C):=i ▸ (Looks.ld b).andThen .now;have j:=looks_mroIn (M:=model prog w) X f;refine codeAny_call_builtin KF.slot_gs.plain KF.entry_gs (KF.slot_gs.check _ _ _ _ _ _ _ _ KF.type_class (KF.args_gs _ _ _) ?_);unfold Builtin.«getset_descriptor.__get__» descrGet;rw[dga_obj];refine za (zb ?_);unfold descrGetter descrCheckInstance descrNameAndClass isInstance;simp only[KF.owner_class]
 repeat lk
 refine⟨Code.quiet_builtin _ (by decide +kernel),codeAny_builtin KF.entry_class ?_⟩;unfold Builtin.«object.__class__» shownTypeOf
 repeat lk
 exact c
structure gq(K:Frag)(C:Addr):Prop where
 ga:findIn K (.ref C) "__getattribute__" = some (some (.builtin "BaseException.__getattribute__"))
 na:findIn K (.ref C) "__getattr__" = some none
 ca:findIn K (.ref C) "__class__" = some (some (.builtin "object.__class__"))
 sp:specialIn K (.builtin "object.__class__") "__get__" = some (some (.builtin "getset_descriptor.__get__"))
 tk:takesIn K (.builtin "object.__class__")=some true
 ob:mroIn K C (.type "object")=some true
 be:mroIn K C (.type "BaseException")=some true
 cl:(clsIn K C).isSome=true
theorem V1{K:Frag}{os:OsState}   (b:gq K C)(X:K.In h)(c:h.get? a=some o)(f:o.cls=.ref C)(i:Q (.done (.ret (.ref C))) ⟨h,g,d,t,os⟩):
  wpAny (model prog w) A (Builtin.«object.__getattribute__» ⟨[.ref a,.str "__class__" tk],[]⟩) Q E ⟨h,g,d,t,os⟩:=by
 have q:Looks (model prog w) h (typeOf (.ref a)) (.ref C):=f ▸ (Looks.ld c).andThen .now;have m:=looks_findIn (M:=model prog w) X b.ca;have l:=looks_specialIn (M:=model prog w) X b.sp;have j:=looks_takesIn (M:=model prog w) X b.tk;unfold Builtin.«object.__getattribute__»;refine za (wpAny_of_eq (a:=(Value.ref a,[Value.str "__class__" tk])) rfl ?_);dsimp only;refine za (zb ?_);refine za (q.at ?_);unfold find getOf;refine za (za (m.at (za (l.at (za ?_)))));unfold dataDescriptor?;refine za (j.at ?_);rw[if_pos rfl];refine zb ?_;dsimp only;refine za (wpAny_rule (zb ?_));dsimp only;unfold bindTo
 dsimp only;refine za (zK (zX (V0 X c f b.ob ?_)));exact zb i
theorem GR{K:Frag}{os:OsState}   (q:gq K C)(X:K.In h)(b:h.get? a=some o)(f:o.cls=.ref C)(c:Q () ⟨h,g,d,t,os⟩):wpAny (model prog w) A (checkBuiltinCall "BaseException.__getattribute__" ⟨[.ref a,nv],[]⟩) Q E ⟨h,g,d,t,os⟩:=by
 have m:Looks (model prog w) h (isInstance (.ref a) (.type "BaseException")) true:=(show Looks (model prog w) h (typeOf (.ref a)) (.ref C) from f ▸ (Looks.ld b).andThen .now).andThen (looks_mroIn X q.be)
 have l:builtinKind "BaseException.__getattribute__" = some .slot:=by decide +kernel
 have j:splitId "BaseException.__getattribute__" = some ("BaseException","__getattribute__"):=by decide +kernel
 have i:=PySem.F.args_bexc_ga (.ref a) nv;simp only[checkBuiltinCall,l,j];refine za (m.at ?_);rw[if_neg (by decide)];exact wpAny_of_eq (a:=()) i c
theorem V2{K:Frag}{os:OsState}  (b:gq K C)(X:K.In h)(c:h.get? a=some o)(f:o.cls=.ref C)(m:Q (some (.ref C)) ⟨h,g,d,t+1,os⟩):
  wpAny (model prog w) A (getAttr? (.ref a) "__class__") Q E ⟨h,g,d,t,os⟩:=by
 have l:Looks (model prog w) h (typeOf (.ref a)) (.ref C):=f ▸ (Looks.ld c).andThen .now;have r:=looks_findIn (M:=model prog w) X b.ga;have q:=looks_findIn (M:=model prog w) X b.na;have u:Looks (model prog w) h (isInstance (.ref a) (.type "BaseException")) true:=l.andThen (looks_mroIn X b.be);have j:=PySem.F.attrBase_ValueError.ga.bind (.ref a)
 have i:(onTheHeap (Value.ref C)&&Value.builtin "BaseException.__getattribute__" == Value.builtin "object.__getattribute__")=false:=by rw[show(Value.builtin "BaseException.__getattribute__" == Value.builtin "object.__getattribute__")=false by decide +kernel,Bool.and_false]
 unfold getAttr? getAttrBy? getAttrBy;refine za (wpAny_mkText ?_);refine za (wpAny_attempt (zK ?_));refine za (l.at ?_);refine za (r.at ?_);dsimp only;rw[if_neg (by rw[i];exact zq)];unfold getAttrByItsOwn;refine za ?_;unfold hookBefore;rw[if_pos (show onTheHeap (Value.ref C)=true from rfl)];refine q.at ?_;refine za (wpAny_attempt (zK ?_));unfold callGetattribute;rw[if_neg (by decide)];unfold boundAndCalled;refine za (wpAny_of_eq j ?_);refine zX (codeAny_call_builtin PySem.F.attrBase_ValueError.ga.plain PySem.F.entry_bexc_ga (GR b X c f (V1 b X c f ?_)));show wpAny (model prog w) A (handedOut (.ref C)) _ _ _
 exact handed_on rfl (zb m)
noncomputable def HX(a C:Addr)(h:Heap):Prop:=∃o,h.get? a=some o/\o.cls=.ref C
theorem GX{K:Frag}(F0:gq K C):KitX K (.ref a) (.ref C) (HX a C) where
 ty:=λ_ _ _ p=>by
  obtain⟨o,q1,q2⟩:=p;exact q2 ▸ (Looks.ld q1).andThen .now
 it:=λ_ _ X _=>by
  have z:=F0.cl;unfold clsIn at z;split at z
  case h_1 c1 d1 cd1 sl1 lk1=>exact λA1 Q1 E1 s1 k1 q1=>by unfold isType loadHead;exact za (wpAny_loadPart (k1 _ _ (X _ _ lk1)) (zb q1))
  case h_2=>cases z
 ne:=λh tp dd its n sl X p=>by
  cases e:(Value.ref C == Value.ref tp) with
  |false=>rfl
  |true =>
   have e':C=tp:=Value.ref.inj (beq_iff_eq.mp e);subst e';have z:=F0.cl;unfold clsIn at z;split at z
   case h_1 =>
    have y:=X _ _ ‹_›;rw[p] at y;cases y
   case h_2=>cases z
 ca:=λ{_ _ _ _ _ s} X p k=>by
  obtain⟨o,q1,q2⟩:=p;obtain⟨h,g,d,t,os⟩:=s;exact V2 F0 X q1 q2 k
end L2
namespace L2
open PySem PySem.Spec PyProof.Rows PySem.W
noncomputable def uf:V->Option Value
 | .ref a=>some (.ref a)
 | .ty n=>some (.type n)
 | _=>none
theorem GZ   (h:RelV v u)(e:uf v=some c):u=c:=by
 cases v<;>cases e<;>exact h
noncomputable def oG:List V->Option (List Value)
 | []=>some []
 |v::vs=>(uf v).bind λc=>(oG vs).map (c :: ·)
theorem G3:∀{vs:List V}{us a:List Value},aL vs us->oG vs=some a->us=a
 | [],_,_,.nil,e=>by cases e;rfl
 |v::vs,_,_,.cons r t,e=>by
  obtain⟨c,f,d⟩:=Option.bind_eq_some_iff.mp e;obtain⟨l,b,rfl⟩:=Option.map_eq_some_iff.mp d;rw[GZ r f,G3 t b]
noncomputable def oH(X:Cx):List Expr->List V->Prop
 | [],vs=>vs=[]
 |e::es,vs=>∃v r,vs=v::r/\(∀Y:Cx,Y.env=X.env->Y.mg=X.mg->PE Y e (tC v))/\starEach (e::es) X.env=(false,eval e X.env)::starEach es X.env/\oH X es r
end L2
namespace L2
open PySem PySem.Spec PyProof.Rows
end L2
namespace L2
open PySem PySem.Spec PyProof.Rows PySem.W
noncomputable def gw(mg:Str->Option Value):List Str->List Addr->Prop
 | [],as=>as=[]
 |n::ns,as=>∃a r,as=a::r/\mg n=some (.ref a)/\gw mg ns r
theorem G4:∀as:List Addr,oG (as.map V.ref)=some (as.map Value.ref)
 | []=>rfl
 |a::as=>by
  show oG (V.ref a::as.map V.ref)=_;unfold oG;rw[G4 as];rfl
theorem gw.len :∀{ns:List Str}{as:List Addr},gw mg ns as->as.length=ns.length
 | [],as,h=>by
  have h':as=[]:=h;rw[h'];rfl
 |n::ns,as,h=>by
  obtain⟨a,r,rfl,_,h2⟩:=h;rw[zt,h2.len,zt]
theorem V3:∀as,gw X.mg [] as->oH X [] (as.map V.ref):=λas h=>by
 have h':as=[]:=h;subst h';exact rfl
theorem jP    {p:Pos}(h:∀as,gw X.mg ns as->oH X es (as.map V.ref))(c:Gl X n:=by rfl)(hd:(n == ("__debug__":Str))=false:=by decide)(hs:starEach (.Name n p::es) X.env=(false,eval (.Name n p) X.env)::starEach es X.env:=by rfl):
  ∀as,gw X.mg (n::ns) as->oH X (.Name n p::es) (as.map V.ref):=λas z=>by
 obtain⟨a,r,rfl,b,z⟩:=z;exact⟨.ref a,_,rfl,λY f d=>vK (show Y.env.kindOf n=_ by rw[f];exact c) (by rw[d];exact b) rfl hd,hs,h r z⟩
theorem Inv.goneI{σ:St}      (I:Inv X pins σ H s)(Q:X.N.Nodup)(P:X.N[i]?=some n)
  (Z:∀(i:Nat) (x:Str) (v:V),X.N[i]?=some x->σ[i]?=some (some v)->Vis X.env.scope x->∃u,RelV v u/\Look X.env s.heap m x u)
  (Y:h'.Ns X.env.locals (λx=>if x=n then v else m x)) (hs:Heap.SameBut X.env.locals s.heap h'):Inv X pins (σ.set i none) H {s with heap:=h',toks:=t'}:=by
 have ne:∀b o,X.s₀.heap.get? b=some o->b≠X.env.locals:=λb o e=>zz (zG (ze e) I.ok.above)
 refine⟨I.ok,I.os,I.bare,⟨λb o e n C f=>(hs.2 b (ne b o e)).trans (I.base.keep b o e n C f),λb o e n C f=>?_,I.base.free,λb o e f=>?_,I.base.tups,I.base.frzs,I.base.tbls⟩,⟨_,Y,λj x R a l e3=>?_⟩,λy c e=>?_,I.free,I.freeC,λp W=>?_,I.hok.only λb v u e q=>(hs.2 b λz=>?_).trans q,by rw[zR];exact I.len⟩
 ·obtain⟨sl,a⟩:=I.base.slot b o e n C f;exact⟨sl,(hs.2 b (ne b o e)).trans a⟩
 ·obtain⟨T,a⟩:=I.base.there b o e f;exact⟨T,(hs.2 b (ne b o e)).trans a⟩
 ·have g:j≠i:=λz=>by
   subst z;rw[zL (by rw[I.len];exact(zk.mp P).1)] at l;cases l
  rw[zy (Ne.symm g)] at l;obtain⟨u,r,lk⟩:=Z j x R a l e3;refine⟨u,r,?_⟩
  have E:x≠n:=λz=>by
   subst z;obtain⟨L,J⟩:=zk.mp a;obtain⟨G,F⟩:=zk.mp P
   rcases Nat.lt_trichotomy j i with q | q | q
   ·exact List.pairwise_iff_getElem.mp Q j i L G q (J.trans F.symm)
   ·exact g q
   ·exact List.pairwise_iff_getElem.mp Q i j G L q (F.trans J.symm)
  rcases lk with⟨t,h⟩ | ⟨t,c,h,U⟩
  ·exact .inl ⟨t,(if_neg E).trans h⟩
  ·exact .inr ⟨t,c,h,U.sameBut hs (I.cne x c h)⟩
 ·obtain⟨v,z⟩:=I.cell y c e;exact⟨v,z.sameBut hs (I.cne y c e)⟩
 ·obtain⟨e,n,O,nf,d⟩:=I.pin p W;exact⟨(hs.2 p.1 O).trans e,n,O,nf,d⟩
 ·rw[z,I.free] at e;cases e
theorem SlO.drop{K:Frag}       (s:SlO K md P ρ σ H F as)(h:md[i]?=some .v):SlO K md P (ρ.set i none) (σ.set i x) H F as:=by
 have E:i<ρ.length:=by rw[s.len'];exact(zk.mp h).1
 have ne:∀(j:Nat) (d:D),(ρ.set i none)[j]?=some (some d)->j≠i/\ρ[j]?=some (some d):=λj d e=>by
  by_cases b:j=i
  ·subst b;rw[zL E] at e;cases e
  ·rw[zy (Ne.symm b)] at e;exact⟨b,e⟩
 refine⟨by rw[zR];exact s.len,by rw[zR];exact s.len',s.pd,λj m d I g=>?_,λj k a J G h1 h2 h3 h4 q l=>?_,λy u=>?_⟩
 ·obtain⟨b,g⟩:=ne j d g;rw[zy (Ne.symm b)];exact s.sl j m d I g
 ·obtain⟨b,h3⟩:=ne j _ h3;obtain⟨C,h4⟩:=ne k _ h4;rw[zy (Ne.symm b)] at q;rw[zy (Ne.symm C)] at l;exact s.inj j k a J G h1 h2 h3 h4 q l
 ·obtain⟨f,t,r⟩:=s.pin y u
  have c:i≠y.1:=λz=>by rw[<-z,h] at f;cases f
  rw[zy c,zy c];exact⟨f,t,r⟩
noncomputable def DK(h h':Heap):Prop:=∀b o,h.get? b=some o->∃a,h'.get? b=some a/\a.dict=o.dict
theorem DK.refl(h:Heap):DK h h:=λ_ o e=>⟨o,e,rfl⟩
theorem DK.trans  (x:DK h h')(y:DK h' h2):DK h h2:=λb o e=>by
 obtain⟨f,i,c⟩:=x b o e;obtain⟨d,g,a⟩:=y b f i;exact⟨d,g,a.trans c⟩
theorem DK.upd    (d:∀o,o.isFreed=false->(f o).isFreed=false/\(f o).dict=o.dict):DK h (h.update a f):=λb o e=>by
 by_cases z:a=b
 ·subst z;have c:=(Heap.get?_some_iff.mp e).2;exact⟨f o,Heap.get?_update_self f e (d o c).1,(d o c).2⟩
 ·exact⟨o,(Heap.get?_update_other h f z).trans e,rfl⟩
noncomputable def KD :Sem α->Prop
 | .pure _=>True
 | .raise _=>True
 | .unsupported _=>True
 | .finish _=>True
 | .rule _ k=>KD (k ())
 | .at _ k=>KD (k ())
 | .load _ _ k=>∀o,KD (k o)
 | .update _ _ f k=>(∀o,o.isFreed=false->(f o).isFreed=false/\(f o).dict=o.dict)/\KD (k ())
 | .alloc _ k=>∀a,KD (k a)
 | .loadIfAlive _ k=>∀o,KD (k o)
 | .point _ k=>KD (k ())
 | .fresh k=>∀t,KD (k t)
 | .ask k=>∀x,KD (k x)
 | .handled _ k=>∀v,KD (k v)
 | .stack k=>∀l,KD (k l)
 | .thread k=>∀n,KD (k n)
 | _=>False
theorem cF  {t:Sem α}{f:α->Sem β}(h:KD t)(c:∀a,KD (f a)):KD (t.bind f):=by
 induction t with
 |pure a=>exact c a
 |raise | unsupported | finish=>trivial
 |rule _ k b=>exact b () h
 | «at» _ k b=>exact b () h
 |point _ k b=>exact b () h
 |load _ _ k b=>exact λo=>b o (h o)
 |update _ _ g k b=>exact⟨h.1,b () h.2⟩
 |alloc _ k b=>exact λo=>b o (h o)
 |loadIfAlive _ k b=>exact λo=>b o (h o)
 |fresh k b=>exact λo=>b o (h o)
 |ask k b=>exact λo=>b o (h o)
 |handled _ k b=>exact λo=>b o (h o)
 |stack k b=>exact λo=>b o (h o)
 |thread k b=>exact λo=>b o (h o)
 | _=>exact False.elim h
theorem V4  {M:Model}  {t:Sem α}(h:KD t)  {Q:α->Pos->Shared->Prop}    (d:DK h0 s.heap)(w:Sem.wp M Γ t Q E p s):
  Sem.wp M Γ t (λa f s'=>Q a f s'/\DK h0 s'.heap) (λe f s'=>E e f s'/\DK h0 s'.heap) p s:=by
 induction t generalizing p s with
 |pure a=>exact⟨w,d⟩
 |raise e=>exact⟨w,d⟩
 |unsupported=>exact w
 |finish=>exact w
 |rule _ k c=>exact c () h d w
 | «at» _ k c=>exact c () h d w
 |point _ k c=>exact c () h d w
 |load _ _ k c=>obtain⟨o,e,w⟩:=w;exact⟨o,e,c o (h o) d w⟩
 |update _ _ g k c=>obtain⟨e,w⟩:=w;exact⟨e,c () h.2 (d.trans (DK.upd h.1)) w⟩
 |alloc o k c=>exact c _ (h _) (d.trans λb i e=>⟨i,zl _ e,rfl⟩) w
 |loadIfAlive _ k c=>exact c _ (h _) d w
 |fresh k c=>exact c _ (h _) d w
 |ask k c=>exact c _ (h _) d w
 |handled _ k c=>exact c _ (h _) d w
 |stack k c=>exact c _ (h _) d w
 |thread k c=>exact c _ (h _) d w
 | _=>exact False.elim h
theorem lq  {M:Model}  {t:Sem α}(h:KD t){Q:α->Shared->Prop}   (w:wpAny M A t Q E s):wpAny M A t (λa s'=>Q a s'/\DK s.heap s'.heap) (λe s'=>E e s'/\DK s.heap s'.heap) s:=λΓ p b=>V4 h (DK.refl _) (w Γ p b)
theorem xG(a:Addr):KD (load a):=λ_=>trivial
theorem xH:KD stack:=λ_=>trivial
theorem ug(v:Value)(i:Nat):KD (field v i):=by
 unfold field fieldsOf
 refine cF ?_ λa=>?_
 ·split
  ·refine cF (xG _) λo=>?_
   split<;>trivial
  ·trivial
 ·split<;>trivial
theorem G5   (b:∀o,o.isFreed=false->(f o).isFreed=false/\(f o).dict=o.dict):KD (update a f):=⟨b,trivial⟩
theorem uh(v:Value)(i:Nat)(x:Value):KD (setField v i x):=by
 unfold setField
 split
 ·unfold updateField
  refine cF (xG _) λo=>?_
  split
  ·split
   ·refine G5 λo h=>?_
    unfold Obj.mapFields
    split
    ·exact⟨rfl,rfl⟩
    ·exact⟨h,rfl⟩
   ·trivial
  ·trivial
 ·trivial
theorem qO(e:Value)(f:Option Addr):KD (setFlight e f):=by
 unfold setFlight
 refine cF (ug _ _) λtb=>?_
 split
 ·exact uh _ _ _
 ·trivial
theorem V5:KD frameEnvs:=by
 unfold frameEnvs
 exact cF xH λ_=>trivial
theorem V6(env:Env)(l:List Env):KD (behindIsImport env l):=by
 unfold behindIsImport
 split
 ·trivial
 ·split
  ·trivial
  ·exact cF (ug _ _) λ_=>trivial
theorem V7(env:Env)(b:Bool)(l:List Env):KD (keptBack env b l):=by
 unfold keptBack
 split
 ·split
  ·trivial
  ·refine cF ?_ λ_=>trivial
   unfold underTheClaimsCaller
   exact cF xH λ_=>trivial
 ·trivial
theorem G6:∀l:List Env,KD (readyFrames l)
 | []=>trivial
 |env::outer=>by
  unfold readyFrames
  split
  ·refine cF (xG _) λo=>?_
   split
   ·trivial
   ·exact cF (V6 _ _) λb=>cF (V7 _ _ _) λk=>cF (G5 λo h=>⟨(by revert h;unfold Obj.isFreed;cases o with | mk c d dt sl=>cases dt<;>exact id),rfl⟩) λ_=>G6 outer
  ·trivial
theorem G7(env:Env):KD (PySem.frameOf env):=by
 unfold PySem.frameOf
 refine cF V5 λl=>cF ?_ λo=>?_
 ·unfold frameObject
  split
  ·trivial
  ·exact cF (G6 _) λ_=>trivial
 ·split<;>trivial
theorem kd_new(ty:String)(vs:List Value):KD (newFields ty vs):=by
 have k:KD (newObjAsIs (.type ty) (.fields vs.toArray)):=by
  unfold newObjAsIs
  exact cF (t:=alloc _) (λ_=>trivial) λ_=>trivial
 unfold newFields newObj;dsimp only
 split
 ·exact cF (t:=unsupported _) trivial λ_=>k
 ·exact k
theorem G8(a b c d e:Value)(l:List Value):KD (EntryCells.newEntry a b c d e l):=kd_new _ _
theorem G9(f:Addr)(b:Bool):KD (entryPlaceOf f b):=by
 unfold entryPlaceOf
 refine cF xH λl=>?_
 split<;>trivial
theorem xJ(e:Value)(env:Env):KD (noteFrame e env):=by
 unfold noteFrame
 split
 ·refine cF (ug _ _) λh=>?_
  split
  ·refine cF (ug _ _) λx=>?_
   split
   ·trivial
   ·exact cF (uh _ _ _) λ_=>cF (G7 _) λ_=>cF (G9 _ _) λ_=>cF (G8 _ _ _ _ _ _) λ_=>uh _ _ _
  ·exact cF (G7 _) λ_=>cF (G9 _ _) λ_=>cF (G8 _ _ _ _ _ _) λ_=>uh _ _ _
 ·trivial
theorem Ha(env:Env)(e:Value):KD (leaving env e):=cF (xJ _ _) λ_=>qO _ _
noncomputable def fV(m:M (List D))(g:MG)(b:MS):MS:=λρ O=>match m ρ O with
 | .ok ds O'=>aO g b ds ρ O'
 | _=>.no
noncomputable def fW(c:List D->az->Res D)(ma:M (List D)):M D:=λρ O=>match ma ρ O with
 | .ok ds O1=>c ds O1
 | _=>.no
noncomputable def mq(m:M D):MS:=λρ O=>match m ρ O with
 | .ok _ O'=>.nx ρ O'
 | .ex x O'=>.ex x O'
 | .no=>.no
noncomputable def oJ(c m:Str)(a:List D->az->Res D)(mo:M D)(ma:M (List D)):M D:=λρ O=>match mo ρ O with
 | .ok (.ob n) O1=>match O1[n]? with
  |some (.ins c' fs)=>if c'=c/\(fs.lookup m).isNone=true then(match ma ρ O1 with
   | .ok ds O2=>a (.ob n::ds) O2
   | _=>.no) else .no
  | _=>.no
 | _=>.no
noncomputable def CXF(j:Program)(w:World):CXT:=λouter H s E e a=>∃(f C:Addr) (d:Hp) (B:Heap) (i:Value) (c:Option Addr),e=.ref f/\a.os=s.os/\AllBare a.gens/\Un (frs outer) [] H d s.heap a.heap/\HOk j w d a.heap /\
 Heap.FlyingW B outer f (.ref C) i a.heap/\(∀b u,d b=some u->∃o,B.get? b=some o)/\(∀b o,s.heap.get? b=some o->b∉frs outer->∃h,B.get? b=some h)/\(∃g,a.heap.get? f=some g/\g.dict=c)/\E (.ref C) c d
noncomputable def Raw(X:Cx)(H:Hp)(s:Shared)(ea C:Addr)(c:Option Addr):Prop:=∃(a:Obj) (b:Array Value) (d:Value),s.heap.get? ea=some a/\a.cls=.ref C/\a.dict=c/\a.data=.fields b/\b[1]?=some .none/\b[0]?=some d/\H ea=none/\X.s₀.heap.get? ea=none
noncomputable def exR(X:Cx)(x:Xc)(a:Option Addr)(H:Hp):Prop:=∀(pins:List (Addr×Obj)) (σ:St) (s:Shared) (b C:Addr),X.mg x.cls=some (.ref C)->Inv X pins σ H s->Raw X H s b C a->X.xe (.ref b) s
noncomputable def exL(X:Cx)(x:Xc)(a:Option Addr)(H:Hp):Prop:=∀(pins:List (Addr×Obj)) (σ:St) (c:Hp) (s:Shared) (e:Value) (b:Shared),Inv X pins σ c s->CXF X.prog X.w X.stack c s (λf d g=>∃C,f=.ref C/\X.mg x.cls=some (.ref C)/\d=a/\g=H) e b->X.xe e b
noncomputable def exV(X:Cx)(x:Xc)(a:Option Addr)(H:Hp):Prop:=exR X x a H/\exL X x a H
abbrev WX:=Xc->Option Addr->Hp->Prop
noncomputable def dj(K:Frag)(mg:Str->Option Value)(md:List Md)(P:Pt)(R:RR)(W:WX)(D:Ends)(H F:Hp)(as:List Addr):Fl->Prop
 | .ex x O'=>∀b c d a,GrS P H F as c d a->RlO K mg O' c d a->XF K d a b x.fs->W x b c
 |f=>iu K mg md P R D H F as f
noncomputable def oK(K:Frag)(mg:Str->Option Value)(md:List Md)(P:Pt)(R:RR)(W:WX)(m:MS):TS:=λD σ H =>
 ∃ρ O F a,RlO K mg O H F a/\SlO K md P ρ σ H F a/\dj K mg md P R W D H F a (m ρ O)
noncomputable def VSF(X:Cx)(md:List Md)(P:Pt)(R:RR)(st:Stmt)(m:MS):Prop:=PS X st (oK X.K X.mg md P R (exV X) m)
noncomputable def gD(X:Cx)(md:List Md)(P:Pt)(R:RR)(st:List Stmt)(m:MS):Prop:=PSs X st (oK X.K X.mg md P R (exV X) m)
theorem dj.gr{K:Frag}   {D:Ends}    (g:GrS P H F as H' F' as')(h:dj K mg md P R W D H F as f):dj K mg md P R W D H' F' as' f:=by
 cases f with
 |ex x r=>exact λd j l a i c=>h d j l a (g.trans i) c
 |nx q r=>exact λb j l a i c m=>h b j l a (g.trans i) c m
 |bk q r=>exact λb j l a i c m=>h b j l a (g.trans i) c m
 |ct q r=>exact λb j l a i c m=>h b j l a (g.trans i) c m
 |rt d r=>exact λv j l a i c m=>h v j l a (g.trans i) c m
 |no=>exact h
theorem V8{st:Stmt}  (h:VS X md P R st m):VSF X md P R st (msN m):=h.imp λD σ H q=>by
 obtain⟨ρ,O,F,c,r,s,k⟩:=q;refine⟨ρ,O,F,c,r,s,?_⟩;unfold msN at k
 cases e:m ρ O with
 |ex x b=>rw[e] at k;exact False.elim k
 |nx a b=>rw[e] at k;exact k
 |bk a b=>rw[e] at k;exact k
 |ct a b=>rw[e] at k;exact k
 |rt d b=>rw[e] at k;exact k
 |no=>rw[e] at k;exact k
theorem V9:gD X md P R [] aD:=CG.imp λD σ H q=>by
 obtain⟨ρ,O,F,a,r,s,k⟩:=q;exact k σ H F a GrS.refl r s
theorem Wa{st:Stmt}{rest:List Stmt}  (h1:VSF X md P R st a)(h2:gD X md P R rest b):gD X md P R (st::rest) (au a b):=(CJ h1 h2).imp λD σ H q=>by
 obtain⟨ρ,O,F,l,r,s,k⟩:=q;refine⟨ρ,O,F,l,r,s,?_⟩;unfold au at k
 cases e:a ρ O with
 |nx ρ1 O1 =>
  rw[e] at k
  exact λt u m h g j i=>⟨ρ1,O1,m,h,j,i,dj.gr g k⟩
 |ex x c=>rw[e] at k;exact k
 |bk f c=>rw[e] at k;exact k
 |ct f c=>rw[e] at k;exact k
 |rt d c=>rw[e] at k;exact k
 |no=>rw[e] at k;exact k
theorem Wb      (j:TsE X md P c t)(l:gD X md P R a ma)(hb:gD X md P R b mb):VSF X md P R (.If c a b pos) (ie t ma mb):=(CP j l hb).imp λD σ H q=>by
 obtain⟨ρ,O,F,m,r,s,k⟩:=q;unfold ie at k
 cases e:t ρ O with
 |ok v f =>
  rw[e] at k;refine⟨ρ,_,F,m,_,_,r,s,e,λu i d g h=>?_⟩;dsimp only at k
  cases v with
  |true =>
   rw[if_pos rfl] at k ⊢;exact⟨ρ,f,i,d,h,s.step g,dj.gr g.toS k⟩
  |false =>
   rw[if_neg zq] at k ⊢;exact⟨ρ,f,i,d,h,s.step g,dj.gr g.toS k⟩
 |ex x f=>rw[e] at k;exact False.elim k
 |no=>rw[e] at k;exact False.elim k
theorem Hb{K:Frag}{σ:St}   (I:Inv (cY (CXF Pr w) Pr w K mg base N qual scope f cd A outer s0 H0 E) pins σ H s)(hr:Raw (cY (CXF Pr w) Pr w K mg base N qual scope f cd A outer s0 H0 E) H s c C dxo)(hE:E (.ref C) dxo H):
  (cY (CXF Pr w) Pr w K mg base N qual scope f cd A outer s0 H0 E).xe (.ref c) s:=by
 have stk:=I.stack;have y:=I.stkFree;have G:=I.ok.frames;have m:=I.base;obtain⟨T,Y,X,l,hc,L,hd,h1,h0,hn,hold⟩:=hr;have hold:s0.heap.get? c=none:=hold
 have nfr:c∉frs (envOfC qual scope s0.heap.objs.size f cd::outer):=λz=>by
  obtain⟨_,o,W,nf⟩:=stk.mem z;rw[l] at W;cases W;exact nf Y hd
 show wpAny (model Pr w) (A.deeper (envOfC qual scope s0.heap.objs.size f cd)) (leaving (envOfC qual scope s0.heap.objs.size f cd) (.ref c)) (λ_ d=>CXF Pr w outer H0 s0 E (.ref c) d) _ s
 have kd:=lq (Ha _ _) (wpAny_leaving_firstW (M:=model Pr w) (A:=A.deeper (envOfC qual scope s0.heap.objs.size f cd)) (E:=λe' d=>CXF Pr w outer H0 s0 E e' d) (base:=hideAll s.heap (c::frs (envOfC qual scope s0.heap.objs.size f cd::outer)))
  (Q:=λ_ d=>∃t,d = {s with heap:=t}/\Heap.LeftW (hideAll s.heap (c::frs (envOfC qual scope s0.heap.objs.size f cd::outer))) (envOfC qual scope s0.heap.objs.size f cd::outer) c T.cls X s.heap t)
  G (funFrames_hide stk λenv l a ha=>zp _ (List.mem_filterMap.mpr ⟨env,l,ha⟩)) rfl l (λb o q=>of_hideAll _ q) (hideAll_none _ zj) hd h1 h0 λt hL=>⟨t,rfl,hL⟩)
 refine zw kd (λ_ s2 z=>?_) λ_ _ z=>z.1
 obtain⟨⟨h2,rfl,U,⟨_,_,k2⟩,k3,Z⟩,dk⟩:=z
 have g:∀b o,s.heap.get? b=some o->b≠c->b∉frs (envOfC qual scope s0.heap.objs.size f cd::outer)->h2.get? b=some o:=λb o q n j=>U b o (hideAll_get _ q λz=>by
  rcases zh.mp z with z | z
  ·exact n z
  ·exact j z)
 have h:∀b o,s0.heap.get? b=some o->b≠c:=λb o q z=>by rw[z,hold] at q;cases q
 have fO:∀b o,s0.heap.get? b=some o->b∉frs outer->b∉frs (envOfC qual scope s0.heap.objs.size f cd::outer):=λb o q n z=>by
  rcases zh.mp (show b∈s0.heap.objs.size::frs outer from z) with rfl | z
  ·exact absurd (ze q) (zS _)
  ·exact n z
 have sub:∀b,b∈frs outer->b∈frs (envOfC qual scope s0.heap.objs.size f cd::outer):=λb z=>zp _ z
 have R:∀b u,H b=some u->∃o,s.heap.get? b=some o/\b≠c/\b∉frs (envOfC qual scope s0.heap.objs.size f cd::outer):=λb u e=>by
  obtain⟨o,q⟩:=(I.hok b u e).has;exact⟨o,q,(λz=>by rw[z,hn] at e;cases e),λz=>by rw[y b z] at e;cases e⟩
 have P:∀b o,s.heap.get? b=some o->b∈frs outer->∃sl,h2.get? b=some {o with slots:=sl}:=λb o q z=>by
  obtain⟨_,i,r,nf⟩:=stk.mem (sub b z);rw[q] at r;cases r;exact Z b o q nf
 obtain⟨F,J,O⟩:=dk c T l;refine⟨c,C,H,_,X,dxo,rfl,I.os,I.bare,Un.then m (λb o q n z=>by obtain⟨i,z⟩:=z;exact g b o q (h b i z) (fO b i z n)) P,I.hok.only λb v u e q=>(by obtain⟨_,_,x,j⟩:=R b v e;exact g b u q x j),⟨U,hideAll_none _ zj,k2,hc ▸ k3⟩,λb u e=>?_,λb o q n=>?_,⟨F,J,O.trans L⟩,hE⟩
 ·obtain⟨o,q,x,j⟩:=R b u e
  exact⟨o,hideAll_get _ q λz=>by
   rcases zh.mp z with z | z
   ·exact x z
   ·exact j z⟩
 ·obtain⟨i,r⟩:=m.there b o q (λz=>nomatch z)
  exact⟨i,hideAll_get _ r λz=>by
   rcases zh.mp z with z | z
   ·exact h b o q z
   ·exact fO b o q n z⟩
theorem Hc{K:Frag}{σ:St}  (I:Inv (cY (CXF Pr w) Pr w K mg base N qual scope f cd A outer s0 H0 E) pins σ H s)(U:CXF Pr w (cY (CXF Pr w) Pr w K mg base N qual scope f cd A outer s0 H0 E).stack H s E' e s')(X:∀C d j,E' (.ref C) d j->E (.ref C) d j):
  (cY (CXF Pr w) Pr w K mg base N qual scope f cd A outer s0 H0 E).xe e s':=by
 obtain⟨i,C,j,B,L,m,rfl,x,h,un,hok,r,trk,l,⟨P,W,hd⟩,J⟩:=U;have y:=I.ok.frames;show wpAny (model Pr w) (A.deeper (envOfC qual scope s0.heap.objs.size f cd)) (leaving (envOfC qual scope s0.heap.objs.size f cd) (.ref i)) (λ_ a=>CXF Pr w outer H0 s0 E (.ref i) a) _ s'
 have T:=lq (Ha _ _) (wpAny_leaves_onW (M:=model Pr w) (A:=A.deeper (envOfC qual scope s0.heap.objs.size f cd)) (E:=λY a=>CXF Pr w outer H0 s0 E Y a)
  (Q:=λ_ a=>∃g,a = {s' with heap:=g}/\Heap.FlyingW B outer i (.ref C) L g/\s'.heap.UpToSlots g) y rfl r λg c t=>⟨g,rfl,c,t⟩)
 refine zw T (λ_ Z z=>?_) λ_ _ z=>z.1
 obtain⟨⟨g,rfl,c,t⟩,dk⟩:=z;have I':=I.call' (s':={s' with heap:=g}) (ch:=[]) x (xE un r.1 r.2.2.1 l c.1 t) (xF hok trk r.1 c.1) h (λ_ z=>nomatch z);obtain⟨u,F,G⟩:=dk i P W;refine⟨i,C,j,B,L,m,rfl,I'.os,I'.bare,I'.base,I'.hok,c,trk,λb o q n=>?_,⟨u,F,G.trans hd⟩,X C m j J⟩;obtain⟨R,O⟩:=I.base.there b o q (λz=>nomatch z)
 refine l b R O λz=>?_
 rcases zh.mp (show b∈s0.heap.objs.size::frs outer from z) with rfl | z
 ·exact absurd (ze q) (zS _)
 ·exact n z
noncomputable def jQ(P:Program)(w:World)(K:Frag)(mg:Str->Option Value)(base:Heap)(x:Str)(b:List Str)(k:Nat)(sp:Sp):Prop :=
 ∃f fd,mg x=some (.ref f)/\keepIn K (.ref f)=true/\Binds K fd b []/\cH P w K mg base (CXF P w) k f fd b sp/\∃d c a,K.lookup f=some ⟨d,c,.func fd,a⟩
noncomputable def xK(P:Program)(w:World)(K:Frag)(mg:Str->Option Value)(base:Heap)(c m:Str)(a:List Str)(k:Nat)(sp:Sp):Prop :=
 ∃C f fd,mg c=some (.ref C)/\Cls K C/\nJ K C m f/\Binds K fd a []/\cH P w K mg base (CXF P w) k f fd a sp
noncomputable def Wc(K:Frag)(mg:Str->Option Value)(R:RR)(H F:Hp)(as:List Addr)(Q:VK)(E:XK):Res D->Prop
 | .ok d O'=>∀v c f b,Gr H F as c f b->RlO K mg O' c f b->R (λa=>H a=none) c f b v d->Q v c
 | .ex x O'=>∀C g c f b,mg x.cls=some (.ref C)->Gr H F as c f b->RlO K mg O' c f b->XF K f b g x.fs->E (.ref C) g c
 | .no=>False
noncomputable def fH(K:Frag)(mg:Str->Option Value)(pm:List Md)(R:RR)(c:List D->az->Res D):Sp:=λvs H Q E =>
 ∃b O F a,RlO K mg O H F a/\cC K H F a pm vs b/\Wc K mg R H F a Q E (c b O)
theorem Hf{K:Frag}  {st:Stmt}     (Fn:Fun K x qual st f fd)(S:bc N ps (aJ st))
  (pm W:List Md)   (hR:cP R) (T:∀N H F as,R N H F as .non .non) (J:pm.length=ps.length) (hl:(pm++W).length=N.length) (hp:∀m∈pm,m≠.o)
  (body:∀(j:Value) (A:Around) (outer:List Env) (s:Shared) (H:Hp) (E:XK),aP k (A.deeper (envOfC qual (aJ st) s.heap.objs.size f j))->∀P,gD (cY (CXF Pr w) Pr w K mg base N qual (aJ st) f j A outer s H E) (pm++W) P R (bJ st) b):
  cH Pr w K mg base (CXF Pr w) (k+1) f fd ps (fH K mg pm R (bf N.length b)):=by
 obtain⟨oc,od,kV,doc,pmv,an,j,ct,osl,rfl,lk,L⟩:=Fn.ex
 refine sV lk L S (λY H Q E h=>?_) λA outer s H Y Q E y h=>?_
 ·obtain⟨G,O,F,as,r,a,_⟩:=h;rw[a.len.1,J]
 ·obtain⟨G,O,F,as,r,a,q⟩:=h;refine⟨_,body j A outer s H E y (Pt.all H),?_⟩;refine⟨_,O,F,as,r,tR a hl hp,?_⟩;unfold bf at q
  cases eb:b (G.map some++List.replicate (N.length - G.length) none) O with
  |rt d' O2 =>
   rw[eb] at q
   exact λv u t i g l hv=>q v u t i g.gr l (hR _ _ _ _ _ _ _ (λc hc=>jj.mp hc) hv)
  |nx ρ O2 =>
   rw[eb] at q
   exact λσ' u t i g l _=>q _ u t i g.gr l (T _ _ _ _)
  |ex x' O2 =>
   rw[eb] at q
   exact λU u t i g l X=>⟨λpins σ Z ea C hC I y=>Hb I y (q C U u t i hC g.gr l X),λpins σ H0 Z e s2 I hz=>Hc I hz λC d H2 ⟨C',z1,z2,z3,z4⟩=>by
    cases z1;subst z3 z4
    exact q C _ _ t i z2 g.gr l X⟩
  |bk _ _=>rw[eb] at q;exact False.elim q
  |ct _ _=>rw[eb] at q;exact False.elim q
  |no=>rw[eb] at q;exact False.elim q
theorem xN{h:Program}{w:World}{K:Frag}{base:Heap}  {st:Stmt}  {k:Nat}(L:Def K mg x st)(S:bc N ps (aJ st))
  (hb:∀(kV c pm:Value) (t:Option Addr) (a ct:Value) (us:List Value),us.length=ps.length->bindArgs (PySem.W.fnOf x x (dh st) (bJ st) (aJ st) .none kV c pm t a ct) ⟨us,[]⟩=pure (ps.zip us))
  (pm g:List Md)  {b:MS} (J:cP R) (r:∀N H F as,R N H F as .non .non) (j:pm.length=ps.length:=by rfl) (I:(pm++g).length=N.length:=by rfl) (C:∀m∈pm,m≠.o:=by decide)
  (body:∀(f:Addr) (a:Value) (A:Around) (outer:List Env) (s:Shared) (H:Hp) (E:XK),aP k (A.deeper (envOfC x (aJ st) s.heap.objs.size f a))->∀P,gD (cY (CXF h w) h w K mg base N x (aJ st) f a A outer s H E) (pm++g) P R (bJ st) b):
  jQ h w K mg base x ps (k+1) (fH K mg pm R (bf N.length b)):=by
 obtain⟨f,fd,G,d⟩:=L;have q:=d.binds hb;have l:=d.kp;have ok:=Hf d S pm g J r j I C (body f);obtain⟨y,u,kV,c,O,t,a,ct,i,rfl,lk,Q⟩:=d.ex;exact⟨f,_,G,l,q,ok,y,u,i,lk⟩
theorem Wd{g:Program}{w:World}{K:Frag}{base:Heap}  {st:Stmt}  {k:Nat}(u:oA K mg c x qual st)(S:bc N ps (aJ st))
  (hb:∀(kV j pm:Value) (t:Option Addr) (a ct:Value) (us:List Value),us.length=ps.length->bindArgs (PySem.W.fnOf x qual (dh st) (bJ st) (aJ st) .none kV j pm t a ct) ⟨us,[]⟩=pure (ps.zip us))
  (pm d:List Md)  {b:MS} (r:cP R) (i:∀N H F as,R N H F as .non .non) (h:pm.length=ps.length:=by rfl) (q:(pm++d).length=N.length:=by rfl) (l:∀m∈pm,m≠.o:=by decide)
  (body:∀(f:Addr) (a:Value) (A:Around) (outer:List Env) (s:Shared) (H:Hp) (E:XK),aP k (A.deeper (envOfC qual (aJ st) s.heap.objs.size f a))->∀P,gD (cY (CXF g w) g w K mg base N qual (aJ st) f a A outer s H E) (pm++d) P R (bJ st) b):
  xK g w K mg base c x ps (k+1) (fH K mg pm R (bf N.length b)):=by
 obtain⟨C,f,fd,h1,h2,h3,h4⟩:=u;exact⟨C,f,fd,h1,h2,h3,h4.binds hb,Hf h4 S pm d r i h q l (body f)⟩
noncomputable def exG(X:Cx):XK:=λa d b=>∃x C,a=.ref C/\X.mg x.cls=some (.ref C)/\exL X x d b
theorem Hg:jB (CXF X.prog X.w) X (exG X):=λpins σ H s e m I q=>by
 obtain⟨b,C,E,B,y,a,rfl,l,j,i,h,g,f,d,c,x,F,u,t,r⟩:=q;cases u;exact r pins σ H s (.ref b) m I ⟨b,C,E,B,y,a,rfl,l,j,i,h,g,f,d,c,C,rfl,t,rfl,rfl⟩
noncomputable def Hh(K:Frag)(mg:Str->Option Value)(R:RR)(W:WX)(H F:Hp)(as:List Addr)(Q:VK):Res D->Prop
 | .ok d O'=>∀v c f b,Gr H F as c f b->RlO K mg O' c f b->R (λa=>H a=none) c f b v d->Q v c
 | .ex x O'=>∀g c f b,Gr H F as c f b->RlO K mg O' c f b->XF K f b g x.fs->W x g c
 | .no=>False
noncomputable def tMF(K:Frag)(mg:Str->Option Value)(md:List Md)(P:Pt)(R:RR)(W:WX)(m:M D):TE:=λσ H Q=>∃ρ O F a,RlO K mg O H F a/\SlO K md P ρ σ H F a/\Hh K mg R W H F a Q (m ρ O)
noncomputable def VEF(X:Cx)(md:List Md)(P:Pt)(R:RR)(e:Expr)(m:M D):Prop:=PE X e (tMF X.K X.mg md P R (exL X) m)
theorem We    (E:cP R)    (q:tMF X.K X.mg md P R (exL X) (fW c ma) σ H Q):nM (fH X.K X.mg pm R c) [] (exG X) (tMA X.K X.mg md P pm ma) σ H Q:=by
 obtain⟨ρ,O,F,I,r,s,k⟩:=q;unfold fW at k
 cases em:ma ρ O with
 |ex x T=>rw[em] at k;exact False.elim k
 |no=>rw[em] at k;exact False.elim k
 |ok ds O1 =>
  rw[em] at k;dsimp only at k;refine⟨ρ,O,F,I,ds,O1,r,s,em,λL U J t i u h1=>?_⟩;dsimp only;rw[zI];refine⟨ds,O1,J,t,u,h1,?_⟩
  cases ec:c ds O1 with
  |ok d O2 =>
   rw[ec] at k
   exact λv j l b g f h=>k v j l b (i.trans g) f (E _ _ _ _ _ _ _ (λa z=>i.dm a z) h)
  |ex x O2 =>
   rw[ec] at k
   exact λC m j l b G g f y=>⟨x,C,rfl,G,k m j l b (i.trans g) f y⟩
  |no=>rw[ec] at k;exact False.elim k
theorem Wf         {h g:Pos}(u:cP R)
  (y:jQ X.prog X.w X.K X.mg X.base f ps k (fH X.K X.mg pm R c)) (i:aP k X.A) (t:AE X md P pm (a::as) ma) (m:Gl X f:=by rfl) (d:(f == ("__debug__":Str))=false:=by decide)
  (hs:starEach (a::as) X.env=(false,eval a X.env)::starEach as X.env:=by exact bF rfl) (b:(backTo g (starEach as X.env)).any (·.1)=false:=by exact cR rfl):VEF X md P R (.Call (.Name f h) (a::as) [] g) (fW c ma):=by
 obtain⟨fa,fd,j,l,r,x,_⟩:=y
 exact(Dv (dvs:=[]) (ds:=[]) x i m j l r .nil Hg t d hs b).imp λσ H Q q=>We u q
theorem Wg   (h:VEF X md P (rO X.K) e m):VEF X md P (rV X.K) e m:=h.imp λσ H Q q=>by
 obtain⟨ρ,O,F,J,r,s,k⟩:=q;refine⟨ρ,O,F,J,r,s,?_⟩
 cases e:m ρ O with
 |ok d L =>
  rw[e] at k;intro v y f c g t i
  rcases i with⟨_,i⟩ | ⟨a,l,R,rfl,rfl,I,j,G,E,C⟩
  ·exact k v y f c g t i
  ·have ff:Same f (upd f a (.lst l)):=λb u q=>by rw[aH (bI q j)];exact q
   exact k _ y (upd f a (.lst l)) c (g.frz E j) (t.frz I j G rfl) (Rp.mkL (.inl (.inl bu)) (Rps.mono ff (λ_ _ z=>z) _ C))
 |ex x L=>rw[e] at k;exact k
 |no=>rw[e] at k;exact k
theorem Wh     (h:VEF X md P R' e m)(hs:swapsWith e none pos.line X.env=pure false:=by rfl):VSF X md P R (.Expr e pos) (mq m):=(qg h hs).imp λD σ H q=>by
 obtain⟨ρ,O,F,j,r,s,k⟩:=q;refine⟨ρ,O,F,j,r,s,?_⟩;unfold mq at k
 cases e:m ρ O with
 |ok d l=>rw[e] at k;exact λv c f a g b _=>k σ c f a g.toS b (s.step g)
 |ex x l=>rw[e] at k;exact λd c f a g b i=>(k d c f a g.toS b i).2
 |no=>rw[e] at k;exact False.elim k
noncomputable def mz(i:Nat)(m:M D):MS:=λρ O=>match m ρ O with
 | .ok d O'=>.nx (ρ.set i (some d)) O'
 | .ex x O'=>.ex x O'
 | .no=>.no
theorem Wi{R:RR}    {u b:Pos}  (h:VEF X md P (rV X.K) e m)(I:X.N.Nodup)(E:X.N[i]?=some x:=by rfl)(f:Loc X.env.scope x:=by exact .inl rfl)(C:md[i]?=some .v:=by rfl)
  (t:swapsWith e (some (.Name x u)) b.line X.env=pure false:=by rfl) (G:X.fn x=true\/X.env.scope.names.lookup x=some .local:=by first | exact .inl rfl | exact .inr rfl):VSF X md P R (.Assign [.Name x u] e b) (mz i m):=(vL I E f h t G).imp λD σ H q=>by
 obtain⟨ρ,O,F,J,r,s,k⟩:=q;refine⟨ρ,O,F,J,r,s,?_⟩;unfold mz at k
 cases e:m ρ O with
 |ok d L=>rw[e] at k;exact λv j l a g c y=>k _ j l a g.toS c ((s.step g).setV C y)
 |ex x L=>rw[e] at k;exact λd j l a g c f=>(k d j l a g.toS c f).2
 |no=>rw[e] at k;exact False.elim k
theorem Wj  (hR:cP R)(l:X.mg c=some (.ref C))    (q:tMF X.K X.mg md P R (exL X) (oJ c m cf mo ma) σ H Q):
  sS C m (fH X.K X.mg (.v::pm) R cf) [] (exG X) (tM X.K X.mg md P (rV X.K) mo) (tMA X.K X.mg md P pm ma) σ H Q:=by
 obtain⟨ρ,O,F,as,r,s,k⟩:=q;unfold oJ at k
 cases e1:mo ρ O with
 |ex x O'=>rw[e1] at k;exact False.elim k
 |no=>rw[e1] at k;exact False.elim k
 |ok x O1 =>
  rw[e1] at k
  cases x with
  |ob n =>
   dsimp only at k;split at k
   ·rename_i c' fs eo;split at k
    ·rename_i U
     cases e2:ma ρ O1 with
     |ex x O'=>rw[e2] at k;exact False.elim k
     |no=>rw[e2] at k;exact False.elim k
     |ok ds O2 =>
      rw[e2] at k;dsimp only at k;refine⟨ρ,O,F,as,.ob n,O1,r,s,e1,λv H1 F1 J i L T=>?_⟩;obtain⟨a,rfl,ha⟩:=Rp.unO T;obtain⟨C',dx,gs,h1,h2,h3⟩:=L.ob n a _ ha eo;rw[U.1,l] at h1;cases h1;refine⟨a,dx,gs,rfl,h2,h3.no (Option.isNone_iff_eq_none.mp U.2),?_⟩;refine⟨ρ,O1,F1,J,ds,O2,L,s.step i,e2,λvs H2 F2 I g W E=>?_⟩;dsimp only;rw[zI];refine⟨.ob n::ds,O2,F2,I,W,⟨Rp.gr T g,E⟩,?_⟩
      cases ec:cf (.ob n::ds) O2 with
      |ok d O3 =>
       rw[ec] at k
       exact λv u y f t j h=>k v u y f ((i.trans g).trans t) j (hR _ _ _ _ _ _ _ (λb Z=>(i.trans g).dm b Z) h)
      |ex x O3 =>
       rw[ec] at k
       exact λC G u y f l t j Y=>⟨x,C,rfl,l,k G u y f ((i.trans g).trans t) j Y⟩
      |no=>rw[ec] at k;exact False.elim k
    ·exact False.elim k
   ·exact False.elim k
  | _=>exact False.elim k
theorem Wk{a apos:Pos}{pl:Sem Bool}(l:cP R)(M:xK X.prog X.w X.K X.mg X.base c m ps k (fH X.K X.mg (.v::pm) R cf))(h:aP k X.A)(i:VE X md P o mo)(j:AE X md P pm (e::es) ma)
  (b:starEach (e::es) X.env=(false,eval e X.env)::starEach es X.env:=by exact bF rfl) (d:(backTo a (starEach es X.env)).any (·.1)=false:=by exact cR rfl)
  (g:eval (.Call (.Attribute o m apos) (e::es) [] a) X.env=(do
   let ov <-eval o X.env
   standAt apos.atName
   let (f,first) <-holding [ov] (getMethod ov m pl)
   callWith a f first (backTo a (starEach (e::es) X.env)) (backToKw a (keywordEach [] X.env))):=by rfl):
  VEF X md P R (.Call (.Attribute o m apos) (e::es) [] a) (oJ c m cf mo ma):=by
 obtain⟨C,f,fd,h1,h2,h3,h4,r⟩:=M
 exact(Dw (pl:=pl) (ds:=[]) (dvs:=[]) i h2 h3 r h h4 .nil Hg j b d g).imp λ_ _ _ q=>Wj l h1 q
theorem Wl{K:Frag}      {D:Ends}   (q:oK K mg md P R W (fV m g b) D σ H):sI (tMI K mg md P m) (tMG K mg md P g) (oK K mg md P R W b) D σ H:=by
 obtain⟨ρ,O,F,as,r,s,k⟩:=q;unfold fV at k
 cases e:m ρ O with
 |ex x C=>rw[e] at k;exact False.elim k
 |no=>rw[e] at k;exact False.elim k
 |ok ds O1 =>
  rw[e] at k;dsimp only at k;refine⟨ρ,_,F,as,_,_,r,s,e,λJ H1 Z I g1 r1 hJ=>?_⟩;have k1:=dj.gr (R:=R) (W:=W) g1.toS k;refine⟨λi m X L=>m=ds.length - i/\i<=ds.length/\∃u C Q c,GrS P H1 Z I L Q c/\RlO K mg C L Q c/\SlO K md P u X L Q c/\dj K mg md P R W D L Q c (aO g b (ds.drop i) u C),⟨ds.length,by simp,Nat.zero_le _,ρ,O1,Z,I,GrS.refl,r1,s.step g1,by rw[List.drop_zero];exact k1⟩,?_⟩;rintro i n X L ⟨rfl,hi,u,C,Q,c,g',r',s',k'⟩
  by_cases Y:i<ds.length
  ·have hd:=zM Y;obtain⟨go,yl⟩:=hJ.turn i _ L Q c g' ⟨C,r'⟩ hd;rw[List.drop_eq_getElem_cons Y] at k';refine .inr ⟨go,λl j=>∃f G h a,GrS P H1 Z I j h a/\RlO K mg G j h a/\SlO K md P f l j h a/\dj K mg md P R W D j h a (aO g b (ds.drop (i+1)) f G),λl j h2=>⟨ds.length - (i+1),by omega,rfl,Y,h2⟩,λx H3 y=>?_⟩;obtain⟨F3,U,r3,hx⟩:=yl x H3 y;have r3':=r3 C r';unfold aO at k'
   cases eg:g ds[i] u with
   |none=>rw[eg] at k';exact False.elim k'
   |some ρ1 =>
    rw[eg] at k';dsimp only at k';refine⟨u,C,F3,c,ds[i],ρ1,r3',s'.step U,hx,eg,λσ4 s4=>?_⟩;refine⟨ρ1,C,F3,c,r3',s4,?_⟩;have g4:GrS P H1 Z I H3 F3 c:=g'.trans U.toS
    cases eb:b ρ1 C with
    |nx f G =>
     rw[eb] at k'
     exact λl j h a t E T=>⟨f,G,h,a,g4.trans t,E,T,dj.gr t (dj.gr U.toS k')⟩
    |ct f G =>
     rw[eb] at k'
     exact λl j h a t E T=>⟨f,G,h,a,g4.trans t,E,T,dj.gr t (dj.gr U.toS k')⟩
    |bk f G =>
     rw[eb] at k'
     exact λl j h a t E T=>k' l j h a (U.toS.trans t) E T
    |rt d G =>
     rw[eb] at k'
     exact λv j h a t E T=>k' v j h a (U.toS.trans t) E T
    |ex x G =>
     rw[eb] at k'
     exact λd j h a t E hx=>k' d j h a (U.toS.trans t) E hx
    |no=>rw[eb] at k';exact False.elim k'
  ·have hi':i=ds.length:=by omega
   subst hi';refine .inl ⟨hJ.stop L Q c g' ⟨C,r'⟩,?_⟩;rw[List.drop_length] at k';exact k' X L Q c GrS.refl r' s'
theorem Wm   {a:Pos}    (h:X.calm=true)(d:VI X md P tg iter m)(f:VG X md P tg g)(hb:gD X md P R body b)(c:PassesOwn (model X.prog X.w) X.A X.env X.xe:=by exact PassesOwn.leaving)
  (hs:∀x,foldedSetIterable iter X.env x=pure x:=by intro _;rfl):VSF X md P R (.For tg iter body [] a) (fV m g b):=(vN c h d f hb hs).imp λ_ _ _ q=>Wl q
noncomputable def Hi(K:Frag)(mg:Str->Option Value)(md:List Md)(P:Pt)(W:WX)(m:M (List D)):TI:=λσ H Q=>∃ρ O F f,RlO K mg O H F f/\SlO K md P ρ σ H F f /\
 match m ρ O with
 | .ok ds O'=>∀J b c a,Gr H F f b c a->RlO K mg O' b c a->kh K mg P J ds b c a->Q J b
 | .ex x O'=>∀d b c a,Gr H F f b c a->RlO K mg O' b c a->XF K c a d x.fs->W x d b
 | .no=>False
noncomputable def VIF(X:Cx)(md:List Md)(P:Pt)(a iter:Expr)(m:M (List D)):Prop:=PI X a iter (Hi X.K X.mg md P (exL X) m)
theorem Wn   (h:VEF X md P (rV X.K) e m):VIF X md P tg e (gn m):=(vM h).imp λσ H Q q=>by
 obtain⟨ρ,O,F,t,r,s,k⟩:=q;refine⟨ρ,O,F,t,r,s,?_⟩;unfold gn at k
 cases e:m ρ O with
 |ok d u =>
  rw[e] at k
  cases d with
  |lst es =>
   intro v f g b l c j;obtain⟨a,i,rfl,h1,h2⟩:=xg (mg:=X.mg) (P:=P) (N:=λ_=>True) (.inl j);exact⟨a,rfl,⟨i,(h2 f g b GrS.refl ⟨_,c⟩).sq⟩,k _ f g b l c (Gk h1 h2)⟩
  | _=>exact False.elim k
 |ex x u=>rw[e] at k;exact k
 |no=>rw[e] at k;exact False.elim k
theorem Wo{K:Frag}   (hW:∀x d H,W x d H->W' x d H)    {D:Ends}   (q:oK K mg md P R W (bM m g b) D σ H):sI (Hi K mg md P W' m) (tMG K mg md P g) (oK K mg md P R W b) D σ H:=by
 obtain⟨ρ,O,F,as,r,s,k⟩:=q;refine⟨ρ,O,F,as,r,s,?_⟩;unfold bM at k
 cases e:m ρ O with
 |ex x C=>rw[e] at k;exact λd E G c g Z hx=>hW _ _ _ (k d E G c g.toS Z hx)
 |no=>rw[e] at k;exact False.elim k
 |ok ds O1 =>
  rw[e] at k;dsimp only at k;intro J H1 F1 Q g1 r1 hJ;have k1:=dj.gr (R:=R) (W:=W) g1.toS k;refine⟨λi m X E=>m=ds.length - i/\i<=ds.length/\∃u C G c,GrS P H1 F1 Q E G c/\RlO K mg C E G c/\SlO K md P u X E G c/\dj K mg md P R W D E G c (aO g b (ds.drop i) u C),⟨ds.length,by simp,Nat.zero_le _,ρ,O1,F1,Q,GrS.refl,r1,s.step g1,by rw[List.drop_zero];exact k1⟩,?_⟩;rintro i n X E ⟨rfl,hi,u,C,G,c,g',Z,s',k'⟩
  by_cases Y:i<ds.length
  ·have hd:=zM Y;obtain⟨go,yl⟩:=hJ.turn i _ E G c g' ⟨C,Z⟩ hd;rw[List.drop_eq_getElem_cons Y] at k';refine .inr ⟨go,λl j=>∃f L h a,GrS P H1 F1 Q j h a/\RlO K mg L j h a/\SlO K md P f l j h a/\dj K mg md P R W D j h a (aO g b (ds.drop (i+1)) f L),λl j h2=>⟨ds.length - (i+1),by omega,rfl,Y,h2⟩,λx H3 y=>?_⟩;obtain⟨F3,U,r3,hx⟩:=yl x H3 y;have r3':=r3 C Z;unfold aO at k'
   cases eg:g ds[i] u with
   |none=>rw[eg] at k';exact False.elim k'
   |some ρ1 =>
    rw[eg] at k';dsimp only at k';refine⟨u,C,F3,c,ds[i],ρ1,r3',s'.step U,hx,eg,λσ4 s4=>?_⟩;refine⟨ρ1,C,F3,c,r3',s4,?_⟩;have g4:GrS P H1 F1 Q H3 F3 c:=g'.trans U.toS
    cases eb:b ρ1 C with
    |nx f L =>
     rw[eb] at k'
     exact λl j h a t I T=>⟨f,L,h,a,g4.trans t,I,T,dj.gr t (dj.gr U.toS k')⟩
    |ct f L =>
     rw[eb] at k'
     exact λl j h a t I T=>⟨f,L,h,a,g4.trans t,I,T,dj.gr t (dj.gr U.toS k')⟩
    |bk f L =>
     rw[eb] at k'
     exact λl j h a t I T=>k' l j h a (U.toS.trans t) I T
    |rt d L =>
     rw[eb] at k'
     exact λv j h a t I T=>k' v j h a (U.toS.trans t) I T
    |ex x L =>
     rw[eb] at k'
     exact λd j h a t I hx=>k' d j h a (U.toS.trans t) I hx
    |no=>rw[eb] at k';exact False.elim k'
  ·have hi':i=ds.length:=by omega
   subst hi';refine .inl ⟨hJ.stop E G c g' ⟨C,Z⟩,?_⟩;rw[List.drop_length] at k';exact k' X E G c GrS.refl Z s'
theorem Wq   {a:Pos}    (h:X.calm=true)(d:VIF X md P tg iter m)(f:VG X md P tg g)(hb:gD X md P R body b)(c:PassesOwn (model X.prog X.w) X.A X.env X.xe:=by exact PassesOwn.leaving)
  (hs:∀x,foldedSetIterable iter X.env x=pure x:=by intro _;rfl):VSF X md P R (.For tg iter body [] a) (bM m g b):=(vN c h d f hb hs).imp λ_ _ _ q=>Wo (λ_ _ _ z=>z.2) q
end L2
namespace L2
open PySem PySem.Spec PyProof.Rows PySem.W PySem.Builtin PySem.Builtin.ObjectAttr
theorem Wr{K:Frag}      (X:K.In h)(G:h.Ns N m)(e:nsIn K N n=some (some v)):m n=some v:=by
 obtain⟨o,d,f,a,hd,_,b⟩:=G;unfold nsIn at e;split at e
 ·rename_i q;have z:=X _ _ q;rw[a] at z;cases z;cases hd;split at e
  ·rename_i g c;cases e;rw[<-b];unfold nsFind findBy;rw[<-Array.find?_toList,c];rfl
  ·split at e<;>cases e
 ·cases e
noncomputable def qP(K:Frag)(C:Addr)(a:List Value)(newId:String)(b:Addr):Bool:=match K.lookup C with
 |some ⟨.type "type",_,.cls cd,sl⟩=>(match cd.mro,sl.toList with
  | .ref C'::bm,[_,_,_,_,some (.builtin n),_]=>C' == C&&n == newId && !cd.hasDel&&tailIn K a bm&&nsOkIn K cd.ns&&nsIn K cd.ns "__init__" == some (some (.ref b))&&cd.hasDict
  | _,_=>false)
 | _=>false
theorem Hj{K:Frag}  {d:String}(a:qP K C bmV d fI=true):
  ∃bm N nm c bs sn sub ab col dd k0 k1 k2 k3 k5,K.lookup C=some (excClassObj nm c C N bs bm true sn sub ab col dd k0 k1 k2 k3 k5 d)/\tailIn K bmV bm=true/\nsOkIn K N=true/\nsIn K N "__init__" = some (some (.ref fI)):=by
 unfold qP at a;split at a
 case h_2=>cases a
 case h_1 dd cd sl lk =>
  split at a
  case h_2=>cases a
  case h_1 C1 bm k0 k1 k2 k3 nn k5 x u =>
   rw[zm,zm,zm,zm,zm,zm] at a;obtain⟨⟨⟨⟨⟨⟨t,r⟩,q⟩,m⟩,l⟩,j⟩,i⟩:=a;have h:C1=C:=beq_iff_eq.mp t;have g:nn=d:=beq_iff_eq.mp r;subst h;subst g
   rcases cd with⟨nm,bs,f,ns,c,hd,sn,sub,ab,col,b⟩
   have e1':f=.ref C1::bm:=x
   have p3':b=false:=by
    have z:(!b)=true:=q
    cases b with
    |false=>rfl
    |true=>cases z
   have p7':hd=true:=i;subst e1';subst p3';subst p7'
   rcases sl with⟨ls⟩
   have e2':ls=[k0,k1,k2,k3,some (.builtin nn),k5]:=u;subst e2';exact⟨bm,ns,nm,c,bs,sn,sub,ab,col,dd,k0,k1,k2,k3,k5,lk,m,l,beq_iff_eq.mp j⟩
theorem Hk{K:Frag}(self:Value):∀{l:List Value},tailIn K bmV l=true->refuseLoop self "__setattr__" l=pure ()
 | [],e=>by rw[show([]:List Value)=bmV from(beq_iff_eq.mp e).symm];exact PySem.F.store_ValueError.passes self
 |v::r,e=>by
  unfold tailIn at e
  rcases Bool.or_eq_true_iff.mp e with q | q
  ·rw[beq_iff_eq.mp q];exact PySem.F.store_ValueError.passes self
  ·split at q
   ·split at q
    ·rw[zm,zm] at q;rw[refuseLoop_ref];exact Hk self q.2
    ·cases q
   ·cases q
noncomputable def mD(h:Heap)(C:Addr)(rest:List Value):Heap:=(h.push {cls:=.type "tuple",data:=.seq rest.toArray}).push {cls:=.ref C,data:=.fields #[.ref h.objs.size,.none,.none,.none,.bool false,.none]}
noncomputable def lr(C t:Addr)(a:Option Addr):Obj:={cls:=.ref C,dict:=a,data:=.fields #[.ref t,.none,.none,.none,.bool false,.none]}
theorem Ws{os:OsState}{sub:List Value}(F:ExcBaseFacts B newId initId bmB)(T:OwnTail h bmB bm)  {rest:List Value}
  (j:h.get? C=some (excClassObj nm q C N bs bm hdct sn sub ab col dd k0 k1 k2 k3 k5 newId)) (J:h.Ns N mN) (L:mN "__init__" = some (.ref fI)) (y:h.get? fI=some oI) (u:oI.cls=.type "function")
  (I:wpAny (model prog w) A (call (.ref fI) (.ref (h.objs.size+1)::rest)) (λr s'=>r=.none/\Q (.done (.ret (.ref (h.objs.size+1)))) s') E ⟨mD h C rest,g,d,t,os⟩) (f:rest.length<=sizeLine):
  wpAny (model prog w) A (Builtin.«type.__call__» ⟨.ref C::rest,[]⟩) Q E ⟨h,g,d,t,os⟩:=by
 repeat (first | with_reducible refine wpAny_loadPart_at j ?_ | with_reducible refine wpAny_madeBy_exc j ?_ | wp_step)
 refine codeAny_call_builtin_code (Code.quiet_builtin _ F.quiet) (wpAny_check_new_subT F T j ?_);refine codeAny_exc_new_subT F T j ?_ f;show wpAny _ _ _ _ _ _;have a:=zl {cls:=.ref C,data:=.fields #[.ref h.objs.size,.none,.none,.none,.bool false,.none]}
  (zl {cls:=.type "tuple",data:=.seq rest.toArray} j)
 have c:=zl {cls:=.ref C,data:=.fields #[.ref h.objs.size,.none,.none,.none,.bool false,.none]}
  (zl {cls:=.type "tuple",data:=.seq rest.toArray} y)
 have i:((h.push {cls:=.type "tuple",data:=.seq rest.toArray}).push {cls:=.ref C,data:=.fields #[.ref h.objs.size,.none,.none,.none,.bool false,.none]}).Ns N mN :=
  let ⟨o,es,ep,e,r⟩:=J;⟨o,es,ep,zl _ (zl _ e),r⟩
 have l:((h.push {cls:=.type "tuple",data:=.seq rest.toArray}).push
   {cls:=.ref C,data:=.fields #[.ref h.objs.size,.none,.none,.none,.bool false,.none]}).get? (h.objs.size+1)=some
   {cls:=.ref C,data:=.fields #[.ref h.objs.size,.none,.none,.none,.bool false,.none]}:=by heap_get
 have G:(Value.ref C::bm).contains (.ref C)=true:=by simp
 have m:=T.keeps (h':=(h.push {cls:=.type "tuple",data:=.seq rest.toArray}).push {cls:=.ref C,data:=.fields #[.ref h.objs.size,.none,.none,.none,.bool false,.none]})
  λb o e=>zl _ (zl _ e)
 unfold isInstance
 repeat (first | with_reducible refine wpAny_loadPart_at l ?_ | (with_reducible refine wpAny_isSubtype_exc a ?_;rw[G]) | wp_step)
 show wpAny _ _ (typeLookup (.ref C) _) _ _ _;refine wpAny_typeLookup_tail a i m F.mroIs F.init.lookup ?_;rw[L];refine zK (za ?_);unfold bindSpecial;refine za (wpAny_typeOf (T:="function") ⟨_,c,u⟩ ?_);rw[if_pos (by decide)];refine zb (za (zw I (λr s' H=>?_) λ_ _ x=>x));obtain⟨rfl,O⟩:=H
 wp_walk
 exact O
theorem Wt{os:OsState}{sub:List Value}(F:ExcBaseFacts B newId initId bmB)(T:OwnTail h bmB bm)  {rest:List Value}
  (b:h.get? C=some (excClassObj nm q C N bs bm hdct sn sub ab col dd k0 k1 k2 k3 k5 newId)) (j:h.Ns N mN) (l:mN "__init__" = some (.ref fI)) (f:h.get? fI=some oI) (c:oI.cls=.type "function")
  (i:wpAny (model prog w) (A.under (.builtin "type.__call__" ⟨.ref C::rest,[]⟩)) (call (.ref fI) (.ref (h.objs.size+1)::rest)) (λr s'=>r=.none/\Q (.ref (h.objs.size+1)) s') E ⟨mD h C rest,g,d,t,os⟩) (a:rest.length<=sizeLine):
  wpAny (model prog w) A (call (.ref C) rest) Q E ⟨h,g,d,t,os⟩:=by
 have x:=tc_lookup;have u:=tc_bind (.ref C);have m:(⟨h,g,d,t,os⟩:Shared).TypeIs (.ref C) "type":=⟨_,b,rfl⟩;refine zX (codeAny_of_tree ?_);show wpAny _ _ (callAny (.ref C) _) _ _ _
 repeat (any_goals (first | assumption | with_reducible refine wpAny_loadPart_at b ?_ | wp_step))
 refine⟨rfl,?_⟩;exact codeAny_call_builtin_at (Code.quiet_builtin _ (by decide +kernel)) entry_typeCall (wpAny_check_type_call_sub b (Ws F T b j l f c i a))
theorem Hl{sub:List Value}{M:Model}     (b:bm.contains (.type "BaseException")=true)(m:A.handled=none)
  (h:wpAny M A x (λv a=>∃e t c,v=.ref e/\a.heap.get? C=some (excClassObj nm q C N bs bm hdct sn sub ab col dd k0 k1 k2 k3 k5 newId)/\a.heap.get? e=some (lr C t c)/\E (.ref e) a) E s):
  wpAny M A (raiseStmt env (some x) none) Q E s:=by
 have i:(Value.ref C::bm).contains (.type "BaseException")=true:=by rw[List.contains_cons,b,Bool.or_true]
 unfold raiseStmt;refine za (zw h (λv a f=>?_) λ_ _ x=>x);obtain⟨e,t,c,rfl,l,j,r⟩:=f;unfold lr at j;obtain⟨u,g,d,tk,os⟩:=a
 repeat (first | with_reducible refine wpAny_loadPart_at j ?_ | with_reducible refine wpAny_loadPart_at l ?_ | (with_reducible refine wpAny_isSubtype_exc l ?_;rw[i]) | wp_step)
 exact wpAny_raiseNew_none m r
theorem Wu{os:OsState}{K:Frag}        (X:K.In h)(m:h.get? x=some ox)(q:ox.cls=.ref C)(c:ox.dict=none)(f:∃P,ox.data=.fields P)
  (l:clsIn K C=some cd) (H:cd.hasDict=true) (u:refuseLoop (.ref x) "__setattr__" cd.mro=pure ()) (G:findIn K (.ref C) name=some none)
  (U:∀h' r,h'.Ns1 h.objs.size (λy=>if y=name then some v else none)->h'.get? x=some {ox with dict:=some h.objs.size}->(∀b o,b≠x->h.get? b=some o->h'.get? b=some o)->Q (.done (.ret .none)) ⟨h',g,d,r,os⟩):
  wpAny (model prog w) A (Builtin.«object.__setattr__» ⟨[.ref x,.str name tk,v],[]⟩) Q E ⟨h,g,d,t,os⟩:=by
 obtain⟨P,f⟩:=f;have T:Looks (model prog w) h (typeOf (.ref x)) (.ref C):=q ▸ (Looks.ld m).andThen .now;have W:Looks (model prog w) h (mroOf (.ref C)) cd.mro:=(looks_clsIn X l).andThen .now;have Z:=looks_findIn (M:=model prog w) X G;rw[osa_eq,refuse_eq];refine za (za (T.at (za (W.at ?_))));rw[u];refine zb (za (T.at (za (Z.at (za (zb ?_))))));show wpAny _ _ (storeInOwnDict _ _ _ _ _ _) _ _ _;unfold storeInOwnDict;refine za (zb (za ?_));unfold ownDictForStores instanceDict;dsimp only;refine za (wpAny_loadPart m ?_);obtain⟨oc,odi,oda,osl⟩:=ox;dsimp only at q c f
 subst q c f;refine za ((looks_clsIn X l).at ?_);rw[H];rw[if_neg (by decide),if_neg (by simp[typeHasDict])];have a:=zl {cls:=.type "dict",data:=.dict #[]} m;have i:x≠h.objs.size:=zz (ze m);refine za (wpAny_alloc' ?_);refine za (wpAny_update' a ?_);refine zb ?_;have I:((h.push {cls:=.type "dict",data:=.dict #[]}).update x λo=>{cls:=o.cls,dict:=some h.objs.size,data:=o.data,slots:=o.slots}).get? h.objs.size=some {cls:=.type "dict",data:=.dict #[]}:=
  (Heap.get?_update_ne _ _ _ _ i.symm).trans (Heap.get?_push_at rfl rfl)
 have c:((h.push {cls:=.type "dict",data:=.dict #[]}).update x λo=>{cls:=o.cls,dict:=some h.objs.size,data:=o.data,slots:=o.slots}).Ns h.objs.size (λ_=>none):=
  ⟨_,#[],_,I,rfl,λe Y=>absurd Y (by simp),λ_=>rfl⟩
 show wpAny _ _ (storeInDict h.objs.size (.str name tk) name v) _ _ _;unfold storeInDict newKeyGuard;refine za (zb (za (wpAny_nsSet1 (Heap.Ns1.of_empty c) λh' j hs=>?_)));obtain⟨oD,esD,epD,F,J,L⟩:=j.count (Within.cons name v Within.nil);refine za (wpAny_lookBehind F (by rw[J];exact pastItsLine_dict (zE L (by rw[zt,zJ,sizeLine_eq];omega))) ?_)
 wp_walk
 refine U h' _ j ((hs.2 x i).trans (Heap.get?_update_self _ a rfl)) λb ob O R=>?_
 exact(hs.2 b (zz (ze R))).trans ((Heap.get?_update_ne _ _ _ _ O).trans (zl _ R))
noncomputable def xoK(C t ea:Addr)(a:Option Addr):HO:=.ext λh=>h.get? ea=some (lr C t a)
theorem Hm       (e:h.get? ea=some (lr C t dxo)):cj P w H h ea (xoK C t ea dxo):=⟨e,⟨_,e⟩,λ_ _ z k=>k _ z⟩
theorem Hn       (q:cj P w H h ea (xoK C t ea dxo)):h.get? ea=some (lr C t dxo):=q.1
noncomputable def spI(C:Addr)(name:Str):Sp:=λvs H Q _=>∃a t v,vs=[.ref a,v]/\H a=some (xoK C t a none)/\∀b c,H b=none->b≠a->Q .non (upd (upd H b (.frz c (.xd [(name,v)]))) a (xoK C t a (some b)))
structure qQ(K:Frag)(C fI:Addr)(name:Str):Prop where
 cl:qP K C bmV "ValueError.__new__" fI=true
 sa:findIn K (.ref C) "__setattr__" = some (some (.builtin "object.__setattr__"))
 na:findIn K (.ref C) name=some none
 ob:mroIn K C (.type "object")=some true
theorem Wv{σ:St}    (I:Inv X pins σ H s)(Z:qQ X.K C fI name)(e:H ea=some (xoK C t ea none))(W:RelV v u)
  (hq:∀r od s',H r=none->r≠ea->Inv X pins σ (upd (upd H r (.frz od (.xd [(name,v)]))) ea (xoK C t ea (some r))) s'->Q () s'):wpAny (model X.prog X.w) A (setAttr (.ref ea) name u) Q E s:=by
 have j:=Hn (I.hok ea _ e);obtain⟨bm,N,nm,qn,bs,sn,sub,ab,col,dd,k0,k1,k2,k3,k5,lk,Y,_,_⟩:=Hj Z.cl;have g:=PySem.F.store_object
 obtain⟨G,R,hm,P⟩:∃G,clsIn X.K C=some G/\G.mro=.ref C::bm/\G.hasDict=true:=by
  refine⟨_,by unfold clsIn;rw[show X.K.lookup C=_ from lk],rfl,rfl⟩
 refine set_plain (od:=none) I.kIn ⟨j,rfl,rfl,trivial⟩ Z.sa ?_;have L0:Looks (model X.prog X.w) s.heap (isInstance (.ref ea) (.type "object")) true:=(show Looks (model X.prog X.w) s.heap (typeOf (.ref ea)) (.ref C) from(Looks.ld j).andThen .now).andThen (looks_mroIn I.kIn Z.ob);refine codeAny_call_builtin g.slot.plain g.entry (@check_slot (model X.prog X.w) _ _ {s with toks:=s.toks+1} "object.__setattr__" "object" "__setattr__" (.ref ea) [.str name s.toks,u] [] _ g.kind g.split L0 (g.args (.ref ea) (.str name s.toks) u) ?_)
 refine Wu I.kIn j rfl rfl ⟨_,rfl⟩ R P (by rw[hm,refuseLoop_ref];exact Hk _ Y) Z.na λh' tk' h i l=>?_
 show Q () _;have c:H s.heap.objs.size=none:=I.hok.fresh (zc _);have O:s.heap.objs.size≠ea:=(zz (ze j)).symm;obtain⟨od,es,ep,L,hr⟩:=id h;refine hq s.heap.objs.size od _ c O (I.un ⟨λb o q n _ _=>?_,λb o q n _ _=>?_,λb o q n _=>?_,λb o q _=>?_,λb U q=>?_,λb o T q=>?_,λb ps q=>?_⟩ λb o q=>?_)
 ·exact l b o (λz=>by rw[z,e] at n;cases n) q
 ·exact⟨o.slots,l b o (λz=>by rw[z,e] at n;cases n) q⟩
 ·rw[aH (λz=>by rw[z,e] at n;cases n),aH (zz (ze q))];exact n
 ·by_cases z:b=ea
  ·exact⟨_,z ▸ i⟩
  ·exact⟨o,l b o z q⟩
 ·rw[aH (λz=>by rw[z,e] at q;cases q),aH (λz=>by rw[z,c] at q;cases q)];exact q
 ·rw[aH (λz=>by rw[z,e] at q;cases q),aH (λz=>by rw[z,c] at q;cases q)];exact q
 ·refine⟨#[],?_⟩;rw[aH (λz=>by rw[z,e] at q;cases q),aH (λz=>by rw[z,c] at q;cases q),Array.append_empty];exact q
 ·by_cases z:b=ea
  ·subst z;rw[bu] at q;cases q;exact Hm i
  ·rw[aH z] at q
   by_cases y:b=s.heap.objs.size
   ·subst y;rw[bu] at q;cases q;refine⟨L,_,h,λf=>?_⟩
    by_cases m:f=name
    ·rw[if_pos m,m];show dC (List.lookup name [(name,v)]) _;rw[show List.lookup name [(name,v)]=some v by simp[List.lookup]];exact W
    ·have hb:(f == name)=false:=beq_eq_false_iff_ne.mpr m;rw[if_neg m,show List.lookup f [(name,v)]=none by simp only[List.lookup,hb]];exact True.intro
   ·rw[aH y] at q
    refine(I.hok b o q).stay (λJ T d a=>l J T (λx=>?_) a) (λJ a=>?_) λJ U a=>?_
    ·rcases d with rfl | d
     ·exact z x
     ·rw[x,e] at d;cases d
    ·rw[aH (λx=>by rw[x,e] at a;cases a),aH (λx=>by rw[x,c] at a;cases a)];exact a
    ·rw[aH (λx=>by rw[x,e] at a;cases a),aH (λx=>by rw[x,c] at a;cases a)];exact a
noncomputable def Ww(C:Addr)(name:Str):TS:=λD σ H=>∃a t v,σ[0]?=some (some (.ref a))/\σ[1]?=some (some v)/\H a=some (xoK C t a none)/\∀b c,H b=none->b≠a->D.nx σ (upd (upd H b (.frz c (.xd [(name,v)]))) a (xoK C t a (some b)))
theorem Wx   (Z:qQ X.K C fI name)(h0:X.N[0]?=some sf)(h1:X.N[1]?=some pn)(f:Vis X.env.scope sf)(d:Vis X.env.scope pn)(d0:(sf == ("__debug__":Str))=false)(d1:(pn == ("__debug__":Str))=false)(L:(sf == ("__classdict__":Str))=false)(J:(pn == ("__classdict__":Str))=false)
  (hs:swapsWith (.Name pn p3) (some (.Attribute (.Name sf p1) name p2)) p4.line X.env=pure false):PS X (.Assign [.Attribute (.Name sf p1) name p2] (.Name pn p3) p4) (Ww C name):=by
 intro pins s σ H D I q;obtain⟨b,t,v,F,E,y,k⟩:=q;refine plainObj_wpAny_Assign_Attribute (thn (iM (i:=1) h1 d d1 J pins s σ H (λa c=>a=v/\c=H) I ⟨v,E,rfl,rfl⟩) λu g z=>?_) hs;obtain⟨_,_,Q,h,rfl,rfl⟩:=z
 refine thn (iM (i:=0) h0 f d0 L pins g σ _ (λa c=>a=.ref b/\c=_) Q ⟨.ref b,F,rfl,rfl⟩) λl T z=>?_
 obtain⟨_,_,P,j,rfl,rfl⟩:=z;obtain rfl:l=Value.ref b:=j
 exact Wv P Z y h λG m R x r O=>⟨σ,_,O,k G m x r⟩
theorem Inv.dropH{σ:St}   (I:Inv X pins σ H s)(r:H ea=some (.ext φ))(h1:∀b,b≠ea->H' b=H b)(h2:H' ea=none):Inv X pins σ H' s:=by
 have f:∀b,H b=none->H' b=none:=λb n=>by
  by_cases z:b=ea
  ·rw[z];exact h2
  ·rw[h1 b z];exact n
 have ne:∀b o,H b=some o->(∀φ,o≠.ext φ)->H' b=some o:=λb o q n=>by
  rw[h1 b λz=>by rw[z,r] at q;cases q;exact n _ rfl];exact q
 refine⟨I.ok,I.os,I.bare,⟨I.base.keep,I.base.slot,λb o q n l=>f b (I.base.free b o q n l),I.base.there,λb h q=>ne b _ (I.base.tups b h q) (λ_ z=>nomatch z),λb o u q=>ne b _ (I.base.frzs b o u q) (λ_ z=>nomatch z),λb i q=>?_⟩,I.loc,I.cell,f _ I.free,λx c q=>f _ (I.freeC x c q),λp m=>?_,λb o q=>?_,I.len⟩
 ·obtain⟨more,a⟩:=I.base.tbls b i q;exact⟨more,ne b _ a λ_ z=>nomatch z⟩
 ·obtain⟨e,n,j,nf,d⟩:=I.pin p m;exact⟨e,f _ n,j,nf,d⟩
 ·have t:b≠ea:=λz=>by rw[z,h2] at q;cases q
  rw[h1 b t] at q
  exact(I.hok b o q).stay (λ_ _ _ e=>e) (λg a=>ne g _ a λ_ z=>nomatch z) λg h a=>ne g _ a λ_ z=>nomatch z
noncomputable def qR(P:Program)(w:World)(K:Frag)(mg:Str->Option Value)(base:Heap)(c name:Str)(k:Nat):Prop :=
 ∃(C a:Addr) (fd:FuncData) (b:List Str),mg c=some (.ref C)/\qQ K C a name/\isFn K (.ref a)=true/\Binds K fd b []/\cH P w K mg base CX0 k a fd b (spI C name)
theorem Wy{K:Frag}  {st:Stmt}    (y:mg c=some (.ref C))(Z:qQ K C fI name)(x:isFn K (.ref fI)=true)(m:Fun K "__init__" qual st fI fd)(S:bc [sf,pn] [sf,pn] (aJ st))
  (hb:∀(kV b pm:Value) (l:Option Addr) (a ct:Value) (us:List Value),us.length=[sf,pn].length->bindArgs (PySem.W.fnOf "__init__" qual (dh st) (bJ st) (aJ st) .none kV b pm l a ct) ⟨us,[]⟩=pure ([sf,pn].zip us))
  (g:bJ st=[.Assign [.Attribute (.Name sf p1) name p2] (.Name pn p3) p4]) (u:Vis (aJ st) sf) (r:Vis (aJ st) pn) (d0:(sf == ("__debug__":Str))=false) (d1:(pn == ("__debug__":Str))=false) (G:(sf == ("__classdict__":Str))=false) (F:(pn == ("__classdict__":Str))=false)
  (hs:∀L f a,swapsWith (.Name pn p3) (some (.Attribute (.Name sf p1) name p2)) p4.line (envOfC qual (aJ st) L f a)=pure false):qR Pr w K mg base c name 1:=by
 have i:=m.binds hb;obtain⟨P,O,kV,b,I,l,a,ct,J,rfl,lk,d⟩:=m.ex;refine⟨C,fI,_,_,y,Z,x,i,sV lk d S (λq H Q E h=>?_) λA outer s H q Q E R h=>?_⟩
 ·obtain⟨j,t,v,rfl,_⟩:=h;rfl
 ·obtain⟨j,t,v,rfl,e,k⟩:=h;rw[g];exact⟨_,CK (Wx (X:=cY CX0 Pr w K mg base [sf,pn] qual (aJ st) fI a A outer s H E) Z rfl rfl u r d0 d1 G F (hs _ _ _)),j,t,v,rfl,rfl,e,k⟩
theorem Wz{sub:List Value}     (r:bm.contains (.type "BaseException")=true)(H:A.handled=none)(u:(backTo cpos (starEach args env)).any (·.1)=false)
  (h:wpAny (model prog w) A (eval (.Name x np) env) (λf l=>f=.ref C/\wpAny (model prog w) A (evalArgs (.ref C) true (backTo cpos (starEach args env)) [])
   (λa i=>a.kw=[]/\i.heap.get? C=some (excClassObj nm q C N bs bm hdct sn sub ab col dd k0 k1 k2 k3 k5 newId)/\wpAny (model prog w) A (call (.ref C) a.pos) (λv b=>∃e t F,v=.ref e/\b.heap.get? C=some (excClassObj nm q C N bs bm hdct sn sub ab col dd k0 k1 k2 k3 k5 newId)/\b.heap.get? e=some (lr C t F)/\E (.ref e) b) E i) E l) E s):
  wpAny (model prog w) A (exec (.Raise (some (.Call (.Name x np) args [] cpos)) none pos) env) Q E s:=by
 rw[arm_exec_Raise]
 first
  |refine za (wpAny_standAt (Hl (C:=C) (nm:=nm) (q:=q) (N:=N) (bs:=bs) (bm:=bm) (hdct:=hdct) (sn:=sn) (sub:=sub) (ab:=ab) (col:=col) (dd:=dd) (k0:=k0) (k1:=k1) (k2:=k2) (k3:=k3) (k5:=k5) (newId:=newId) r H (za (zw (wpAny_Call_ofName (zw h (λf l j=>?_) λ_ _ x=>x)) (λv b c=>za (wpAny_standAt (zb c))) λ_ _ x=>x))))
  | (simp only[evalOpt,Option.map];refine za (wpAny_standAt (Hl (C:=C) (nm:=nm) (q:=q) (N:=N) (bs:=bs) (bm:=bm) (hdct:=hdct) (sn:=sn) (sub:=sub) (ab:=ab) (col:=col) (dd:=dd) (k0:=k0) (k1:=k1) (k2:=k2) (k3:=k3) (k5:=k5) (newId:=newId) r H (za (zw (wpAny_Call_ofName (zw h (λf l j=>?_) λ_ _ x=>x)) (λv b c=>za (wpAny_standAt (zb c))) λ_ _ x=>x)))))
 obtain⟨rfl,j⟩:=j;unfold callWith;refine za (zK (zw j (λa i m=>za (wpAny_standAt ?_)) λ_ _ x=>x));obtain⟨apos,G⟩:=a;obtain⟨y,I,m⟩:=m;obtain rfl:G=[]:=y;obtain⟨J,g,d,tk,os⟩:=i;simp only[u];refine za (wpAny_keeperOf_exc I ?_);exact za (zw m (λv b c=>za (zK (wpAny_point (zb c)))) λ_ _ z=>z)
noncomputable def jR(c name:Str)(m:M D):MS:=λρ O=>match m ρ O with
 | .ok d O'=>.ex ⟨c,[(name,d)]⟩ O'
 | _=>.no
theorem WD{R:RR}   {p l pos:Pos}   (Cn:qR X.prog X.w X.K X.mg X.base c name k)(hr:aP (k+1) X.A)(hc:X.calm=true)(ha:VE X md P a m)(hg:Gl X c:=by rfl)(hd:(c == ("__debug__":Str))=false:=by decide)
  (T:starEach [a] X.env=(false,eval a X.env)::starEach [] X.env:=by exact bF rfl) (hpl:(backTo l (starEach [a] X.env)).any (·.1)=false:=by rfl):
  VSF X md P R (.Raise (some (.Call (.Name c p) [a] [] l)) none pos) (jR c name m):=by
 intro pins s σ H D I q;obtain⟨ρ,O,F,as,r,sl,k0⟩:=q;obtain⟨C,fI,fd,ps,hC,Z,hf,hb,Fn⟩:=Cn;unfold jR at k0
 cases em:m ρ O with
 |ex x O'=>rw[em] at k0;exact False.elim k0
 |no=>rw[em] at k0;exact False.elim k0
 |ok d O' =>
  rw[em] at k0;dsimp only at k0;obtain⟨bm,N,nm,qn,bs,sn,sub,ab,col,dd,kk0,kk1,kk2,kk3,kk5,lk,ht,hno,hin⟩:=Hj Z.cl;refine Wz (C:=C) (nm:=nm) (q:=qn) (N:=N) (bs:=bs) (bm:=bm) (hdct:=true) (sn:=sn) (sub:=sub) (ab:=ab) (col:=col) (dd:=dd) (k0:=kk0) (k1:=kk1) (k2:=kk2) (k3:=kk3) (k5:=kk5) (newId:="ValueError.__new__") ((tail_of_in I.kIn ht).hasType PySem.F.excBase_ValueError.hasBase) (I.ok.hd hc) hpl (j6 I hg hC ⟨rfl,?_⟩ hd);have hA:=dZ ha fM T l pins s σ H (λvs j=>∃v y g,vs=[v]/\Gr H F as j y g/\RlO X.K X.mg O' j y g/\Rp X.K y g v d) I ⟨ρ,O,F,as,d,O',r,sl,em,λv j y g g1 G hv=>⟨v,y,g,rfl,g1,G,hv⟩⟩
  rw[T] at hA ⊢;refine Calls.evalArgs_plain (thn hA λus i z=>?_);obtain⟨vs,j,E,rv,v,y,g,rfl,g1,G,hv⟩:=z;obtain⟨u,rfl,ru⟩:=vals1 rv;refine⟨rfl,E.kIn _ _ lk,?_⟩;have W:j (i.heap.objs.size+1)=none:=E.hok.fresh (Nat.le_succ _)
  have kp:∀b o,i.heap.get? b=some o->(mD i.heap C [u]).get? b=some o:=λb o e=>zl _ (zl _ e)
  have hge:(mD i.heap C [u]).get? (i.heap.objs.size+1)=some (lr C i.heap.objs.size none):=by
   unfold mD lr;exact Heap.get?_push_at (by rw[Heap.size_push]) rfl
  have I2:Inv X pins σ (upd j (i.heap.objs.size+1) (xoK C i.heap.objs.size (i.heap.objs.size+1) none)) {i with heap:=mD i.heap C [u]}:=E.laid (t':=i.toks) kp (Nat.le_succ _) (Hm hge);have U:i.heap.Ns N _:=.of_isNs (isNs_of_in E.kIn hno);have hfo:typeIn X.K (.ref fI)=some (.type "function"):=beq_iff_eq.mp hf
  obtain⟨oI,hoI,hoc⟩:∃oI,i.heap.get? fI=some oI/\oI.cls=.type "function":=by
   obtain⟨o,ho,hc'⟩:=Option.map_eq_some_iff.mp (show(X.K.lookup fI).map (·.cls)=some (.type "function") from hfo);exact⟨o,E.kIn _ _ ho,hc'⟩
  obtain⟨f,gg,dr,tk,os⟩:=i;refine Wt PySem.F.excBase_ValueError (tail_of_in E.kIn ht) (E.kIn _ _ lk) U (Wr E.kIn U hin) hoI hoc ?_ (by rw[sizeLine_eq];show(1:Nat)<=16777216;decide);have sp:spI C name [.ref (f.objs.size+1),v] (upd j (f.objs.size+1) (xoK C f.objs.size (f.objs.size+1) none)) (λv' H2=>v'=.non/\∃h t,upd j (f.objs.size+1) (xoK C f.objs.size (f.objs.size+1) none) h=none/\h≠f.objs.size+1/\H2=upd (upd (upd j (f.objs.size+1) (xoK C f.objs.size (f.objs.size+1) none)) h (.frz t (.xd [(name,v)]))) (f.objs.size+1) (xoK C f.objs.size (f.objs.size+1) (some h))) (λ_ _ _=>False):=
   ⟨_,_,v,rfl,bu,λh t Y J=>⟨rfl,h,t,Y,J,rfl⟩⟩
  have hl:=Fn.len _ _ _ _ sp;have bi:=hb {heap:=mD f C [u],gens:=gg,drawn:=dr,toks:=tk,os:=os} [.ref (f.objs.size+1),u] I2.kIn hl;rw[zI] at bi;refine zX (codeAny_mono (Fn.run _ X.stack _ _ ⟨[.ref (f.objs.size+1),u],[]⟩ [.ref (f.objs.size+1),u] [.ref (f.objs.size+1),v] _ _ (hr.make C [u] []) (I2.env0.make C [u] []) bi (.cons rfl (.cons ru .nil)) sp) λres s2 L=>?_)
  cases res with
  |error e=>exact False.elim L
  |ok fl =>
   cases fl with
   |ret u' =>
    obtain⟨v',H2,I3,rv',rfl,h,t,Y,J,rfl⟩:=I2.after L;refine⟨rv',?_⟩;have hx:=Hn (I3.hok (f.objs.size+1) _ bu)
    have Q:j h=none:=by rw[aH J] at Y;exact Y
    have I4:Inv X pins σ (upd j h (.frz t (.xd [(name,v)]))) s2:=I3.dropH (ea:=f.objs.size+1) bu (λb hb=>by
     rw[aH hb];unfold upd
     rw[if_neg hb]) (by rw[aH J.symm];exact W)
    refine⟨_,_,_,rfl,I3.kIn _ _ lk,hx,?_⟩;have fN:y h=none:=G.frF Q;have g2:Gr j y g (upd j h (.frz t (.xd [(name,v)]))) (upd y h (.frz t (.xd [(name,v)]))) g:=(Gr.lay Q).frz Q fN;have r2:RlO X.K X.mg O' (upd j h (.frz t (.xd [(name,v)]))) (upd y h (.frz t (.xd [(name,v)]))) g:=(G.lay Q).frz bu fN (λz=>G.all z Q) rfl;have wx:=k0 (some h) _ _ g (g1.trans g2).toS r2 (.inr ⟨h,t,[(name,v)],rfl,bu,rfl,Rps.cons (Rp.gr hv g2) Rps.nil⟩);refine wx.1 pins σ s2 (f.objs.size+1) C hC I4 ⟨_,_,_,hx,rfl,rfl,rfl,rfl,rfl,by rw[aH J.symm];exact W,Heap.get?_none_of_le (zE E.sz (Nat.le_succ _))⟩
   |next=>exact False.elim L
   |brk=>exact False.elim L
   |cont=>exact False.elim L
end L2
namespace L2
open PySem PySem.Spec PyProof.Rows PySem.W
noncomputable def Cx.inH(X:Cx)(ea:Addr):Cx:={X with A:=X.A.mark (some (.ref ea)),calm:=false,xe:=λ_ _=>False}
noncomputable def xcO(oe:Obj):HO:=.frz oe (.ext λ_=>True)
theorem Inv.inH{σ:St}(I:Inv X pins σ H s)(ea:Addr):Inv (X.inH ea) pins σ H s:=by
 have ok:=I.ok;exact⟨⟨ok.mod,ok.kind,ok.glob,ok.blt,ok.above,ok.inj,ok.has,ok.cab,(λz=>(nomatch z)),ok.frames,ok.stk,ok.exf,ok.bs,ok.bsz,ok.noex,ok.exfs,ok.funs,ok.frf⟩,I.os,I.bare,I.base,I.loc,I.cell,I.free,I.freeC,I.pin,I.hok,I.len⟩
theorem Inv.outH{σ:St}(ok:X.Ok)(I:Inv (X.inH ea) pins σ H s):Inv X pins σ H s:=⟨ok,I.os,I.bare,I.base,I.loc,I.cell,I.free,I.freeC,I.pin,I.hok,I.len⟩
theorem Inv.trackX{σ:St}  (I:Inv X pins σ H s)(g:s.heap.get? ea=some oe)(hd:oe.data=.fields ws)(C:H ea=none)(h0:X.s₀.heap.get? ea=none)(E:ea≠X.env.locals)(y:∀p∈X.pn++pins,p.1≠ea):Inv X pins σ (upd H ea (xcO oe)) s:=by
 have ne:∀b o,H b=some o->upd H ea (xcO oe) b=some o:=λb o q=>by
  rw[aH (bI q C)];exact q
 refine⟨I.ok,I.os,I.bare,⟨I.base.keep,I.base.slot,λb o q n t=>?_,I.base.there,λb i q=>ne b _ (I.base.tups b i q),λb o u q=>ne b _ (I.base.frzs b o u q),λb m q=>?_⟩,I.loc,I.cell,?_,λx c q=>?_,λp f=>?_,λb o q=>?_,I.len⟩
 ·rw[aH (λz=>by rw[z,h0] at q;cases q)];exact I.base.free b o q n t
 ·obtain⟨more,a⟩:=I.base.tbls b m q;exact⟨more,ne b _ a⟩
 ·rw[aH E.symm];exact I.free
 ·rw[aH (λz=>?_)]
  ·exact I.freeC x c q
  ·obtain⟨v,o,j,l⟩:=I.cell x c q;rw[z,g] at j;cases j;rw[hd] at l;cases l
 ·obtain⟨e,n,r,nf,d⟩:=I.pin p f;exact⟨e,by rw[aH (y p f)];exact n,r,nf,d⟩
 ·by_cases z:b=ea
  ·subst z;rw[bu] at q;cases q;exact⟨g,True.intro,⟨_,g⟩,λ_ _ _ _=>True.intro⟩
  ·rw[aH z] at q
   exact(I.hok b o q).stay (λ_ _ _ e=>e) (λh a=>ne h _ a) λh i a=>ne h _ a
noncomputable def D3F(D:Ends)(i:Nat):Ends:={nx:=λa b=>D.nx (a.set i none) b,rt:=D.rt}
noncomputable def HsF(X:Cx)(D:Ends)(σ:St)(H:Hp)(ea C:Addr)(a:Option Addr):List ExceptHandler->Prop
 | .ExceptHandler (some (.Name T p)) (some n) (b::suite) pos::rest=>∃A,X.mg T=some (.ref A)/\Gl X T/\(T == ("__debug__":Str))=false /\
   ((exmOne X.K (.ref C) (.ref A)=some false/\HsF X D σ H ea C a rest)\/(exmOne X.K (.ref C) (.ref A)=some true/\∃i,X.N[i]?=some n/\X.env.kindOf n=some .local /\
    ∀c:Obj,c.cls=.ref C->c.dict=a->(∃d,c.data=.fields d)->∃t,PSs (X.inH ea) (b::suite) t/\t (D3F D i) (σ.set i (some (.ref ea))) (upd H ea (xcO c))))
 | _=>False
theorem WK{σ:St}{D:Ends}     (hst:X.stack=X.env::X.outer)(hfr:X.env.frame=some X.env.locals)(hN:X.N.Nodup)(hn:H ea=none)(h0:X.s₀.heap.get? ea=none)(hp:∀p∈X.pn++pins,p.1≠ea)
  (I:∀h2:Heap,B.StaysIn h2->s.heap.UpToSlots h2->Inv X pins σ H {s with heap:=h2}) (Y:Heap.FlyingW B (X.env::X.outer) ea (.ref C) a0 s.heap) (E:∃oe,s.heap.get? ea=some oe/\oe.dict=dxo):
  ∀{hs:List ExceptHandler},HsF X D σ H ea C dxo hs->wpAny (model X.prog X.w) X.A (handleBy (.ref ea) X.env hs) (SP X pins D) X.xe s:=by
 have apart:∀(h2:Heap) (oe:Obj) (R:Array Value),h2.FunFrames B (X.env::X.outer)->h2.get? ea=some oe->oe.data=.fields R->ea≠X.env.locals:=λh2 oe R ff he hd z=>by
  have hb:X.env.locals∈(X.env::X.outer).filterMap (·.frame):=by
   rw[List.filterMap_cons,hfr];exact zj
  obtain⟨_,o,ho,nf⟩:=ff.mem hb;rw[<-z,he] at ho;cases ho;exact nf R hd
 have g:Inv X pins σ H s:=I s.heap Y.1 (Heap.UpToSlots.refl _)
 obtain⟨oe,R,L,d,hoed,_⟩:=Y.first
 intro hs
 induction hs with
 |nil=>exact λh=>False.elim h
 |cons hd rest ih =>
  intro h;unfold HsF at h;split at h
  ·rename_i T p n b₀ suite pos rest' eq;cases eq;obtain⟨A,hT,hgT,hTd,h⟩:=h;refine wpAny_handleBy_cons (codeAny_handlers_test ?_) (by intro q;cases q);refine j6 (X:=X.inH ea) (g.inH ea) hgT hT ?_ hTd
   rcases h with⟨y,h⟩ | ⟨y,i,hi,c,k⟩
   ·refine(exm_one g.kIn (d ▸ (Looks.ld L).andThen .now) y).at ?_;exact ih h
   ·refine(exm_one g.kIn (d ▸ (Looks.ld L).andThen .now) y).at ?_;refine codeAny_handlers_suite_as ?_
    refine zw (lq (qO _ _) (lands_againW (Q:=λ_ s2=>∃h3,s2 = {s with heap:=h3}/\Heap.FlyingW B (X.env::X.outer) ea (.ref C) a0 h3/\s.heap.UpToSlots h3) Y λh3 fl3 j=>⟨h3,rfl,fl3,j⟩)) (λ_ s2 z=>?_) λ_ _ z=>z.1
    obtain⟨⟨h3,rfl,fl3,j⟩,dk⟩:=z;have I3:=I h3 fl3.1 j
    obtain⟨oe3,G,b,F,a,_⟩:=fl3.first
    obtain⟨oeD,O,E⟩:=E;obtain⟨l,P,hd4⟩:=dk ea oeD O;have e4:l=oe3:=zH (P.symm.trans b);subst e4;have nl3:=apart h3 l G fl3.2.2.1 b a;have I3x:=(I3.trackX b a hn h0 nl3 hp).inH ea;obtain⟨t,hs,ht⟩:=k l F (hd4.trans E) ⟨G,a⟩;refine nD (X:=X.inH ea) (v:=.ref ea) I3x hN hi (.inl c) rfl (λs4 I4=>?_) (.inr c);refine zw (hs pins s4 _ _ (D3F D i) I4 ht) (λf s5 sp=>?_) (λ_ _ z=>z.elim)
    cases f with
    |next =>
     obtain⟨σ5,H5,Z,U⟩:=sp;have J:=Z.outH g.ok;obtain⟨m,W,hl⟩:=J.loc
     refine wpAny_nameGoes_keeps c W (by rw[g.ok.kind];rfl) λh6 v x r=>?_
     exact⟨_,H5,J.goneI hN hi hl x r,U⟩
    |ret u =>
     obtain⟨v,σ5,H5,Z,r5,U⟩:=sp;have J:=Z.outH g.ok;obtain⟨m,W,_⟩:=J.loc
     refine wpAny_nameGoes c W (by rw[g.ok.kind];rfl) λh6 m6 x r=>?_
     exact⟨v,_,H5,J.gone x r,r5,U⟩
    |brk=>obtain⟨_,_,_,q⟩:=sp;exact q.elim
    |cont=>obtain⟨_,_,_,q⟩:=sp;exact q.elim
  ·exact False.elim h
theorem WL{σ:St}    {D:Ends}  (I:Inv X pins σ H s)(hx:CXF X.prog X.w X.stack H s E e s')(g:X.stack=X.env::X.outer)(m:X.env.frame=some X.env.locals)(hN:X.N.Nodup)(T:X.ex=[])
  (k:∀(ea C:Addr) (a:Option Addr) (c:Hp),E (.ref C) a c->c ea=none->HsF X D σ c ea C a hs):
  wpAny (model X.prog X.w) X.A (noteFrame e X.env) (λ_ t=>wpAny (model X.prog X.w) X.A (setFlight e none) (λ_ r=>wpAny (model X.prog X.w) X.A (handleBy e X.env hs) (SP X pins D) X.xe r) X.xe t) X.xe s':=by
 obtain⟨ea,C,c,B,a0,a,rfl,P,i,un,hok,b,trk,j,⟨oe,R,W⟩,hE⟩:=hx;have fl':=b;rw[g] at fl';have frames:=I.ok.frames;rw[g] at frames
 have hn:c ea=none:=by
  cases q:c ea with
  |none=>rfl
  |some u =>
   obtain⟨o,z⟩:=trk ea u q;rw[b.2.1] at z;cases z
 have L:ea∉frs X.stack:=λz=>by
  obtain⟨l,ws,U,_,hd,_⟩:=b.first
  obtain⟨_,o,ho,nf⟩:=b.2.2.1.mem z;rw[U] at ho;cases ho;exact nf ws hd
 have hold:s.heap.get? ea=none:=by
  cases q:s.heap.get? ea with
  |none=>rfl
  |some o =>
   obtain⟨o',z⟩:=j ea o q L;rw[b.2.1] at z;cases z
 have h0:X.s₀.heap.get? ea=none:=by
  cases q:X.s₀.heap.get? ea with
  |none=>rfl
  |some o =>
   obtain⟨o',z⟩:=I.base.there ea o q (by rw[T];exact λz=>nomatch z);rw[hold] at z;cases z
 have G:∀p∈X.pn++pins,p.1≠ea:=λp G z=>by
  have q:=(I.pin p G).1;rw[z,hold] at q;cases q
 have O:∀h2:Heap,B.StaysIn h2->s'.heap.UpToSlots h2->Inv X pins σ c {s' with heap:=h2}:=λh2 y F=>I.call' (s':={s' with heap:=h2}) (ch:=[]) P (xE un b.1 b.2.2.1 j y F) (xF hok trk b.1 y) i λ_ z=>nomatch z
 refine zw (lq (xJ _ _) (wpAny_looks_onW (Q:=λ_ x=>∃h1,x = {s' with heap:=h1}/\Heap.HeldW B (X.env::X.outer) ea (.ref C) a0 X.env.locals h1/\s'.heap.UpToSlots h1) frames m fl' λh1 held f=>⟨h1,rfl,held,f⟩)) (λ_ x z=>?_) λ_ _ z=>z.1
 obtain⟨⟨h1,rfl,held,f⟩,Z⟩:=z
 refine zw (lq (qO _ _) (wpAny_landsW (s:={s' with heap:=h1}) (Q:=λ_ x=>∃h2,x = {s' with heap:=h2}/\Heap.FlyingW B (X.env::X.outer) ea (.ref C) a0 h2/\h1.UpToSlots h2) held λh2 h d=>⟨h2,rfl,h,d⟩)) (λ_ s3 z=>?_) λ_ _ z=>z.1
 obtain⟨⟨h2,rfl,h,d⟩,Y⟩:=z;obtain⟨J,e1,d1⟩:=Z ea oe R;obtain⟨l,e2,d2⟩:=Y ea J e1;exact WK (s:={s' with heap:=h2}) g m hN hn h0 G (λh3 y F=>O h3 y ((f.trans d).trans F)) h ⟨l,e2,(d2.trans d1).trans W⟩ (k ea C a c hE hn)
end L2
namespace L2
open PySem PySem.Spec PyProof.Rows PySem.W PySem.Calls PySem.Builtin PySem.Builtin.ObjectAttr
theorem WM         {σ:St}      (F:cH X.prog X.w X.K X.mg X.base (CXF X.prog X.w) k f fd ps sp)(g:aP k X.A)(hb:Binds X.K fd ps [])
  (I:Inv X pins σ H s) (r:aL vs us) (h:sp vs H Q E) (d:∀e s',CXF X.prog X.w X.stack H s E e s'->W e s'):wpAny (model X.prog X.w) X.A (call (.ref f) us) (EP X pins σ Q) W s:=by
 have i:us.length=ps.length:=by rw[<-r.length];exact F.len _ _ _ _ h
 have c:=hb s us I.kIn (by rw[zI];exact i);rw[zI] at c;refine zX (codeAny_mono (F.run X.A X.stack s H ⟨us,[]⟩ us vs Q E g I.env0 c r h) λb s' a=>?_)
 cases b with
 |error e=>exact d e s' a
 |ok fl =>
  cases fl with
  |ret u=>exact I.after a
  |next=>exact False.elim a
  |brk=>exact False.elim a
  |cont=>exact False.elim a
noncomputable def VEH(X:Cx)(md:List Md)(P:Pt)(R:RR)(e:Expr)(m:M D):Prop:=∀(pins:List (Addr×Obj)) (s:Shared) (σ:St) (H:Hp) (ρ:aV) (O:az) (F:Hp) (a:List Addr) (Q:VK) (W:Value->Shared->Prop),Inv X pins σ H s->RlO X.K X.mg O H F a->SlO X.K md P ρ σ H F a ->
 Hh X.K X.mg R (λx b j=>∀(h:Hp) (f:Shared) (e:Value) (g:Shared),Inv X pins σ h f->CXF X.prog X.w X.stack h f (λi d c=>∃C,i=.ref C/\X.mg x.cls=some (.ref C)/\d=b/\c=j) e g->W e g) H F a Q (m ρ O)->wpAny (model X.prog X.w) X.A (eval e X.env) (EP X pins σ Q) W s
noncomputable def exJ(X:Cx)(pins:List (Addr×Obj))(σ:St)(W:Value->Shared->Prop):XK:=λa d i=>∃(x:Xc) (C:Addr),a=.ref C/\X.mg x.cls=some (.ref C)/\∀(g:Hp) (c:Shared) (e:Value) (f:Shared),Inv X pins σ g c->CXF X.prog X.w X.stack g c (λa h b=>∃C,a=.ref C/\X.mg x.cls=some (.ref C)/\h=d/\b=i) e f->W e f
theorem WN  {σ:St}    (I:Inv X pins σ H s)(e:Value)(s':Shared)(m:CXF X.prog X.w X.stack H s (exJ X pins σ W) e s'):W e s':=by
 obtain⟨b,C,y,B,u,a,rfl,l,j,i,h,g,f,d,c,x,E,t,r,q⟩:=m;cases t;exact q H s (.ref b) s' I ⟨b,C,y,B,u,a,rfl,l,j,i,h,g,f,d,c,C,rfl,r,rfl,rfl⟩
theorem Ho         {p1 G:Pos}(hR:cP R)
  (Cn:jQ X.prog X.w X.K X.mg X.base f ps k (fH X.K X.mg pm R c)) (hr:aP k X.A) (ha:∀E,AE (X.wish E) md P pm (a::as) ma) (hg:Gl X f:=by rfl) (Z:(f == ("__debug__":Str))=false:=by decide)
  (hs:starEach (a::as) X.env=(false,eval a X.env)::starEach as X.env:=by exact bF rfl) (Y:(backTo G (starEach as X.env)).any (·.1)=false:=by exact cR rfl):VEH X md P R (.Call (.Name f p1) (a::as) [] G) (fW c ma):=by
 intro pins s σ H ρ O F q Q W I r sl g;obtain⟨fa,fd,hm,hk,hb,Fn,_⟩:=Cn;unfold fW at g
 cases em:ma ρ O with
 |ex x O'=>rw[em] at g;exact False.elim g
 |no=>rw[em] at g;exact False.elim g
 |ok ds O1 =>
  rw[em] at g;dsimp only at g;refine wpAny_Call_Name_kw (j6 I hg hm ?_ Z);refine PySem.W.callWith_K (h₀:=X.base) I.ok.mod.kin hk (thn (ha W G pins s σ H (λt m=>∃i b,Gr H F q m i b/\RlO X.K X.mg O1 m i b/\cC X.K m i b pm t ds) (I.wish W) ⟨ρ,O,F,q,ds,O1,r,sl,em,λt m i b l y h1=>⟨i,b,l,y,h1⟩⟩) λus s1 z=>?_) hs Y;obtain⟨t,m,J1,rv,i,b,l,y,h1⟩:=z;have J:=J1.unwish;refine⟨J.kIn,WM (E:=exJ X pins σ W) Fn hr hb J rv ⟨ds,O1,i,b,y,h1,?_⟩ (WN J)⟩
  cases ec:c ds O1 with
  |ok d O2 =>
   rw[ec] at g
   exact λv T U j L u h=>g v T U j (l.trans L) u (hR _ _ _ _ _ _ _ (λa z=>l.dm a z) h)
  |ex x O2 =>
   rw[ec] at g
   exact λC dxo T U j hC L u hx=>⟨x,C,rfl,hC,g dxo T U j (l.trans L) u hx⟩
  |no=>rw[ec] at g;exact False.elim g
noncomputable def EXM(K:Frag)(mg:Str->Option Value)(T c:Str)(b:Bool):Prop:=∃C A,mg c=some (.ref C)/\mg T=some (.ref A)/\exmOne K (.ref C) (.ref A)=some b
abbrev HM:=List Str×List Str×Nat×MS
noncomputable def mF:List HM->Xc->MS
 | [],_=>λ_ _=>.no
 | (ys,ns,i,hb)::rest,x=>λρ O=>if ys.contains x.cls=true then(match hb (ρ.set i (some (.ob O.length))) (O++[.xc x.cls x.fs]) with
   | .nx ρ' O2=>.nx (ρ'.set i none) O2
   | .rt d O2=>.rt d O2
   | _=>.no) else if ns.contains x.cls=true then mF rest x ρ O else .no
noncomputable def VHs(X:Cx)(md:List Md)(P:Pt)(R:RR):List ExceptHandler->List HM->Prop
 | _,[]=>True
 | .ExceptHandler (some (.Name T p)) (some n) (a::suite) pos::rest,(ys,ns,i,hb)::rest'=>(∀c∈ys,EXM X.K X.mg T c true)/\(∀c∈ns,EXM X.K X.mg T c false)/\Gl X T/\(T == ("__debug__":Str))=false/\X.N[i]?=some n/\X.env.kindOf n=some .local/\md[i]?=some .v /\
   (∀b,VSs (X.inH b) md P R (a::suite) hb)/\VHs X md P R rest rest'
 | _,_=>False
theorem WQ :VHs X md P R hs []:=by
 cases hs<;>simp[VHs]
theorem WR{n:Str}{p b:Pos}   {rest:List ExceptHandler}  {i:Nat}   (h1:∀c∈ys,EXM X.K X.mg T c true)(h2:∀c∈ns,EXM X.K X.mg T c false)
  (hs:∀ea,VSs (X.inH ea) md P R (a::suite) hb) (d:VHs X md P R rest rest') (j:Gl X T:=by rfl) (hd:(T == ("__debug__":Str))=false:=by decide) (h:X.N[i]?=some n:=by rfl) (g:X.env.kindOf n=some .local:=by rfl) (f:md[i]?=some .v:=by rfl):
  VHs X md P R (.ExceptHandler (some (.Name T p)) (some n) (a::suite) b::rest) ((ys,ns,i,hb)::rest'):=⟨h1,h2,j,hd,h,g,f,hs,d⟩
theorem RlO.xc{K:Frag}         (r:RlO K mg O H F as)(g:H ea=none)(y:mg c=some (.ref C))(u:oe.cls=.ref C)(hd:∃q,oe.data=.fields q)(t:XF K F as oe.dict fs):
  RlO K mg (O++[.xc c fs]) (upd H ea (xcO oe)) F (as++[ea])/\Gr H F as (upd H ea (xcO oe)) F (as++[ea]):=by
 have at_:∀(n:Nat) (a:Addr),as[n]?=some a->(as++[ea])[n]?=some a:=λn a h=>by
  rw[zA (zk.mp h).1];exact h
 have i:Gr H F as (upd H ea (xcO oe)) F as:=Gr.lay g;have l:RlO K mg O (upd H ea (xcO oe)) F as:=r.lay g;refine⟨⟨l.fh,l.fd,?_,by simp[r.len],λa d=>?_,λn a o d f=>?_⟩,⟨i.fz,i.ff,⟨[ea],rfl,λa d=>by rw[zg.mp d];exact g⟩,λa o e d hd=>i.fr a o e d hd,i.dm,i.kz⟩⟩
 ·rw[zZ];refine⟨r.nd,by simp,λa d b x=>?_⟩;rw[zg.mp x];intro z;subst z;exact r.all d g
 ·rcases zv.mp d with z | z
  ·exact r.fa a z
  ·rw[zg.mp z];exact r.frF g
 ·by_cases j:n<O.length
  ·rw[zA (by rw[r.len];exact j)] at d;rw[zA j] at f;exact(l.ob n a o d f).keep rfl (Same.refl _) at_
  ·have m:n=O.length:=by
    have:=(zk.mp f).1
    simp at this
    omega
   subst m;rw[zC (zc _),Nat.sub_self] at f;rw[<-r.len,zC (zc _),Nat.sub_self] at d;cases f;cases d;exact⟨C,oe,_,y,bu,u,hd,t.mono (Same.refl _) at_⟩
theorem WT{md:List Md}{P:Pt}{R:RR}{D:Ends}{pins:List (Addr×Obj)}{σ:St}{ρ:aV}{O:az}{H F:Hp}{as:List Addr}{x:Xc}{ea C:Addr}{m:Option Addr}(r:RlO X.K X.mg O H F as)(sl:SlO X.K md P ρ σ H F as)(E:X.mg x.cls=some (.ref C))(hn:H ea=none)(hx:XF X.K F as m x.fs):
  ∀{hs:List ExceptHandler}{f:List HM},VHs X md P R hs f->iu X.K X.mg md P R D H F as (mF f x ρ O)->HsF X D σ H ea C m hs:=by
 intro hs
 induction hs with
 |nil =>
  intro f h k
  cases f with
  |nil=>exact False.elim k
  |cons a b=>exact False.elim h
 |cons hd rest ih =>
  intro f h k
  cases f with
  |nil=>exact False.elim k
  |cons a b =>
   unfold VHs at h;split at h
   ·rename_i q;cases q
   ·rename_i T p n b₀ suite pos rest1 ys ns i hb rest' eq1 eq2;cases eq1;cases eq2;obtain⟨h1,h2,hg,l,hi,hl,j,W,Y⟩:=h;unfold mF at k;split at k
    ·rename_i y;obtain⟨C',A,g,L,J⟩:=h1 x.cls (List.contains_iff_mem.mp y);rw[E] at g;cases g;refine⟨A,L,hg,l,.inr ⟨J,i,hi,hl,λoe hoc Z hda=>⟨_,W ea,?_⟩⟩⟩;obtain⟨r2,G⟩:=r.xc (oe:=oe) hn E hoc hda (Z ▸ hx);refine⟨ρ.set i (some (.ob O.length)),_,F,as++[ea],r2,(sl.step G).setV j (Rp.mkO (by rw[<-r.len,zC (zc _),Nat.sub_self];rfl)),?_⟩
     cases eb:hb (ρ.set i (some (.ob O.length))) (O++[.xc x.cls x.fs]) with
     |nx ρ' O2 =>
      rw[eb] at k
      exact λσ' Q U c I u t=>k _ Q U c (G.toS.trans I) u (t.drop (x:=none) j)
     |rt d O2 =>
      rw[eb] at k
      exact λv Q U c I u t=>k v Q U c (G.toS.trans I) u t
     |bk _ _=>rw[eb] at k;exact False.elim k
     |ct _ _=>rw[eb] at k;exact False.elim k
     |ex _ _=>rw[eb] at k;exact False.elim k
     |no=>rw[eb] at k;exact False.elim k
    ·split at k
     ·rename_i _ y;obtain⟨C',A,g,L,J⟩:=h2 x.cls (List.contains_iff_mem.mp y);rw[E] at g;cases g;exact⟨A,L,hg,l,.inl ⟨J,ih Y k⟩⟩
     ·exact False.elim k
   ·exact False.elim h
theorem WW{K:Frag}{os:OsState}   (X:K.In h)(I:InstAt h a o C (some od))(c:findObj K C (some od) name=some (.value v))(b:Q (.done (.ret v)) ⟨h,g,d,t,os⟩):
  wpAny (model prog w) A (Builtin.«object.__getattribute__» ⟨[.ref a,.str name tk],[]⟩) Q E ⟨h,g,d,t,os⟩:=by
 have i:=I.type (M:=model prog w);have f:=looks_find (M:=model prog w) X I c;unfold Builtin.«object.__getattribute__»;refine za (wpAny_of_eq (a:=(Value.ref a,[Value.str name tk])) rfl ?_);dsimp only;refine za (zb ?_);refine za (i.at ?_);refine za (f.at ?_);exact zb b
theorem WY{K:Frag}{os:OsState}   (b:gq K C)(X:K.In h)(I:InstAt h a o C (some od))(m:hasDictIn K C=true)(j:findIn K (.ref C) name=some none)(l:lookIn name od=some (some v))(hv:handedIn v=true)(i:Q v ⟨h,g,d,t+1,os⟩):
  wpAny (model prog w) A (getAttr (.ref a) name expr) Q E ⟨h,g,d,t,os⟩:=by
 have x:=I.type (M:=model prog w);have u:=looks_findIn (M:=model prog w) X b.ga;have r:=looks_findIn (M:=model prog w) X b.na;have f:=PySem.F.attrBase_ValueError.ga.bind (.ref a)
 have c:(onTheHeap (Value.ref C)&&Value.builtin "BaseException.__getattribute__" == Value.builtin "object.__getattribute__")=false:=by rw[show(Value.builtin "BaseException.__getattribute__" == Value.builtin "object.__getattribute__")=false by decide +kernel,Bool.and_false]
 have q:=findObj_own (od:=od) (v:=v) m j rfl l;unfold getAttr getAttrBy;refine za (wpAny_mkText (zK ?_));refine za (x.at ?_);refine za (u.at ?_);dsimp only;rw[if_neg (by rw[c];exact zq)];unfold getAttrByItsOwn;refine za ?_;unfold hookBefore;rw[if_pos (show onTheHeap (Value.ref C)=true from rfl)];refine r.at ?_;refine za (wpAny_attempt (zK ?_));unfold callGetattribute;rw[if_neg (by cases expr<;>decide)];unfold boundAndCalled;refine za (wpAny_of_eq f ?_);refine zX (codeAny_call_builtin PySem.F.attrBase_ValueError.ga.plain PySem.F.entry_bexc_ga (GR b X I.at_ I.cls (WW X I q ?_)))
 show wpAny (model prog w) A (handedOut v) _ _ _;exact handed_on hv i
theorem Hq:gO X (.builtin "isinstance") (λxs H Q=>∃(a C:Addr) (oe:Obj) (u:HO) (b:Bool),H a=some (.frz oe u)/\oe.cls=.ref C/\gq X.K C/\Q (.bl b) H /\
  ((∃v c,xs=[.ref a,v]/\uf v=some c/\kitOne X.K (.ref C) c=some b)\/∃g ys x,xs=[.ref a,.ref g]/\H g=some (.tup ys)/\oG ys=some x/\kitAny X.K (.ref C) x=some b)):=by
 intro pins s σ H xs us Q I r h;obtain⟨t,C,oe,u,b,y,G,J,q,h⟩:=h;have F:s.heap.get? t=some oe:=(I.hok t _ y).1
 have E:Value.ref t≠.builtin "__main__.__loader__#opaque":=λz=>nomatch z
 rcases h with⟨v,c,rfl,l,m⟩ | ⟨g,ys,x,rfl,U,l,m⟩
 ·obtain⟨O,L,rfl,j,i⟩:=vals2 r;cases j;rw[GZ i l]
  exact kia_one (GX J) I.kIn ⟨oe,F,G⟩ m E λtk=>⟨.bl b,H,I.tok tk,rfl,q⟩
 ·obtain⟨O,L,rfl,j,i⟩:=vals2 r;cases j;cases i;obtain⟨_,Z,P,R,T,f,n,d⟩:=I.hok g _ U;have W:=G3 P l;subst W;obtain⟨c0,d0,da0,Y⟩:=R;dsimp only at f d;subst f d
  exact kia_tup (GX J) I.kIn ⟨oe,F,G⟩ T m E λtk=>⟨.bl b,H,I.tok tk,rfl,q⟩
noncomputable def fX(tb:List (Str×Bool))(mo:M D):M D:=λρ O=>(mo ρ O).bind λd a=>match d with
 | .ob n=>match a[n]? with
  |some (.xc c _)=>match tb.lookup c with
   |some b=>.ok (.bl b) a
   |none=>.no
  | _=>.no
 | _=>.no
theorem Hr      (e:fX tb mo ρ O=.ok d O'):∃n c fs b,mo ρ O=.ok (.ob n) O'/\O'[n]?=some (.xc c fs)/\tb.lookup c=some b/\d=.bl b:=by
 obtain⟨x,h,g,e⟩:=Res.bind_ok e
 cases x with
 |ob n =>
  dsimp only at e;split at e
  ·rename_i c fs a;split at e
   ·rename_i b f;cases e;exact⟨n,c,fs,b,g,a,f,rfl⟩
   ·cases e
  ·cases e
 | _=>cases e
noncomputable def ISN(K:Frag)(mg:Str->Option Value)(T c:Str)(b:Bool):Prop:=∃C A,mg c=some (.ref C)/\gq K C/\mg T=some (.ref A)/\kitOne K (.ref C) (.ref A)=some b
noncomputable def ISV(K:Frag)(mg:Str->Option Value)(c:Str):Prop:=∃C,mg c=some (.ref C)/\gq K C/\kitOne K (.ref C) (.type "ValueError")=some true
noncomputable def qT(K:Frag)(mg:Str->Option Value)(ns:List Str)(c:Str)(b:Bool):Prop:=∃C a,mg c=some (.ref C)/\gq K C/\gw mg ns a/\kitAny K (.ref C) (a.map Value.ref)=some b
theorem gw.det :∀{ns:List Str}{as bs:List Addr},gw mg ns as->gw mg ns bs->as=bs
 | [],as,bs,h,h'=>by
  have e:as=[]:=h;have e':bs=[]:=h';rw[e,e']
 |n::ns,as,bs,h,h'=>by
  obtain⟨a,r,rfl,h1,h2⟩:=h;obtain⟨b,c,rfl,h3,h4⟩:=h';rw[h1] at h3;cases h3;rw[h2.det h4]
theorem Hs:∀{a:List Expr}{vs:List V},oH X a vs->PA X a (λ_ H Q=>Q vs H)
 | [],vs,h=>by
  have h':vs=[]:=h;subst h';exact fM
 |e::a,vs,h=>by
  obtain⟨v,r,rfl,h1,h2,h3⟩:=h;exact dZ (h1 X rfl rfl) (Hs h3) h2
theorem Ht  {p f:Pos}    {tb:List (Str×Bool)}(I:X.mg "isinstance" = none)(G:VE X md P o mo)(R:PE X eT (tC v))(hv:uf v=some cv)
  (U:∀c b,tb.lookup c=some b->∃C,X.mg c=some (.ref C)/\gq X.K C/\kitOne X.K (.ref C) cv=some b) (J:Gl X "isinstance":=by rfl)
  (g:starEach [o,eT] X.env=(false,eval o X.env)::starEach [eT] X.env:=by exact bF rfl) (j:starEach [eT] X.env=(false,eval eT X.env)::starEach [] X.env:=by exact bF rfl) (l:(backTo f (starEach [eT] X.env)).any (·.1)=false:=by exact cR rfl):
  VE X md P (.Call (.Name "isinstance" p) [o,eT] [] f) (fX tb mo):=
 (sW Hq J I (by decide +kernel) (dZ G (dZ R fM j) g) (by decide) (by decide) g l).imp λσ H Q q=>by
  obtain⟨ρ,O,F,as,d,O',r,s,e,k⟩:=q;obtain⟨n,c,fs,b,e1,e2,Z,rfl⟩:=Hr e;refine⟨ρ,O,F,as,.ob n,O',r,s,e1,λv1 H1 F1 t Y x i=>?_⟩;obtain⟨a,rfl,L⟩:=Rp.unO i;obtain⟨C,y,u,W,T,m,_,_⟩:=x.ob n a _ L e2;obtain⟨C',h,F0,E⟩:=U c b Z;rw[W] at h;cases h;exact⟨a,C,y,u,b,T,m,F0,k _ H1 F1 t Y x Rp.bl,.inl ⟨v,cv,rfl,hv,E⟩⟩
theorem W0   {p a d:Pos}  {tb:List (Str×Bool)}(m:X.mg "isinstance" = none)(r:∃A,X.mg T=some (.ref A))(l:VE X md P o mo)
  (t:∀c b,tb.lookup c=some b->ISN X.K X.mg T c b) (q:Gl X "isinstance":=by rfl) (i:Gl X T:=by rfl) (hd:(T == ("__debug__":Str))=false:=by decide)
  (g:starEach [o,.Name T a] X.env=(false,eval o X.env)::starEach [.Name T a] X.env:=by exact bF rfl) (f:starEach [.Name T a] X.env=(false,eval (.Name T a) X.env)::starEach [] X.env:=by exact bF rfl) (h:(backTo d (starEach [.Name T a] X.env)).any (·.1)=false:=by exact cR rfl):
  VE X md P (.Call (.Name "isinstance" p) [o,.Name T a] [] d) (fX tb mo):=by
 obtain⟨A,j⟩:=r;refine Ht (v:=.ref A) (cv:=.ref A) m l (vK i j rfl hd) rfl (λc b e=>?_) q g f h;obtain⟨C,u,h1,h2,h3,h4⟩:=t c b e;rw[j] at h3;cases h3;exact⟨C,h1,h2,h4⟩
theorem W2  {p a d:Pos}  {tb:List (Str×Bool)}(l:X.mg "isinstance" = none)(q:X.mg "ValueError" = none)(j:VE X md P o mo)
  (r:∀c b,tb.lookup c=some b->b=true/\ISV X.K X.mg c) (m:Gl X "isinstance":=by rfl) (i:Gl X "ValueError":=by rfl)
  (g:starEach [o,.Name "ValueError" a] X.env=(false,eval o X.env)::starEach [.Name "ValueError" a] X.env:=by exact bF rfl) (f:starEach [.Name "ValueError" a] X.env=(false,eval (.Name "ValueError" a) X.env)::starEach [] X.env:=by exact bF rfl) (h:(backTo d (starEach [.Name "ValueError" a] X.env)).any (·.1)=false:=by exact cR rfl):
  VE X md P (.Call (.Name "isinstance" p) [o,.Name "ValueError" a] [] d) (fX tb mo):=by
 refine Ht (v:=.ty "ValueError") (cv:=.type "ValueError") l j (Cu i q (by decide +kernel) rfl) rfl (λc b e=>?_) m g f h;obtain⟨rfl,C,h1,h2,h3⟩:=r c b e;exact⟨C,h1,h2,h3⟩
theorem W3    {h:Nat}{p i j:Pos}  {tb:List (Str×Bool)}(hm:X.mg "isinstance" = none)(hT:∃as,gw X.mg ns as)(J:∀as,gw X.mg ns as->oH X es (as.map V.ref))(Z:VE X md P o mo)
  (hE:∀c b,tb.lookup c=some b->qT X.K X.mg ns c b) (hns:ns.length<=1000:=by decide) (hg:Gl X "isinstance":=by rfl)
  (l:starEach [o,.Tuple es h i] X.env=(false,eval o X.env)::starEach [.Tuple es h i] X.env:=by exact bF rfl) (E:starEach [.Tuple es h i] X.env=(false,eval (.Tuple es h i) X.env)::starEach [] X.env:=by exact bF rfl) (G:(backTo j (starEach [.Tuple es h i] X.env)).any (·.1)=false:=by exact cR rfl):
  VE X md P (.Call (.Name "isinstance" p) [o,.Tuple es h i] [] j) (fX tb mo):=by
 obtain⟨x,g⟩:=hT
 refine(sW Hq hg hm (by decide +kernel) (dZ Z (dZ (Dt (Hs (J x g))) fM E) l) (by decide) (by decide) l G).imp λσ H Q q=>?_
 obtain⟨ρ,O,F,as,d,O',r,s,e,k⟩:=q;obtain⟨n,c,fs,b,e1,e2,e3,rfl⟩:=Hr e;refine⟨ρ,O,F,as,.ob n,O',r,s,e1,λv1 H1 F1 L g1 R y=>?_⟩;obtain⟨a,rfl,ha⟩:=Rp.unO y;obtain⟨C,Y,u,hC,U,I,_,_⟩:=R.ob n a _ ha e2;obtain⟨C',la',m,F0,t,T⟩:=hE c b e3;rw[hC] at m;cases m;rw[t.det g] at T;have hsz:sizeLine=16777216:=sizeLine_eq;refine⟨by rw[zx,g.len];omega,λW f=>?_⟩;refine⟨a,C,Y,u,b,by rw[aH (bI U f)];exact U,I,F0,k _ _ F1 L (g1.trans (Gr.lay f)) (R.lay f) Rp.bl,.inr ⟨W,x.map V.ref,x.map Value.ref,rfl,bu,G4 x,T⟩⟩
noncomputable def mH(f:Str)(L:List Str)(mo:M D):M D:=λρ O=>(mo ρ O).bind λd a=>match d with
 | .ob n=>match a[n]? with
  |some (.xc c fs)=>if L.contains c=true then(match fs.lookup f with
   |some d=>.ok d a
   |none=>.no) else .no
  | _=>.no
 | _=>.no
noncomputable def XFC(K:Frag)(mg:Str->Option Value)(f c:Str):Prop:=∃C,mg c=some (.ref C)/\gq K C/\findIn K (.ref C) f=some none/\hasDictIn K C=true
theorem FsR.at{K:Frag}{F:Hp}{as:List Addr}{f:Str}{d:D}:∀{fs:List (Str×D)}{gs:List (Str×V)},FsR K F as gs fs->fs.lookup f=some d->∃v,gs.lookup f=some v/\Rp K F as v d
 | [],gs,h,e=>by cases e
 | (g,y)::fs,gs,h,e=>by
  obtain⟨h1,h2⟩:=h
  cases gs with
  |nil=>cases h1
  |cons p gs =>
   obtain⟨b,x⟩:=p;have m:b=g:=(List.cons.inj h1).1;subst m;obtain⟨q,r,ex,j,l⟩:=Rps.un h2;cases ex
   by_cases a:(f == b)=true
   ·have e':some y=some d:=by
     simp only[List.lookup,a] at e;exact e
    cases e';exact⟨x,by simp only[List.lookup,a],j⟩
   ·have hf':(f == b)=false:=by simpa using a
    have e':fs.lookup f=some d:=by
     simp only[List.lookup,hf'] at e;exact e
    obtain⟨v,i,c⟩:=FsR.at (fs:=fs) (gs:=gs) ⟨(List.cons.inj h1).2,l⟩ e';exact⟨v,by simp only[List.lookup,hf'];exact i,c⟩
theorem Hu      (ho:VE X md P o mo)(hL:∀c∈L,XFC X.K X.mg f c)(hb:attributeBase o f X.env (eval o X.env)=eval o X.env:=by rfl):VE X md P (.Attribute o f pos) (mH f L mo):=by
 intro pins s σ H Q I q;obtain⟨ρ,O,F,as,d,O',r,sl,e,k⟩:=q;obtain⟨x,O1,e1,e⟩:=Res.bind_ok e
 cases x with
 |ob n =>
  dsimp only at e;split at e
  ·rename_i c fs eo;split at e
   ·rename_i hc;split at e
    ·rename_i d' T;cases e;refine Ds hb (thn (ho pins s σ H (λv h=>∃g b,Gr H F as h g b/\RlO X.K X.mg O' h g b/\Rp X.K g b v (.ob n)) I ⟨ρ,O,F,as,.ob n,O',r,sl,e1,λv h g b R i J=>⟨g,b,R,i,J⟩⟩) λu E z=>?_);obtain⟨v,h,t,rv,g,b,R,i,J⟩:=z;obtain⟨a,rfl,ha⟩:=Rp.unO J;obtain rfl:u=Value.ref a:=rv;obtain⟨C,oe,uu,hC,hH,hoc,⟨ws,hda⟩,G⟩:=i.ob n a _ ha eo;obtain⟨C',l,F0,hn,hh⟩:=hL c (List.contains_iff_mem.mp hc);rw[hC] at l;cases l
     rcases G with G | ⟨dx,od,gs,hdx,hF,hfs⟩
     ·rw[G] at T;cases T
     ·obtain⟨y,hw,Y⟩:=hfs.at T;have hHd:=i.fh _ _ hF;have Z:E.heap.get? a=some oe:=(t.hok a _ hH).1;obtain⟨hod,mA,hns,m⟩:=t.hok dx _ hHd;obtain⟨u1,W,j⟩:=dC.some_of (v:=y) (o:=mA f) (by rw[<-hw];exact m f);obtain⟨U,ho',hl⟩:=Dn hns;have hia:InstAt E.heap a oe C (some U):=⟨Z,hoc,by unfold notCls;rw[hda],by rw[hdx];exact ho'⟩;obtain⟨hh1,gg,dr,tk,os⟩:=E;exact WY F0 t.kIn hia hh hn (by rw[hl,W]) (Dq j) ⟨y,h,t.tok (tk+1),j,k y h g b R i Y⟩
    ·cases e
   ·cases e
  ·cases e
 | _=>cases e
end L2
namespace L2
open PySem PySem.Spec PyProof.Rows PySem.W
noncomputable def W4(A:Around):Around:={A with handled:=none}
structure QBG(P:Program)(w:World)(K:Frag)(mg:Str->Option Value)(base:Heap)(k:Nat)(f:Addr)(fd:FuncData)(ps:List Str)(sp:Sp):Prop where
 len:∀vs H Q E,sp vs H Q E->vs.length=ps.length
 run:∀(A:Around) (outer:List Env) (s:Shared) (H:Hp) (args:Args) (us:List Value) (vs:List V) (Q:VK) (E:XK),aP k (W4 A)->iQ P w K mg base A outer s H->BindsTo s fd args (ps.zip us)->aL vs us->sp vs H Q E ->
  codeAny (model P w) A (.call (.ref f) args) (CR CX0 outer P w H s Q E) s
theorem Hv         {h g:Pos}(m:jQ X.prog X.w X.K X.mg X.base f ps k (fH X.K X.mg pm (rV X.K) c))(i:aP k X.A)(l:AE X md P pm (a::as) ma)(j:Gl X f:=by rfl)(d:(f == ("__debug__":Str))=false:=by decide)
  (hs:starEach (a::as) X.env=(false,eval a X.env)::starEach as X.env:=by exact bF rfl) (b:(backTo g (starEach as X.env)).any (·.1)=false:=by exact cR rfl):VEF X md P (rV X.K) (.Call (.Name f h) (a::as) [] g) (fW c ma):=Wf bz m i l j d hs b
theorem xO{P:Str->Bool->Prop}:∀c b,([]:List (Str×Bool)).lookup c=some b->P c b:=λ_ _ e=>nomatch e
theorem xP{P:Str->Bool->Prop}    (h:P c b)(t:∀c b,tb.lookup c=some b->P c b):∀a d,((c,b)::tb).lookup a=some d->P a d:=λa d e=>by
 by_cases f:(a == c)=true
 ·have e':some b=some d:=by
   simp only[List.lookup,f] at e;exact e
  cases e';rw[beq_iff_eq.mp f];exact h
 ·have g:(a == c)=false:=by simpa using f
  refine t a d ?_;simp only[List.lookup,g] at e;exact e
theorem qU{P:Str->Prop}:∀c∈([]:List Str),P c:=λ_ e=>nomatch e
theorem um{P:Str->Prop}   (h:P c)(t:∀c∈l,P c):∀a∈c::l,P a:=λa e=>by
 rcases zh.mp e with rfl | e
 ·exact h
 ·exact t a e
theorem ISN.nm{K:Frag}    (h:ISN K mg T c b):∃A,mg T=some (.ref A):=let ⟨_,A,_,_,e,_⟩:=h;⟨A,e⟩
theorem qT.nm{K:Frag}     (h:qT K mg ns c b):∃as,gw mg ns as:=let ⟨_,as,_,_,e,_⟩:=h;⟨as,e⟩
theorem ISV.tb{K:Frag}   (h:ISV K mg c):true=true/\ISV K mg c:=⟨rfl,h⟩
noncomputable def oM(K:Frag)(mg:Str->Option Value)(c name qual:Str)(st:Stmt):Prop:=∃C a fd,mg c=some (.ref C)/\qQ K C a name/\isFn K (.ref a)=true/\Fun K "__init__" qual st a fd
theorem oM.can{r:Program}{w:World}{K:Frag}  {base:Heap}  {st:Stmt}  (h:oM K mg c name qual st)(S:bc [sf,pn] [sf,pn] (aJ st))
  (hb:∀(kV d pm:Value) (q:Option Addr) (a ct:Value) (us:List Value),us.length=[sf,pn].length->bindArgs (PySem.W.fnOf "__init__" qual (dh st) (bJ st) (aJ st) .none kV d pm q a ct) ⟨us,[]⟩=pure ([sf,pn].zip us))
  (b:bJ st=[.Assign [.Attribute (.Name sf p1) name p2] (.Name pn p3) p4]) (i:Vis (aJ st) sf) (g:Vis (aJ st) pn) (hs:∀L f a,swapsWith (.Name pn p3) (some (.Attribute (.Name sf p1) name p2)) p4.line (envOfC qual (aJ st) L f a)=pure false)
  (d0:(sf == ("__debug__":Str))=false:=by decide) (j:(pn == ("__debug__":Str))=false:=by decide) (m:(sf == ("__classdict__":Str))=false:=by decide) (l:(pn == ("__classdict__":Str))=false:=by decide):qR r w K mg base c name 1:=by
 obtain⟨C,t,fd,h1,h2,h3,h4⟩:=h;exact Wy h1 h2 h3 h4 S hb b i g d0 j m l hs
end L2
namespace L2
open PySem PySem.Spec PyProof.Rows PySem.W PySem.Calls
structure QBZ(mg:Str->Option Value):Prop extends Blt mg where
 any_:mg "any" = none
end L2
namespace L2
open PySem PySem.Spec PyProof.Rows PySem.W
noncomputable def oN  (t:Sem α):Prop:=∀(M:Model) (Γ:PySem.Ctx) (Q:α->Pos->Shared->Prop) (E:Value->Pos->Shared->Prop) (p:Pos) (s:Shared),Sem.wp M Γ t Q E p s->Sem.wp M Γ t (λa c b=>1<=b.toks/\Q a c b) (λe c b=>1<=b.toks/\E e c b) p s
theorem Hw  :oN (Sem.fresh k):=λM Γ Q E p s h=>Sem.wp_toks M Γ 1 (k s.toks) Q E p {s with toks:=s.toks+1} (Nat.le_add_left _ _) h
theorem W5   {k:Unit->Sem α}(h:oN (k ())):oN (Sem.at p' k):=λM Γ Q E p s q=>h M Γ Q E p' s q
structure QBD(P:Program)(w:World)(K:PySem.W.Frag)(mg:Str->Option Value)(base:Heap)(k:Nat)(f:Addr)(fd:FuncData)(ps:List Str)(sp:Sp):Prop where
 len:∀vs H Q E,sp vs H Q E->vs.length=ps.length
 run:∀(A:Around) (outer:List Env) (s:Shared) (H:Hp) (args:Args) (us:List Value) (vs:List V) (Q:VK) (E:XK),aP k A->iQ P w K mg base A outer s H->BindsTo s fd args (ps.zip us)->aL vs us->sp vs H Q E ->
  codeAny (model P w) A (.call (.ref f) args) (λr s'=>1<=s'.toks/\CR CX0 outer P w H s Q E r s') s
noncomputable def W6(a b:Str)(to:TE):TE:=λσ H Q=>to σ H λx c=>∃l:Str,x=.str l/\l.length<=1000000/\Q (.str (Txt.replace l a b)) c
theorem W7(l:List Nat)(c:Nat):Txt.replace (S l) (S [c]) (S [])=S (l.filter (· != c)):=by
 have e:=replace_strikes (S l) c;have a:(S l).cps.toList=l:=dR l;rw[a] at e
 have z:∀x:Str,x=S x.cps.toList:=λx=>by cases x;rfl
 rw[z (Txt.replace (S l) (S [c]) (S []))];congr 1
structure ZT(h:Heap)(z TI TO i1 i2 l1 l2 k1 k2:Nat)(xs ys:Array Value):Prop where
 z:IsZip h z TI TO .none
 ti:IsPair h TI (.ref i1) (.ref i2)
 to:∃a b,IsPair h TO a b
 h1:h.IsTupleIter i1 l1 k1
 h2:h.IsTupleIter i2 l2 k2
 t1:h.IsTuple l1 xs
 t2:h.IsTuple l2 ys
end L2
namespace L2
open PySem PySem.Spec PyProof.Rows
noncomputable def qW(l:List Nat)(i:Int):List Nat:=l++List.replicate (i.toNat - l.length) 32
theorem W8(l:List Nat)(i:Int):Txt.ljust (S l) i=S (qW l i):=by
 unfold Txt.ljust qW;rw[cu]
 split
 ·rw[show i.toNat - l.length=0 by omega];simp
 ·unfold Builtin.Str.padded;simp[S]
noncomputable def W9:V->List V->Hp->VK->Prop:=λx a H Q=>∃(l:List Nat) (i:Int),x=.str (S l)/\a=[.int i]/\-1000000<i/\i<1000000/\Q (.str (S (qW l i))) H
theorem Xa:MtR X "str.ljust" W9:=by
 intro pins s σ H x t v y Q I d g h;obtain⟨l,i,rfl,rfl,h1,h2,q⟩:=h;obtain⟨a,rfl⟩:=d;obtain⟨u,rfl,f⟩:=vals1 g;obtain⟨b,rfl⟩:=f
 refine SC.ljust ?_ λc k=>⟨.str (S (qW l i)),H,I.tok _,⟨c,by rw[W8]⟩,q⟩
 unfold PadOk fitsSsize;have r:decide (i < -(2 ^ 63:Int))=false:=zo (by omega);have m:decide (i>=(2 ^ 63:Int))=false:=zo (by omega)
 have j:Builtin.Str.tooLong i.toNat=false:=by
  unfold Builtin.Str.tooLong;exact zo (by have:=sizeLine_eq;omega)
 rw[r,m,j];rfl
noncomputable def uo(mo m:M D):M D:=λρ O=>(mo ρ O).bind λa d=>(m ρ d).bind λb c=>match a,b with
 | .str l,.int i=>if -1000000<i/\i<1000000 then .ok (.str (qW l i)) c else .no
 | _,_=>.no
theorem Xb  {apos c:Pos}  (L:VE X md P o mo)(h:VE X md P e m)
  (i:attributeBase o "ljust" X.env (eval o X.env)=eval o X.env:=by rfl)
  (j:((backTo c (starEach [e] X.env)).all (λx=>!x.1)&&(backToKw c (keywordEach [] X.env)).all (λx=>x.1.isSome)&&decide ([e].length+([]:List Keyword).length+(if([]:List Keyword).isEmpty then 0 else 1)<30))=true:=by rfl)
  (g:(apos.endLine == c.line)=true:=by rfl) (hs:starEach [e] X.env=(false,eval e X.env)::starEach [] X.env:=by exact bF rfl) (f:(backTo c (starEach [] X.env)).any (·.1)=false:=by exact cR rfl):
  OE X md P (.Call (.Attribute o "ljust" apos) [e] [] c) (uo mo m):=
 (nO PySem.F.plainAttrs_str PySem.F.slot_str_ljust PySem.F.type_str_ljust Xa L (dZ h fM hs) i j g hs f).imp λσ H Q q=>by
  obtain⟨ρ,O,F,W,d,O',r,s,e,k⟩:=q;obtain⟨a,O1,U,e⟩:=Res.bind_ok e;obtain⟨b,O2,T,e⟩:=Res.bind_ok e;split at e
  ·split at e
   ·rename_i y;cases e;refine⟨ρ,_,F,W,_,_,r,s,U,λv H1 F1 t C G I=>?_⟩;cases Rp.unS I;refine⟨rfl,ρ,_,F1,t,_,_,G,s.step C,T,λu Y Z l R E J=>?_⟩;cases Rp.unI J;exact⟨_,_,rfl,rfl,y.1,y.2,k _ Y Z l (C.trans R) E (.inl ⟨rfl,Rp.str⟩)⟩
   ·cases e
  ·cases e
end L2
namespace L2
open PySem PySem.Spec PyProof.Rows PySem.W
noncomputable def Itu(a:Int)(n:Nat):It:=⟨λi _=>i<n,λi H x b=>b=H/\x=.int (a+i * 4),λi _=>n<=i⟩
noncomputable def jT(a:Int)(n:Nat):List D:=(List.range n).map λi:Nat=>.int (a+i * 4)
theorem Xd   {K:PySem.W.Frag}  (it:Addr)(lo:Int)(n:Nat):Turn P w K tg (Itu lo n) [it] it (λi h=>IsRangeIter h it (lo+(i:Nat) * 4) ((n:Int) - (i:Nat)) 4) where
 mem:=by simp
 obj:=λi h st b hb=>by
  have e:b=it:=by simpa using hb
  subst e
  exact⟨_,st,λv z=>by
   have z':Data.fields _=Data.cell v:=z
   cases z'⟩
 keep:=λi h h' st k=>k it (by simp) _ st
 item:=by
  intro X hP hw hK hc i pins s σ H E I hf st hg;subst hP hw hK;obtain⟨f0,f1,f2,f3,f4,f5⟩:=hf it (by simp);have W:=Walks.range (prog:=X.prog) (w:=X.w) (I.ok.hd hc) it lo 4 n
  refine W.item i s _ _ hg st λv h' tk hv st' kk=>?_
  obtain⟨t,rfl⟩:=hv;have I1:Inv X pins σ H {s with heap:=h',toks:=tk}:=I.turned (λb o hb e=>kk b o (by simpa using hb) e) f0 f1 f3 f4 f5;refine⟨_,rfl,qi (s:={s with heap:=h',toks:=tk}) (n:="range_iterator") st' rfl rfl (by decide) ⟨.int (lo+i * 4),H,I1,⟨t,?_⟩,⟨rfl,rfl⟩,st',λb hb=>(hf b hb).1⟩⟩;rfl
 done:=by
  intro X hP hw hK hc i pins s σ H E I hf st hg;subst hP hw hK;obtain⟨f0,f1,f2,f3,f4,f5⟩:=hf it (by simp)
  exact wpAny_pyNext_range_end (I.ok.hd hc) st (by have:n<=i:=hg;omega) λh' eb=>⟨rfl,I.turned (t':=s.toks) (λb o hb e=>eb b o hb e) f0 f1 f3 f4 f5⟩
 self:=λ_ _ _ _ _ st h=>wpAny_pyIter_rangeiter st h
theorem Hx(a b:Int):Builtin.Range.rangeSize a b 4=((b - a+3) / 4).toNat:=by
 unfold Builtin.Range.rangeSize;rw[if_pos (by decide)]
 split<;>omega
theorem Xe  (f:-(2 ^ 62)<=a)(d:a<2 ^ 62)(hb:-(2 ^ 62)<=b)(c:b<2 ^ 62):Builtin.Range.small a b 4=true:=by
 unfold Builtin.Range.small;rw[Hx];simp only[Builtin.Range.rangeFitsLong,zm,Bool.or_eq_true,decide_eq_true_eq,beq_iff_eq,show((4:Int)>0) by decide,if_true];omega
noncomputable def iUp(b:TA):TI:=λσ H R=>b σ H λa c=>∃i j:Int,a=[.int i,.int j,.int 4]/\(-(2 ^ 62)<=i/\i<2 ^ 62/\-(2 ^ 62)<=j/\j<2 ^ 62)/\R (Itu i ((j - i+3) / 4).toNat) c
theorem Xf{j:Expr}   {p g:Pos}(m:Gl X "range")(l:X.mg "range" = none)(y:PA X [a,b,c] ta)(hs:starEach [a,b,c] X.env=[(false,eval a X.env),(false,eval b X.env),(false,eval c X.env)]:=by rfl)(i:starEach [b,c] X.env=[(false,eval b X.env),(false,eval c X.env)]:=by rfl):
  PI X j (.Call (.Name "range" p) [a,b,c] [] g) (iUp ta):=by
 intro pins s σ H R I h;refine Call_ (lJ I m l boot_range (PyProof.Rows.callWith_type1 (thn (y g pins s σ H _ I h) λus s1 ⟨vs,H1,I1,r1,q1⟩=>?_) (by rw[hs,i]) (by rw[i];rfl)));obtain⟨d,f,e,⟨h1,h2,h3,h4⟩,q⟩:=q1;subst e
 cases r1 with
 |cons r rr =>
  cases rr with
  |cons r' rr =>
   cases rr with
   |cons r'' rr =>
    cases rr;obtain⟨t,rfl⟩:=r;obtain⟨u,rfl⟩:=r';obtain⟨v,rfl⟩:=r'';refine call_range_3 (by decide) ?_ (Or.inl (PyProof.noPylong_small (by omega)));refine wpAny_pyIter_range (IsRange.new ..) (Xe h1 h2 h3 h4) ?_
    have J:Inv X pins σ H1 {s1 with heap:=s1.heap.push {cls:=.type "range",data:=.fields #[.int d t,.int f u,.int 4 v]},toks:=s1.toks}:=I1.kept λb o e=>zl _ e
    refine⟨(s1.heap.push {cls:=.type "range",data:=.fields #[.int d t,.int f u,.int 4 v]}).objs.size,[(s1.heap.push {cls:=.type "range",data:=.fields #[.int d t,.int f u,.int 4 v]}).objs.size],_,_,H1,rfl,
     J.kept (t':=s1.toks) λb o e=>zl _ e,Xd _ d ((f - d+3) / 4).toNat,?_,λb x=>?_,q⟩
    ·have E:d+((0:Nat):Int) * 4=d:=by simp
     have C:((((f - d+3) / 4).toNat:Nat):Int) - ((0:Nat):Int)=Builtin.Range.rangeSize d f 4:=by rw[Hx];omega
     show IsRangeIter _ _ (d+((0:Nat):Int) * 4) (((((f - d+3) / 4).toNat:Nat):Int) - ((0:Nat):Int)) 4;rw[E,C];exact zO _ rfl
    ·have e:b=(s1.heap.push {cls:=.type "range",data:=.fields #[.int d t,.int f u,.int 4 v]}).objs.size:=by simpa using x
     subst e;exact J.fpOk (zc _) (J.hok.fresh (zc _))
theorem Xg{K:Frag}  {b:Int}   :kh K mg P (Itu b n) (jT b n) H F as:=xn (λi d f e=>by
 unfold jT at e;rw[zP] at e
 by_cases a:i<n
 ·rw[List.getElem?_range a] at e;cases e;refine⟨a,λx g y=>?_⟩;obtain⟨c,rfl⟩:=y;exact⟨c,λ_ _ _=>Rp.int⟩
 ·rw[List.getElem?_eq_none (by simpa using a)] at e
  cases e) λf=>by simp[jT,Itu]
noncomputable def uq(m:M (List D)):M (List D):=λρ O=>(m ρ O).bind λa b=>match a with
 | [.int i,.int j,.int c]=>if c=4/\i<=1000000000/\-1000000000<=i/\j<=1000000000/\-1000000000<=j then .ok (jT i ((j - i+3) / 4).toNat) b else .no
 | _=>.no
theorem Xh{t:Expr}  {p d:Pos}  (G:X.mg "range" = none)(J:AE X md P [.s,.s,.s] [a,b,c] m)(I:Gl X "range":=by rfl)(hs:starEach [a,b,c] X.env=[(false,eval a X.env),(false,eval b X.env),(false,eval c X.env)]:=by rfl)(g:starEach [b,c] X.env=[(false,eval b X.env),(false,eval c X.env)]:=by rfl):
  VI X md P t (.Call (.Name "range" p) [a,b,c] [] d) (uq m):=(Xf I G J hs g).imp λσ H Q q=>by
 obtain⟨ρ,O,F,Y,ds,O',r,s,e,k⟩:=q;obtain⟨es,O1,W,e⟩:=Res.bind_ok e;split at e
 ·rename_i i j c;split at e
  ·rename_i l;cases e;obtain⟨rfl,l⟩:=l;refine⟨ρ,_,F,Y,_,_,r,s,W,λvs Z F1 h L x C=>?_⟩;obtain⟨v,u,z,rfl,f,E,y⟩:=C.three;have U:=(Sv.rp f rfl).unI;have T:=(Sv.rp E rfl).unI;have R:=(Sv.rp y rfl).unI;subst U T R;exact⟨i,j,rfl,⟨by omega,by omega,by omega,by omega⟩,k _ Z F1 h L x Xg⟩
  ·cases e
 ·cases e
theorem Xi{σ:St}    {D:Ends}  (I:Inv X pins σ H s)(hx:CXF X.prog X.w X.stack H s E e s')(m:X.stack=X.env::X.outer)(T:X.env.frame=some X.env.locals)(hN:X.N.Nodup)(U:X.ex=[])
  (k:∀(ea C:Addr) (a:Option Addr) (c:Hp) (B:Heap) (i:Value) (h2:Heap),E (.ref C) a c->c ea=none->X.s₀.heap.get? ea=none->(∀p∈X.pn++pins,p.1≠ea)->(∀h3:Heap,B.StaysIn h3->h2.UpToSlots h3->Inv X pins σ c {s' with heap:=h3}) ->
   Heap.FlyingW B (X.env::X.outer) ea (.ref C) i h2->(∃oe,h2.get? ea=some oe/\oe.dict=a)->wpAny (model X.prog X.w) X.A (handleBy (.ref ea) X.env hs) (SP X pins D) X.xe {s' with heap:=h2}):
  wpAny (model X.prog X.w) X.A (noteFrame e X.env) (λ_ t=>wpAny (model X.prog X.w) X.A (setFlight e none) (λ_ r=>wpAny (model X.prog X.w) X.A (handleBy e X.env hs) (SP X pins D) X.xe r) X.xe t) X.xe s':=by
 obtain⟨ea,C,c,B,i,a,rfl,P,h,un,hok,b,trk,j,⟨oe,R,Y⟩,hE⟩:=hx;have fl':=b;rw[m] at fl';have frames:=I.ok.frames;rw[m] at frames
 have hn:c ea=none:=by
  cases q:c ea with
  |none=>rfl
  |some u =>
   obtain⟨o,z⟩:=trk ea u q;rw[b.2.1] at z;cases z
 have L:ea∉frs X.stack:=λz=>by
  obtain⟨l,ws,W,_,hd,_⟩:=b.first
  obtain⟨_,o,ho,nf⟩:=b.2.2.1.mem z;rw[W] at ho;cases ho;exact nf ws hd
 have hold:s.heap.get? ea=none:=by
  cases q:s.heap.get? ea with
  |none=>rfl
  |some o =>
   obtain⟨o',z⟩:=j ea o q L;rw[b.2.1] at z;cases z
 have h0:X.s₀.heap.get? ea=none:=by
  cases q:X.s₀.heap.get? ea with
  |none=>rfl
  |some o =>
   obtain⟨o',z⟩:=I.base.there ea o q (by rw[U];exact λz=>nomatch z);rw[hold] at z;cases z
 have G:∀p∈X.pn++pins,p.1≠ea:=λp G z=>by
  have q:=(I.pin p G).1;rw[z,hold] at q;cases q
 have O:∀h2:Heap,B.StaysIn h2->s'.heap.UpToSlots h2->Inv X pins σ c {s' with heap:=h2}:=λh2 y F=>I.call' (s':={s' with heap:=h2}) (ch:=[]) P (xE un b.1 b.2.2.1 j y F) (xF hok trk b.1 y) h λ_ z=>nomatch z
 refine zw (lq (xJ _ _) (wpAny_looks_onW (Q:=λ_ x=>∃h1,x = {s' with heap:=h1}/\Heap.HeldW B (X.env::X.outer) ea (.ref C) i X.env.locals h1/\s'.heap.UpToSlots h1) frames T fl' λh1 held f=>⟨h1,rfl,held,f⟩)) (λ_ x z=>?_) λ_ _ z=>z.1
 obtain⟨⟨h1,rfl,held,f⟩,dk1⟩:=z
 refine zw (lq (qO _ _) (wpAny_landsW (s:={s' with heap:=h1}) (Q:=λ_ x=>∃h2,x = {s' with heap:=h2}/\Heap.FlyingW B (X.env::X.outer) ea (.ref C) i h2/\h1.UpToSlots h2) held λh2 g d=>⟨h2,rfl,g,d⟩)) (λ_ s3 z=>?_) λ_ _ z=>z.1
 obtain⟨⟨h2,rfl,g,d⟩,Z⟩:=z;obtain⟨J,e1,d1⟩:=dk1 ea oe R;obtain⟨l,e2,d2⟩:=Z ea J e1;exact k ea C a c B i h2 hE hn h0 G (λh3 y F=>O h3 y ((f.trans d).trans F)) g ⟨l,e2,(d2.trans d1).trans Y⟩
theorem Xj{σ:St}{D:Ends}         (c:∀h3:Heap,B.StaysIn h3->s.heap.UpToSlots h3->Inv X pins σ H {s with heap:=h3})(j:Heap.FlyingW B (X.env::X.outer) ea (.ref C) a0 s.heap)
  (J:X.mg T=some (.ref A)) (I:Gl X T) (hd:(T == ("__debug__":Str))=false) (x:exmOne X.K (.ref C) (.ref A)=some true) (hs:PSs (X.inH ea) (g::suite) t) (G:t {nx:=D.nx,rt:=D.rt} σ H):
  wpAny (model X.prog X.w) X.A (handleBy (.ref ea) X.env [.ExceptHandler (some (.Name T p)) none (g::suite) pos]) (SP X pins D) X.xe s:=by
 have h:Inv X pins σ H s:=c s.heap j.1 (Heap.UpToSlots.refl _)
 obtain⟨R,O,r,d,E,_⟩:=j.first
 refine wpAny_handleBy_cons (codeAny_handlers_test ?_) (by intro q;cases q);refine j6 (X:=X.inH ea) (h.inH ea) I J ?_ hd;refine(exm_one h.kIn (d ▸ (Looks.ld r).andThen .now) x).at ?_;refine codeAny_handlers_suite ?_
 refine zw (lq (qO _ _) (lands_againW (Q:=λ_ y=>∃h3,y = {s with heap:=h3}/\Heap.FlyingW B (X.env::X.outer) ea (.ref C) a0 h3/\s.heap.UpToSlots h3) j λh3 fl3 b=>⟨h3,rfl,fl3,b⟩)) (λ_ y z=>?_) λ_ _ z=>z.1
 obtain⟨⟨h3,rfl,fl3,b⟩,_⟩:=z;have L:=(c h3 fl3.1 b).inH ea;refine zw (hs pins _ _ _ {nx:=D.nx,rt:=D.rt} L G) (λf P sp=>?_) (λ_ _ z=>z.elim)
 cases f with
 |next =>
  obtain⟨a,m,l,i⟩:=sp;exact⟨a,m,l.outH h.ok,i⟩
 |ret u =>
  obtain⟨v,a,m,l,F,i⟩:=sp;exact⟨v,a,m,l.outH h.ok,F,i⟩
 |brk=>obtain⟨_,_,_,q⟩:=sp;exact q.elim
 |cont=>obtain⟨_,_,_,q⟩:=sp;exact q.elim
noncomputable def mJ(m:M D)(ys:List Str)(hb:MS):MS:=λρ O=>match m ρ O with
 | .ok d O1=>.rt d O1
 | .ex x O1=>if ys.contains x.cls=true then(match hb ρ O1 with
   | .nx ρ' O2=>.nx ρ' O2
   | .rt d O2=>.rt d O2
   | _=>.no) else .no
 | .no=>.no
theorem Xk    {p J p3 p6:Pos}     (hR:cP R)(he:VEH X md P R e m)(hy:∀c∈ys,EXM X.K X.mg T c true)(hsu:∀ea,VSs (X.inH ea) md P R (i::suite) hb)(hN:X.N.Nodup)(hg:Gl X T:=by rfl)(hdb:(T == ("__debug__":Str))=false:=by decide)
  (hst:X.stack=X.env::X.outer:=by rfl) (hfr:X.env.frame=some X.env.locals:=by rfl) (hex:X.ex=[]:=by rfl):VS X md P R (.Try [.Return (some e) p3] [.ExceptHandler (some (.Name T p)) none (i::suite) J] [] [] p6) (mJ m ys hb):=by
 intro pins s σ H D I q;obtain⟨ρ,O,F,as,r,sl,b⟩:=q;refine wpAny_Try_except ?_
 have ev:=he pins s σ H ρ O F as (λv h=>D.rt v h) (λe G=>wpAny (model X.prog X.w) X.A (noteFrame e X.env) (λ_ U=>wpAny (model X.prog X.w) X.A (setFlight e none) (λ_ L=>wpAny (model X.prog X.w) X.A (handleBy e X.env [.ExceptHandler (some (.Name T p)) none (i::suite) J]) (SP X pins D) X.xe L) X.xe U) X.xe G) I r sl (by
  unfold mJ at b
  cases em:m ρ O with
  |ok d O1 =>
   rw[em] at b
   exact λv H' F' t g Z hv=>b v H' F' t g.toS Z (hR _ _ _ _ _ _ _ (λa ha p=>sl.pd a p ha) hv)
  |ex x O1 =>
   rw[em] at b;dsimp only at b;intro dxo H' F' t g Z hx H0 s0 e s' I0 hz
   refine Xi I0 hz hst hfr hN hex λea C d h B a0 h2 hE hn h0 hp inv W hoe=>?_
   obtain⟨C',z1,z2,rfl,rfl⟩:=hE;cases z1;split at b
   ·rename_i hyc;obtain⟨C'',A,e1,e2,e3⟩:=hy x.cls (List.contains_iff_mem.mp hyc);rw[z2] at e1;cases e1;refine Xj (s:={s' with heap:=h2}) inv W e2 hg hdb e3 (hsu ea) ⟨ρ,O1,F',t,Z,sl.step g,?_⟩
    cases eb:hb ρ O1 with
    |nx ρ' O2 =>
     rw[eb] at b
     exact λσ' y E f g' l j=>b σ' y E f (g.toS.trans g') l j
    |rt d O2 =>
     rw[eb] at b
     exact λv y E f g' l j=>b v y E f (g.toS.trans g') l j
    |bk _ _=>rw[eb] at b;exact False.elim b
    |ct _ _=>rw[eb] at b;exact False.elim b
    |ex _ _=>rw[eb] at b;exact False.elim b
    |no=>rw[eb] at b;exact False.elim b
   ·exact False.elim b
  |no=>rw[em] at b;exact False.elim b)
 refine wpAny_execs_cons (thn (wpAny_Return_some (Q:=λW G=>∃u,W=.ret u/\∃v h,Inv X pins σ h G/\RelV v u/\D.rt v h) (thn ev λu G z=>?_)) λW G z=>?_)
 ·obtain⟨v,h,I2,Y,q2⟩:=z;exact⟨u,rfl,v,h,I2,Y,q2⟩
 ·obtain⟨u,rfl,v,h,I2,Y,q2⟩:=z;exact⟨v,σ,h,I2,Y,q2⟩
noncomputable def mK(i:Nat)(m:M D)(hs:List HM):MS:=λρ O=>match m ρ O with
 | .ok d O1=>.nx (ρ.set i (some d)) O1
 | .ex x O1=>mF hs x ρ O1
 | .no=>.no
theorem Xl        {Y W p6:Pos}(he:VEH X md P (rV X.K) e m)(hh:VHs X md P R (h0::hs) hm)(Z:X.N.Nodup)(hi:X.N[i]?=some x:=by rfl)(y:Loc X.env.scope x:=by exact .inl rfl)(L:md[i]?=some .v:=by rfl)
  (J:X.stack=X.env::X.outer:=by rfl) (T:X.env.frame=some X.env.locals:=by rfl) (U:X.ex=[]:=by rfl)
  (G:swapsWith e (some (.Name x Y)) W.line X.env=pure false:=by rfl) (hf:X.fn x=true\/X.env.scope.names.lookup x=some .local:=by first | exact .inl rfl | exact .inr rfl):VS X md P R (.Try [.Assign [.Name x Y] e W] (h0::hs) [] [] p6) (mK i m hm):=by
 intro pins s σ H D I q;obtain⟨ρ,O,F,as,r,sl,b⟩:=q;refine wpAny_Try_except ?_
 have ev:=he pins s σ H ρ O F as (λv a=>D.nx (σ.set i (some v)) a) (λe c=>wpAny (model X.prog X.w) X.A (noteFrame e X.env) (λ_ j=>wpAny (model X.prog X.w) X.A (setFlight e none) (λ_ h=>wpAny (model X.prog X.w) X.A (handleBy e X.env (h0::hs)) (SP X pins D) X.xe h) X.xe j) X.xe c) I r sl (by
  unfold mK at b
  cases em:m ρ O with
  |ok d O1 =>
   rw[em] at b
   exact λv H' F' f g l hv=>b _ H' F' f g.toS l ((sl.step g).setV L hv)
  |ex x O1 =>
   rw[em] at b;intro dxo H' F' f g l y H0 s0 e s' I0 hz
   refine WL I0 hz J T Z U λea C d a hE hn=>?_
   obtain⟨C',z1,z2,rfl,rfl⟩:=hE;cases z1;exact WT (pins:=pins) l (sl.step g) z2 hn y hh (fP (R:=R) g.toS b)
  |no=>rw[em] at b;exact False.elim b)
 refine wpAny_execs_cons (thn (wpAny_Assign_Name (Q:=λfl c=>fl=.next/\∃v a,Inv X pins (σ.set i (some v)) a c/\D.nx (σ.set i (some v)) a) (thn ev λu c z=>?_) G) λfl c z=>?_)
 ·obtain⟨v,a,E,rv,t⟩:=z;exact nD E Z hi y rv (λs2 I3=>⟨rfl,v,a,I3,t⟩) hf
 ·obtain⟨rfl,v,a,E,t⟩:=z;exact wpAny_execs_nil (wpAny_execs_nil ⟨_,a,E,t⟩)
end L2
namespace L2
open PySem PySem.Spec PyProof.Rows PySem.W PySem.Calls
section
variable {prog:Program}{w:World}{A:Around}{E:Value->Shared->Prop}{s:Shared}
theorem Xm      (r:s.heap.get? a=some o)(t:o.cls=.type "list")(f:o.data=.seq xs k)(hd:o.dict=none)(y:A.handled=none)
  (h:∀h' tk,(∀b ob,s.heap.get? b=some ob->h'.get? b=some ob)->Q none {s with heap:=h',toks:=tk}):wpAny (model prog w) A (getAttr? (.ref a) "keys") Q E s:=by
 obtain⟨c,C,G,sl⟩:=o;simp only at t f hd;subst t f hd;obtain⟨x,g,d,tk,os⟩:=s
 have u:∀l,(⟨x,g,d,l,os⟩:Shared).TypeIs (.ref a) "list":=λ_=>⟨_,r,rfl⟩
 have j:typeLookup (.type "list") "keys" = pure none:=am_miss_of_fast (by kernel_rfl)
 have i:(["__module__","__name__","__qualname__","__doc__","__annotations__"]:List Str).contains "keys" = false:=by decide
 have q:("keys":Str).length+100<=sizeLine:=by rw[sizeLine_eq];decide
 have R:=sub_AttributeError;have P:=F.slot_list_getattribute.lookup;have O:=F.slot_list_getattribute.bind (.ref a);have L:=am_list_getattr_none;unfold getAttr? getAttrBy? getAttrBy
 repeat (any_goals (first | assumption | exact u _ | ((with_reducible show wpAny _ _ (call (Value.builtin "list.__getattribute__") _ _) _ _ _);refine call_meets F.slot_list_getattribute (u _) am_entry_list_getattribute (F.args_list_getattribute_2 _ _) (meets_getattribute_miss_list a xs k sl "keys" _ j i q) ⟨r,y,λh' l e m=>?_⟩) | wp_step))
 obtain⟨I,H,J⟩:=m.there;show wpAny _ _ (getattributeRaised _ _ _ _ _ _ _) _ _ _;unfold getattributeRaised
 repeat (any_goals (first | assumption | wp_step))
 exact h _ _ m.keeps
theorem Hy:entryFor table "dict.update.loop" = some Builtin.«dict.update.loop»:=entryFor_of_tree (by kernel_rfl)
theorem ur:plainId "dict.update.loop" = true:=by decide +kernel
theorem pairs_at      (b:s.heap.get? a=some o)(c:o.cls=.type "tuple")(hd:o.data=.seq its m)(h:Q its.toList s):wpAny (model prog w) A (Builtin.Dict.pairItems (.ref a)) Q E s:=by
 unfold Builtin.Dict.pairItems;refine za (wpAny_typeOf (T:="tuple") ⟨o,b,c⟩ ?_);rw[if_pos (by decide)];refine za ?_;unfold seqItems?;refine za (wpAny_load b ?_);rw[hd];exact zb (zb h)
theorem Hz:∀(more kvs:List (Key×Value)),(merged kvs more).length<=kvs.length+more.length
 | [],kvs=>zc _
 |p::r,kvs=>by
  have h1:=Hz r (stored kvs p.1 p.2)
  have h2:(stored kvs p.1 p.2).length<=kvs.length+1:=by
   unfold stored
   split
   ·rw[zx];omega
   ·rw[zf,zB];omega
  show(merged (stored kvs p.1 p.2) r).length<=_;rw[zt];omega
theorem Xn{R:Result->Shared->Prop}{I:Addr}{fp d:List Addr}{G:Array GenState->Array GenState->Prop}{n:Nat}{Pv:Nat->Value->Prop}{St:Nat->Shared->Prop}(W:WalksS prog w A.in1 I fp d G n Pv St)(S:Addr)(H:S∉fp)(h0:Heap)(prs:List (Key×Value×Value))(hl:prs.length=n)(hz:n<=1000000)
  (hit:∀i v p,Pv i v->prs[i]?=some p->∃a o g m,v=.ref a/\a≠S/\a∉d/\h0.get? a=some o/\o.cls=.type "tuple"/\o.data=.seq g m/\g.toList=[p.2.1,p.2.2]/\(cD prog w).is p.1 p.2.1=true):
  ∀(k i:Nat) (s:Shared),n - i=k->i<=n->St i s->(∀b o,b≠S->b∉d->h0.get? b=some o->s.heap.get? b=some o)->s.heap.DictOf (cD prog w) S (merged [] ((prs.take i).map λp=>(p.1,p.2.2))) ->
   (∀s',Moved (S::d) G s s'->s'.heap.DictOf (cD prog w) S (merged [] (prs.map λp=>(p.1,p.2.2)))->R (.ok (.ret .none)) s') ->
   ∀j:Int,codeAny (model prog w) A (.builtin "dict.update.loop" ⟨[.ref S,.ref I,.int j 0,.none],[]⟩) R s:=by
 have F:S∉d:=λh=>H (W.sub _ h)
 have c:∀b∈d,b∈S::d:=λb t=>zp _ t
 intro k
 induction k with
 |zero =>
  intro i s hk hi q hold hD Q j
  have hin:i=n:=by omega
  subst hin;refine codeAny_builtin Hy ?_;rw[Around.under_plainId ur _];show wpAny _ A.in1 (pyNext (.ref I) >>= _) _ _ s;refine za (W.done s _ _ q λs' f=>?_);show wpAny _ A.in1 (Builtin.Dict.addKeywords S [] >>= _) _ _ s';refine za (zb (zb (Q s' (f.mono c) ?_)));rw[<-hl,List.take_length] at hD;obtain⟨o,X,Y,U,T⟩:=hD;exact⟨o,X,Y,f.heap S _ F U,T⟩
 |succ k ih =>
  intro i s hk hi q hold hD Q j
  have u:i<n:=by omega
  have hp:=zM (l:=prs) (i:=i) (by omega);refine codeAny_builtin Hy ?_;rw[Around.under_plainId ur _];show wpAny _ A.in1 (pyNext (.ref I) >>= _) _ _ s;refine za (W.item i s _ _ u q λv s' hP J f=>?_);obtain⟨a,o,g,m,rfl,ha1,C,ho,hc,hd,hi2,O⟩:=hit i v _ hP hp;have ho':s'.heap.get? a=some o:=f.heap a o C (hold a o ha1 C ho)
  have hD':s'.heap.DictOf (cD prog w) S (merged [] ((prs.take i).map λp=>(p.1,p.2.2))):=by
   obtain⟨o,X,Y,U,T⟩:=hD;exact⟨o,X,Y,f.heap S _ F U,T⟩
  dsimp only;refine za (zK (za (wpAny_tryCatch (pairs_at ho' hc hd ?_))));rw[hi2];dsimp only;refine zK (wpAny_dictSet_pairs O hD' (λh' hD2 r=>?_) ?_)
  ·refine zb ⟨plainId_quiet ur _,ih (i+1) _ (by omega) u (W.frame _ s' _ _ J (Nat.le_succ _) λb t o e=>?_) (λb o y x e=>?_) ?_ (λZ L P=>?_) _⟩
   ·rw[r.2 b (λh:b=S=>H (by rw[<-h];exact t))];exact e
   ·show h'.get? b=some o;rw[r.2 b y];exact f.heap b o x (hold b o y x e)
   ·rw[List.take_add_one,hp]
    have e:merged [] ((prs.take i++(some prs[i]).toList).map λp=>(p.1,p.2.2))=stored (merged [] ((prs.take i).map λp=>(p.1,p.2.2))) prs[i].1 prs[i].2.2:=by
     rw[Option.toList_some,zW];unfold merged;rw[List.foldl_append];rfl
    rw[e];exact hD2
   ·refine Q Z (Moved.trans W.gtrans ((f.mono c).then_heap (Nat.le_succ _) λb o t e=>?_) L) P;rw[r.2 b (λh:b=S=>t (by rw[h];exact zj))];exact e
  ·have:=Hz ((prs.take i).map λp=>(p.1,p.2.2)) []
   rw[zx,List.length_take,zJ] at this;rw[sizeLine_eq];omega
set_option maxHeartbeats 8000000 in
theorem Xo   {prs:List (Key×Value×Value)}  (P:A.handled=none)(y:s.heap.get? l=some (seqObj "list" items 0)\/∃c,s.heap.get? l=some (seqObj "list" items c))(hn:prs.length=items.size)(X:items.size<=1000000)
  (I:∀(i:Nat) (v:Value) (p:Key×Value×Value),items[i]?=some v->prs[i]?=some p->∃(a:Addr) (o:Obj) (f:Array Value) (m:Nat),v=.ref a/\s.heap.get? a=some o/\o.cls=.type "tuple"/\o.data=.seq f m/\f.toList=[p.2.1,p.2.2]/\(cD prog w).is p.1 p.2.1=true)
  (h:∀h' tk,h'.DictOf (cD prog w) s.heap.objs.size (merged [] (prs.map λp=>(p.1,p.2.2)))->(∀b o,s.heap.get? b=some o->h'.get? b=some o)->Q (.ref s.heap.objs.size) {s with heap:=h',toks:=tk}):
  wpAny (model prog w) A (call (.type "dict") [.ref l]) Q E s:=by
 obtain⟨c,y⟩:∃c,s.heap.get? l=some (seqObj "list" items c):=by
  rcases y with h | h
  ·exact⟨0,h⟩
  ·exact h
 refine callType_codes (Q₁:=λobj j=>obj=.ref s.heap.objs.size/\j = {s with heap:=s.heap.push {cls:=.type "dict",data:=.dict #[]}}) F.kt_called_dict (F.kt_typeCall_dict_1 _) F.entry_dict_init (kt_code_dict_new _ ⟨rfl,rfl⟩) ?_;rintro obj j ⟨rfl,rfl⟩;have d:(s.heap.push {cls:=.type "dict",data:=.dict #[]}).DictOf (cD prog w) s.heap.objs.size []:=Heap.DictOf.new s.heap;have q:(s.heap.push {cls:=.type "dict",data:=.dict #[]}).get? l=some (seqObj "list" items c):=zl _ y;refine⟨d.typeIs,F.args_dict_init_2 _ _,?_⟩;unfold Builtin.«dict.__init__»;refine za ?_
 unfold Builtin.Dict.selfAndRest;refine za (wpAny_notOrdered_dict d.typeIs ?_);show wpAny _ _ (pure (s.heap.objs.size,[Value.ref l])) _ _ _;refine zb ?_;show wpAny _ _ (Builtin.Dict.updateFrom "dict.__init__" s.heap.objs.size (.ref l) [] .none) _ _ _;unfold Builtin.Dict.updateFrom;refine za (wpAny_typeOf (T:="list") ⟨_,q,rfl⟩ ?_);rw[if_pos (by decide)];refine za (Xm q rfl rfl rfl (by simp[P]) λh' tk keep=>?_);rw[if_pos (by rfl)];refine za (wpAny_rule ?_);have t:=keep _ _ q;refine za (wpAny_pyIter_list ⟨_,t,rfl,c,rfl⟩ ?_);have g:s.heap.objs.size<h'.objs.size:=ze (keep _ _ (zO _ rfl))
 have r:l<s.heap.objs.size:=ze y;refine zb ⟨plainId_quiet ur _,?_⟩;have u:l≠h'.objs.size:=zz (Nat.lt_trans r g)
 have J:s.heap.objs.size∉[h'.objs.size,l]:=by
  simp only[zh,zg,List.not_mem_nil,or_false,not_or];exact⟨zz g,Nat.ne_of_gt r⟩
 have H:h'.IsList l items:=⟨_,t,rfl,c,rfl⟩;refine Xn ((Walks.list (by simp[P]) _ l u items).toS) s.heap.objs.size J h' prs hn X (λi v p Y Z=>?_) (items.size - 0) 0 _ (by omega) (Nat.zero_le _) ⟨⟨_,zO _ rfl,rfl,rfl⟩,H.push _⟩ (λb o _ _ e=>zl _ e) ?hD (λW x L=>?hR) _
 ·obtain⟨a,o,f,m,rfl,O,hc,hd,hi,hk⟩:=I i v p Y Z;have U:=ze O;refine⟨a,o,f,m,rfl,zz U,?_,keep _ _ (zl _ O),hc,hd,hi,hk⟩;rw[zg];exact zz (Nat.lt_trans U g)
 case hD =>
  obtain⟨o,es,ep,g1,g2⟩:=d;exact⟨o,es,ep,zl _ (keep _ _ g1),g2⟩
 case hR =>
  obtain⟨h3,g3,d3,C,G⟩:=W;have eg:g3=s.gens:=x.gens;have ed:d3=s.drawn:=x.drawn;have eo:G=s.os:=x.os;subst eg;subst ed;subst eo;refine⟨rfl,h h3 C L λb o e=>?_⟩;have R:=ze e;exact x.heap b o (by simp only[zh,zg,List.not_mem_nil,or_false,not_or];exact⟨zz R,zz (Nat.lt_trans R g)⟩) (zl _ (keep _ _ (zl _ e)))
end
theorem Xp
  (i:s.heap.get? l=some {cls:=.type "tuple",dict:=dd,data:=.seq #[x1,x2] n,slots:=sl}) (hb:s.heap.get? b=some {cls:=.type "tuple",dict:=dd2,data:=.seq #[y1,y2] n2,slots:=sl2}) (j:A.units<cLine)
  (h1:SeqAt.EqAt A.in1 s x1 y1 true) (h2:∀(E:Value->Shared->Prop) (Q:Bool->Shared->Prop),Q r s->wpAny (model prog w) A.in1 (eqBool x2 y2) Q E s) (h:Q (.bool r) s):wpAny (model prog w) A (compareOp .Eq (.ref l) (.ref b)) Q E s:=by
 refine wpAny_richCompare_same_room (op:=.Eq) ⟨_,i,rfl⟩ ⟨_,hb,rfl⟩ F.slot_tuple_eq (wpAny_call_entry F.slot_tuple_eq ⟨_,i,rfl⟩ F.entry_tuple_eq ?_ (F.args_tuple_eq_2 _ _)) j;obtain⟨m,g,d,tk,os⟩:=s;have t:=AutoSeq1.sub_tuple_tuple;unfold Builtin.«tuple.__eq__»
 wp_walk using wpAny_loadPart' i,wpAny_loadPart' hb,wpAny_forIn_list _ (λrest q c=>q.1=none/\c=⟨m,g,d,tk,os⟩/\(rest=[(x1,y1),(x2,y2)]\/rest=[(x2,y2)]\/(rest=[]/\r=true))) _
 case turn =>
  rintro⟨y,x⟩ rest q c ⟨f,rfl,a⟩
  rcases a with a | a | ⟨a,_⟩
  ·cases a;refine za (h1 prog w _ _ ?_)
   wp_walk
   exact⟨rfl,rfl,.inr (.inl rfl)⟩
  ·cases a;refine za (h2 _ _ ?_)
   cases r with
   |true =>
    wp_walk
    exact⟨rfl,rfl,.inr (.inr ⟨rfl,rfl⟩)⟩
   |false =>
    wp_walk
    exact⟨_,rfl,λz=>(nomatch z),h⟩
  ·cases a
 case fin =>
  rintro⟨C,u⟩ c ⟨f,rfl,a⟩;simp only at f;subst f
  rcases a with a | a | ⟨_,rfl⟩
  ·cases a
  ·cases a
  ·wp_walk
   exact⟨_,rfl,λz=>(nomatch z),h⟩
 case h=>exact⟨rfl,rfl,.inl rfl⟩
theorem Xq
  (i:s.heap.get? l=some {cls:=.type "tuple",dict:=dd,data:=.seq #[x1,x2] n,slots:=sl}) (hb:s.heap.get? b=some {cls:=.type "tuple",dict:=dd2,data:=.seq #[y1,y2] n2,slots:=sl2}) (j:A.units<cLine)
  (h1:SeqAt.EqAt A.in1 s x1 y1 true) (h2:∀(E:Value->Shared->Prop) (Q:Bool->Shared->Prop),Q r s->wpAny (model prog w) A.in1 (eqBool x2 y2) Q E s) (h:Q (.bool (!r)) s):wpAny (model prog w) A (compareOp .NotEq (.ref l) (.ref b)) Q E s:=by
 refine wpAny_richCompare_same_room (op:=.NotEq) ⟨_,i,rfl⟩ ⟨_,hb,rfl⟩ F.slot_tuple_ne (wpAny_call_entry F.slot_tuple_ne ⟨_,i,rfl⟩ F.entry_tuple_ne ?_ (F.args_tuple_ne_2 _ _)) j;obtain⟨m,g,d,tk,os⟩:=s;have t:=AutoSeq1.sub_tuple_tuple;unfold Builtin.«tuple.__ne__»
 wp_walk using wpAny_loadPart' i,wpAny_loadPart' hb,wpAny_forIn_list _ (λrest q c=>q.1=none/\c=⟨m,g,d,tk,os⟩/\(rest=[(x1,y1),(x2,y2)]\/rest=[(x2,y2)]\/(rest=[]/\r=true))) _
 case turn =>
  rintro⟨y,x⟩ rest q c ⟨f,rfl,a⟩
  rcases a with a | a | ⟨a,_⟩
  ·cases a;refine za (h1 prog w _ _ ?_)
   wp_walk
   exact⟨rfl,rfl,.inr (.inl rfl)⟩
  ·cases a;refine za (h2 _ _ ?_)
   cases r with
   |true =>
    wp_walk
    exact⟨rfl,rfl,.inr (.inr ⟨rfl,rfl⟩)⟩
   |false =>
    wp_walk
    exact⟨_,rfl,λz=>(nomatch z),h⟩
  ·cases a
 case fin =>
  rintro⟨C,u⟩ c ⟨f,rfl,a⟩;simp only at f;subst f
  rcases a with a | a | ⟨_,rfl⟩
  ·cases a
  ·cases a
  ·wp_walk
   exact⟨_,rfl,λz=>(nomatch z),h⟩
 case h=>exact⟨rfl,rfl,.inl rfl⟩
theorem HB    (c:a≠b)(g:(a == sysModules)=false)(hb:(b == sysModules)=false)(j:s.heap.DictOf (cD prog w) a ka)(i:s.heap.DictOf (cD prog w) b kb)(f:A.units<cLine)
  (hits:KeqHits A.in1 s kb ka r):∀(E:Value->Shared->Prop) (Q:Bool->Shared->Prop),Q (ka.length == kb.length&&r) s->wpAny (model prog w) A (eqBool (.ref a) (.ref b)) Q E s:=by
 intro E Q h;unfold eqBool;refine zK ?_;refine wpAny_ite_split (λd=>absurd (by have:=eq_of_beq d;injection this) c) (λ_=>?_);exact za (keq_eq g hb j i f (λ_=>hits) (wpAny_truthy_bool h))
noncomputable def lu(K:Frag)(H:Hp)(ls:List (Key×V)):List (Key×V)->Bool->Prop
 | [],r=>r=true
 |p::rest,r=>(cI ls p.1=none/\r=false)\/∃y d e a,cI ls p.1=some y/\Rep K H p.2 d/\Rep K H y e/\okD d=true/\okD e=true/\lu K H ls rest a/\r=(PyData.eqv d e&&a)
theorem lu.keq{pins:List (Addr×Obj)}{σ:St}{H:Hp}{s:Shared}{A:Around}(I:Inv X pins σ H s)(t:A.units+64<cLine){ls:List (Key×V)}{g:List (Key×Value)}(i:KV ls g):∀{c:List (Key×V)}{a:List (Key×Value)}{r:Bool},KV c a->lu X.K H ls c r->KeqHits A s g a r
 | [],a,r,hk,h=>by
  cases hk;cases(show r=true from h);exact .nil
 |p::c,a,r,hk,h=>by
  cases hk with
  | @cons _ q _ qs hpq hk =>
   obtain⟨k,v⟩:=p;obtain⟨m,J⟩:=q;obtain⟨G,F⟩:=hpq;cases(show k=m from G);have b:=i.val k
   rcases h with⟨h1,rfl⟩ | ⟨y,d,e,L,h1,h2,h3,h4,f,x,rfl⟩
   ·change cI ls k=none at h1
    rw[h1] at b;exact .miss (dC.none_of b)
   ·change cI ls k=some y at h1
    rw[h1] at b;obtain⟨u,E,C⟩:=dC.some_of b;obtain⟨O,l⟩:=Rep.reads I d h2 F;obtain⟨bs,j⟩:=Rep.reads I e h3 C;unfold okD at h4 f;simp only[zm,decide_eq_true_eq] at h4 f;exact .hit E (SeqAt.eqAt_reads d e A s _ _ _ _ l j h4.1 f.1 (by omega)) (lu.keq I t i hk x)
noncomputable def xQ(K:Frag)(d:Bool):R2:=λx y H Q=>∃(a b p q:Addr) (t:Str) (c ls:List (Key×V)) (r:Bool),x=.ref a/\y=.ref b/\SqT K H a [.str t,.ref p]/\SqT K H b [.str t,.ref q]/\p≠q/\H p=some (.dK c)/\H q=some (.dK ls)/\lu K H ls c r /\
 Q (.bl (if d then !(c.length == ls.length&&r) else(c.length == ls.length&&r))) H
theorem uv{σ:St}    (I:Inv X pins σ H s)(h:SqT X.K H a [.str t,.ref p]):∃(tk:Tok) (n:Nat) (dd:Option Addr) (sl:Array (Option Value)),s.heap.get? a=some {cls:=.type "tuple",dict:=dd,data:=.seq #[.str t tk,.ref p] n,slots:=sl}:=by
 obtain⟨d,r,⟨⟨c,dd,f,sl⟩,e,b,n,hd⟩,_⟩:=I.tuple h
 cases r with
 |cons a1 r =>
  cases r with
  |cons a2 r =>
   cases r;obtain⟨tk,rfl⟩:=a1;cases(show _=Value.ref p from a2);simp only at b hd;subst b hd;exact⟨tk,n,dd,sl,e⟩
theorem Xr  (g:aP k X.A):OpR X (compareOp .Eq) (xQ X.K false):=by
 intro pins s σ H x y v u Q I m l h;obtain⟨a,b,p,q,t,ks,ls,r,rfl,rfl,J,G,c,E,C,F,k⟩:=h;cases m;cases l;obtain⟨t1,Z,d1,W,O⟩:=uv I J;obtain⟨t2,Y,d2,U,L⟩:=uv I G;obtain⟨T,j,kv,f,P⟩:=nP I.hok E;obtain⟨R,i,lv,d,D2⟩:=nP I.hok C;have hu:=g.un;refine Xp O L g.units0 (by have:=SeqAt.EqAt.str_str (A:=X.A.in1) (s:=s) t t1 t t2;rwa [beq_self_eq_true] at this) (HB c j i P D2 (by show X.A.units+1<_;omega) (lu.keq I (by show X.A.units+1+1+64<_;omega) d f F)) ⟨.bl _,H,I,rfl,?_⟩;rw[<-f.length,<-d.length];exact k
theorem Xu  (g:aP k X.A):OpR X (compareOp .NotEq) (xQ X.K true):=by
 intro pins s σ H x y v u Q I m l h;obtain⟨a,b,p,q,t,ks,ls,r,rfl,rfl,J,G,c,E,C,F,k⟩:=h;cases m;cases l;obtain⟨t1,Z,d1,W,O⟩:=uv I J;obtain⟨t2,Y,d2,U,L⟩:=uv I G;obtain⟨T,j,kv,f,P⟩:=nP I.hok E;obtain⟨R,i,lv,d,D2⟩:=nP I.hok C;have hu:=g.un;refine Xq O L g.units0 (by have:=SeqAt.EqAt.str_str (A:=X.A.in1) (s:=s) t t1 t t2;rwa [beq_self_eq_true] at this) (HB c j i P D2 (by show X.A.units+1<_;omega) (lu.keq I (by show X.A.units+1+1+64<_;omega) d f F)) ⟨.bl _,H,I,rfl,?_⟩;rw[<-f.length,<-d.length];exact k
noncomputable def rOr(r a:R2):R2:=λx y H Q=>r x y H Q\/a x y H Q
theorem HD   (h:OpR X f r)(h':OpR X f r'):OpR X f (rOr r r'):=λpins s σ H x y v u Q I b a q=>q.elim (h pins s σ H x y v u Q I b a) (h' pins s σ H x y v u Q I b a)
noncomputable def jU(O:az)(n:Nat)(ls:List (Key×D)):List (Key×D)->Option Bool
 | []=>some true
 |p::rest=>match jm ls p.1 with
  |none=>some false
  |some e=>if(okE (cA O n p.2)&&okE (cA O n e))=true then(jU O n ls rest).map (eQ (cA O n p.2) (cA O n e) && ·) else none
theorem HF{K:Frag}{mg:Str->Option Value}{O:az}{H F:Hp}{as:List Addr}(r:RlO K mg O H F as){n:Nat}{ls:List (Key×D)}{m:List (Key×V)}(t:DkR K F as m ls):∀{c:List (Key×D)}{a:List (Key×V)}{b:Bool},DkR K F as a c->jU O n ls c=some b->lu K H m a b
 | [],a,b,h,e=>by
  have:=h.len
  cases a with
  |nil=>cases e;rfl
  |cons=>cases this
 |p::c,a,b,h,e=>by
  obtain⟨v,y,rfl,h1,h2⟩:=h.un;unfold jU at e
  rcases t.val (k:=p.1) with⟨j,i⟩ | ⟨d,l,j,i,x⟩
  ·rw[j] at e;cases e;exact .inl ⟨i,rfl⟩
  ·rw[j] at e;simp only at e;split at e
   ·rename_i u;rw[zm] at u;obtain⟨g,f⟩:=u;unfold okE at g f;rw[zm] at g f
    cases q:jU O n ls c with
    |none=>rw[q] at e;cases e
    |some b' =>
     rw[q] at e;cases e;exact .inr ⟨l,_,_,b',i,lZ r n p.2 v h1 g.1,lZ r n d l x f.1,g.2,f.2,HF r t h2 q,rfl⟩
   ·cases e
noncomputable def eqK(O:az)(n:Nat)(x y:D):Option Bool:=match x,y with
 | .tup [.str t,.ob i],.tup [.str t',.ob j]=>match O[i]?,O[j]? with
  |some (.dk ks),some (.dk ls)=>if t=t'/\i≠j then(jU O n ls ks).map (ks.length == ls.length && ·) else none
  | _,_=>none
 |x,y=>if(okE (cA O n x)&&okE (cA O n y))=true then some (eQ (cA O n x) (cA O n y)) else none
noncomputable def gG(a:Bool)(n:Nat)(ma mb:M D):M D:=λρ O=>(ma ρ O).bind λx d=>(mb ρ d).bind λy c=>match eqK c n x y with
 |some b=>.ok (.bl (if a then !b else b)) c
 |none=>.no
theorem HH{K:Frag}     (h:Sv K H F as v (.tup b)):Rp K F as v (.tup b):=by
 rcases h with h | ⟨a,c,b,rfl,e,_⟩
 ·exact h
 ·cases e
theorem HJ{K:Frag}        (h:tM K mg md P (rO K) (gG neg n ma mb) σ H Q):tOp (rOr (xQ K neg) (wH K neg)) (tM K mg md P (rS K) ma) (tM K mg md P (rS K) mb) σ H Q:=by
 obtain⟨ρ,O,F,as,d,O',r,sl,e,k⟩:=h;obtain⟨x,O1,e1,e⟩:=Res.bind_ok e;obtain⟨y,O2,e2,e⟩:=Res.bind_ok e;split at e
 ·rename_i b f;cases e;refine⟨ρ,_,F,as,_,_,r,sl,e1,λv H1 F1 L I r1 hv=>?_⟩;refine⟨ρ,_,F1,L,_,_,r1,sl.step I,e2,λu Z F2 m G g U=>?_⟩;have l:=Sv.gr hv G;unfold eqK at f;split at f
  ·rename_i t i t' j;split at f
   ·rename_i ks ls q1 q2;split at f
    ·rename_i hc;obtain⟨rfl,J⟩:=hc
     cases q3:jU O' n ls ks with
     |none=>rw[q3] at f;cases f
     |some b' =>
      rw[q3] at f;cases f;obtain⟨a,xs,rfl,a1,a2⟩:=(HH l).unT;obtain⟨c,ys,rfl,c1,c2⟩:=(HH U).unT;obtain⟨v1,xr,rfl,x1,x2⟩:=a2.un;obtain⟨v2,xr,rfl,x3,x4⟩:=x2.un;obtain⟨w1,yr,rfl,y1,y2⟩:=c2.un;obtain⟨w2,yr,rfl,y3,y4⟩:=y2.un;cases x4.un0;cases y4.un0;cases x1.unS;cases y1.unS;obtain⟨p,rfl,X⟩:=x3.unO;obtain⟨q,rfl,W⟩:=y3.unO;obtain⟨kx,m1,T⟩:=g.dk X q1;obtain⟨lx,n1,R⟩:=g.dk W q2;refine .inl ⟨a,c,p,q,S t,kx,lx,b',rfl,rfl,Same.seqT g.fh a1,Same.seqT g.fh c1,λz=>?_,m1,n1,HF g R T q3,?_⟩
      ·subst z;obtain⟨l1,l2⟩:=zk.mp X;obtain⟨l3,l4⟩:=zk.mp W;exact J ((List.getElem_inj g.nd).mp (l2.trans l4.symm))
      ·rw[T.len,R.len];exact k _ Z F2 m (I.trans G) g (.inl ⟨rfl,Rp.bl⟩)
    ·cases f
   ·cases f
  ·split at f
   ·rename_i Y;cases f;rw[zm] at Y;obtain⟨E,C⟩:=Y;unfold okE at E C;rw[zm] at E C;exact .inr ⟨_,_,GK g l E.1,GK g U C.1,E.2,C.2,k _ Z F2 m (I.trans G) g (.inl ⟨rfl,Rp.bl⟩)⟩
   ·cases f
 ·cases e
theorem Xv(n:Nat)  (a:aP k X.A)    (b:SE X md P e1 ma)(hb:SE X md P e2 mb):OE X md P (.Compare e1 [.Eq] [e2] pos) (gG false n ma mb):=
 (Di (HD (Xr a) (Er a)) b hb (fB _)).imp λ_ _ _=>HJ
theorem Xw(n:Nat)  (a:aP k X.A)    (b:SE X md P e1 ma)(hb:SE X md P e2 mb):TsE X md P (.Compare e1 [.NotEq] [e2] pos) (aA (gG true n ma mb)):=
 (Dj (HD (Xu a) (Es a)) b hb (fB _)).imp λσ H Q h=>by
  have q:=tO h;exact HJ q
noncomputable def oO(K:Frag)(H:Hp):List V->List (Key×V)->Prop
 |ys,[]=>ys=[]
 |ys,p::r=>∃b a,ys=.ref b::a/\SqT K H b [kV p.1,p.2]/\oO K H a r
noncomputable def Xx(K:Frag):List V->Hp->VK->Prop:=λc H Q=>∃a b kvs,c=[.ref a]/\RdK K H a b/\oO K H b kvs/\kvs.length<=1000000/\∀l,H l=none->Q (.ref l) (upd H l (.dK (gf [] kvs)))
theorem oO.prs{pins:List (Addr×Obj)}{σ:St}{H:Hp}{s:Shared}(I:Inv X pins σ H s):∀{kvs:List (Key×V)}{ys:List V}{c:List Value},oO X.K H ys kvs->aL ys c->∃prs:List (Key×Value×Value),prs.length=c.length/\kvs.length=c.length/\KV kvs (prs.map λp=>(p.1,p.2.2)) /\
  ∀(i:Nat) (v:Value) (p:Key×Value×Value),c[i]?=some v->prs[i]?=some p->∃(a:Addr) (o:Obj) (f:Array Value) (m:Nat),v=.ref a/\s.heap.get? a=some o/\o.cls=.type "tuple"/\o.data=.seq f m/\f.toList=[p.2.1,p.2.2]/\(cD X.prog X.w).is p.1 p.2.1=true
 | [],ys,c,h,r=>by
  cases(show ys=[] from h);cases r;exact⟨[],rfl,rfl,.nil,λi v p e=>by cases e⟩
 |q::kvs,ys,c,h,r=>by
  obtain⟨b,E,rfl,h1,h2⟩:=h
  cases r with
  | @cons _ u _ us a1 r =>
   cases(show u=Value.ref b from a1);obtain⟨prs,y,x,t,l⟩:=oO.prs I h2 r;obtain⟨f,d,⟨o,e,C,n,hd⟩,_⟩:=I.tuple h1
   cases d with
   | @cons _ k' _ _ a2 d =>
    cases d with
    | @cons _ v' _ _ a3 d =>
     cases d;refine⟨(q.1,k',v')::prs,by rw[zt,zt,y],by rw[zt,zt,x],.cons ⟨rfl,a3⟩ t,λi v p j g=>?_⟩
     cases i with
     |zero =>
      cases j;cases g;exact⟨b,o,_,n,rfl,e,C,hd,rfl,qx a2⟩
     |succ i=>exact l i v p j g
theorem Xy(y:X.calm=true):gO X (.type "dict") (Xx X.K):=by
 intro pins s σ H L O Q I r h;obtain⟨a,J,kvs,rfl,C,t,x,q⟩:=h;obtain⟨u,rfl,c⟩:=vals1 r;cases c;obtain⟨_,b,n,d,e⟩:=C.ok I;obtain⟨prs,l,j,g,f⟩:=t.prs I d
 refine Xo (I.ok.hd y) (items:=b.toArray) (prs:=prs) (.inr ⟨n,e⟩) (by rw[l,zu]) (by rw[zu,<-j];exact x) (λi v p G F=>f i v p (by simpa using G) F) λP tk hD k=>?_
 have m:(gf [] kvs).length<=sizeLine:=by
  have h1:=wB kvs [];rw[zJ] at h1;rw[sizeLine_eq];omega
 have E:(s.heap.objs.size == sysModules)=false:=beq_eq_false_iff_ne.mpr (Nat.ne_of_gt I.big);exact⟨.ref s.heap.objs.size,_,I.laid (t':=tk) k (zc _) (wA m E (g.merge .nil) hD),rfl,q _ (I.hok.fresh (zc _))⟩
noncomputable def mL:List D->Option (List (Key×D))
 | []=>some []
 |d::r=>match d,mL r with
  | .tup [k,v],some l=>(keyOf k).map λa=>(a,v)::l
  | _,_=>none
noncomputable def uw(kvs:List (Key×D)):List (Key×D):=kvs.foldl (λa p=>kZ a p.1 p.2) []
theorem HN{K:Frag}{F H:Hp}{as:List Addr}(fh:Same F H):∀{ds:List D}{ys:List V}{kvs:List (Key×D)},Rps K F as ys ds->mL ds=some kvs->∃xs,oO K H ys xs/\DkR K F as xs kvs
 | [],ys,kvs,h,e=>by
  cases e;exact⟨[],h.un0,rfl,Rps.nil⟩
 |d::ds,ys,kvs,h,e=>by
  obtain⟨y,b,rfl,h1,h2⟩:=h.un;unfold mL at e;split at e
  ·rename_i k v l q
   cases hk:keyOf k with
   |none=>rw[hk] at e;cases e
   |some k' =>
    rw[hk] at e;cases e;obtain⟨xs,g,c⟩:=HN fh h2 q;obtain⟨a,t,rfl,a1,a2⟩:=h1.unT;obtain⟨u,zr,rfl,r,m⟩:=a2.un;obtain⟨f,zr,rfl,j,i⟩:=m.un;cases i.un0;cases r.key hk;exact⟨(k',f)::xs,⟨a,b,rfl,Same.seqT fh a1,g⟩,by rw[zd,zd,c.1],Rps.cons j c.2⟩
  ·cases e
theorem DkR.merge{K:Frag}{F:Hp}{as:List Addr}:∀{kvs:List (Key×D)}{xs:List (Key×V)}{b:List (Key×D)}{a:List (Key×V)},DkR K F as xs kvs->DkR K F as a b->DkR K F as (gf a xs) (kvs.foldl (λacc p=>kZ acc p.1 p.2) b)
 | [],xs,b,a,h,g=>by
  have:=h.len
  cases xs with
  |nil=>exact g
  |cons=>cases this
 |p::kvs,xs,b,a,h,g=>by
  obtain⟨v,r,rfl,h1,h2⟩:=h.un;have q:=DkR.merge h2 (g.put p.1 h1);exact q
theorem DkR.gr{K:Frag}     (h:DkR K F as xs kvs)(g:Gr H F as H' F' as'):DkR K F' as' xs kvs:=⟨h.1,h.2.gr g⟩
noncomputable def qX(ma:M (List D)):M D:=λρ O=>(ma ρ O).bind λb a=>match b.map (aX a) with
 | [.lst es]=>match mL es with
  |some kvs=>if kvs.length<=1000000 then .ok (.ob a.length) (a++[.dk (uw kvs)]) else .no
  |none=>.no
 | _=>.no
theorem Xz  {J y:Pos}   (U:X.calm=true)(m:X.mg "dict" = none)(W:AE X md P ms [e] ma)(t:Gl X "dict":=by rfl)
  (T:starEach [e] X.env=(false,eval e X.env)::starEach [] X.env:=by exact bF rfl) (j:(backTo y (starEach [] X.env)).any (·.1)=false:=by exact cR rfl):VE X md P (.Call (.Name "dict" J) [e] [] y) (qX ma):=by
 refine(DQ (Xy U) t m (by decide +kernel) W (by decide) (by decide) T j).imp λσ H Q q=>?_
 obtain⟨ρ,O,F,as,d,O',r,s,e,k⟩:=q;obtain⟨ds,O1,Z,e⟩:=Res.bind_ok e;refine⟨ρ,_,F,as,_,_,r,s,Z,λvs E g a Y b L=>?_⟩;have c:=L.lks b
 generalize hds:ds.map (aX O1)=es at e c
 split at e
 ·rename_i ds0;obtain⟨v,rfl,i⟩:=c.one;split at e
  ·rename_i kvs R;split at e
   ·rename_i hlen;cases e;obtain⟨p,G,rfl,h1,h2⟩:=i.list b.fh;obtain⟨h,I,x⟩:=HN b.fh h2 R;refine⟨p,G,h,rfl,h1,I,by rw[x.len];exact hlen,λl f=>?_⟩;have C:Gr E g a (upd E l (.dK (gf [] h))) g (a++[l]):=Gr.snoc f;have u:DkR X.K g (a++[l]) (gf [] h) (uw kvs):=(x.merge ⟨rfl,Rps.nil⟩).gr C;refine k _ _ g (a++[l]) (Y.trans C) ((b.lay f).snocO (b.unF f) (λz=>b.all z f) ⟨_,bu,u.1,u.2⟩) (Rp.mkO ?_);rw[<-b.len,zC (zc _),Nat.sub_self];rfl
   ·cases e
  ·cases e
 ·cases e
end L2
namespace L2
open PySem PySem.Spec PyProof.Rows PySem.W PySem.Builtin PySem.Builtin.Str
noncomputable def qY  (t:Sem α):Prop:=∀(M:Model) (Γ:PySem.Ctx) (Q:α->Pos->Shared->Prop) (E:Value->Pos->Shared->Prop) (p:Pos) (s:Shared),Sem.wp M Γ t Q E p s->Sem.wp M Γ t (λa c b=>1<=b.toks/\Q a c b) E p s
theorem oN.n   (h:oN t):qY t:=λM Γ Q E p s q=>Sem.wp_mono M Γ _ (λ_ _ _ z=>z) (λ_ _ _ z=>z.2) _ _ (h M Γ Q E p s q)
theorem HQ  {M:Model}  {t:Sem α}{Q:α->Shared->Prop}   (b:qY t)(h:wpAny M A t Q E s):wpAny M A t (λa s'=>1<=s'.toks/\Q a s') E s:=λΓ p c=>b M Γ _ _ p s (h Γ p c)
theorem XC        (f:behindInMarks op (.Constant (.int n) j p)=false):qY (isTrue (.Compare l [op] [.Constant (.int n) j p] pos) env whole):=λM Γ Q E F s h=>by
 simp only[isTrue_Compare1,markedBehindIn_of_false f,Sem.wp_bind',Sem.wp_holding,Sem.wp_cmd_standAt,Sem.wp_operate] at h ⊢;refine Sem.wp_mono M Γ _ (λa C q h1=>?_) (λ_ _ _ z=>z) _ _ h;have h2:=(Hw (k:=λt=>(pure (Value.int n t):Sem Value))).n M Γ _ _ _ _ h1;refine Sem.wp_mono M Γ _ (λb x m h3=>?_) (λ_ _ _ z=>z) _ _ h2;exact Sem.wp_mono M Γ _ (λc u i z=>Sem.wp_mono M Γ _ (λd r g y=>y) (λ_ _ _ y=>y.2) _ _ (Sem.wp_toks M Γ 1 _ _ _ _ _ z.1 z.2)) (λ_ _ _ z=>z.2) _ _ (Sem.wp_toks M Γ 1 _ _ _ _ _ h3.1 h3.2)
noncomputable def ig(x y z:Str):Str:=if((occurrences x y 0 x.length 1).isEmpty || (y.length == 0&&z.length == 0))=true then x else glued z (partsBetween x (occurrences x y 0 x.length 1) y.length)
theorem XD(x y z:Str)(t u v c:Tok)(f:((occurrences x y 0 x.length 1).isEmpty || (y.length == 0&&z.length == 0))=false->(u == 0 || v == 0)=false/\(u == v)=false/\(y == z)=false/\tooLong (x.length+(occurrences x y 0 x.length 1).length * z.length)=false):
  Gives («str.replace» ⟨[.str x t,.str y u,.str z v,.int 1 c],[]⟩) (if((occurrences x y 0 x.length 1).isEmpty || (y.length == 0&&z.length == 0))=true then .val (.str x t) else .str (glued z (partsBetween x (occurrences x y 0 x.length 1) y.length))):=by
 show Gives (if((occurrences x y 0 x.length 1).isEmpty || (y.length == 0&&z.length == 0))=true then(do rule "str.replace.nothing";ret (.str x t)) else
     (do let same <-isSame (.str y u) (.str z v);if same=true then(do rule "str.replace.old-is-new";ret (.str x t)) else if tooLong (x.length+(occurrences x y 0 x.length 1).length * z.length)=true then unsupported "str.replace:memory" else retStr (glued z (partsBetween x (occurrences x y 0 x.length 1) y.length)))) _
 cases hc:((occurrences x y 0 x.length 1).isEmpty || (y.length == 0&&z.length == 0))
 ·obtain⟨h0,b,a,d⟩:=f hc;rw[isSame_str_other y z u v h0 b a,d];exact .of_eq rfl
 ·exact .rule (.of_eq rfl)
theorem xR(x y z:Str)(m:Nat)(b:z.length<=14):(glued z (partsBetween x (occurrences x y 0 x.length m) y.length)).length<=x.length+(occurrences x y 0 x.length m).length * 14/\(z.length=y.length->(glued z (partsBetween x (occurrences x y 0 x.length m) y.length)).length=x.length):=by
 have a:(glued y (partsBetween x (occurrences x y 0 x.length m) y.length)).length=x.length:=by rw[StrLaws.glued_between_self]
 rw[size_glued,length_partsBetween,Nat.add_sub_cancel] at a;rw[size_glued,length_partsBetween,Nat.add_sub_cancel];refine⟨?_,λe=>by rw[e];exact a⟩;have h2:(occurrences x y 0 x.length m).length * z.length<=(occurrences x y 0 x.length m).length * 14:=Nat.mul_le_mul_left _ b;omega
theorem XH(x y z:Str)(h:z.length=y.length)(a:z.length<=14):(Txt.replace x y z).length=x.length:=by
 unfold Txt.replace
 split
 ·rfl
 ·exact(xR x y z _ a).2 h
theorem XJ(x y z:Str)(h:z.length=y.length)(a:z.length<=14):(ig x y z).length=x.length:=by
 unfold ig
 split
 ·rfl
 ·exact(xR x y z _ a).2 h
theorem XM(f:u≠0)(hv:v≠0)(b:u≠v)(a:(y == z)=false)(i:x.length<=1048576)(d:z.length<=14)
  (g:∀t' k,Q (.str (ig x y z) t') {s with toks:=k}):wpAny (model prog w) A (call (.builtin "str.replace") [.str x t,.str y u,.str z v,.int 1 c]) Q E s:=by
 have h1:=StrLaws.occ_length_le x y 0 x.length 1;have h2:(occurrences x y 0 x.length 1).length * z.length<=(occurrences x y 0 x.length 1).length * 14:=Nat.mul_le_mul_left _ d;have hs:=sizeLine_eq
 have h:tooLong (x.length+(occurrences x y 0 x.length 1).length * z.length)=false:=by
  unfold tooLong;exact zo (by omega)
 refine call_gives F.slot_str_replace (typeIs_str _ _ _) F.entry_str_replace (F.args_str_replace_4 _ _ _ _) (XD x y z t u v c λ_=>⟨by simp[f,hv],by simp[b],a,h⟩) ?_;have hq':=g;unfold ig at hq';cases hc:((occurrences x y 0 x.length 1).isEmpty || (y.length == 0&&z.length == 0))
 ·rw[hc] at hq';simp only[Bool.false_eq_true,if_false] at hq' ⊢;exact⟨by have:=(xR x y z 1 d).1;omega,hq' _ _⟩
 ·rw[hc] at hq';simp only[if_true] at hq' ⊢;exact hq' t s.toks
noncomputable def PEp(X:Cx)(e:Expr)(t:TE):Prop:=∀(pins:List (Addr×Obj)) (s:Shared) (σ:St) (H:Hp) (Q:VK),1<=s.toks->Inv X pins σ H s->t σ H Q->wpAny (model X.prog X.w) X.A (eval e X.env) (EP X pins σ Q) X.xe s
theorem PE.p   (h:PE X e t):PEp X e t:=λpins s σ H Q _ I q=>h pins s σ H Q I q
theorem PEp.imp   (h:PEp X e t)(k:∀σ H Q,t' σ H Q->t σ H Q):PEp X e t':=λpins s σ H Q a I q=>h pins s σ H Q a I (k σ H Q q)
theorem XN    {E C:Nat}{y u apos c:Pos}(J:PEp X o to)(m:(a == b)=false)(j:b.length<=14)
  (f:attributeBase o "replace" X.env (eval o X.env)=eval o X.env:=by rfl)
  (d:(apos.endLine == c.line)=true:=by rfl):
  PEp X (.Call (.Attribute o "replace" apos) [.Constant (.str a) E y,.Constant (.str b) C u] [] c) (W6 a b to):=by
 intro pins s σ H Q i I h;refine wpAny_Call_method_late f rfl d rfl (zw (wpAny_toks_of i (J pins s σ H _ i I h)) (λv g L=>?_) λ_ _ z=>z.2);obtain⟨i,x,O,G,r,l,rfl,R,q⟩:=L;obtain⟨h1,h2⟩:=sY (T:="str") G r rfl;refine⟨"str","str.replace",PySem.F.plainAttrs_str,PySem.F.slot_str_replace,PySem.F.type_str_replace,h1,h2,?_⟩;refine Calls.callWith_builtin rfl (Calls.evalArgs_plain ?_);refine Calls.spliced_cons (x:=eval (.Constant (.str a) E y) X.env) (Calls.Constant_str ?_);show wpAny _ _ (spliced [(false,eval (.Constant (.str b) C u) X.env)]) _ _ _;refine Calls.spliced_cons (Calls.Constant_str (Calls.spliced_nil ?_))
 obtain⟨t,rfl⟩:=r
 refine SC.replaceW (by show g.toks≠0;omega) (by show g.toks+1≠0;omega) (by show g.toks≠g.toks+1;omega) m (by omega) j λP k=>?_
 exact⟨.str _,O,G.tok _,⟨_,rfl⟩,q⟩
noncomputable def XQ(a b:Str)(to:TE):TE:=λσ H Q=>to σ H λx c=>∃l:Str,x=.str l/\l.length<=1000000/\Q (.str (ig l a b)) c
theorem XR    {J G E:Nat}{C y u apos c:Pos}(O:PEp X o to)(m:(a == b)=false)(j:b.length<=14)
  (f:attributeBase o "replace" X.env (eval o X.env)=eval o X.env:=by rfl)
  (d:(apos.endLine == c.line)=true:=by rfl):
  PEp X (.Call (.Attribute o "replace" apos) [.Constant (.str a) J C,.Constant (.str b) G y,.Constant (.int 1) E u] [] c) (XQ a b to):=by
 intro pins s σ H Q i I h;refine wpAny_Call_method_late f rfl d rfl (zw (wpAny_toks_of i (O pins s σ H _ i I h)) (λv g P=>?_) λ_ _ z=>z.2);obtain⟨i,x,R,L,r,l,rfl,W,q⟩:=P;obtain⟨h1,h2⟩:=sY (T:="str") L r rfl;refine⟨"str","str.replace",PySem.F.plainAttrs_str,PySem.F.slot_str_replace,PySem.F.type_str_replace,h1,h2,?_⟩;refine Calls.callWith_builtin rfl (Calls.evalArgs_plain ?_);refine Calls.spliced_cons (x:=eval (.Constant (.str a) J C) X.env) (Calls.Constant_str ?_);show wpAny _ _ (spliced [(false,eval (.Constant (.str b) G y) X.env),(false,eval (.Constant (.int 1) E u) X.env)]) _ _ _
 refine Calls.spliced_cons (Calls.Constant_str ?_);refine Calls.spliced_cons (wpAny_Constant_int (Calls.spliced_nil ?_));obtain⟨t,rfl⟩:=r
 refine XM (by show g.toks≠0;omega) (by show g.toks+1≠0;omega) (by show g.toks≠g.toks+1;omega) m (by omega) j λU k=>?_
 exact⟨.str _,R,L.tok _,⟨_,rfl⟩,q⟩
noncomputable def jo(a b:List Nat)(m:M D):M D:=λρ O=>(m ρ O).bind λd c=>match d with
 | .str l=>if l.length<=1000000 then .ok (.str (Txt.replace (S l) (S a) (S b)).cps.toList) c else .no
 | _=>.no
noncomputable def ux(a b:List Nat)(m:M D):M D:=λρ O=>(m ρ O).bind λd c=>match d with
 | .str l=>if l.length<=1000000 then .ok (.str (ig (S l) (S a) (S b)).cps.toList) c else .no
 | _=>.no
noncomputable def VEp(X:Cx)(md:List Md)(P:Pt)(e:Expr)(m:M D):Prop:=PEp X e (tM X.K X.mg md P (rV X.K) m)
theorem HR   (h:VE X md P e m):VEp X md P e m:=PE.p h
theorem HS  (h:a≠b):(S a == S b)=false:=by
 cases q:(S a == S b) with
 |false=>rfl
 |true=>exact absurd (wI (eq_of_beq q)) h
theorem xT   {b:Str}{I G:Nat}{E C apos c:Pos}(j h:List Nat)(L:VEp X md P o m)(U:a=S j:=by decide +kernel)(T:b=S h:=by decide +kernel)(u:j≠h:=by decide)(t:h.length<=14:=by decide)
  (g:attributeBase o "replace" X.env (eval o X.env)=eval o X.env:=by rfl) (f:(apos.endLine == c.line)=true:=by rfl):
  VEp X md P (.Call (.Attribute o "replace" apos) [.Constant (.str a) I E,.Constant (.str b) G C] [] c) (jo j h m):=by
 subst U T
 refine(XN L (HS u) (by rw[cu];exact t) g f).imp λσ H Q q=>?_
 obtain⟨ρ,O,F,as,d,O',r,s,e,k⟩:=q;obtain⟨d1,O1,Y,e⟩:=Res.bind_ok e;split at e
 ·rename_i l;split at e
  ·rename_i R;cases e;refine⟨ρ,O,F,as,.str l,_,r,s,Y,λv Z x i W y J=>?_⟩;cases Rp.unS J;refine⟨_,rfl,by rw[cu];exact R,k _ Z x i W y ?_⟩
   have:=Rp.str (K:=X.K) (F:=x) (as:=i) (l:=(Txt.replace (S l) (S j) (S h)).cps.toList)
   rwa [tG] at this
  ·cases e
 ·cases e
theorem XS   {b:Str}{L J I:Nat}{G E C apos c:Pos}(j h:List Nat)(T:VEp X md P o m)(Y:a=S j:=by decide +kernel)(W:b=S h:=by decide +kernel)(u:j≠h:=by decide)(t:h.length<=14:=by decide)
  (g:attributeBase o "replace" X.env (eval o X.env)=eval o X.env:=by rfl) (f:(apos.endLine == c.line)=true:=by rfl):
  VEp X md P (.Call (.Attribute o "replace" apos) [.Constant (.str a) L G,.Constant (.str b) J E,.Constant (.int 1) I C] [] c) (ux j h m):=by
 subst Y W
 refine(XR T (HS u) (by rw[cu];exact t) g f).imp λσ H Q q=>?_
 obtain⟨ρ,O,F,as,d,O',r,s,e,k⟩:=q;obtain⟨d1,O1,e1,e⟩:=Res.bind_ok e;split at e
 ·rename_i l;split at e
  ·rename_i U;cases e;refine⟨ρ,O,F,as,.str l,_,r,s,e1,λv H1 x i Z y R=>?_⟩;cases Rp.unS R;refine⟨_,rfl,by rw[cu];exact U,k _ H1 x i Z y ?_⟩
   have:=Rp.str (K:=X.K) (F:=x) (as:=i) (l:=(ig (S l) (S j) (S h)).cps.toList)
   rwa [tG] at this
  ·cases e
 ·cases e
theorem XX     (Z:cP R)(W:TsE X md P c t)(hB:qY (isTrue c X.env (eval c X.env)))(U:PEp X e (tM X.K X.mg md P R m)):VS X md P R (.If c [.Return (some e) p1] [] pos) (aK t (aB m) aD):=by
 intro pins s σ H D I q;obtain⟨ρ,O,F,G,r,sl,k⟩:=q;unfold aK at k
 cases e1:t ρ O with
 |ok b y =>
  rw[e1] at k;dsimp only at k
  have T:tMT X.K X.mg md P t σ H λb' j=>b'=b/\∃i f,Gr H F G j i f/\RlO X.K X.mg y j i f:=⟨ρ,_,F,G,_,_,r,sl,e1,λl i f g u=>⟨rfl,i,f,g,u⟩⟩
  refine wpAny_If (thn (HQ hB (W pins s σ H _ I T)) λd J ⟨ht,l,I1,hd,i,f,g1,u⟩=>?_);subst hd;have h:=fP g1.toS k;have s1':=sl.step g1
  cases d with
  |true =>
   rw[if_pos rfl] at h;show wpAny _ _ (execs [.Return (some e) p1] X.env) _ _ _;unfold aB at h
   cases e2:m ρ y with
   |ok dd O2 =>
    rw[e2] at h
    have C:tM X.K X.mg md P R m σ l λv j=>D.rt v j:=⟨ρ,_,i,f,_,_,u,s1',e2,λv j F' E g L Q=>h v j F' E g.toS L (Z _ _ _ _ _ _ _ (λa Y p=>s1'.pd a p Y) Q)⟩
    refine wpAny_execs_cons (wpAny_Return_some (thn (U pins J σ l _ ht I1 C) λv s2 ⟨x,H2,I2,rx,q2⟩=>?_));exact⟨x,σ,H2,I2,rx,q2⟩
   |ex x O2=>rw[e2] at h;exact False.elim h
   |no=>rw[e2] at h;exact False.elim h
  |false =>
   rw[if_neg zq] at h;exact wpAny_execs_nil ⟨σ,l,I1,h σ l i f GrS.refl u s1'⟩
 |ex x y=>rw[e1] at k;exact False.elim k
 |no=>rw[e1] at k;exact False.elim k
noncomputable def VSp(X:Cx)(md:List Md)(P:Pt)(R:RR)(st:Stmt)(m:MS):Prop:=∀(pins:List (Addr×Obj)) (s:Shared) (σ:St) (H:Hp) (D:Ends),1<=s.toks->Inv X pins σ H s->tMS X.K X.mg md P R m D σ H->wpAny (model X.prog X.w) X.A (exec st X.env) (SP X pins D) X.xe s
theorem X3{R:RR}    {a pos':Pos}  (j:X.N.Nodup)(f:X.N[i]?=some x)(b:Loc X.env.scope x)(h:VEp X md P e m)(d:md[i]?=some .v:=by rfl)(hs:swapsWith e (some (.Name x pos')) a.line X.env=pure false:=by rfl)
  (g:X.fn x=true\/X.env.scope.names.lookup x=some .local:=by first | exact .inl rfl | exact .inr rfl | assumption):VSp X md P R (.Assign [.Name x pos'] e a) (aF i m):=by
 intro pins s σ H D c I q;have q':nG (tM X.K X.mg md P (rV X.K) m) (nF i) D σ H:=Fj d (λ_ _ _ z=>z) q;refine wpAny_Assign_Name (thn (h pins s σ H _ c I q') λv s1 ⟨y,H1,I1,r1,q1⟩=>?_) hs;exact nD I1 j f b r1 (λr l=>⟨_,H1,l,q1⟩) g
theorem X4{st:Stmt}{rest:List Stmt}  (h1:VS X md P R st a)(hB:qY (exec st X.env))(h2:VSp X md P R st2 b)(h3:VSs X md P R rest c):VSs X md P R (st::st2::rest) (au a (au b c)):=by
 intro pins s σ H D I q;obtain⟨ρ,O,F,as,r,sl,k⟩:=q
 have q1:tMS X.K X.mg md P R a {D with nx:=λl y=>tMS X.K X.mg md P R (au b c) D l y} σ H:=by
  refine⟨ρ,O,F,as,r,sl,?_⟩;unfold au at k
  cases e:a ρ O with
  |nx h j =>
   rw[e] at k
   exact λl y L t g J G=>⟨h,j,L,t,J,G,fP g k⟩
  |bk h j=>rw[e] at k;exact k
  |ct h j=>rw[e] at k;exact k
  |rt d j=>rw[e] at k;exact k
  |ex x j=>rw[e] at k;exact k
  |no=>rw[e] at k;exact k
 refine wpAny_execs_cons (thn (HQ hB (h1 pins s σ H _ I q1)) λf s1 ⟨ht,m⟩=>?_)
 cases f with
 |next =>
  obtain⟨C,Y,I1,E,W,F1,U,r1,T,i⟩:=m
  have q2:tMS X.K X.mg md P R b {D with nx:=λl y=>tMS X.K X.mg md P R c D l y} C Y:=by
   refine⟨E,W,F1,U,r1,T,?_⟩;unfold au at i
   cases e:b E W with
   |nx h j =>
    rw[e] at i
    exact λl y L t g J G=>⟨h,j,L,t,J,G,fP g i⟩
   |bk h j=>rw[e] at i;exact i
   |ct h j=>rw[e] at i;exact i
   |rt d j=>rw[e] at i;exact i
   |ex x j=>rw[e] at i;exact i
   |no=>rw[e] at i;exact i
  refine wpAny_execs_cons (thn (h2 pins s1 C Y _ ht I1 q2) λf Z m=>?_)
  cases f with
  |next =>
   obtain⟨Q,H2,I2,q3⟩:=m;exact h3 pins Z Q H2 D I2 q3
  |brk=>exact m
  |cont=>exact m
  |ret u=>exact m
 |brk=>exact m
 |cont=>exact m
 |ret u=>exact m
end L2
namespace L2
open PySem PySem.Spec PyProof.Rows PySem.W
theorem mkD{K:Frag}  {st:Stmt}     {kV:Value}(X:K.In h)(G:h.Ns mainGlobals mg)(a:nsIn K mainGlobals x=some (some (.ref f)))(l:K.lookup f=some ⟨oc,od,.func (fnOf x x (dh st) (bJ st) (aJ st) .none kV dc pm an cd ct),sl⟩)(c:codeIn K cd x=true)(k:keepIn K (.ref f)=true):Def K mg x st:=⟨_,_,mg_of X G a,qw l c k⟩
structure ClsAt(K:Frag)(c:Str)(A:Addr):Prop where
 ns:nsIn K mainGlobals c=some (some (.ref A))
 pg:plainGet K A Str.empty=true
 hd:hasDictIn K A=true
 po:plainOver K A=true
 sa:findIn K (.ref A) "__setattr__" = some (some (.builtin "object.__setattr__"))
 mks:makesIn K A=true
 kc:keepIn K (.ref A)=true
noncomputable def MethAt(K:Frag)(A:Addr)(m qual:Str)(st:Stmt):Prop:=∃f fd,findIn K (.ref A) m=some (some (.ref f))/\isFn K (.ref f)=true/\keepIn K (.ref f)=true/\Fun K m qual st f fd
theorem mkM{K:Frag}   {st:Stmt}     {kV:Value}(a:findIn K (.ref A) m=some (some (.ref f)))(i:isFn K (.ref f)=true)(l:K.lookup f=some ⟨oc,od,.func (fnOf m qual (dh st) (bJ st) (aJ st) .none kV dc pm an cd ct),sl⟩)(c:codeIn K cd qual=true)(k:keepIn K (.ref f)=true):MethAt K A m qual st:=⟨_,_,a,i,k,qw l c k⟩
theorem ClsAt.cl{K:Frag}(z:ClsAt K c A):Cls K A:=⟨z.pg,z.hd,z.po,z.sa⟩
theorem ClsAt.dm{K:Frag}(z:ClsAt K c A)(X:K.In h)(G:h.Ns mainGlobals mg)  {st:Stmt}(q:MethAt K A m qual st):oA K mg c m qual st:=by
 obtain⟨f,fd,a,i,k,b⟩:=q;exact⟨_,_,_,mg_of X G z.ns,z.cl,⟨a,i,k⟩,b⟩
theorem ClsAt.dc{K:Frag}(z:ClsAt K c A)(X:K.In h)(G:h.Ns mainGlobals mg)  {st:Stmt}(q:MethAt K A "__init__" qual st):xu K mg c qual st:=by
 obtain⟨f,fd,a,i,k,b⟩:=q;exact⟨_,_,_,mg_of X G z.ns,⟨z.mks,a,i,z.kc⟩,b⟩
theorem ClsAt.kf{K:Frag}(z:ClsAt K c A)(X:K.In h)(G:h.Ns mainGlobals mg)  (n:findIn K (.ref A) f=some none):KC K mg c f:=⟨_,mg_of X G z.ns,z.cl,n⟩
noncomputable def uy(K:Frag)(mg:Str->Option Value)(x:Str)(st:Stmt)(c:Array Value):Prop:=∃(f:Addr) (i:Value) (h:Option Addr) (T:Addr) (kV d g:Value) (j:Option Addr) (a ct:Value) (b:Array (Option Value)) (o:Obj) (n:Nat),
 mg x=some (.ref f)/\K.lookup f=some ⟨i,h,.func (fnOf x x (dh st) (bJ st) (aJ st) (.ref T) kV d g j a ct),b⟩/\codeIn K a x=true/\keepIn K (.ref f)=true/\K.lookup T=some o/\o.data=.seq c n
theorem X5{K:Frag}   {st:Stmt}     {kV:Value}   (X:K.In h)(G:h.Ns mainGlobals mg)(a:nsIn K mainGlobals x=some (some (.ref f)))(l:K.lookup f=some ⟨oc,od,.func (fnOf x x (dh st) (bJ st) (aJ st) (.ref T) kV dc pm an cd ct),sl⟩)(c:codeIn K cd x=true)(k:keepIn K (.ref f)=true)(t:K.lookup T=some ⟨tc,td,.seq its n,tl⟩):uy K mg x st its :=
 ⟨f,oc,od,T,kV,dc,pm,an,cd,ct,sl,_,n,mg_of X G a,l,c,k,t,rfl⟩
theorem X6{W:Program}{w:World}{K:Frag}{base:Heap}  {st:Stmt}  {k:Nat}  (Df:uy K mg x st its)(S:bc N ps (aJ st))
  (hb:∀(T:Addr) (kV l pm:Value) (U:Option Addr) (i ct:Value) (us:List Value),us.length=ps.length->∃g,bindArgs (fnOf x x (dh st) (bJ st) (aJ st) (.ref T) kV l pm U i ct) ⟨us,[]⟩=seqItems? (.ref T) >>= g/\g (some its)=pure (ps.zip us))
  (pm lm:List Md)  {b:MS} (hR:cP R) (hR0:∀N H F as,R N H F as .non .non) (Z:pm.length=ps.length:=by rfl) (G:(pm++lm).length=N.length:=by rfl) (hp:∀m∈pm,m≠.o:=by decide)
  (body:∀(f:Addr) (i:Value) (A:Around) (outer:List Env) (s:Shared) (H:Hp) (E:XK),aP k (A.deeper (envOfC x (aJ st) s.heap.objs.size f i))->∀P,gD (cY (CXF W w) W w K mg base N x (aJ st) f i A outer s H E) (pm++lm) P R (bJ st) b):
  jQ W w K mg base x ps (k+1) (fH K mg pm R (bf N.length b)):=by
 obtain⟨f,oc,od,T,kV,l,X,U,i,ct,Y,o,n,hm,lk,hcd,hkp,ht,hd⟩:=Df;refine⟨f,_,hm,hkp,?_,?_,oc,od,Y,lk⟩
 ·intro s us KX G;rw[zI] at G ⊢;obtain⟨g,h1,h2⟩:=hb T kV l X U i ct us G;exact BindsTo.of_defaults (T:=T) rfl (KX _ _ ht) hd h1 h2
 ·refine sV lk hcd S (λvs H Q E h=>?_) λA outer s H vs Q E J h=>?_
  ·obtain⟨L,O,F,as,r,a,_⟩:=h;rw[a.len.1,Z]
  ·obtain⟨L,O,F,as,r,a,q⟩:=h;refine⟨_,body f i A outer s H E J (Pt.all H),?_⟩;refine⟨_,O,F,as,r,tR a G hp,?_⟩;unfold bf at q
   cases eb:b (L.map some++List.replicate (N.length - L.length) none) O with
   |rt d' O2 =>
    rw[eb] at q
    exact λv y u j g t hv=>q v y u j g.gr t (hR _ _ _ _ _ _ _ (λc hc=>jj.mp hc) hv)
   |nx ρ O2 =>
    rw[eb] at q
    exact λσ' y u j g t _=>q _ y u j g.gr t (hR0 _ _ _ _)
   |ex x' O2 =>
    rw[eb] at q
    exact λdxo y u j g t hx=>⟨λpins σ s1 ea C hC I J=>Hb I J (q C dxo y u j hC g.gr t hx),λpins σ H0 s1 e s2 I hz=>Hc I hz λC d H2 ⟨C',z1,z2,z3,z4⟩=>by
     cases z1;subst z3 z4
     exact q C _ _ u j z2 g.gr t hx⟩
   |bk _ _=>rw[eb] at q;exact False.elim q
   |ct _ _=>rw[eb] at q;exact False.elim q
   |no=>rw[eb] at q;exact False.elim q
end L2
namespace L2
open PySem PySem.Spec PyProof.Rows
section
variable {X:Cx}{md:List Md}{P:Pt}
theorem X7{a:List Expr}{b:Pos}{x1}{r:M (List D)}(h:AE X md P (List.replicate a.length .v) a r):VE X md P (.Tuple a x1 b) (aW r):=qC _ h
theorem X8{a:List Expr}{b:Pos}{r:M (List D)}(h:AE X md P (List.replicate a.length .v) a r):OE X md P (.List a b) (bj r):=nU _ h
theorem Yb{x:Str}{ls:List (List Nat)}{a:Pos}{m:M D}(h:ud X.K X.mg x ls)(c:m=mC (.tup (ls.map D.str)):=by rfl)(d:Gl X x:=by rfl)(b:(x == ("__debug__":Str))=false:=by decide):VE X md P (.Name x a) m:=c ▸ Vw h d b
end
theorem cG{K:Frag}(N H F as):rV K N H F as .non .non:=Rp.non
theorem mO{K:Frag}(N H F as):rO K N H F as .non .non:=.inl ⟨rfl,Rp.non⟩
noncomputable def ofO(o:Option D)(O:az):Res D:=match o with
 |some d=>.ok d O
 |none=>.no
@[simp] theorem mQ  :ofO (some d) O=.ok d O:=rfl
@[simp] theorem aQ  {a:α}  {f:α->az->Res β}:(Res.ok a O).bind f=f a O:=rfl
@[simp] theorem Qzn :aX O .non=.non:=rfl
@[simp] theorem QzD  :aX O (.bl b)=.bl b:=rfl
@[simp] theorem mR  :aX O (.int b)=.int b:=rfl
@[simp] theorem mU  :aX O (.str b)=.str b:=rfl
@[simp] theorem jV  :aX O (.lst b)=.lst b:=rfl
@[simp] theorem xU  :aX O (.tup b)=.tup b:=rfl
@[simp] theorem Qzh  :aX O (.dic a b)=.dic a b:=rfl
@[simp] theorem il   :aa i ρ O=(match ρ[i]? with | some (some d)=>.ok d O | _=>.no):=rfl
@[simp] theorem m_c   :mC d ρ O=.ok d O:=rfl
@[simp] theorem qZ    :ak g a b ρ O=(a ρ O).bind λx O1=>(b ρ O1).bind λy O2=>ofO (g (aX O2 x) (aX O2 y)) O2:=rfl
noncomputable def gF(r:Res D):Res D:=match r with
 | .ok d O'=>if fO d=true then .ok d O' else .no
 |r=>r
@[simp] theorem m_g   :mG m ρ O=gF (m ρ O):=rfl
@[simp] theorem QAX  :gF (.ok (.int i) O)=.ok (.int i) O:=rfl
@[simp] theorem QA0  :gF (.ok (.str i) O)=.ok (.str i) O:=rfl
@[simp] theorem QBv  :gF (.ok (.bl i) O)=.ok (.bl i) O:=rfl
@[simp] theorem QBg :gF (.ok .non O)=.ok .non O:=rfl
@[simp] theorem QAQ  :gF (.ok (.tup l) O)=.ok (.tup l) O:=rfl
@[simp] theorem QBt  :gF (.ok (.ob n) O)=.ok (.ob n) O:=rfl
noncomputable def chF(o:Option D)(O:az)(f:Unit->Res D):Res D:=match o with
 |some (.bl true)=>f ()
 |some (.bl false)=>.ok (.bl false) O
 | _=>.no
@[simp] theorem QBH   :chF (some (.bl b)) O f=if b=true then f () else .ok (.bl false) O:=by cases b<;>rfl
@[simp] theorem QAp    :qD g g' a b c ρ O=(a ρ O).bind λx O1=>(b ρ O1).bind λy O2=>chF (g (aX O2 x) (aX O2 y)) O2 λ_=>(c ρ O2).bind λz d=>ofO (g' (aX d y) (aX d z)) d:=by
 unfold qD;congr 1
@[simp] theorem HW   :d9 m ρ O=(m ρ O).bind λd O1=>.ok (.bl (isNon d)) O1:=rfl
@[simp] theorem QBb   :tQ m ρ O=(m ρ O).bind λd O1=>.ok (.bl (!isNon d)) O1:=rfl
@[simp] theorem Qzm:isNon .non=true:=rfl
@[simp] theorem Qzj :isNon (.lst l)=false:=rfl
@[simp] theorem Qze :isNon (.tup l)=false:=rfl
@[simp] theorem Qzg :isNon (.str l)=false:=rfl
@[simp] theorem Qy9 :isNon (.int l)=false:=rfl
@[simp] theorem Qzs :isNon (.ob l)=false:=rfl
noncomputable def teF(d:D)(O:az):Res Bool:=match d with
 | .bl b=>.ok b O
 | _=>.no
@[simp] theorem xV  :teF (.bl b) O=.ok b O:=rfl
@[simp] theorem oR   :aA m ρ O=(m ρ O).bind teF:=rfl
noncomputable def ofB(o:Option Bool)(O:az):Res Bool:=match o with
 |some d=>.ok d O
 |none=>.no
@[simp] theorem QzV  :ofB (some d) O=.ok d O:=rfl
@[simp] theorem rm   :cz m ρ O=(m ρ O).bind λd O1=>ofB (nW (aX O1 d)) O1:=rfl
@[simp] theorem QAv :nW (.bl b)=some b:=rfl
@[simp] theorem Qzt :nW (.lst b)=some (!b.isEmpty):=rfl
@[simp] theorem xW   :dG a b ρ O=(a ρ O).bind λc O1=>if c=true then b ρ O1 else .ok false O1:=rfl
@[simp] theorem uz   :cZ a b ρ O=(a ρ O).bind λc O1=>if c=true then .ok true O1 else b ρ O1:=rfl
@[simp] theorem uA   :fD a ρ O=(a ρ O).bind λc O1=>.ok (!c) O1:=rfl
noncomputable def anF(d:D)(O:az)(f:Unit->Res D):Res D:=match d with
 | .bl true=>f ()
 | .bl false=>.ok (.bl false) O
 | _=>.no
noncomputable def orF(d:D)(O:az)(f:Unit->Res D):Res D:=match d with
 | .bl true=>.ok (.bl true) O
 | .bl false=>f ()
 | _=>.no
@[simp] theorem QBK   :anF (.bl b) O f=if b=true then f () else .ok (.bl false) O:=by cases b<;>rfl
@[simp] theorem QBB   :orF (.bl b) O f=if b=true then .ok (.bl true) O else f ():=by cases b<;>rfl
@[simp] theorem QA4   :iU a b ρ O=(a ρ O).bind λd O1=>anF d O1 λ_=>b ρ O1:=by
 unfold iU;congr 1
@[simp] theorem QBx   :Fg a b ρ O=(a ρ O).bind λd O1=>orF d O1 λ_=>b ρ O1:=by
 unfold Fg;congr 1
noncomputable def noF(d:D)(O:az):Res D:=match d with
 | .bl b=>.ok (.bl (!b)) O
 | _=>.no
@[simp] theorem QBo  :noF (.bl b) O=.ok (.bl (!b)) O:=rfl
@[simp] theorem QAZ   :jF a ρ O=(a ρ O).bind noF:=rfl
@[simp] theorem uB    :mIf t a b ρ O=(t ρ O).bind λc O1=>if c=true then a ρ O1 else b ρ O1:=rfl
@[simp] theorem oU  :aq ρ O=.ok [] O:=rfl
@[simp] theorem oV    :aj m r ρ O=(m ρ O).bind λd O1=>(r ρ O1).bind λds O2=>.ok (d::ds) O2:=rfl
@[simp] theorem HY   :bj r ρ O=(r ρ O).bind λds O1=>if ds.length<=1000000 then .ok (.lst ds) O1 else .no:=rfl
@[simp] theorem H9   :aW r ρ O=(r ρ O).bind λds O1=>if ds.length<=1000000 then .ok (.tup ds) O1 else .no:=rfl
@[simp] theorem uC    :aG c ma ρ O=(ma ρ O).bind λds O1=>c ds O1:=rfl
@[simp] theorem Yc    :aM g ma ρ O=(ma ρ O).bind λds O1=>ofO (g (ds.map (aX O1))) O1:=rfl
@[simp] theorem QB1    :mUn g ma ρ O=(ma ρ O).bind λd O1=>ofO (g (aX O1 d)) O1:=rfl
noncomputable def isF(n:String)(o:Option String)(O:az):Res D:=match o with
 |some t=>.ok (.bl (dI t n)) O
 |none=>.no
@[simp] theorem Qzu  :isF n (some t) O=.ok (.bl (dI t n)) O:=rfl
@[simp] theorem QBs    :eU n m ρ O=(m ρ O).bind λd O1=>isF n (tyD (aX O1 d)) O1:=rfl
@[simp] theorem QAK:tyD .non=some "NoneType":=rfl
@[simp] theorem QAU :tyD (.bl b)=some "bool":=rfl
@[simp] theorem QAx :tyD (.int b)=some "int":=rfl
@[simp] theorem QAm :tyD (.str b)=some "str":=rfl
@[simp] theorem QAD :tyD (.lst b)=some "list":=rfl
@[simp] theorem QAB :tyD (.tup b)=some "tuple":=rfl
@[simp] theorem QAG :tyD (.dic a b)=some "dict":=rfl
@[simp] theorem xX  :moN ρ O=.ok none O:=rfl
noncomputable def osF(d:D)(O:az):Res (Option Int):=match d with
 | .int i=>.ok (some i) O
 | _=>.no
@[simp] theorem Yd  :osF (.int i) O=.ok (some i) O:=rfl
@[simp] theorem Ye   :moS m ρ O=(m ρ O).bind osF:=rfl
@[simp] theorem rn  {a:M (Option Int)}  :mSl m a hi ρ O=(m ρ O).bind λd O1=>(a ρ O1).bind λl O2=>(hi ρ O2).bind λh b=>ofO (gSl (aX b d) l h) b:=rfl
@[simp] theorem Yg  {a:Option Int}:gSl (.str l) a hi=if l.length<=16777216 then some (.str (cB l a hi)) else none:=rfl
@[simp] theorem xY  {a:Option Int}:gSl (.lst l) a hi=some (.lst (cB l a hi)):=rfl
@[simp] theorem QAu  {a:Option Int}:gSl (.tup l) a hi=some (.tup (cB l a hi)):=rfl
noncomputable def jq(f:Fl)(b:MS):Fl:=match f with
 | .nx ρ' O'=>b ρ' O'
 |r=>r
@[simp] theorem oW   :au a b ρ O=jq (a ρ O) b:=rfl
@[simp] theorem xZ   :jq (.nx ρ O) b=b ρ O:=rfl
@[simp] theorem Yh   :jq (.rt d O) b=.rt d O:=rfl
@[simp] theorem QAq   :jq (.bk ρ O) b=.bk ρ O:=rfl
@[simp] theorem QAI   :jq (.ct ρ O) b=.ct ρ O:=rfl
@[simp] theorem QAC :jq .no b=.no:=rfl
@[simp] theorem QAS  :aD ρ O=.nx ρ O:=rfl
noncomputable def jW(r:Res D):Fl:=match r with
 | .ok d O'=>.rt d O'
 | .ex x O'=>.ex x O'
 | .no=>.no
@[simp] theorem oX   :aB m ρ O=jW (m ρ O):=rfl
@[simp] theorem Yi  :jW (.ok d O)=.rt d O:=rfl
noncomputable def Ia(r:Res D)(ρ:aV):Fl:=match r with
 | .ok _ O'=>.nx ρ O'
 | .ex x O'=>.ex x O'
 | .no=>.no
@[simp] theorem QAL   :S8 m ρ O=Ia (m ρ O) ρ:=rfl
@[simp] theorem Qzx   :Ia (.ok d O) ρ=.nx ρ O:=rfl
noncomputable def ifF(r:Res Bool)(a b:MS)(ρ:aV):Fl:=match r with
 | .ok c O'=>if c=true then a ρ O' else b ρ O'
 | .ex x O'=>.ex x O'
 | .no=>.no
@[simp] theorem uD    :aK t a b ρ O=ifF (t ρ O) a b ρ:=rfl
@[simp] theorem yc    :ifF (.ok c O) a b ρ=if c=true then a ρ O else b ρ O:=rfl
noncomputable def rz(i:Nat)(r:Res D)(ρ:aV):Fl:=match r with
 | .ok d O'=>.nx (ρ.set i (some d)) O'
 | .ex x O'=>.ex x O'
 | .no=>.no
@[simp] theorem lz    :aF i m ρ O=rz i (m ρ O) ρ:=rfl
@[simp] theorem lA    :rz i (.ok d O) ρ=.nx (ρ.set i (some d)) O:=rfl
noncomputable def Ib(r:Res (List D))(g:MG)(b:MS)(ρ:aV):Fl:=match r with
 | .ok ds O'=>aO g b ds ρ O'
 | .ex x O'=>.ex x O'
 | .no=>.no
@[simp] theorem Ie     :bM m g b ρ O=Ib (m ρ O) g b ρ:=rfl
@[simp] theorem Yj     :Ib (.ok ds O) g b ρ=aO g b ds ρ O:=rfl
@[simp] theorem mg_n   :mgN i d ρ=some (ρ.set i (some d)):=rfl
noncomputable def bh(f:Fl):Res D:=match f with
 | .rt d O'=>.ok d O'
 | .nx _ O'=>.ok .non O'
 | .ex x O'=>.ex x O'
 | _=>.no
@[simp] theorem Yk    :bf n b ds O=bh (b (ds.map some++List.replicate (n - ds.length) none) O):=rfl
@[simp] theorem QAo  :bh (.rt d O)=.ok d O:=rfl
@[simp] theorem QAH  :bh (.nx ρ O)=.ok .non O:=rfl
@[simp] theorem Yl   :eV m ρ O=(m ρ O).bind λds O1=>match ds with
 | [.int j]=>if j<=1000000000/\-1000000000<=j then .ok (dJ 0 j.toNat) O1 else .no
 | _=>.no:=rfl
noncomputable def itF(o:Option (List D))(O:az):Res (List D):=match o with
 |some a=>.ok a O
 |none=>.no
@[simp] theorem QzT  :itF (some ds) O=.ok ds O:=rfl
@[simp] theorem rE   :bG m ρ O=(m ρ O).bind λd O1=>itF (kJ d) O1:=rfl
@[simp] theorem Qzl :kJ (.lst ds)=some ds:=rfl
@[simp] theorem Qzd :kJ (.tup ds)=some ds:=rfl
theorem Ym  (h:ascii l=true):kJ (.str l)=some (bR l):=by
 show(if ascii l=true then some (bR l) else none)=_;rw[if_pos h]
@[simp] theorem rF        :c7 m own cap g t e ρ O=(m ρ O).bind λds O1=>if ds.length<=1000000 then(dH g t e ds (gY own cap ρ) O1 []).bind λys O2=>.ok (.lst ys) O2 else .no:=rfl
@[simp] theorem QAT :aC (.int i) (.int j)=some (.int (i+j)):=rfl
@[simp] theorem Yn :aC (.str a) (.str b)=if a.length+b.length<=1000000 then some (.str (a++b)) else none:=rfl
@[simp] theorem Yo :aC (.lst a) (.lst b)=if a.length+b.length<=1000000 then some (.lst (a++b)) else none:=rfl
@[simp] theorem QzP :gk (.int i) (.int j)=some (.int (i - j)):=rfl
@[simp] theorem Yp :aZ (.int i) (.int j)=if 0<j then some (.int (i % j)) else none:=by
 unfold aZ gI
 by_cases h:0<j<;>simp[h]
@[simp] theorem QAJ :kj (.int i) (.int j)=if 0<j/\j<1073741824 then some (.int (i / j)) else none:=by
 unfold kj gI
 by_cases h:0<j/\j<1073741824<;>simp[h]
theorem uE  (h:(-(2 ^ 64)<i/\i<2 ^ 64)\/(-(2 ^ 64)<j/\j<2 ^ 64)):cV (.int i) (.int j)=some (.int (i * j)):=by
 unfold cV;dsimp only;rw[if_pos];rw[Bool.or_eq_true];unfold nZ;rw[zm,zm,decide_eq_true_eq,decide_eq_true_eq,decide_eq_true_eq,decide_eq_true_eq];exact h
@[simp] theorem QBP :gLt (.int i) (.int j)=some (.bl (decide (i<j))):=rfl
@[simp] theorem QBA :gGt (.int i) (.int j)=some (.bl (decide (j<i))):=rfl
@[simp] theorem QBr :gGe (.int i) (.int j)=some (.bl (decide (j<=i))):=rfl
@[simp] theorem QBU :gLe (.int i) (.int j)=some (.bl (decide (i<=j))):=rfl
theorem Ig(a b:Nat):(([a]:List Nat) < [b])↔a<b:=by
 constructor
 ·intro h
  rcases List.cons_lt_cons_iff.mp h with h | ⟨_,h⟩
  ·exact h
  ·exact absurd h (List.not_lt_nil _)
 ·intro h;exact List.cons_lt_cons_iff.mpr (.inl h)
@[simp] theorem QBM :gLe (.str [a]) (.str [b])=some (.bl (decide (a<=b))):=by
 show some (D.bl (!decide (([b]:List Nat) < [a])))=_
 have:decide (([b]:List Nat) < [a])=decide (b<a):=by
  by_cases h:b<a
  ·rw[zF h,zF ((Ig _ _).mpr h)]
  ·rw[zo h,zo (λz=>h ((Ig _ _).mp z))]
 rw[this]
 by_cases h:b<a
 ·rw[zF h,zo (by omega)];rfl
 ·rw[zo h,zF (by omega)];rfl
@[simp] theorem QBl :gEq (.int i) (.int j)=some (.bl (decide (i=j))):=rfl
@[simp] theorem Yq :gEq (.str i) (.str j)=some (.bl (decide (i=j))):=rfl
@[simp] theorem QBj :gEq (.bl i) (.bl j)=some (.bl (decide (i=j))):=rfl
@[simp] theorem QBy :gEq (.lst i) (.lst j)=if(okE (.lst i)&&okE (.lst j))=true then some (.bl (eQ (.lst i) (.lst j))) else none:=rfl
@[simp] theorem QBL :gNe (.int i) (.int j)=some (.bl (!decide (i=j))):=rfl
@[simp] theorem QBR :gNe (.str i) (.str j)=some (.bl (!decide (i=j))):=rfl
@[simp] theorem QBS :gNe (.bl i) (.bl j)=some (.bl (!decide (i=j))):=rfl
@[simp] theorem Ih :gNe (.lst i) (.lst j)=if(okE (.lst i)&&okE (.lst j))=true then some (.bl (!eQ (.lst i) (.lst j))) else none:=rfl
@[simp] theorem jX   :gIn n (.str [c]) (.str l)=some (.bl (n ^^ decide (c∈l))):=rfl
theorem oY  :gIx (.lst ds) (.int i)=atI ds i:=rfl
theorem ye  :gIx (.str l) (.int i)=if l.length<=1000000 then(atI l i).map (λc=>.str [c]) else none:=rfl
@[simp] theorem Yr :aU [.str l]=if l.length<=1000000 then some (.int l.length) else none:=rfl
@[simp] theorem QBi :aU [.lst l]=some (.int l.length):=rfl
@[simp] theorem QAO :aU [.tup l]=some (.int l.length):=rfl
@[simp] theorem QA9 :Ua [.int i,.int j]=some (.int (if j>i then j else i)):=rfl
@[simp] theorem Ys :tW [.int i,.int j]=some (.int (if j<i then j else i)):=rfl
@[simp] theorem QBh :gm [.int i]=some (.int i):=rfl
@[simp] theorem Ii :gm [.bl b]=some (.int (if b then 1 else 0)):=rfl
@[simp] theorem QBd:iV (.int 10) (.int 18)=some (.int 1000000000000000000):=by rfl
@[simp] theorem QAR:iV (.int 10) (.int 9)=some (.int 1000000000):=by rfl
@[simp] theorem lB  {xs:List α}{j:Nat}:atI xs (j:Int)=xs[j]?:=by
 unfold atI ixN;rw[if_pos (by omega)]
 by_cases h:j<xs.length
 ·rw[if_pos (by omega)];simp
 ·rw[if_neg (by omega),List.getElem?_eq_none (by omega)];rfl
theorem Ij  {xs:List α}{i:Int}(h0:0<=i)(h1:i<xs.length):∃x,atI xs i=some x/\x∈xs:=by
 obtain⟨j,rfl⟩:=Int.eq_ofNat_of_zero_le h0
 have a:j<xs.length:=by omega
 exact⟨xs[j],by show atI xs (j:Int)=_;rw[lB,zM a],List.getElem_mem a⟩
section
variable {c:Prop}[Decidable c]
@[simp] theorem QAk{a b:Fl}:bh (if c then a else b)=if c then bh a else bh b:=by split<;>rfl
@[simp] theorem QzS{a b:Res D}:jW (if c then a else b)=if c then jW a else jW b:=by split<;>rfl
@[simp] theorem Qzw{a b:Fl}{r:MS}:jq (if c then a else b) r=if c then jq a r else jq b r:=by split<;>rfl
@[simp] theorem QzU{α β:Type}{a b:Res α}{f:α->az->Res β}:(if c then a else b).bind f=if c then a.bind f else b.bind f:=by split<;>rfl
@[simp] theorem QAt{a b:Res Bool}{x y:MS}{ρ:aV}:ifF (if c then a else b) x y ρ=if c then ifF a x y ρ else ifF b x y ρ:=by split<;>rfl
@[simp] theorem QzW{a b:Res D}{i:Nat}{ρ:aV}:rz i (if c then a else b) ρ=if c then rz i a ρ else rz i b ρ:=by split<;>rfl
@[simp] theorem QAF{a b:Option D}{O:az}:ofO (if c then a else b) O=if c then ofO a O else ofO b O:=by split<;>rfl
end
@[simp] theorem QAN:dI "str" "str" = true:=by decide
@[simp] theorem QA5:dI "int" "str" = false:=by decide
@[simp] theorem QBf:dI "bool" "str" = false:=by decide
@[simp] theorem QA3:dI "list" "str" = false:=by decide
@[simp] theorem QA2:dI "tuple" "str" = false:=by decide
@[simp] theorem QAM:dI "dict" "str" = false:=by decide
@[simp] theorem QA7:dI "NoneType" "str" = false:=by decide
@[simp] theorem QA8:dI "int" "int" = true:=by decide
@[simp] theorem QAY:dI "int" "bool" = false:=by decide
@[simp] theorem QAy:dI "bool" "bool" = true:=by decide
@[simp] theorem QAs:dI "list" "list" = true:=by decide
@[simp] theorem QAA:dI "tuple" "tuple" = true:=by decide
@[simp] theorem QAn:dI "NoneType" "list" = false:=by decide
theorem yg   (f:Nat->aV->az->Prop):∀(ds:List D) (k:Nat) (ρ:aV) (O:az),f k ρ O ->
  (∀i d ρ O,ds[i]?=some d->f (k+i) ρ O->∃ρ1,g d ρ=some ρ1/\∃c O2,(b ρ1 O=.nx c O2\/b ρ1 O=.ct c O2)/\f (k+i+1) c O2)->∃a O',aO g b ds ρ O=.nx a O'/\f (k+ds.length) a O'
 | [],k,ρ,O,h,_=>⟨ρ,O,rfl,h⟩
 |d::ds,k,ρ,O,h,hs=>by
  obtain⟨ρ1,r,c,O2,j,h2⟩:=hs 0 d ρ O rfl h
  obtain⟨a,O',q,h3⟩:=yg f ds (k+1) c O2 h2 λi t a O' m l=>by
   have:=hs (i+1) t a O' (by simpa using m) (by rw[show k+(i+1)=k+1+i by omega];exact l)
   rw[show k+(i+1)+1=k+1+i+1 by omega] at this;exact this
  refine⟨a,O',?_,by rw[zt,show k+(ds.length+1)=k+1+ds.length by omega];exact h3⟩;unfold aO;rw[r];dsimp only
  rcases j with j | j<;>rw[j]<;>exact q
theorem Ik    (a:aV->Prop)(f:D->D):∀(ds:List D) (ρ:aV) (O:az) (acc:List D),a ρ->(∀d∈ds,∀ρ,a ρ->∃ρ1,g d ρ=some ρ1/\a ρ1/\t ρ1 O=.ok true O/\m ρ1 O=.ok (f d) O)->dH g t m ds ρ O acc=.ok (acc++ds.map f) O
 | [],ρ,O,acc,_,_=>by simp[dH]
 |d::ds,ρ,O,acc,h,hs=>by
  obtain⟨ρ1,j,h1,i,c⟩:=hs d zj ρ h;unfold dH;rw[j];dsimp only;rw[i];dsimp only;rw[c];dsimp only;rw[Ik a f ds ρ1 O _ h1 λl b=>hs l (zp _ b)];simp
@[simp] theorem QA1  :qK ρ O=.ok [] O:=rfl
@[simp] theorem QAz    :kO a b r ρ O=(a ρ O).bind λx O1=>(b ρ O1).bind λy O2=>(r ρ O2).bind λc d=>.ok ((x,y)::c) d:=rfl
noncomputable def diF(o:Option (List Key))(a:List (D×D))(O:az):Res D:=match o with
 |some b=>if b.Nodup/\a.length<=15 then .ok (.dic (a.map (·.1)) (a.map (·.2))) O else .no
 |none=>.no
@[simp] theorem QzQ   :diF (some ks) kv O=if ks.Nodup/\kv.length<=15 then .ok (.dic (kv.map (·.1)) (kv.map (·.2))) O else .no:=rfl
@[simp] theorem QAV   :qL m ρ O=(m ρ O).bind λa O1=>diF (keysOf a) a O1:=rfl
@[simp] theorem QAE :keyOf (.int i)=some (.inl i):=rfl
@[simp] theorem QAr :keyOf (.str i)=some (.inr (S i)):=rfl
@[simp] theorem QxY:keysOf []=some []:=rfl
@[simp] theorem QxR  :keysOf ((a,b)::r)=(keyOf a).bind λk=>(keysOf r).map (k :: ·):=rfl
noncomputable def joF(o:Option (List (List Nat)))(O:az):Res D:=match o with
 |some ls=>if(ls.map List.length).sum<=1000000 then .ok (.str ls.flatten) O else .no
 |none=>.no
@[simp] theorem Il  :joF (some ls) O=if(ls.map List.length).sum<=1000000 then .ok (.str ls.flatten) O else .no:=rfl
noncomputable def jdF(d:D)(O:az):Res D:=match d with
 | .lst ds=>joF (iW ds) O
 | _=>.no
@[simp] theorem Im  :jdF (.lst ds) O=joF (iW ds) O:=rfl
@[simp] theorem Io   :oh m ρ O=(m ρ O).bind λd O1=>jdF (aX O1 d) O1:=rfl
theorem yh{α:Type}{f:α->List Nat}:∀l:List α,iW (l.map λx=>.str (f x))=some (l.map f)
 | []=>rfl
 |x::l=>by
  show(iW (l.map λx=>D.str (f x))).map _=_;rw[yh l];rfl
@[simp] theorem QBE   :gY own cap ρ=List.replicate own none++cap.map λj=>(ρ[j]?).join:=rfl
@[simp] theorem Qzc      :dH g t m [] ρ O acc=.ok acc O:=rfl
theorem oZ:∀ds:List D,fU ds=ds.map toP
 | []=>rfl
 |d::ds=>by rw[fU,oZ ds];rfl
theorem uF:∀{ds:List D},(∀d∈ds,cW d=true)->jK ds=true
 | [],_=>rfl
 |d::ds,h=>by rw[jK,h d zj,uF λx a=>h x (zp _ a)];rfl
theorem Ip  (b:n<60)  (h:∀d∈ds,cW d=true/\(toP d).canLay0=true/\(toP d).depth<=n):okE (.lst ds)=true:=by
 unfold okE;rw[zm];refine⟨?_,?_⟩
 ·rw[cW];exact uF λd hd=>(h d hd).1
 ·rw[toP,oZ]
  refine R3 b λd hd=>?_
  obtain⟨x,a,rfl⟩:=zQ.mp hd;exact(h x a).2
theorem iB  (h:∀c∈l,c<1114112):(PyData.str (S l)).canLay0=true:=by
 show PyData.strOk (S l)=true;unfold PyData.strOk S;simp;exact h
theorem yj  (h:okE d=true):eQ d d=true:=by
 unfold okE at h;rw[zm] at h
 have:=h.2
 unfold okD at this;rw[zm] at this;exact SeqAt.eqv_refl _ this.1
noncomputable def it(f:Int->Int):Nat->Int->Int
 | 0,x=>x
 |n+1,x=>f (it f n x)
noncomputable def mix(n k:Int):Int:=if n>1000000000000000000 then it (λr=>r / 1000000000) k.toNat n % 1000000000
 else
  let m:=it (λm=>(m * 48271+104729) % 2147483629) (k+2).toNat (n % 2147483647+7919)
  m * m % 998244353 / 11
theorem Ir(j:Nat)(x:Int)(h0:0<=x)(h1:x<2147491566):0<=it (λm=>(m * 48271+104729) % 2147483629) j x/\it (λm=>(m * 48271+104729) % 2147483629) j x<2147491566:=by
 induction j with
 |zero=>exact⟨h0,h1⟩
 |succ j ih =>
  refine⟨ja _ (by decide),?_⟩
  have:=je (it (λm=>(m * 48271+104729) % 2147483629) j x * 48271+104729) (show(0:Int)<2147483629 by decide)
  show(it (λm=>(m * 48271+104729) % 2147483629) j x * 48271+104729) % 2147483629<_;omega
noncomputable def ym:MS:=(au (aK (aA (ak gGt (aa 0) (ak iV (mC (.int 10)) (mC (.int 18))))) (au (aF 2 (mG (aa 0)))
  (au (bM (eV (aj (aa 1) aq)) (mgN 3) (aF 2 (ak kj (aa 2) (ak iV (mC (.int 10)) (mC (.int 9))))))
  (aB (ak aZ (aa 2) (ak iV (mC (.int 10)) (mC (.int 9))))))) aD)
  (au (aF 4 (ak aC (ak aZ (aa 0) (mC (.int 2147483647))) (mC (.int 7919))))
  (au (bM (eV (aj (ak aC (aa 1) (mC (.int 2))) aq)) (mgN 3) (aF 4 (ak aZ (ak aC (ak cV (aa 4) (mC (.int 48271))) (mC (.int 104729))) (mC (.int 2147483629)))))
  (aB (ak kj (ak aZ (ak cV (aa 4) (aa 4)) (mC (.int 998244353))) (mC (.int 11)))))))
theorem Iu(a:Int)(n:Nat):(dJ a n).length=n:=by simp[dJ]
theorem Yt(n k:Int)(h0:0<=k)(h1:k<=1000000)(O:az):bf 5 ym [.int n,.int k] O=.ok (.int (mix n k)) O:=by
 unfold mix
 by_cases t:n>1000000000000000000
 ·obtain⟨q,c,e,rfl,a,rfl⟩:=yg (g:=mgN 3) (b:=aF 2 (ak kj (aa 2) (ak iV (mC (.int 10)) (mC (.int 9)))))
   (λi ρ c=>c=O/\∃a,ρ=[some (.int n),some (.int k),some (.int (it (λr=>r / 1000000000) i n)),a,none]) (dJ 0 k.toNat) 0 [some (.int n),some (.int k),some (.int n),none,none] O ⟨rfl,none,rfl⟩ (by
    rintro i d ρ c hi ⟨rfl,a,rfl⟩;refine⟨_,rfl,?_⟩;simp;rw[show it (λr=>r / 1000000000) (i+1) n=it (λr=>r / 1000000000) i n / 1000000000 from rfl]
    exact⟨_,_,⟨rfl,rfl⟩,rfl,_,rfl⟩)
  rw[Iu,jd] at e
  have l:k<=1000000000/\-1000000000<=k:=by omega
  simp[ym,t,l,e]
 ·have h:0<=n % 2147483647+7919:=by have:=ja n (show(2147483647:Int)≠0 by decide);omega
  have f:n % 2147483647+7919<2147491566:=by have:=je n (show(0:Int)<2147483647 by decide);omega
  obtain⟨q,c,e,rfl,a,rfl⟩:=yg (g:=mgN 3) (b:=aF 4 (ak aZ (ak aC (ak cV (aa 4) (mC (.int 48271))) (mC (.int 104729))) (mC (.int 2147483629))))
   (λi ρ c=>c=O/\∃a,ρ=[some (.int n),some (.int k),none,a,some (.int (it (λm=>(m * 48271+104729) % 2147483629) i (n % 2147483647+7919)))]) (dJ 0 (k+2).toNat) 0 [some (.int n),some (.int k),none,none,some (.int (n % 2147483647+7919))] O ⟨rfl,none,rfl⟩ (by
    rintro i d ρ c hi ⟨rfl,a,rfl⟩;refine⟨_,rfl,?_⟩;obtain⟨y,x⟩:=Ir i _ h f
    have:=uE (i:=it (λm=>(m * 48271+104729) % 2147483629) i (n % 2147483647+7919)) (j:=48271) (.inr ⟨by decide,by decide⟩)
    simp[this]
    rw[show it (λm=>(m * 48271+104729) % 2147483629) (i+1) (n % 2147483647+7919)=(it (λm=>(m * 48271+104729) % 2147483629) i (n % 2147483647+7919) * 48271+104729) % 2147483629 from rfl]
    exact⟨_,_,⟨rfl,rfl⟩,rfl,_,rfl⟩)
  rw[Iu,jd] at e
  have l:k+2<=1000000000/\-1000000000<=k+2:=by omega
  obtain⟨y,x⟩:=Ir (k+2).toNat _ h f;have u:=uE (i:=it (λm=>(m * 48271+104729) % 2147483629) (k+2).toNat (n % 2147483647+7919)) (j:=it (λm=>(m * 48271+104729) % 2147483629) (k+2).toNat (n % 2147483647+7919)) (.inl ⟨by omega,by omega⟩);simp[ym,t,l,e,u]
noncomputable def rG(a:List Str)(f:Str)(d:D)(O:az):Res D:=match d with
 | .ob n=>match O[n]? with
  |some (.ins c fs)=>if c∈a then match fs.lookup f with
   |some y=>.ok y O
   |none=>.no else .no
  | _=>.no
 | _=>.no
@[simp] theorem QBq     :iY cs f m ρ O=(m ρ O).bind (rG cs f):=rfl
noncomputable def puF(a:List Str)(f:Str)(d:D)(ρ:aV)(r:Res D):Fl:=match r with
 | .ok (.ob n) O2=>match O2[n]? with
  |some (.ins c fs)=>if c∈a/\fs.length<900 then .nx ρ (O2.set n (.ins c (putD f d fs))) else .no
  | _=>.no
 | _=>.no
noncomputable def sfF(a:List Str)(f:Str)(mo:M D)(r:Res D)(ρ:aV):Fl:=match r with
 | .ok d O1=>puF a f d ρ (mo ρ O1)
 | .ex x O'=>.ex x O'
 | .no=>.no
@[simp] theorem QBe     :g8 cs f mo mv ρ O=sfF cs f mo (mv ρ O) ρ:=by
 unfold g8 sfF puF
 cases mv ρ O<;>rfl
@[simp] theorem QAW      :sfF cs f mo (.ok d O) ρ=puF cs f d ρ (mo ρ O):=rfl
noncomputable def meF(c m:Str)(b:List D->az->Res D)(ma:az->Res (List D))(d:D)(O1:az):Res D:=match d with
 | .ob n=>match O1[n]? with
  |some (.ins c' fs)=>if c'=c/\(fs.lookup m).isNone=true then(ma O1).bind λa f=>b (.ob n::a) f else .no
  | _=>.no
 | _=>.no
@[simp] theorem Iv      :jO c m cf mo ma ρ O=(mo ρ O).bind (meF c m cf (ma ρ)):=rfl
noncomputable def mkF(n:Nat)(r:Res D):Res D:=match r with
 | .ok .non O2=>.ok (.ob n) O2
 | .ok _ _=>.no
 | .ex x O2=>.ex x O2
 | .no=>.no
@[simp] theorem QA6     :lX c cf ma ρ O=(ma ρ O).bind λds O1=>mkF O1.length (cf (.ob O1.length::ds) (O1++[.ins c []])):=by
 unfold lX;congr 1
@[simp] theorem QBc  :mkF n (.ok .non O)=.ok (.ob n) O:=rfl
noncomputable def apF(i:Nat)(r:Res D)(ρ:aV):Fl:=match r with
 | .ok d O'=>match ρ[i]? with
  |some (some (.lst ds))=>if ds.length<1000000 then .nx (ρ.set i (some (.lst (ds++[d])))) O' else .no
  | _=>.no
 | .ex x O'=>.ex x O'
 | .no=>.no
@[simp] theorem yo    :dW i m ρ O=apF i (m ρ O) ρ:=rfl
theorem yp      (h:ρ[i]?=some (some (.lst ds)))(a:ds.length<1000000):apF i (.ok d O) ρ=.nx (ρ.set i (some (.lst (ds++[d])))) O:=by
 unfold apF;dsimp only;rw[h];dsimp only;rw[if_pos a]
noncomputable def exF(i:Nat)(r:Res D)(ρ:aV):Fl:=match r with
 | .ok d O'=>match ρ[i]?,aX O' d with
  |some (some (.lst ds)),.lst es=>if ds.length+es.length<=1000000 then .nx (ρ.set i (some (.lst (ds++es)))) O' else .no
  | _,_=>.no
 | .ex x O'=>.ex x O'
 | .no=>.no
@[simp] theorem Yu    :ou i m ρ O=exF i (m ρ O) ρ:=rfl
theorem Yv     (h:ρ[i]?=some (some (.lst ds)))(a:ds.length+es.length<=1000000):exF i (.ok (.lst es) O) ρ=.nx (ρ.set i (some (.lst (ds++es)))) O:=by
 unfold exF;dsimp only[aX];rw[h];dsimp only;rw[if_pos a]
noncomputable def enF(d:D)(O1:az):Res (List D):=match d with
 | .lst ds=>.ok (bV 0 ds) O1
 | .str l=>if ascii l=true then .ok (bV 0 (bR l)) O1 else .no
 | _=>.no
@[simp] theorem Yw   :iZ m ρ O=(m ρ O).bind enF:=rfl
theorem Iw   (h:ascii l=true):enF (.str l) O=.ok (bV 0 (bR l)) O:=by
 show(if ascii l=true then _ else _)=_;rw[if_pos h]
noncomputable def asF(r:Res D)(g:MG)(ρ:aV):Fl:=match r with
 | .ok d O'=>match g d ρ with
  |some a=>.nx a O'
  |none=>.no
 | .ex x O'=>.ex x O'
 | .no=>.no
@[simp] theorem Yx    :qI m g ρ O=asF (m ρ O) g ρ:=rfl
theorem Yy     (h:g d ρ=some ρ'):asF (.ok d O) g ρ=.nx ρ' O:=by
 unfold asF;dsimp only;rw[h]
@[simp] theorem Yz   :fG 2 (bQ (mgN i) (bQ (mgN j) fQ)) (.tup [a,b]) ρ=some ((ρ.set i (some a)).set j (some b)):=rfl
noncomputable def stF(a b:D)(O:az):Res D:=match a,b with
 | .str l,.str n=>.ok (.bl (decide (l.take n.length=n))) O
 | _,_=>.no
@[simp] theorem YB   :lV a b ρ O=(a ρ O).bind λx O1=>(b ρ O1).bind λy O2=>stF x y O2:=rfl
@[simp] theorem QBV  :stF (.str l) (.str n) O=.ok (.bl (decide (l.take n.length=n))) O:=rfl
theorem Iz   (d:Nat->aV->az->Prop):∀(n:Nat) (k:Nat) (ρ:aV) (O:az),k<n->d k ρ O ->
  (∀k ρ O,d (k+1) ρ O->t ρ O=.ok true O/\∃j a O2,j<=k/\b ρ O=.nx a O2/\d j a O2)->(∀ρ O,d 0 ρ O->t ρ O=.ok false O)->∃c O',jJ t b n ρ O=.nx c O'/\d 0 c O'
 | 0,k,ρ,O,hk,_,_,_=>absurd hk (Nat.not_lt_zero _)
 |n+1,0,ρ,O,_,h,_,h0=>by
  refine⟨ρ,O,?_,h⟩;unfold jJ;rw[h0 ρ O h]
 |n+1,k+1,ρ,O,hk,h,hs,h0=>by
  obtain⟨i,j,a,O2,l,g,h2⟩:=hs k ρ O h;obtain⟨c,O',f,h3⟩:=Iz d n j a O2 (by omega) h2 hs h0;refine⟨c,O',?_,h3⟩;unfold jJ;rw[i];dsimp only;rw[g];exact f
theorem rH{α:Type}{g:MG}{t:M Bool}{m:M D}(a:aV->Prop)(f h:α->D):∀(xs:List α) (ρ:aV) (O:az) (acc:List D),a ρ->(∀x∈xs,∀ρ,a ρ->∃ρ1,g (f x) ρ=some ρ1/\a ρ1/\t ρ1 O=.ok true O/\m ρ1 O=.ok (h x) O)->dH g t m (xs.map f) ρ O acc=.ok (acc++xs.map h) O
 | [],ρ,O,acc,_,_=>by simp[dH]
 |x::xs,ρ,O,acc,hp,hs=>by
  obtain⟨ρ1,i,h1,d,c⟩:=hs x zj ρ hp;rw[zd];unfold dH;rw[i];dsimp only;rw[d];dsimp only;rw[c];dsimp only;rw[rH a f h xs ρ1 O _ h1 λj b=>hs j (zp _ b)];simp
noncomputable def dq:List Nat:=[101,110,100]
noncomputable def du:List Nat:=[97,110,101,119]
noncomputable def jY:List Nat:=[112,108,97,105,110]
noncomputable def bw:List Nat:=[115,105,103,110]
noncomputable def eX:List Nat:=[105,110,107]
noncomputable def fY:List Nat:=[103,114,111,117,110,100]
noncomputable def item(p:Int)(k v:List Nat):D:=.tup [.int p,.str k,.str v]
noncomputable def col(c:Nat):Bool:=decide (c∈[97,98,99,100,101,102,103,104,46])
theorem rJ  (h:col c=true):c≠91/\c≠93/\c≠47/\c≠10/\c≠9:=by
 have:c∈[97,98,99,100,101,102,103,104,46]:=jc h
 have q:∀c∈[97,98,99,100,101,102,103,104,46],c≠91/\c≠93/\c≠47/\c≠10/\c≠9:=by decide
 exact q c this
noncomputable def iC(x:Nat):List Nat->List Nat×List Nat×Nat
 | []=>(bw,[91],0)
 |e::_=>if e=93 then(fY,[x],3) else(bw,[91],0)
noncomputable def eY:List Nat->List Nat×List Nat×Nat
 | []=>(bw,[91],0)
 |x::t=>if col x=true then iC x t else(bw,[91],0)
noncomputable def gH(x:Nat):List Nat->List Nat×List Nat×Nat
 | []=>(bw,[91],0)
 |e::_=>if e=93 then(eX,[x],2) else(bw,[91],0)
noncomputable def bW:List Nat->List Nat×List Nat×Nat
 | []=>(bw,[91],0)
 |d::t=>if d=93 then(jY,[],1) else if d=91 then(bw,[91],1) else if col d=true then gH d t else if d=47 then eY t else(bw,[91],0)
noncomputable def one(c:Nat)(t:List Nat):List Nat×List Nat×Nat :=
 if c=10 then(dq,[],0) else if c=9 then(du,[],0) else if c=91 then bW t else(bw,[c],0)
noncomputable def items(p:Int):List Nat->List D
 | []=>[]
 |c::t=>item p (one c t).1 (one c t).2.1::items (p+((one c t).2.2+1:Nat)) (t.drop (one c t).2.2)
termination_by l=>l.length
decreasing_by
 simp only[List.length_drop,zt];omega
theorem jr(p:Int):items p []=[]:=by rw[items]
theorem pq(p:Int)(c:Nat)(t:List Nat):items p (c::t)=item p (one c t).1 (one c t).2.1::items (p+((one c t).2.2+1:Nat)) (t.drop (one c t).2.2):=by rw[items]
noncomputable def own(p:Int)(c:Nat):D:=if c=10 then item p dq [] else if c=9 then item p du [] else item p bw [c]
noncomputable def dw:Int->List Nat->List D
 | _,[]=>[]
 |p,c::l=>own p c::dw (p+1) l
theorem eE    (h:c≠91):items p (c::t)=own p c::items (p+1) t:=by
 rw[pq];unfold one own
 by_cases h1:c=10
 ·simp[h1]
 ·by_cases h2:c=9
  ·simp[h1,h2]
  ·simp[h1,h2,h]
theorem iD   (h:bW t=(bw,[91],0)):items p (91::t)=own p 91::items (p+1) t:=by
 rw[pq]
 have:one 91 t=(bw,[91],0):=h
 rw[this];rfl
theorem uG     (h:bW t=(k,v,n)):items p (91::t)=item p k v::items (p+(n+1:Nat)) (t.drop n):=by
 rw[pq]
 have:one 91 t=(k,v,n):=h
 rw[this]
theorem yq:∀(n:Nat) (t:List Nat) (p:Int),t.length<=n->(items p t).length<=t.length
 | 0,t,p,h=>by
  cases t with
  |nil=>rw[jr];exact zc _
  |cons c t=>simp at h
 |n+1,t,p,h=>by
  cases t with
  |nil=>rw[jr];exact zc _
  |cons c t =>
   rw[pq];simp only[zt] at h ⊢
   have:=yq n (t.drop (one c t).2.2) (p+((one c t).2.2+1:Nat)) (by rw[List.length_drop];omega)
   rw[List.length_drop] at this;omega
noncomputable def cX:List Nat->Bool
 | [a]=>decide (a=91)
 | [a,b]=>decide (a=91)&&(decide (b=47) || col b)
 | [a,b,c]=>decide (a=91)&&(decide (b=47)&&col c)
 | _=>false
noncomputable def markB:List Nat->Option (List Nat×List Nat)
 | [a,b]=>if a=91/\b=93 then some (jY,[]) else if a=91/\b=91 then some (bw,[91]) else none
 | [a,b,c]=>if a=91/\col b=true/\c=93 then some (eX,[b]) else none
 | [a,b,c,d]=>if a=91/\b=47/\col c=true/\d=93 then some (fY,[c]) else none
 | _=>none
noncomputable def tk(h:List Nat)(c:Nat)(p:Int):List D×List Nat :=
 if cX (h++[c])=true then([],h++[c]) else match markB (h++[c]) with
 |some (k,v)=>([item p k v],[])
 |none=>if c=91 then(dw p h,[91]) else(dw p (h++[c]),[])
inductive Held:List Nat->Prop where
 | h0:Held []
 | h1:Held [91]
 | h2:Held [91,47]
 | h3 (x:Nat) (h:col x=true):Held [91,x]
 | h4 (x:Nat) (h:col x=true):Held [91,47,x]
theorem Held.len  (H:Held h):h.length<=3:=by cases H<;>simp
theorem yt:col 91=false:=by decide
theorem IK:col 93=false:=by decide
theorem iG:col 47=false:=by decide
theorem yu  (H:Held h)(c:Nat)(p:Int)(rest:List Nat):
  Held (tk h c p).2/\items p (h++c::rest)=(tk h c p).1++items (p+h.length+1 - (tk h c p).2.length) ((tk h c p).2++rest):=by
 cases H with
 |h0 =>
  by_cases h1:c=91
  ·subst h1;refine⟨Held.h1,?_⟩;simp[tk,cX]
  ·have:tk [] c p=([own p c],[]):=by simp[tk,cX,markB,h1,dw]
   rw[this];refine⟨Held.h0,?_⟩;simp[eE h1]
 |h1 =>
  by_cases h2:c=93
  ·subst h2
   have:tk [91] 93 p=([item p jY []],[]):=by simp[tk,cX,markB,IK]
   rw[this];refine⟨Held.h0,?_⟩;show items p (91::93::rest)=_;rw[uG (k:=jY) (v:=[]) (n:=1) rfl];simp[Int.add_assoc]
  ·by_cases h1:c=91
   ·subst h1
    have:tk [91] 91 p=([item p bw [91]],[]):=by simp[tk,cX,markB,yt]
    rw[this];refine⟨Held.h0,?_⟩;show items p (91::91::rest)=_;rw[uG (k:=bw) (v:=[91]) (n:=1) rfl];simp[Int.add_assoc]
   ·by_cases h3:c=47
    ·subst h3
     have:tk [91] 47 p=([],[91,47]):=by simp[tk,cX]
     rw[this];exact⟨Held.h2,by simp;congr 1;omega⟩
    ·by_cases h4:col c=true
     ·have:tk [91] c p=([],[91,c]):=by simp[tk,cX,h4]
      rw[this];exact⟨Held.h3 c h4,by simp;congr 1;omega⟩
     ·have:tk [91] c p=([own p 91,own (p+1) c],[]):=by simp[tk,cX,markB,h1,h2,h3,h4,dw]
      rw[this];refine⟨Held.h0,?_⟩;show items p (91::c::rest)=_;rw[iD (by simp[bW,h1,h2,h3,h4]),eE h1];simp
 |h2 =>
  by_cases h4:col c=true
  ·have:tk [91,47] c p=([],[91,47,c]):=by simp[tk,cX,h4]
   rw[this];exact⟨Held.h4 c h4,by simp;congr 1;omega⟩
  ·by_cases h1:c=91
   ·subst h1
    have:tk [91,47] 91 p=([own p 91,own (p+1) 47],[91]):=by simp[tk,cX,markB,iG,yt,dw]
    rw[this];refine⟨Held.h1,?_⟩;show items p (91::47::91::rest)=_;rw[iD (by simp[bW,eY,iG,yt]),eE (by decide)];simp;congr 1;omega
   ·have:tk [91,47] c p=([own p 91,own (p+1) 47,own (p+1+1) c],[]):=by simp[tk,cX,markB,h1,h4,iG,dw]
    rw[this];refine⟨Held.h0,?_⟩;show items p (91::47::c::rest)=_;rw[iD (by simp[bW,eY,iG,h4]),eE (by decide),eE h1];simp;congr 1;omega
 |h3 x hx =>
  obtain⟨a,b,d,g,f⟩:=rJ hx
  by_cases h2:c=93
  ·subst h2
   have:tk [91,x] 93 p=([item p eX [x]],[]):=by simp[tk,cX,markB,IK,hx]
   rw[this];refine⟨Held.h0,?_⟩;show items p (91::x::93::rest)=_;rw[uG (k:=eX) (v:=[x]) (n:=2) (by simp[bW,gH,a,b,hx])];simp;congr 1;omega
  ·by_cases h1:c=91
   ·subst h1
    have:tk [91,x] 91 p=([own p 91,own (p+1) x],[91]):=by simp[tk,cX,markB,d,dw]
    rw[this];refine⟨Held.h1,?_⟩;show items p (91::x::91::rest)=_;rw[iD (by simp[bW,gH,a,b,hx]),eE a];simp;congr 1;omega
   ·have:tk [91,x] c p=([own p 91,own (p+1) x,own (p+1+1) c],[]):=by simp[tk,cX,markB,h1,h2,d,dw]
    rw[this];refine⟨Held.h0,?_⟩;show items p (91::x::c::rest)=_;rw[iD (by simp[bW,gH,a,b,hx,h2]),eE a,eE h1];simp;congr 1;omega
 |h4 x hx =>
  obtain⟨a,b,d,g,f⟩:=rJ hx
  by_cases h2:c=93
  ·subst h2
   have:tk [91,47,x] 93 p=([item p fY [x]],[]):=by simp[tk,cX,markB,hx]
   rw[this];refine⟨Held.h0,?_⟩;show items p (91::47::x::93::rest)=_;rw[uG (k:=fY) (v:=[x]) (n:=3) (by simp[bW,eY,iC,iG,hx])];simp;congr 1;omega
  ·by_cases h1:c=91
   ·subst h1
    have:tk [91,47,x] 91 p=([own p 91,own (p+1) 47,own (p+1+1) x],[91]):=by simp[tk,cX,markB,dw]
    rw[this];refine⟨Held.h1,?_⟩;show items p (91::47::x::91::rest)=_;rw[iD (by simp[bW,eY,iC,iG,hx]),eE (by decide),eE a];simp;congr 1;omega
   ·have:tk [91,47,x] c p=([own p 91,own (p+1) 47,own (p+1+1) x,own (p+1+1+1) c],[]):=by simp[tk,cX,markB,h1,h2,dw]
    rw[this];refine⟨Held.h0,?_⟩;show items p (91::47::x::c::rest)=_;rw[iD (by simp[bW,eY,iC,iG,hx,h2]),eE (by decide),eE a,eE h1];simp;congr 1;omega
theorem YC  (H:Held h)(p:Int):items p h=dw p h:=by
 cases H with
 |h0=>rw[jr];rfl
 |h1=>rw[iD rfl,jr];rfl
 |h2=>rw[iD rfl,eE (by decide),jr];rfl
 |h3 x hx =>
  obtain⟨a,b,f,d,c⟩:=rJ hx;rw[iD (by simp[bW,gH,a,b,hx]),eE a,jr];rfl
 |h4 x hx =>
  obtain⟨a,b,f,d,c⟩:=rJ hx;rw[iD (by simp[bW,eY,iC,iG,hx]),eE (by decide),eE a,jr];rfl
noncomputable def bN:List Nat->Int->List Nat->List D×List Nat
 |h,_,[]=>([],h)
 |h,p,c::t=>((tk h c (p - h.length)).1++(bN (tk h c (p - h.length)).2 (p+1) t).1,(bN (tk h c (p - h.length)).2 (p+1) t).2)
theorem IV:∀(t:List Nat) {h:List Nat} (_:Held h) (p:Int) (rest:List Nat),Held (bN h p t).2/\items (p - h.length) (h++(t++rest))=(bN h p t).1++items (p+t.length - (bN h p t).2.length) ((bN h p t).2++rest)
 | [],h,H,p,rest=>⟨H,by simp[bN]⟩
 |c::t,h,H,p,rest=>by
  obtain⟨a,b⟩:=yu H c (p - h.length) (t++rest);obtain⟨a2,f⟩:=IV t a (p+1) rest;refine⟨a2,?_⟩;show items (p - h.length) (h++c::(t++rest))=_;rw[b]
  have e:p - (h.length:Int)+h.length+1 - ((tk h c (p - h.length)).2.length:Int)=p+1 - ((tk h c (p - h.length)).2.length:Int):=by omega
  rw[e,f];show _=((tk h c (p - h.length)).1++(bN (tk h c (p - h.length)).2 (p+1) t).1)++items (p+((c::t).length:Nat) - ((bN (tk h c (p - h.length)).2 (p+1) t).2.length:Int)) ((bN (tk h c (p - h.length)).2 (p+1) t).2++rest);rw[zD]
  have d:p+1+(t.length:Int)=p+((c::t).length:Nat):=by simp;omega
  rw[d]
theorem YD(t:List Nat):Held (bN [] 0 t).2/\items 0 t=(bN [] 0 t).1++dw (t.length - (bN [] 0 t).2.length) (bN [] 0 t).2:=by
 obtain⟨a,b⟩:=IV t Held.h0 0 [];refine⟨a,?_⟩;simp at b;rw[b,YC a]
@[simp] theorem QAw :gZ [.lst l]=some (.lst l):=rfl
noncomputable def fzF(f:Fl):Fl:=match f with
 | .rt d O'=>.rt d O'
 | _=>.no
@[simp] theorem QBN   :oF m ρ O=fzF (m ρ O):=rfl
@[simp] theorem QBa  :fzF (.rt d O)=.rt d O:=rfl
noncomputable def ziF(d e:D)(O:az):Res (List D):=match d,e with
 | .lst ds,.lst es=>.ok (uc ds es) O
 | _,_=>.no
@[simp] theorem QBz   :GF ma mb ρ O=(ma ρ O).bind λd O1=>(mb ρ O1).bind λe O2=>ziF d e O2:=by
 unfold GF;congr 1
@[simp] theorem QBC  :ziF (.lst ds) (.lst es) O=.ok (uc ds es) O:=rfl
end L2
namespace L2
open PySem
theorem aN(h:a ρ O=.nx ρ' O'):au a b ρ O=b ρ' O':=by rw[oW,h,xZ]
theorem dg(h:a ρ O=.rt d O'):au a b ρ O=.rt d O':=by rw[oW,h,Yh]
theorem jZ(h:a ρ O=.ex x O'):au a b ρ O=.ex x O':=by rw[oW,h];rfl
theorem IW(h:t ρ O=.ok true O'):ie t a b ρ O=a ρ O':=by unfold ie;rw[h];rfl
theorem Ja(h:t ρ O=.ok false O'):ie t a b ρ O=b ρ O':=by unfold ie;rw[h];rfl
theorem yw(h:t ρ O=.ok false O'):ie t a aD ρ O=.nx ρ O':=Ja h
theorem dX(h:m ρ O=.nx ρ' O'):msN m ρ O=.nx ρ' O':=by unfold msN;rw[h]
theorem uH(h:m ρ O=.rt d O'):msN m ρ O=.rt d O':=by unfold msN;rw[h]
theorem mV(h:ma ρ O=.ok ds O1):fW c ma ρ O=c ds O1:=by unfold fW;rw[h]
theorem YF(h:r ρ O=.ok d O'):mq r ρ O=.nx ρ O':=by unfold mq;rw[h]
theorem YG(h:r ρ O=.ex x O'):mq r ρ O=.ex x O':=by unfold mq;rw[h]
theorem YH  (h:r ρ O=.ok d O'):mz i r ρ O=.nx (ρ.set i (some d)) O':=by unfold mz;rw[h]
theorem YJ  (h:r ρ O=.ex x O'):mz i r ρ O=.ex x O':=by unfold mz;rw[h]
theorem Jb  (h:r ρ O=.ok d O'):jR cc nn r ρ O=.ex ⟨cc,[(nn,d)]⟩ O':=by unfold jR;rw[h]
theorem Jc     (h1:r ρ O=.ok (.ob n) O1)(h2:O1[n]?=some (.ins cl fs))(h3:(fs.lookup mm).isNone=true)(h4:ma ρ O1=.ok ds O2):oJ cl mm cf r ma ρ O=cf (.ob n::ds) O2:=by
 unfold oJ;rw[h1];dsimp only;rw[h2];dsimp only;rw[if_pos ⟨rfl,h3⟩,h4]
theorem rK  (h:ma ρ O=.ok ds O'):fV ma g b ρ O=aO g b ds ρ O':=by unfold fV;rw[h]
theorem jt  (h:ma ρ O=.ok ds O'):bM ma g b ρ O=aO g b ds ρ O':=by rw[Ie,h,Yj]
theorem YK  (h:ma ρ O=.ex x O'):bM ma g b ρ O=.ex x O':=by rw[Ie,h];rfl
theorem YL(h:r ρ O=.ok (.lst ds) O'):gn r ρ O=.ok ds O':=by unfold gn;rw[h];rfl
theorem YM(h:r ρ O=.ex x O'):gn r ρ O=.ex x O':=by unfold gn;rw[h];rfl
theorem YQ   {rest:List HM}(a:ys.contains x.cls=true)(h:m (ρ.set i (some (.ob O.length))) (O++[.xc x.cls x.fs])=.rt d O'):mF ((ys,ns,i,m)::rest) x ρ O=.rt d O':=by
 unfold mF;rw[if_pos a,h]
theorem Jd      (h:r ρ O=.ok (.ob n) O')(h2:O'[n]?=some (.xc cc fs))(h3:tb.lookup cc=some bb):fX tb r ρ O=.ok (.bl bb) O':=by
 unfold fX;rw[h];show(match O'[n]? with | some (.xc c _)=>(match tb.lookup c with | some b=>Res.ok (D.bl b) O' | none=>.no) | _=>.no)=_;rw[h2];dsimp only;rw[h3]
theorem YS      (h:r ρ O=.ok (.ob n) O')(h2:O'[n]?=some (.xc cc fs))(h3:L.contains cc=true)(h4:fs.lookup f=some d):mH f L r ρ O=.ok d O':=by
 unfold mH;rw[h];show(match O'[n]? with | some (.xc c fs)=>(if L.contains c=true then(match fs.lookup f with | some d=>Res.ok d O' | none=>.no) else .no) | _=>.no)=_;rw[h2];dsimp only;rw[if_pos h3,h4]
end L2
namespace K55
open PySem L2
seal VE SE OE WE TsE TwE AE VS VSs VG VGs VI VIc VO VIf DPE VSF gD VEF VIF VEH VHs
noncomputable def top(i:Nat):Stmt:=PySem.Challenge.pw_outweave_k55_unroll_refuses.main.body.getD i (.Pass ⟨0,0,0,0⟩)
abbrev pA:Stmt:=inClass (top 3) 0
abbrev pB:Stmt:=inClass (top 5) 0
abbrev yx:Stmt:=top 19
abbrev yz:Stmt:=top 20
abbrev yC:Stmt:=top 21
abbrev yD:Stmt:=top 23
abbrev yE:Stmt:=top 24
abbrev yF:Stmt:=top 25
abbrev uI:Stmt:=top 26
abbrev yG:Stmt:=inClass (top 27) 0
abbrev yH:Stmt:=inClass (top 27) 4
abbrev yI:Stmt:=inClass (top 27) 1
abbrev yJ:Stmt:=inClass (top 27) 3
abbrev yK:Stmt:=top 28
abbrev yL:Stmt:=top 31
abbrev yM:Stmt:=top 33
abbrev yN:Stmt:=top 35
abbrev yO:Stmt:=top 37
abbrev uJ:Stmt:=top 38
abbrev yP:Stmt:=top 40
abbrev yQ:Stmt:=top 41
abbrev yR:Stmt:=top 42
abbrev yS:Stmt:=top 43
abbrev yU:Stmt:=top 45
abbrev yV:Stmt:=top 46
abbrev yW:Stmt:=top 47
abbrev yX:Stmt:=top 48
abbrev yZ:Stmt:=top 49
abbrev z7:Stmt:=top 50
abbrev pC:Stmt:=top 51
abbrev z8:Stmt:=top 52
abbrev uK:Stmt:=top 53
abbrev z9:Stmt:=top 54
abbrev uL:Stmt:=top 55
abbrev uM:Stmt:=top 56
abbrev Aa:Stmt:=top 57
abbrev iH:Stmt:=top 58
structure Fc(Pr:Program)(w:World)(K:Frag)(mg:Str->Option Value)(base:Heap):Prop where
 D_is_sign:Def K mg "is_sign" yx
 B:Blt mg
 c_FIRST_SIGN:∃u,mg "FIRST_SIGN" = some u/\RelV (.str (S [32])) u
 c_LAST_SIGN:∃u,mg "LAST_SIGN" = some u/\RelV (.str (S [125])) u
 D_is_colour:Def K mg "is_colour" yz
 c_COLOURS:∃u,mg "COLOURS" = some u/\RelV (.str (S [97,98,99,100,101,102,103,104,46])) u
 D_checked:Def K mg "checked" yC
 c_ANEW_SIGN:∃u,mg "ANEW_SIGN" = some u/\RelV (.str (S [9])) u
 c_ROW_END:∃u,mg "ROW_END" = some u/\RelV (.str (S [10])) u
 D_mark_of:Def K mg "mark_of" yD
 D_may_become_mark:Def K mg "may_become_mark" yE
 D_own_item:Def K mg "own_item" yF
 D_own_items:Def K mg "own_items" uI
 D_Reader___init__:xu K mg "Reader" "Reader.__init__" yG
 K_Reader_held:KC K mg "Reader" "held"
 K_Reader_place:KC K mg "Reader" "place"
 D_Reader_take:oA K mg "Reader" "take" "Reader.take" yH
 D_Reader_feed:oA K mg "Reader" "feed" "Reader.feed" yI
 D_Reader_finish:oA K mg "Reader" "finish" "Reader.finish" yJ
 D_items_of:Def K mg "items_of" yK
 D_pair_behind:Def K mg "pair_behind" yL
 c_PLAIN:ud K mg "PLAIN" [[46],[46]]
 D_shown_ink:Def K mg "shown_ink" yM
 D_unshaded:Def K mg "unshaded" yN
 D_number_ahead:Def K mg "number_ahead" yO
 D_head_of:Def K mg "head_of" uJ
 D_heads_of:Def K mg "heads_of" yP
 D_look_or_none:Def K mg "look_or_none" yQ
 EX_NoSign_NoSign:EXM K mg "NoSign" "NoSign" true
 D_read_row:Def K mg "read_row" yR
 D_unroll:uy K mg "unroll" yS #[(.bool false)]
 D_law_cell:Def K mg "_law_cell" yU
 D_law_mix:Def K mg "_law_mix" yV
 D_law_signs:Def K mg "_law_signs" yW
 D_law_token:Def K mg "_law_token" yX
 D_law_item:Def K mg "_law_item" yZ
 D_law_items:Def K mg "_law_items" z7
 D_law_names:Def K mg "_law_names" pC
 D_law_shown:Def K mg "_law_shown" z8
 D_law_body:Def K mg "_law_body" uK
 D_law_spoilt:Def K mg "_law_spoilt" z9
 D_law_read:Def K mg "_law_read" uL
 D_law_due:Def K mg "_law_due" uM
 D_law_asked:Def K mg "_law_asked" Aa
 EX_OutError_NoRoll:EXM K mg "OutError" "NoRoll" true
 IT_ClosedNoCellNoHandNoNameNoRoomNoRowNoSignNoSizeTwice_NoRoll:qT K mg ["Closed","NoCell","NoHand","NoName","NoRoom","NoRow","NoSign","NoSize","Twice"] "NoRoll" false
 XA_at_NoRoll:XFC K mg "at" "NoRoll"
 IS_NoRoll_NoRoll:ISN K mg "NoRoll" "NoRoll" true
 VN:mg "ValueError" = none
 IV_NoRoll:ISV K mg "NoRoll"
 D_law:Def K mg "law" iH
 DI_NoSign:oM K mg "NoSign" "at" "NoSign.__init__" pA
 DI_NoRoll:oM K mg "NoRoll" "at" "NoRoll.__init__" pB
local macro_rules | `(tactic| trivial) => `(tactic| exact ⟨rfl, rfl, rfl, by decide +kernel, rfl, by decide +kernel, by decide +kernel⟩)
set_option hygiene false
local macro_rules | `(tactic| left) => `(tactic| first|exact zn|exact .inl rfl|exact .inr rfl|exact Vf|(show (bK _ _ _).Nodup;decide +kernel)|(refine Vg ‹_› ?_;left))
local macro_rules | `(tactic| symm) => `(tactic| repeat' first|(show VE _ _ _ _ _;first|(show VE _ _ _ (.Name _ _) _;first|exact cQ _|exact Sh ‹_› (fun _ _ _ => Rp.str)|exact Yb (by assumption))|(show VE _ _ _ (.Constant _ _ _) _;first|exact cM|exact dU _|exact wK|exact Fb)|(show VE _ _ _ (.Subscript _ _ _) _;first|refine km ?_ ?_|refine VF zr ?_ ?_|refine Vo zr ?_ ?_)|(show VE _ _ _ (.Call _ _ _ _) _;first|refine lY ‹_› (zr.mono (by decide)) ?_|exact Va ‹_› (zr.mono (by decide))|refine Vr ‹_› (zr.mono (by decide)) ?_|exact Vp ‹_› (zr.mono (by decide))|refine Xz (ms:=[.s]) rfl B.dict_ ?_)|(show VE _ _ _ (.Tuple _ _ _) _;refine X7 ?_)|(show VE _ _ _ (.Attribute _ _ _) _;refine U4 (by left) ?_)|(show VE _ _ _ (.BoolOp _ _ _) _;first|refine SX ?_ ?_|refine SQ ?_)|(show VE _ _ _ (.IfExp _ _ _ _) _;refine S7 ?_ ?_ ?_)|(show VE _ _ _ (.UnaryOp _ _ _) _;refine S5 ?_)|(show VE _ _ _ (.Dict _ _ _) _;first|exact VB|refine Vm ?_)|refine Vu ?_|refine nT ?_|refine fC ?_)|(show SE _ _ _ _ _;first|(show SE _ _ _ (.Name _ _) _;exact cJ _)|refine aY ?_)|(show AE _ _ _ _ _ _;first|exact di|refine dF ?_ ?_|refine cN ?_ ?_)|(show VSs _ _ _ _ _ _;first|refine gU ?_ ?_|refine gh ?_|exact jG)|(show OE _ _ _ _ _;first|(show OE _ _ _ (.BinOp _ .Add _ _) _;refine cU gj ?_ ?_)|(show OE _ _ _ (.Call _ _ _ _) _;first|refine tV (ms:=[.s]) (hv:=Gh) Gg B.len_ ?_|refine xA ‹_› (zr.mono (by decide)) ?_|refine Gj "str" (hb:=Gi) B.isinstance_ B.str_ ?_|refine wY (ms:=[.s]) (hv:=Uj) Ud B.list_ ?_|refine wY (ms:=[.s]) (hv:=Uh) Uc B.int_ ?_|refine UG ?_ ?_|refine wY (ms:=[.s]) (hv:=Gi) Vz B.str_ ?_|refine tV (ms:=[.s]) (hv:=Ue) (VR rfl) B.max_ ?_|refine Vq ‹_› (zr.mono (by decide)) ?_ ?_|refine Xb ?_ ?_|refine Gv ?_|refine tV (ms:=[.s, .s]) (hv:=Ug) (Ub rfl) B.min_ ?_)|(show OE _ _ _ (.BinOp _ .Mod _ _) _;refine cU n6 ?_ ?_)|(show OE _ _ _ (.List _ _) _;refine X8 ?_)|(show OE _ _ _ (.Subscript _ _ _) _;first|refine jN ?_ ?_ ?_|refine VM ?_ ?_)|(show OE _ _ _ (.Compare _ [.Eq] _ _) _;refine wM (lU zr) ?_ ?_ (fB _))|(show OE _ _ _ (.BinOp _ .Mult _ _) _;refine cU TF ?_ ?_)|(show OE _ _ _ (.BinOp _ .Sub _ _) _;refine cU FN ?_ ?_)|(show OE _ _ _ (.BinOp _ .Pow _ _) _;refine cU TQ ?_ ?_)|(show OE _ _ _ (.BinOp _ .FloorDiv _ _) _;refine cU TJ ?_ ?_)|(show OE _ _ _ (.Compare _ _ _ _) _;first|refine Ss FT FT ?_ ?_ ?_|refine Xv _ zr ?_ ?_)|(show OE _ _ _ (.Compare _ [.In] _ _) _;refine wM Ge ?_ ?_ (by with_unfolding_all rfl))|(show OE _ _ _ (.UnaryOp _ _ _) _;refine FP ?_)|(show OE _ _ _ (.Compare _ [.NotEq] _ _) _;refine wM (Gb zr) ?_ ?_ (fB _))|refine Sg ?_)|(show VS _ _ _ _ _ _;first|refine gW ?_|refine jH ?_ ?_ ?_|refine qH (by left) rfl (by left) ?_|refine Td (by left) rfl (by left) ?_|refine Tn rfl ?_ ?_ ?_|refine U5 (by left) ?_ ?_|exact Tc _|refine UL _ ?_|refine U3 _ ?_ ?_|refine Vv ?_ ?_|refine U0 _ ?_|refine VD zr ?_ ?_ ?_|refine Tq wF ?_ ?_|refine Ti ?_ ?_|exact VH _|refine S9 ?_)|(show TsE _ _ _ _ _;first|(show TsE _ _ _ (.Compare _ [.Eq] _ _) _;refine gR (lU zr) ?_ ?_ (fB _))|(show TsE _ _ _ (.UnaryOp _ _ _) _;refine wR ?_)|(show TsE _ _ _ (.Compare _ _ _ _) _;first|refine wN ?_|refine Xw _ zr ?_ ?_|refine Sx ?_)|(show TsE _ _ _ (.Compare _ [.In] _ _) _;refine gR Ge ?_ ?_ (by with_unfolding_all rfl))|(show TsE _ _ _ (.Compare _ [.Lt] _ _) _;refine gR wX ?_ ?_ (fB _))|(show TsE _ _ _ (.Compare _ [.Gt] _ _) _;refine gR TV ?_ ?_ (fB _))|(show TsE _ _ _ (.Compare _ [.NotEq] _ _) _;refine gR (Gb zr) ?_ ?_ (fB _))|refine qF ?_|refine wQ ?_)|(show gD _ _ _ _ _ _;first|refine Wa ?_ ?_|exact V9)|(show VG _ _ _ _ _;first|(show VG _ _ _ (.Name _ _) _;exact Fp (by left) rfl (by left))|(show VG _ _ _ (.Tuple _ _ _) _;refine Th _ rfl ?_))|(show VO _ _ _ _ _;first|refine jM ?_|exact jL)|(show VSF _ _ _ _ _ _;first|refine V8 ?_|refine Wm rfl ?_ ?_ ?_|refine Wb ?_ ?_ ?_|refine WD ‹_› (zr.mono (by decide)) rfl ?_|refine Wh (Hv ‹_› (zr.mono (by decide)) ?_)|refine Wi (Wg (Wk eO ‹_› (zr.mono (by decide)) ?_ ?_)) (by left) rfl (by left)|refine Wq rfl ?_ ?_ ?_)|(show TwE _ _ _ _ _;(show TwE _ _ _ (.BoolOp _ _ _) _;first|refine SN ?_ ?_|refine qG ?_ ?_|refine SM ?_|refine wO ?_))|(show VGs _ _ _ _ _;first|refine Tg ?_ ?_|exact Tf)|(show VI _ _ _ _ _ _;first|refine Vb ?_|refine Ux B.range_ ?_|refine Vd B.enumerate_ ?_|refine Xh B.range_ ?_)|(show WE _ _ _ _ _;first|(show WE _ _ _ (.Name _ _) _;exact Uu _)|refine Ut ?_)|(show VIf _ _ _ _ _;exact Fv)|(show VIc _ _ _ _ _ _;first|refine Gz ?_|refine wU ?_)|(show DPE _ _ _ _ _ _ _;first|refine Vl ?_ ?_ ?_|exact Vk)|(show VIF _ _ _ _ _ _;refine Wn (Hv ‹_› (zr.mono (by decide)) ?_)))
theorem Je:bc ["thing"] ["thing"] (aJ yx):=by trivial
theorem Jf:bc ["thing"] ["thing"] (aJ yz):=by trivial
theorem Jg:bc ["text","place","sign"] ["text"] (aJ yC):=by trivial
theorem Jh:bc ["text"] ["text"] (aJ yD):=by trivial
theorem Ji:bc ["text"] ["text"] (aJ yE):=by trivial
theorem Jj:bc ["place","sign"] ["place","sign"] (aJ yF):=by trivial
theorem Jk:bc ["place","signs"] ["place","signs"] (aJ uI):=by trivial
theorem Jl:bc ["self"] ["self"] (aJ yG):=by trivial
theorem Jm:bc ["self","sign","seen","first","mark","told"] ["self","sign"] (aJ yH):=by trivial
theorem Jo:bc ["self","piece","told","sign"] ["self","piece"] (aJ yI):=by trivial
theorem Jp:bc ["self","told"] ["self"] (aJ yJ):=by trivial
theorem Jq:bc ["text","reader","told"] ["text"] (aJ yK):=by trivial
theorem Jr:bc ["pair","kind","value"] ["pair","kind","value"] (aJ yL):=by trivial
theorem Js:bc ["sign","ink"] ["sign","ink"] (aJ yM):=by trivial
theorem Jt:bc ["text","pair","told","item","kind"] ["text"] (aJ yN):=by trivial
theorem Ju:bc ["number","numbered"] ["number","numbered"] (aJ yO):=by trivial
theorem Jv:bc ["name","names","word","longest"] ["name","names","word"] (aJ uJ):=by trivial
theorem Jw:bc ["names","heads","name","word"] ["names"] (aJ yP):=by trivial
theorem Ab:bc ["text"] ["text"] (aJ yQ):=by trivial
theorem Jx:bc ["row","ahead","heads","head","name","word","shown"] ["row","ahead","heads"] (aJ yR):=by trivial
theorem Jy:bc ["names","rows","numbered","heads","parts","name","place","row","told"] ["names","rows","numbered"] (aJ yS):=by trivial
theorem Jz:bc ["_law_script","_law_k"] ["_law_script","_law_k"] (aJ yU):=by trivial
theorem JB:bc ["_law_cell_here","_law_k","_law_rest","_law_turn","_law_number"] ["_law_cell_here","_law_k"] (aJ yV):=by trivial
theorem JC:bc ["_law_some"] [] (aJ yW):=by trivial
theorem JD:bc ["_law_cell_here","_law_colour","_law_way","_law_pick","_law_odd"] ["_law_cell_here"] (aJ yX):=by trivial
theorem JF:bc ["_law_text","_law_at","_law_colours","_law_here"] ["_law_text","_law_at"] (aJ yZ):=by trivial
theorem JG:bc ["_law_text","_law_items_here","_law_at","_law_item_here","_law_size"] ["_law_text"] (aJ z7):=by trivial
theorem uN:bc ["_law_cell_here","_law_many","_law_letters","_law_base","_law_names_here","_law_size","_law_at","_law_first"] ["_law_cell_here","_law_many"] (aJ pC):=by trivial
theorem JH:bc ["_law_body_here","_law_seen","_law_colours","_law_place","_law_kind","_law_value"] ["_law_body_here"] (aJ z8):=by trivial
theorem uO:bc ["_law_cells","_law_body_here"] ["_law_cells"] (aJ uK):=by trivial
theorem Ac:bc ["_law_row","_law_cell_here","_law_k","_law_at","_law_way"] ["_law_row","_law_cell_here","_law_k"] (aJ z9):=by trivial
theorem JK:bc ["_law_row","_law_number","_law_names_here","_law_numbered","_law_wide","_law_name","_law_head","_law_seen"] ["_law_row","_law_number","_law_names_here","_law_numbered"] (aJ uL):=by trivial
theorem JL:bc ["_law_names_here","_law_rows","_law_numbered","_law_due_here","_law_k","_law_told"] ["_law_names_here","_law_rows","_law_numbered"] (aJ uM):=by trivial
theorem Ad:bc ["_law_names_here","_law_rows","_law_numbered","_law_found","e"] ["_law_names_here","_law_rows","_law_numbered"] (aJ Aa):=by trivial
theorem JM:bc ["_law_script","_law_cell_here","_law_names_here","_law_numbered","_law_wide","_law_rows","_law_at","_law_cells","_law_name","_law_row","_law_some","_law_bad","_law_k","_law_handed"] ["_law_script"] (aJ iH):=by trivial
section
variable {Pr:Program}{w:World}{K:Frag}{mg:Str->Option Value}{base:Heap}(G:Fc Pr w K mg base)
include G
theorem YT:qR Pr w K mg base "NoSign" "at" 1:=G.DI_NoSign.can (sf:="self") (pn:="at") (by trivial) (λ_ _ _ _ _ _=>aR λ_=>aR λ_=>bA rfl) rfl (.inl rfl) (.inl rfl) (λ_ _ _=>rfl)
theorem YW:qR Pr w K mg base "NoRoll" "at" 1:=G.DI_NoRoll.can (sf:="self") (pn:="at") (by trivial) (λ_ _ _ _ _ _=>aR λ_=>aR λ_=>bA rfl) rfl (.inl rfl) (.inl rfl) (λ_ _ _=>rfl)
noncomputable def Ae:MS :=
  (aB (iU (eU "str" (aa 0)) (iU (ak gEq (aM aU (aj (aa 0) aq)) (mC (.int 1))) (qD gLe gLe (mC (.str [32])) (aa 0) (mC (.str [125]))))))
noncomputable def pD:List D->az->Res D:=bf 1 Ae
theorem YX:Can Pr w K mg base "is_sign" ["thing"] 1 (vSp K mg [.s] (rV K) pD):=by
 have B:=G.B;have c_FIRST_SIGN:=G.c_FIRST_SIGN;have c_LAST_SIGN:=G.c_LAST_SIGN;refine cL (k:=0) (b:=Ae) G.D_is_sign Je (λ_ _ _ _ _ _=>aR λ_=>bA rfl) [.s] [] bz cG (body:=λf a A outer s H E zr P=>?_);have zn:=Je.nd
 symm
noncomputable def Af:MS :=
  (aB (iU (eU "str" (aa 0)) (iU (ak gEq (aM aU (aj (aa 0) aq)) (mC (.int 1))) (ak (gIn false) (aa 0) (mC (.str [97,98,99,100,101,102,103,104,46]))))))
noncomputable def mW:List D->az->Res D:=bf 1 Af
theorem JN:Can Pr w K mg base "is_colour" ["thing"] 1 (vSp K mg [.s] (rV K) mW):=by
 have B:=G.B;have c_COLOURS:=G.c_COLOURS;refine cL (k:=0) (b:=Af) G.D_is_colour Jf (λ_ _ _ _ _ _=>aR λ_=>bA rfl) [.s] [] bz cG (body:=λf a A outer s H E zr P=>?_);have zn:=Jf.nd
 symm
noncomputable def pF:MS :=
  (au (ie (fD (cz (eU "str" (aa 0)))) (au (jR "NoSign" "at" (mC (.int 0)))
  aD) aD)
  (au (fV (iZ (aa 0)) (fG 2 (bQ (mgN 1) (bQ (mgN 2) fQ))) (au (ie (fD (cZ (cz (aG pD (aj (aa 2) aq))) (cZ (aA (ak gEq (aa 2) (mC (.str [10])))) (aA (ak gEq (aa 2) (mC (.str [9]))))))) (au (jR "NoSign" "at" (aa 1))
  aD) aD)
  aD))
  aD))
noncomputable def mX:List D->az->Res D:=bf 3 pF
theorem YZ:jQ Pr w K mg base "checked" ["text"] 3 (fH K mg [.s] (rV K) mX):=by
 have B:=G.B;have c_ANEW_SIGN:=G.c_ANEW_SIGN;have c_ROW_END:=G.c_ROW_END;have a:=YT G;have d:=YX G;refine xN (k:=2) (b:=pF) G.D_checked Jg (λ_ _ _ _ _ _=>aR λ_=>bA rfl) [.s] [.v,.v] bz cG (body:=λf c A outer s H E zr P=>?_);have zn:=Jg.nd
 symm
noncomputable def pG:MS :=
  (au (aK (aA (ak gEq (aa 0) (mC (.str [91,93])))) (aB (aW (aj (mC (.str [112,108,97,105,110])) (aj (mC (.str [])) aq)))) aD)
  (au (aK (aA (ak gEq (aa 0) (mC (.str [91,91])))) (aB (aW (aj (mC (.str [115,105,103,110])) (aj (mC (.str [91])) aq)))) aD)
  (au (aK (dG (aA (ak gEq (aM aU (aj (aa 0) aq)) (mC (.int 3)))) (dG (aA (ak gEq (ak gIx (aa 0) (mC (.int 0))) (mC (.str [91])))) (dG (cz (aG mW (aj (ak gIx (aa 0) (mC (.int 1))) aq))) (aA (ak gEq (ak gIx (aa 0) (mC (.int 2))) (mC (.str [93]))))))) (aB (aW (aj (mC (.str [105,110,107])) (aj (ak gIx (aa 0) (mC (.int 1))) aq)))) aD)
  (au (aK (dG (aA (ak gEq (aM aU (aj (aa 0) aq)) (mC (.int 4)))) (dG (cz (lV (mG (aa 0)) (mC (.str [91,47])))) (dG (cz (aG mW (aj (ak gIx (aa 0) (mC (.int 2))) aq))) (aA (ak gEq (ak gIx (aa 0) (mC (.int 3))) (mC (.str [93]))))))) (aB (aW (aj (mC (.str [103,114,111,117,110,100])) (aj (ak gIx (aa 0) (mC (.int 2))) aq)))) aD)
  (aB (mC .non))))))
noncomputable def mY:List D->az->Res D:=bf 1 pG
theorem Y0:Can Pr w K mg base "mark_of" ["text"] 2 (vSp K mg [.s] (rV K) mY):=by
 have B:=G.B;have c:=JN G;refine cL (k:=1) (b:=pG) G.D_mark_of Jh (λ_ _ _ _ _ _=>aR λ_=>bA rfl) [.s] [] bz cG (body:=λf a A outer s H E zr P=>?_);have zn:=Jh.nd
 symm
noncomputable def pH:MS :=
  (au (aK (cZ (aA (ak gEq (aa 0) (mC (.str [91])))) (aA (ak gEq (aa 0) (mC (.str [91,47]))))) (aB (mC (.bl true))) aD)
  (au (aK (aA (ak gEq (aM aU (aj (aa 0) aq)) (mC (.int 2)))) (aB (iU (ak gEq (ak gIx (aa 0) (mC (.int 0))) (mC (.str [91]))) (aG mW (aj (ak gIx (aa 0) (mC (.int 1))) aq)))) aD)
  (aB (iU (ak gEq (aM aU (aj (aa 0) aq)) (mC (.int 3))) (iU (lV (mG (aa 0)) (mC (.str [91,47]))) (aG mW (aj (ak gIx (aa 0) (mC (.int 2))) aq)))))))
noncomputable def mZ:List D->az->Res D:=bf 1 pH
theorem Y5:Can Pr w K mg base "may_become_mark" ["text"] 2 (vSp K mg [.s] (rV K) mZ):=by
 have B:=G.B;have c:=JN G;refine cL (k:=1) (b:=pH) G.D_may_become_mark Ji (λ_ _ _ _ _ _=>aR λ_=>bA rfl) [.s] [] bz cG (body:=λf a A outer s H E zr P=>?_);have zn:=Ji.nd
 symm
noncomputable def Ag:MS :=
  (au (aK (aA (ak gEq (aa 1) (mC (.str [10])))) (aB (aW (aj (mG (aa 0)) (aj (mC (.str [101,110,100])) (aj (mC (.str [])) aq))))) aD)
  (au (aK (aA (ak gEq (aa 1) (mC (.str [9])))) (aB (aW (aj (mG (aa 0)) (aj (mC (.str [97,110,101,119])) (aj (mC (.str [])) aq))))) aD)
  (aB (aW (aj (mG (aa 0)) (aj (mC (.str [115,105,103,110])) (aj (mG (aa 1)) aq)))))))
noncomputable def rM:List D->az->Res D:=bf 2 Ag
theorem Y6:Can Pr w K mg base "own_item" ["place","sign"] 1 (vSp K mg [.s,.s] (rV K) rM):=by
 have B:=G.B;have c_ANEW_SIGN:=G.c_ANEW_SIGN;have c_ROW_END:=G.c_ROW_END;refine cL (k:=0) (b:=Ag) G.D_own_item Jj (λ_ _ _ _ _ _=>aR λ_=>aR λ_=>bA rfl) [.s,.s] [] bz cG (body:=λf a A outer s H E zr P=>?_);have zn:=Jj.nd
 symm
noncomputable def Ah:MS :=
  (aB (c7 (iZ (aa 1)) 2 [0] (fG 2 (bQ (mgN 0) (bQ (mgN 1) fQ))) cO (aG rM (aj (ak aC (aa 2) (aa 0)) (aj (aa 1) aq)))))
noncomputable def pI:List D->az->Res D:=bf 2 Ah
theorem JP:Can Pr w K mg base "own_items" ["place","signs"] 2 (vSp K mg [.s,.s] (rO K) pI):=by
 have B:=G.B;have c:=Y6 G;refine cL (k:=1) (b:=Ah) G.D_own_items Jk (λ_ _ _ _ _ _=>aR λ_=>aR λ_=>bA rfl) [.s,.s] [] eO mO (body:=λf a A outer s H E zr P=>?_);have zn:=Jk.nd
 symm
 refine lR (aJ uI) ["place","signs"] ["k","sign"] [0] rfl ?_ (λ_ _ _ _ P=>?_) (λ_ _ _ _ P=>?_) (λ_ _ _ _ P=>?_)
 symm
noncomputable def Ai:MS :=
  (au (g8 ["Reader"] "held" (aa 0) (mC (.str [])))
  (g8 ["Reader"] "place" (aa 0) (mC (.int 0))))
noncomputable def pJ:List D->az->Res D:=bf 1 Ai
theorem Y7:xq Pr w K mg base "Reader" ["self"] 1 (vSp K mg [.v] (rV K) pJ):=by
 have B:=G.B;have K_Reader_held:=G.K_Reader_held;have K_Reader_place:=G.K_Reader_place;refine U6 (k:=0) (b:=Ai) G.D_Reader___init__ Jl (λ_ _ _ _ _ _=>aR λ_=>bA rfl) [.v] [] bz cG (body:=λf a A outer s H E zr P=>?_);have zn:=Jl.nd
 symm
noncomputable def Aj:MS :=
  (au (aF 2 (ak aC (iY ["Reader"] "held" (aa 0)) (aa 1)))
  (au (aF 3 (ak gk (iY ["Reader"] "place" (aa 0)) (aM aU (aj (iY ["Reader"] "held" (aa 0)) aq))))
  (au (g8 ["Reader"] "place" (aa 0) (ak aC (iY ["Reader"] "place" (aa 0)) (mC (.int 1))))
  (au (aK (cz (aG mZ (aj (aa 2) aq))) (au (g8 ["Reader"] "held" (aa 0) (aa 2))
  (aB (bj aq))) aD)
  (au (aF 4 (aG mY (aj (aa 2) aq)))
  (au (aK (aA (tQ (aa 4))) (au (g8 ["Reader"] "held" (aa 0) (mC (.str [])))
  (aB (bj (aj (aW (aj (aa 3) (aj (ak gIx (aa 4) (mC (.int 0))) (aj (ak gIx (aa 4) (mC (.int 1))) aq)))) aq)))) aD)
  (au (aK (aA (ak gEq (aa 1) (mC (.str [91])))) (au (aF 5 (aG pI (aj (aa 3) (aj (iY ["Reader"] "held" (aa 0)) aq))))
  (au (g8 ["Reader"] "held" (aa 0) (mG (aa 1)))
  (aB (aa 5)))) aD)
  (au (g8 ["Reader"] "held" (aa 0) (mC (.str [])))
  (aB (aG pI (aj (aa 3) (aj (aa 2) aq))))))))))))
noncomputable def lC:List D->az->Res D:=bf 6 Aj
theorem Y8:lW Pr w K mg base "Reader" "take" ["self","sign"] 3 (vSp K mg [.v,.s] (rO K) lC):=by
 have B:=G.B;have K_Reader_place:=G.K_Reader_place;have K_Reader_held:=G.K_Reader_held;have d:=Y5 G;have c:=Y0 G;have g:=JP G;refine Gx (k:=2) (b:=Aj) G.D_Reader_take Jm (λ_ _ _ _ _ _=>aR λ_=>aR λ_=>bA rfl) [.v,.s] [.v,.v,.v,.o] eO mO (body:=λf a A outer s H E zr P=>?_);have zn:=Jm.nd
 symm
noncomputable def pK:MS :=
  (au (mq (fW mX (aj (aa 1) aq)))
  (au (msN (aF 2 (bj aq)))
  (au (fV (bG (aa 1)) (mgN 3) (au (msN (ou 2 (jO "Reader" "take" lC (aa 0) (aj (aa 3) aq))))
  aD))
  (au (msN (aB (aa 2)))
  aD))))
noncomputable def uP:List D->az->Res D:=bf 4 pK
theorem Za:xK Pr w K mg base "Reader" "feed" ["self","piece"] 4 (fH K mg [.v,.s] (rO K) uP):=by
 have B:=G.B;have c:=YZ G;have d:=Y8 G;refine Wd (k:=3) (b:=pK) G.D_Reader_feed Jo (λ_ _ _ _ _ _=>aR λ_=>aR λ_=>bA rfl) [.v,.s] [.o,.v] eO mO (body:=λf a A outer s H E zr P=>?_);have zn:=Jo.nd
 symm
noncomputable def Ak:MS :=
  (au (aF 1 (aG pI (aj (ak gk (iY ["Reader"] "place" (aa 0)) (aM aU (aj (iY ["Reader"] "held" (aa 0)) aq))) (aj (iY ["Reader"] "held" (aa 0)) aq))))
  (au (g8 ["Reader"] "held" (aa 0) (mC (.str [])))
  (aB (aa 1))))
noncomputable def uQ:List D->az->Res D:=bf 2 Ak
theorem Zb:lW Pr w K mg base "Reader" "finish" ["self"] 3 (vSp K mg [.v] (rV K) uQ):=by
 have B:=G.B;have K_Reader_held:=G.K_Reader_held;have K_Reader_place:=G.K_Reader_place;have c:=JP G;refine Gx (k:=2) (b:=Ak) G.D_Reader_finish Jp (λ_ _ _ _ _ _=>aR λ_=>bA rfl) [.v] [.v] bz cG (body:=λf a A outer s H E zr P=>?_);have zn:=Jp.nd
 symm
noncomputable def pL:MS :=
  (au (msN (aF 1 (lX "Reader" pJ aq)))
  (au (mz 2 (oJ "Reader" "feed" uP (aa 1) (aj (aa 0) aq)))
  (au (msN (aB (ak aC (aa 2) (jO "Reader" "finish" uQ (aa 1) aq))))
  aD)))
noncomputable def pM:List D->az->Res D:=bf 3 pL
theorem Zc:jQ Pr w K mg base "items_of" ["text"] 5 (fH K mg [.s] (rV K) pM):=by
 have B:=G.B;have g:=Y7 G;have c:=Za G;have d:=Zb G;refine xN (k:=4) (b:=pL) G.D_items_of Jq (λ_ _ _ _ _ _=>aR λ_=>bA rfl) [.s] [.v,.v] bz cG (body:=λf a A outer s H E zr P=>?_);have zn:=Jq.nd
 symm
noncomputable def pN:MS :=
  (au (aK (aA (ak gEq (aa 1) (mC (.str [105,110,107])))) (aB (aW (aj (mG (aa 2)) (aj (ak gIx (aa 0) (mC (.int 1))) aq)))) aD)
  (au (aK (aA (ak gEq (aa 1) (mC (.str [103,114,111,117,110,100])))) (aB (aW (aj (ak gIx (aa 0) (mC (.int 0))) (aj (mG (aa 2)) aq)))) aD)
  (au (aK (aA (ak gEq (aa 1) (mC (.str [115,105,103,110])))) (aB (mG (aa 0))) aD)
  (aB (mC (.tup [.str [46],.str [46]]))))))
noncomputable def lD:List D->az->Res D:=bf 3 pN
theorem Zd:Can Pr w K mg base "pair_behind" ["pair","kind","value"] 1 (vSp K mg [.s,.s,.s] (rV K) lD):=by
 have B:=G.B;have c_PLAIN:=G.c_PLAIN;refine cL (k:=0) (b:=pN) G.D_pair_behind Jr (λ_ _ _ _ _ _=>aR λ_=>aR λ_=>aR λ_=>bA rfl) [.s,.s,.s] [] bz cG (body:=λf a A outer s H E zr P=>?_);have zn:=Jr.nd
 symm
noncomputable def uR:MS :=
  (aB (mIf (aA (ak gEq (aa 0) (mC (.str [32])))) (mC (.str [46])) (mG (aa 1))))
noncomputable def m5:List D->az->Res D:=bf 2 uR
theorem Ze:Can Pr w K mg base "shown_ink" ["sign","ink"] 1 (vSp K mg [.s,.s] (rV K) m5):=by
 have B:=G.B;refine cL (k:=0) (b:=uR) G.D_shown_ink Js (λ_ _ _ _ _ _=>aR λ_=>aR λ_=>bA rfl) [.s,.s] [] bz cG (body:=λf a A outer s H E zr P=>?_);have zn:=Js.nd
 symm
noncomputable def pO:MS :=
  (au (msN (aF 1 (mC (.tup [.str [46],.str [46]]))))
  (au (msN (aF 2 (bj aq)))
  (au (bM (gn (fW pM (aj (aa 0) aq))) (mgN 3) (au (msN (aF 4 (ak gIx (aa 3) (mC (.int 1)))))
  (au (msN (aK (cZ (aA (ak gEq (aa 4) (mC (.str [101,110,100])))) (aA (ak gEq (aa 4) (mC (.str [97,110,101,119]))))) (aB (mC .non)) aD))
  (au (msN (aK (aA (ak gEq (aa 4) (mC (.str [115,105,103,110])))) (dW 2 (aW (aj (ak gIx (aa 3) (mC (.int 2))) (aj (aG m5 (aj (ak gIx (aa 3) (mC (.int 2))) (aj (ak gIx (aa 1) (mC (.int 0))) aq))) (aj (ak gIx (aa 1) (mC (.int 1))) aq))))) aD))
  (au (msN (aF 1 (aG lD (aj (aa 1) (aj (aa 4) (aj (ak gIx (aa 3) (mC (.int 2))) aq))))))
  aD)))))
  (au (msN (oF (aB (mIf (aA (ak gEq (aa 1) (mC (.tup [.str [46],.str [46]])))) (aa 2) (mC .non)))))
  aD))))
noncomputable def uT:List D->az->Res D:=bf 5 pO
theorem Zf:jQ Pr w K mg base "unshaded" ["text"] 6 (fH K mg [.s] (rV K) uT):=by
 have B:=G.B;have c_PLAIN:=G.c_PLAIN;have c:=Zc G;have d:=Ze G;have g:=Zd G;refine xN (k:=5) (b:=pO) G.D_unshaded Jt (λ_ _ _ _ _ _=>aR λ_=>bA rfl) [.s] [.v,.o,.v,.v] bz cG (body:=λf a A outer s H E zr P=>?_);have zn:=Jt.nd
 symm
 refine Vt 2 rfl ?_
 symm
noncomputable def uU:MS :=
  (aB (mIf (cz (aa 1)) (ak aC (aM iz (aj (aa 0) aq)) (mC (.str [32]))) (mC (.str []))))
noncomputable def pP:List D->az->Res D:=bf 2 uU
theorem Zg:Can Pr w K mg base "number_ahead" ["number","numbered"] 1 (vSp K mg [.s,.s] (rV K) pP):=by
 have B:=G.B;refine cL (k:=0) (b:=uU) G.D_number_ahead Ju (λ_ _ _ _ _ _=>aR λ_=>aR λ_=>bA rfl) [.s,.s] [] bz cG (body:=λf a A outer s H E zr P=>?_);have zn:=Ju.nd
 symm
noncomputable def uV:MS :=
  (au (aF 3 (aM lg (aj (c7 (bG (aa 1)) 1 [] (mgN 0) cO (aM aU (aj (aa 0) aq))) aq)))
  (aB (ak aC (uo (mG (aa 0)) (aa 3)) (mIf (aA (ak gEq (aa 2) (mC (.str [119,104,111,108,101])))) (mC (.str [124])) (mC (.str [62]))))))
noncomputable def uW:List D->az->Res D:=bf 4 uV
theorem Zh:Can Pr w K mg base "head_of" ["name","names","word"] 1 (vSp K mg [.s,.s,.s] (rV K) uW):=by
 have B:=G.B;refine cL (k:=0) (b:=uV) G.D_head_of Jv (λ_ _ _ _ _ _=>aR λ_=>aR λ_=>aR λ_=>bA rfl) [.s,.s,.s] [.v] bz cG (body:=λf a A outer s H E zr P=>?_);have zn:=Jv.nd
 symm
 refine lR (aJ uJ) ["name","names","word","longest"] ["one"] [] rfl ?_ (λ_ _ _ _ P=>?_) (λ_ _ _ _ P=>?_) (λ_ _ _ _ P=>?_)
 symm
noncomputable def uX:MS :=
  (au (aF 1 (bj aq))
  (au (bM (bG (aa 0)) (mgN 2) (bM (bG (aW (aj (mC (.str [119,104,111,108,101])) (aj (mC (.str [109,111,114,101])) aq)))) (mgN 3) (dW 1 (aW (aj (aG uW (aj (aa 2) (aj (aa 0) (aj (aa 3) aq)))) (aj (aa 2) (aj (aa 3) aq)))))))
  (aB (aa 1))))
noncomputable def Al:List D->az->Res D:=bf 4 uX
theorem Zi:Can Pr w K mg base "heads_of" ["names"] 2 (vSp K mg [.s] (rO K) Al):=by
 have B:=G.B;have c:=Zh G;refine cL (k:=1) (b:=uX) G.D_heads_of Jw (λ_ _ _ _ _ _=>aR λ_=>bA rfl) [.s] [.o,.v,.v] eO mO (body:=λf a A outer s H E zr P=>?_);have zn:=Jw.nd
 symm
noncomputable def pQ:MS :=
  (mJ (fW uT (aj (aa 0) aq)) ["NoSign"] (aB (mC .non)))
noncomputable def rN:List D->az->Res D:=bf 1 pQ
theorem Zj:Can Pr w K mg base "look_or_none" ["text"] 7 (vSp K mg [.s] (rV K) rN):=by
 have B:=G.B;have EX_NoSign_NoSign:=G.EX_NoSign_NoSign;have a:=Zf G;refine cL (k:=6) (b:=pQ) G.D_look_or_none Ab (λ_ _ _ _ _ _=>aR λ_=>bA rfl) [.s] [] bz cG (body:=λf c A outer s H E zr P=>?_);have zn:=Ab.nd
 symm
 refine Xk (ys:=["NoSign"]) bz (Ho bz a (zr.mono (by decide)) (λE=>(dF (cJ 0) di))) (um EX_NoSign_NoSign qU) (λd=>(gh (gW wK))) Ab.nd
 symm
noncomputable def m7:MS :=
  (au (aK (fD (cz (eU "str" (aa 0)))) (aB (mC .non)) aD)
  (au (bM (bG (aa 2)) (fG 3 (bQ (mgN 3) (bQ (mgN 4) (bQ (mgN 5) fQ)))) (aK (cz (lV (mG (aa 0)) (ak aC (aa 1) (aa 3)))) (au (aF 6 (aG rN (aj (mSl (aa 0) (moS (aM aU (aj (ak aC (aa 1) (aa 3)) aq))) moN) aq)))
  (aB (mIf (aA (d9 (aa 6))) (mC .non) (aW (aj (aa 4) (aj (aa 6) (aj (aa 5) aq))))))) aD))
  (aB (mC .non))))
noncomputable def m8:List D->az->Res D:=bf 7 m7
theorem Zm:Can Pr w K mg base "read_row" ["row","ahead","heads"] 8 (vSp K mg [.s,.s,.s] (rV K) m8):=by
 have B:=G.B;have c:=Zj G;refine cL (k:=7) (b:=m7) G.D_read_row Jx (λ_ _ _ _ _ _=>aR λ_=>aR λ_=>aR λ_=>bA rfl) [.s,.s,.s] [.v,.v,.v,.v] bz cG (body:=λf a A outer s H E zr P=>?_);have zn:=Jx.nd
 symm
noncomputable def pR:MS :=
  (au (msN (aF 3 (aG Al (aj (aa 0) aq))))
  (au (msN (aF 4 xC))
  (au (fV (bG (aa 0)) (mgN 5) (au (msN (qN (aa 4) (aa 5) (mMl (bj aq))))
  aD))
  (au (fV (iZ (aa 1)) (fG 2 (bQ (mgN 6) (bQ (mgN 7) fQ))) (au (msN (aF 8 (aG m8 (aj (aa 7) (aj (aG pP (aj (ak aC (aa 6) (mC (.int 1))) (aj (aa 2) aq))) (aj (aa 3) aq))))))
  (au (ie (aA (d9 (aa 8))) (au (jR "NoRoll" "at" (aa 6))
  aD) aD)
  (au (msN (kY (mj (aa 4) (ak gIx (aa 8) (mC (.int 0)))) (aW (aj (ak gIx (aa 8) (mC (.int 1))) (aj (ak gIx (aa 8) (mC (.int 2))) aq)))))
  aD))))
  (au (msN (aB (aa 4)))
  aD)))))
noncomputable def rP:List D->az->Res D:=bf 9 pR
theorem Zn:jQ Pr w K mg base "unroll" ["names","rows","numbered"] 9 (fH K mg [.s,.s,.s] (rV K) rP):=by
 have B:=G.B;have a:=YW G;have d:=Zi G;have g:=Zm G;have h:=Zg G;refine X6 (k:=8) (b:=pR) G.D_unroll Jy (λ_ _ _ _ _ _ _=>aR λ_=>aR λ_=>aR λ_=>bA ⟨_,rfl,rfl⟩) [.s,.s,.s] [.v,.v,.v,.v,.v,.v] bz cG (body:=λf c A outer s H E zr P=>?_);have zn:=Jy.nd
 symm
noncomputable def Am:MS :=
  (au (aK (aA (ak gLt (aa 1) (aM aU (aj (aa 0) aq)))) (aB (ak gIx (aa 0) (aa 1))) aD)
  (aB (mC (.int 0))))
noncomputable def uY:List D->az->Res D:=bf 2 Am
theorem Zo:Can Pr w K mg base "_law_cell" ["_law_script","_law_k"] 1 (vSp K mg [.s,.s] (rV K) uY):=by
 have B:=G.B;refine cL (k:=0) (b:=Am) G.D_law_cell Jz (λ_ _ _ _ _ _=>aR λ_=>aR λ_=>bA rfl) [.s,.s] [] bz cG (body:=λf a A outer s H E zr P=>?_);have zn:=Jz.nd
 symm
noncomputable def JQ:MS :=
  (au (aK (aA (ak gGt (aa 0) (ak iV (mC (.int 10)) (mC (.int 18))))) (au (aF 2 (mG (aa 0)))
  (au (bM (eV (aj (aa 1) aq)) (mgN 3) (aF 2 (ak kj (aa 2) (ak iV (mC (.int 10)) (mC (.int 9))))))
  (aB (ak aZ (aa 2) (ak iV (mC (.int 10)) (mC (.int 9))))))) aD)
  (au (aF 4 (ak aC (ak aZ (aa 0) (mC (.int 2147483647))) (mC (.int 7919))))
  (au (bM (eV (aj (ak aC (aa 1) (mC (.int 2))) aq)) (mgN 3) (aF 4 (ak aZ (ak aC (ak cV (aa 4) (mC (.int 48271))) (mC (.int 104729))) (mC (.int 2147483629)))))
  (aB (ak kj (ak aZ (ak cV (aa 4) (aa 4)) (mC (.int 998244353))) (mC (.int 11)))))))
noncomputable def b8:List D->az->Res D:=bf 5 JQ
theorem rQ:Can Pr w K mg base "_law_mix" ["_law_cell_here","_law_k"] 1 (vSp K mg [.s,.s] (rV K) b8):=by
 have B:=G.B;refine cL (k:=0) (b:=JQ) G.D_law_mix JB (λ_ _ _ _ _ _=>aR λ_=>aR λ_=>bA rfl) [.s,.s] [.v,.v,.v] bz cG (body:=λf a A outer s H E zr P=>?_);have zn:=JB.nd
 symm
noncomputable def JR:MS :=
  (au (aF 0 (mC (.str [32,33,34,35,36,38,39,40,41,42,43,44,45,46,47,48,49,50,51,52,53,54,55,56,57,58,59,60,61,62,63,64,65,66,67,68,69,70,71,72,73,74,75,76,77,78,79,80,81,82,83,84,85,86,87,88,89,90])))
  (aB (ak aC (aa 0) (mC (.str [91,92,93,94,95,96,97,98,99,100,101,102,103,104,105,106,107,108,109,110,111,112,113,114,115,116,117,118,119,120,121,122,123,124,125])))))
noncomputable def uZ:List D->az->Res D:=bf 1 JR
theorem Zq:Can Pr w K mg base "_law_signs" [] 1 (vSp K mg [] (rV K) uZ):=by
 have B:=G.B;refine cL (k:=0) (b:=JR) G.D_law_signs JC (λ_ _ _ _ _ _=>bA rfl) [] [.v] bz cG (body:=λf a A outer s H E zr P=>?_);have zn:=JC.nd
 symm
noncomputable def JS:MS :=
  (au (aF 1 (ak gIx (mC (.str [97,98,99,100,101,102,103,104,46])) (ak aZ (aG b8 (aj (aa 0) (aj (mC (.int 2)) aq))) (mC (.int 9)))))
  (au (aF 2 (ak aZ (aG b8 (aj (aa 0) (aj (mC (.int 0)) aq))) (mC (.int 12))))
  (au (aF 3 (aG b8 (aj (aa 0) (aj (mC (.int 1)) aq))))
  (au (aF 4 (bj (aj (mC (.str [91])) (aj (mC (.str [91,47])) (aj (ak aC (mC (.str [91])) (aa 1)) (aj (ak aC (mC (.str [91,47])) (aa 1)) (aj (mC (.str [91,105,93])) (aj (mC (.str [91,47,93])) (aj (ak aC (ak aC (ak aC (mC (.str [91])) (aa 1)) (aa 1)) (mC (.str [93]))) (aj (mC (.str [91,65,93])) (aj (mC (.str [91,47,105,93])) (aj (mC (.str [91,91,91])) aq))))))))))))
  (au (aF 4 (ak aC (aa 4) (bj (aj (mC (.str [91,47,91])) (aj (ak aC (ak aC (mC (.str [91])) (aa 1)) (mC (.str [91]))) (aj (ak aC (ak aC (mC (.str [91,47])) (aa 1)) (mC (.str [47,93]))) (aj (ak aC (ak aC (mC (.str [91,47,47])) (aa 1)) (mC (.str [93]))) (aj (ak aC (ak aC (mC (.str [91])) (aa 1)) (mC (.str [10]))) (aj (mC (.str [93])) (aj (mC (.str [47])) aq))))))))))
  (au (dW 4 (ak aC (ak aC (mC (.str [91,47])) (aa 1)) (mC (.str [9,93]))))
  (au (aK (aA (ak gLt (aa 2) (mC (.int 3)))) (aB (ak gIx (aG uZ aq) (ak aZ (aa 3) (mC (.int 93))))) aD)
  (au (aK (aA (ak gEq (aa 2) (mC (.int 3)))) (aB (ak gIx (mC (.str [32,65,66,90])) (ak aZ (aa 3) (mC (.int 4))))) aD)
  (au (aK (aA (ak gEq (aa 2) (mC (.int 4)))) (aB (ak aC (ak aC (mC (.str [91])) (aa 1)) (mC (.str [93])))) aD)
  (au (aK (aA (ak gEq (aa 2) (mC (.int 5)))) (aB (ak aC (ak aC (mC (.str [91,47])) (aa 1)) (mC (.str [93])))) aD)
  (au (aK (aA (ak gEq (aa 2) (mC (.int 6)))) (aB (ak gIx (bj (aj (mC (.str [91,93])) (aj (mC (.str [91,91])) (aj (mC (.str [91,93,93])) (aj (mC (.str [91,91,93])) aq))))) (ak aZ (aa 3) (mC (.int 4))))) aD)
  (au (aK (aA (ak gEq (aa 2) (mC (.int 9)))) (aB (ak gIx (bj (aj (mC (.str [10])) (aj (mC (.str [9])) (aj (mC (.str [10])) aq)))) (ak aZ (aa 3) (mC (.int 3))))) aD)
  (au (aK (aA (ak gEq (aa 2) (mC (.int 10)))) (aB (aa 1)) aD)
  (au (aK (aA (ak gEq (aa 2) (mC (.int 11)))) (aB (mSl (mC (.str [111,117,116,119,101,97,118,101,115])) moN (moS (ak aC (mC (.int 2)) (ak aZ (aa 3) (mC (.int 8))))))) aD)
  (aB (ak gIx (aa 4) (ak aZ (aa 3) (mC (.int 18)))))))))))))))))))
noncomputable def ju:List D->az->Res D:=bf 5 JS
theorem Zr:Can Pr w K mg base "_law_token" ["_law_cell_here"] 2 (vSp K mg [.s] (rV K) ju):=by
 have B:=G.B;have d:=rQ G;have c:=Zq G;refine cL (k:=1) (b:=JS) G.D_law_token JD (λ_ _ _ _ _ _=>aR λ_=>bA rfl) [.s] [.v,.v,.v,.o] bz cG (body:=λf a A outer s H E zr P=>?_);have zn:=JD.nd
 symm
noncomputable def An:MS :=
  (au (aF 2 (mC (.str [97,98,99,100,101,102,103,104,46])))
  (au (aF 3 (mSl (aa 0) (moS (mG (aa 1))) (moS (ak aC (aa 1) (mC (.int 4))))))
  (au (aK (aA (ak gEq (ak gIx (aa 3) (mC (.int 0))) (mC (.str [10])))) (aB (aW (aj (aW (aj (mG (aa 1)) (aj (mC (.str [101,110,100])) (aj (mC (.str [])) aq)))) (aj (mC (.int 1)) aq)))) aD)
  (au (aK (aA (ak gEq (ak gIx (aa 3) (mC (.int 0))) (mC (.str [9])))) (aB (aW (aj (aW (aj (mG (aa 1)) (aj (mC (.str [97,110,101,119])) (aj (mC (.str [])) aq)))) (aj (mC (.int 1)) aq)))) aD)
  (au (aK (aA (ak gEq (mSl (aa 3) moN (moS (mC (.int 2)))) (mC (.str [91,93])))) (aB (aW (aj (aW (aj (mG (aa 1)) (aj (mC (.str [112,108,97,105,110])) (aj (mC (.str [])) aq)))) (aj (mC (.int 2)) aq)))) aD)
  (au (aK (aA (ak gEq (mSl (aa 3) moN (moS (mC (.int 2)))) (mC (.str [91,91])))) (aB (aW (aj (aW (aj (mG (aa 1)) (aj (mC (.str [115,105,103,110])) (aj (mC (.str [91])) aq)))) (aj (mC (.int 2)) aq)))) aD)
  (au (aK (dG (aA (ak gGt (aM aU (aj (aa 3) aq)) (mC (.int 2)))) (dG (aA (ak gEq (ak gIx (aa 3) (mC (.int 0))) (mC (.str [91])))) (dG (aA (ak (gIn false) (ak gIx (aa 3) (mC (.int 1))) (aa 2))) (aA (ak gEq (ak gIx (aa 3) (mC (.int 2))) (mC (.str [93]))))))) (aB (aW (aj (aW (aj (mG (aa 1)) (aj (mC (.str [105,110,107])) (aj (ak gIx (aa 3) (mC (.int 1))) aq)))) (aj (mC (.int 3)) aq)))) aD)
  (au (aK (dG (aA (ak gEq (aM aU (aj (aa 3) aq)) (mC (.int 4)))) (dG (aA (ak gEq (mSl (aa 3) moN (moS (mC (.int 2)))) (mC (.str [91,47])))) (dG (aA (ak (gIn false) (ak gIx (aa 3) (mC (.int 2))) (aa 2))) (aA (ak gEq (ak gIx (aa 3) (mC (.int 3))) (mC (.str [93]))))))) (aB (aW (aj (aW (aj (mG (aa 1)) (aj (mC (.str [103,114,111,117,110,100])) (aj (ak gIx (aa 3) (mC (.int 2))) aq)))) (aj (mC (.int 4)) aq)))) aD)
  (aB (aW (aj (aW (aj (mG (aa 1)) (aj (mC (.str [115,105,103,110])) (aj (ak gIx (aa 3) (mC (.int 0))) aq)))) (aj (mC (.int 1)) aq))))))))))))
noncomputable def rR:List D->az->Res D:=bf 4 An
theorem Zt:Can Pr w K mg base "_law_item" ["_law_text","_law_at"] 1 (vSp K mg [.s,.s] (rV K) rR):=by
 have B:=G.B;refine cL (k:=0) (b:=An) G.D_law_item JF (λ_ _ _ _ _ _=>aR λ_=>aR λ_=>bA rfl) [.s,.s] [.v,.v] bz cG (body:=λf a A outer s H E zr P=>?_);have zn:=JF.nd
 symm
noncomputable def Ao:MS :=
  (au (aF 1 (bj aq))
  (au (aF 2 (mC (.int 0)))
  (au (qJ wF (aA (ak gLt (aa 2) (aM aU (aj (aa 0) aq)))) (au (qI (aG rR (aj (aa 0) (aj (aa 2) aq))) (fG 2 (bQ (mgN 3) (bQ (mgN 4) fQ))))
  (au (dW 1 (aa 3))
  (aF 2 (ak aC (aa 2) (aa 4))))))
  (aB (aa 1)))))
noncomputable def pU:List D->az->Res D:=bf 5 Ao
theorem Zu:Can Pr w K mg base "_law_items" ["_law_text"] 2 (vSp K mg [.s] (rO K) pU):=by
 have B:=G.B;have c:=Zt G;refine cL (k:=1) (b:=Ao) G.D_law_items JG (λ_ _ _ _ _ _=>aR λ_=>bA rfl) [.s] [.o,.v,.v,.v] eO mO (body:=λf a A outer s H E zr P=>?_);have zn:=JG.nd
 symm
noncomputable def u0:MS :=
  (au (aF 2 (mC (.str [97,98,99,100,101,102,103,104,105,106,107,108,109,110,111,112,113,114,115,116,117,118,119,120,121,122])))
  (au (aF 3 (oh (c7 (eV (aj (mC (.int 8)) aq)) 1 [0,2] (mgN 0) cO (ak gIx (aa 2) (ak aZ (aG b8 (aj (aa 1) (aj (ak aC (mC (.int 20)) (aa 0)) aq))) (mC (.int 26)))))))
  (au (aF 4 (c7 (eV (aj (aa 1) aq)) 1 [3] (mgN 0) cO (mSl (aa 1) moN (moS (ak gk (mC (.int 8)) (aa 0))))))
  (au (aK (aA (ak gGt (ak aZ (aG b8 (aj (aa 0) (aj (mC (.int 28)) aq))) (mC (.int 3))) (mC (.int 0)))) (au (aF 5 (ak aC (mC (.int 1)) (ak aZ (aG b8 (aj (aa 0) (aj (mC (.int 29)) aq))) (mC (.int 8)))))
  (au (aF 6 (ak aZ (aG b8 (aj (aa 0) (aj (mC (.int 30)) aq))) (aa 5)))
  (au (aF 7 (ak aZ (aG b8 (aj (aa 0) (aj (mC (.int 31)) aq))) (mC (.int 20))))
  (aF 4 (c7 (eV (aj (aa 1) aq)) 1 [2,3,5,6,7] (mgN 0) cO (ak aC (ak aC (mSl (aa 2) moN (moS (aa 4))) (ak gIx (aa 1) (ak aC (aa 5) (aa 0)))) (mSl (aa 2) (moS (ak aC (aa 4) (mC (.int 1)))) (moS (aa 3))))))))) aD)
  (au (aK (aA (ak gEq (ak aZ (aG b8 (aj (aa 0) (aj (mC (.int 32)) aq))) (mC (.int 2))) (mC (.int 0)))) (ue 4) aD)
  (aB (aa 4)))))))
noncomputable def Aq:List D->az->Res D:=bf 8 u0
theorem Zv:Can Pr w K mg base "_law_names" ["_law_cell_here","_law_many"] 2 (vSp K mg [.s,.s] (rO K) Aq):=by
 have B:=G.B;have c:=rQ G;refine cL (k:=1) (b:=u0) G.D_law_names uN (λ_ _ _ _ _ _=>aR λ_=>aR λ_=>bA rfl) [.s,.s] [.v,.v,.o,.v,.v,.v] eO mO (body:=λf a A outer s H E zr P=>?_);have zn:=uN.nd
 symm
 refine lR (aJ pC) ["_law_cell_here","_law_many","_law_letters","_law_base","_law_names_here","_law_size","_law_at","_law_first"] ["_law_k"] [0,2] rfl ?_ (λ_ _ _ _ P=>?_) (λ_ _ _ _ P=>?_) (λ_ _ _ _ P=>?_)
 symm
 refine Fx (i:=4) (aJ pC) ["_law_cell_here","_law_many","_law_letters","_law_base","_law_names_here","_law_size","_law_at","_law_first"] ["_law_k"] [3] uN.nd rfl (.inl rfl) rfl ?_ (λ_ _ _ _ P=>?_) (λ_ _ _ _ P=>?_) (λ_ _ _ _ P=>?_)
 symm
 refine Fx (i:=4) (aJ pC) ["_law_cell_here","_law_many","_law_letters","_law_base","_law_names_here","_law_size","_law_at","_law_first"] ["_law_k"] [2,3,5,6,7] uN.nd rfl (.inl rfl) rfl ?_ (λ_ _ _ _ P=>?_) (λ_ _ _ _ P=>?_) (λ_ _ _ _ P=>?_)
 symm
noncomputable def u5:MS :=
  (au (aF 1 (bj aq))
  (au (aF 2 (bj (aj (mC (.str [46])) (aj (mC (.str [46])) aq))))
  (au (aK (aA (ak (gIn false) (mC (.str [126])) (aa 0))) (aB (mG (mC .non))) aD)
  (au (bM (bG (aG pU (aj (aa 0) aq))) (fG 3 (bQ (mgN 3) (bQ (mgN 4) (bQ (mgN 5) fQ)))) (aK (aA (ak gEq (aa 4) (mC (.str [115,105,103,110])))) (dW 1 (aW (aj (aa 5) (aj (ak gIx (bj (aj (ak gIx (aa 2) (mC (.int 0))) (aj (mC (.str [46])) aq))) (aM gm (aj (ak gEq (aa 5) (mC (.str [32]))) aq))) (aj (ak gIx (aa 2) (mC (.int 1))) aq))))) (aK (aA (ak gEq (aa 4) (mC (.str [105,110,107])))) (iy 2 (mC (.int 0)) (aa 5)) (aK (aA (ak gEq (aa 4) (mC (.str [103,114,111,117,110,100])))) (iy 2 (mC (.int 1)) (aa 5)) (aK (aA (ak gEq (aa 4) (mC (.str [112,108,97,105,110])))) (aF 2 (bj (aj (mC (.str [46])) (aj (mC (.str [46])) aq)))) (aB (mG (mC .non))))))))
  (au (aK (aA (ak gNe (aa 2) (bj (aj (mC (.str [46])) (aj (mC (.str [46])) aq))))) (aB (mG (mC .non))) aD)
  (aB (aa 1)))))))
noncomputable def m9:List D->az->Res D:=bf 6 u5
theorem JT:Can Pr w K mg base "_law_shown" ["_law_body_here"] 3 (vSp K mg [.s] (rO K) m9):=by
 have B:=G.B;have c:=Zu G;refine cL (k:=2) (b:=u5) G.D_law_shown JH (λ_ _ _ _ _ _=>aR λ_=>bA rfl) [.s] [.o,.o,.v,.v,.v] eO mO (body:=λf a A outer s H E zr P=>?_);have zn:=JH.nd
 symm
noncomputable def u6:MS :=
  (au (aF 1 (oh (c7 (bG (mSl (aa 0) (moS (mC (.int 1))) moN)) 1 [] (mgN 0) cO (aG ju (aj (aa 0) aq)))))
  (au (aF 1 (jo [9] [] (jo [10] [] (aa 1))))
  (au (aK (cZ (aA (d9 (aG m9 (aj (aa 1) aq)))) (cZ (aA (ak gEq (mSl (aa 1) (moS (mUn tU (mC (.int 1)))) moN) (mC (.str [91])))) (aA (ak gEq (ak aZ (aG b8 (aj (ak gIx (aa 0) (mC (.int 0))) (aj (mC (.int 2)) aq))) (mC (.int 3))) (mC (.int 1)))))) (aF 1 (ak aC (aa 1) (ak gIx (bj (aj (mC (.str [91,46,93,91,47,46,93])) (aj (mC (.str [32,91,93])) (aj (mC (.str [91,93,91,97,93,91,93])) aq)))) (ak aZ (aG b8 (aj (ak gIx (aa 0) (mC (.int 0))) (aj (mC (.int 3)) aq))) (mC (.int 3)))))) aD)
  (au (aK (aA (d9 (aG m9 (aj (aa 1) aq)))) (aB (mC (.str [120,91,93]))) aD)
  (aB (aa 1))))))
noncomputable def u9:List D->az->Res D:=bf 2 u6
theorem Zw:Can Pr w K mg base "_law_body" ["_law_cells"] 4 (vSp K mg [.s] (rV K) u9):=by
 have B:=G.B;have d:=Zr G;have c:=JT G;have a:=rQ G;refine cL (k:=3) (b:=u6) G.D_law_body uO (λ_ _ _ _ _ _=>aR λ_=>bA rfl) [.s] [.v] bz cG (body:=λf g A outer s H E zr P=>?_);refine X4 ?_ (oN.n (W5 Hw)) (X3 (i:=1) uO.nd rfl (.inl rfl) (xT [9] [] (xT [10] [] (HR (cQ 1))))) ?_;refine qH (i:=1) uO.nd rfl (.inl rfl) ?_;refine fC ?_;refine Gv ?_;refine cT ?_;refine lR (aJ uK) ["_law_cells","_law_body_here"] ["_law_one"] [] rfl ?_ (λ_ _ _ _ P=>?_) (λ_ _ _ _ P=>?_) (λ_ _ _ _ P=>?_);refine Gz ?_;refine cT ?_;refine jN (cJ 0) (jM cM) jL;exact Fp (i:=0) (show(bK ["_law_cells","_law_body_here"] ["_law_one"] []).Nodup by decide +kernel) rfl (.inl rfl)
 exact Fv
 refine lY d (zr.mono (by decide)) ?_;refine dF (aY (cQ 0)) di;refine gU ?_ ?_;refine jH ?_ ?_ jG;refine wQ ?_;refine qG ?_ ?_;refine wN ?_;refine cT ?_;refine xA c (zr.mono (by decide)) ?_;refine dF (aY (cQ 1)) di;refine qG ?_ ?_;refine gR (lU zr) ?_ (aY (dU [91])) (fB _);refine cT ?_;refine jN (aY (cQ 1)) ?_ jL;refine jM ?_;refine fC ?_;refine FP (aY cM);refine wO ?_;refine gR (lU zr) ?_ (aY cM) (fB _);refine cT ?_;refine cU n6 ?_ (aY cM);refine aY ?_;refine lY a (zr.mono (by decide)) ?_;refine dF ?_ ?_;refine aY ?_;refine km (cJ 0) (aY cM)
 refine dF (aY cM) di;refine gh ?_;refine qH (i:=1) uO.nd rfl (.inl rfl) ?_;refine fC ?_;refine cU gj (aY (cQ 1)) ?_;refine aY ?_;refine km ?_ ?_;refine cT ?_;refine nU 3 ?_;refine cN (dU [91,46,93,91,47,46,93]) ?_;refine cN (dU [32,91,93]) ?_;refine cN (dU [91,93,91,97,93,91,93]) di;refine cT ?_;refine cU n6 ?_ (aY cM);refine aY ?_;refine lY a (zr.mono (by decide)) ?_;refine dF ?_ ?_;refine aY ?_;refine km (cJ 0) (aY cM);refine dF (aY cM) di;refine gU ?_ ?_;refine jH ?_ ?_ jG;refine wN ?_;refine cT ?_;refine xA c (zr.mono (by decide)) ?_;refine dF (aY (cQ 1)) di
 refine gh (gW (dU [120,91,93]));refine gh (gW (cQ 1))
noncomputable def vd:MS :=
  (au (aF 3 (ak aZ (aG b8 (aj (aa 1) (aj (aa 2) aq))) (ak aC (aM aU (aj (aa 0) aq)) (mC (.int 1)))))
  (au (aF 4 (ak aZ (aG b8 (aj (aa 1) (aj (ak aC (aa 2) (mC (.int 1))) aq))) (mC (.int 12))))
  (au (aK (aA (ak gLt (aa 4) (mC (.int 4)))) (aB (ak gIx (bj (aj (mSl (aa 0) moN (moS (aa 3))) (aj (ak aC (mC (.str [48])) (aa 0)) (aj (ak aC (mC (.str [32])) (aa 0)) (aj (mSl (aa 0) (moS (mC (.int 1))) moN) aq))))) (aa 4))) aD)
  (au (aK (aA (ak gLt (aa 4) (mC (.int 8)))) (aB (ak aC (ak aC (mSl (aa 0) moN (moS (aa 3))) (ak gIx (bj (aj (mC (.str [126])) (aj (mC (.str [10])) (aj (mC (.str [9])) (aj (mC (.str [32])) aq))))) (ak gk (aa 4) (mC (.int 4))))) (mSl (aa 0) (moS (aa 3)) moN))) aD)
  (au (aK (aA (ak gEq (aa 4) (mC (.int 8)))) (aB (ak aC (aa 0) (mC (.str [91,47,99,93])))) aD)
  (au (aK (aA (ak gEq (aa 4) (mC (.int 9)))) (aB (ak gIx (bj (aj (mC .non) (aj (mC (.int 5)) (aj (bj (aj (mG (aa 0)) aq)) (aj (aW (aj (mG (aa 0)) aq)) (aj (mC (.bl true)) (aj (mC (.str [])) aq))))))) (ak aZ (aG b8 (aj (aa 1) (aj (ak aC (aa 2) (mC (.int 2))) aq))) (mC (.int 6))))) aD)
  (au (aK (aA (ak gEq (aa 4) (mC (.int 10)))) (aB (ux [62] [58] (jo [124] [62] (mG (aa 0))))) aD)
  (aB (ak aC (ak aC (mSl (aa 0) moN (moS (aa 3))) (mC (.str [107]))) (mSl (aa 0) (moS (ak aC (aa 3) (mC (.int 1)))) moN))))))))))
noncomputable def rT:List D->az->Res D:=bf 5 vd
theorem Zy:Can Pr w K mg base "_law_spoilt" ["_law_row","_law_cell_here","_law_k"] 2 (vSp K mg [.s,.s,.s] (rV K) rT):=by
 have B:=G.B;have a:=rQ G;refine cL (k:=1) (b:=vd) G.D_law_spoilt Ac (λ_ _ _ _ _ _=>aR λ_=>aR λ_=>aR λ_=>bA rfl) [.s,.s,.s] [.v,.v] bz cG (body:=λf c A outer s H E zr P=>?_);refine gU ?_ ?_;refine qH (i:=3) Ac.nd rfl (.inl rfl) ?_;refine fC ?_;refine cU n6 ?_ ?_;refine aY ?_;refine lY a (zr.mono (by decide)) ?_;refine dF (cJ 1) ?_;refine dF (cJ 2) di;refine cT ?_;refine cU gj ?_ (aY cM);refine cT ?_;refine tV (ms:=[.s]) (hv:=Gh) Gg B.len_ ?_;refine dF (cJ 0) di;refine gU ?_ ?_;refine qH (i:=4) Ac.nd rfl (.inl rfl) ?_;refine fC ?_;refine cU n6 ?_ (aY cM)
 refine aY ?_;refine lY a (zr.mono (by decide)) ?_;refine dF (cJ 1) ?_;refine dF ?_ di;refine cT ?_;refine cU gj (cJ 2) (aY cM);refine gU ?_ ?_;refine jH ?_ ?_ jG;refine gR wX (aY (cQ 4)) (aY cM) (fB _);refine gh ?_;refine gW ?_;refine km ?_ (aY (cQ 4));refine cT ?_;refine nU 4 ?_;refine cN ?_ ?_;refine fC ?_;refine jN (cJ 0) jL (jM (cQ 3));refine cN ?_ ?_;refine fC ?_;refine cU gj (aY (dU [48])) (cJ 0);refine cN ?_ ?_;refine fC ?_;refine cU gj (aY (dU [32])) (cJ 0);refine cN ?_ di;refine fC ?_;refine jN (cJ 0) (jM cM) jL;refine gU ?_ ?_
 refine jH ?_ ?_ jG;refine gR wX (aY (cQ 4)) (aY cM) (fB _);refine gh ?_;refine gW ?_;refine fC ?_;refine cU gj ?_ ?_;refine cT ?_;refine cU gj ?_ ?_;refine cT ?_;refine jN (cJ 0) jL (jM (cQ 3));refine aY ?_;refine km ?_ ?_;refine cT ?_;refine nU 4 ?_;refine cN (dU [126]) ?_;refine cN (dU [10]) ?_;refine cN (dU [9]) ?_;refine cN (dU [32]) di;refine cT ?_;refine cU FN (aY (cQ 4)) (aY cM);refine cT ?_;refine jN (cJ 0) (jM (cQ 3)) jL;refine gU ?_ ?_;refine jH ?_ ?_ jG;refine gR (lU zr) (aY (cQ 4)) (aY cM) (fB _);refine gh ?_;refine gW ?_
 refine fC ?_;refine cU gj (cJ 0) (aY (dU [91,47,99,93]));refine gU ?_ ?_;refine jH ?_ ?_ jG;refine gR (lU zr) (aY (cQ 4)) (aY cM) (fB _);refine gh ?_;refine gW ?_;refine km ?_ ?_;refine cT ?_;refine nU 6 ?_;refine cN wK ?_;refine cN cM ?_;refine cN ?_ ?_;refine fC ?_;refine nU 1 ?_;refine cN (nT (cJ 0)) di;refine cN ?_ ?_;refine qC 1 ?_;refine cN (nT (cJ 0)) di;refine cN Fb ?_;refine cN (dU []) di;refine cT ?_;refine cU n6 ?_ (aY cM);refine aY ?_;refine lY a (zr.mono (by decide)) ?_;refine dF (cJ 1) ?_;refine dF ?_ di;refine cT ?_;refine cU gj (cJ 2) (aY cM)
 refine gU ?_ ?_;refine XX bz ?_ (XC rfl) (XS [62] [58] (xT [124] [62] (HR (nT (cJ 0)))));refine gR (lU zr) (aY (cQ 4)) (aY cM) (fB _);refine gh ?_;refine gW ?_;refine fC ?_;refine cU gj ?_ ?_;refine cT ?_;refine cU gj ?_ (aY (dU [107]));refine cT ?_;refine jN (cJ 0) jL (jM (cQ 3));refine cT ?_;refine jN (cJ 0) ?_ jL;refine jM ?_;refine fC ?_;refine cU gj (aY (cQ 3)) (aY cM)
noncomputable def pW:MS :=
  (au (aK (fD (cz (eU "str" (aa 0)))) (aB (mC .non)) aD)
  (au (aF 4 (aM lg (aj (c7 (bG (aa 2)) 1 [] (mgN 0) cO (aM aU (aj (aa 0) aq))) aq)))
  (au (bM (bG (aa 2)) (mgN 5) (au (aF 6 (ak aC (ak aC (ak gIx (bj (aj (ak aC (aM iz (aj (aa 1) aq)) (mC (.str [32]))) (aj (mC (.str [])) aq))) (aM gm (aj (jF (mG (aa 3))) aq))) (aa 5)) (ak cV (mC (.str [32])) (ak gk (aa 4) (aM aU (aj (aa 5) aq))))))
  (aK (dG (aA (ak gEq (mSl (aa 0) moN (moS (aM aU (aj (aa 6) aq)))) (aa 6))) (aA (ak (gIn false) (mSl (aa 0) (moS (aM aU (aj (aa 6) aq))) (moS (ak aC (aM aU (aj (aa 6) aq)) (mC (.int 1))))) (aW (aj (mC (.str [124])) (aj (mC (.str [62])) aq)))))) (au (aF 7 (aG m9 (aj (mSl (aa 0) (moS (ak aC (aM aU (aj (aa 6) aq)) (mC (.int 1)))) moN) aq)))
  (au (aK (aA (d9 (aa 7))) (aB (mC .non)) aD)
  (aB (aW (aj (aa 5) (aj (aa 7) (aj (ak t8 (qL (kO (mC (.str [124])) (mC (.str [119,104,111,108,101])) (kO (mC (.str [62])) (mC (.str [109,111,114,101])) qK))) (ak gIx (aa 0) (aM aU (aj (aa 6) aq)))) aq))))))) aD)))
  (aB (mC .non)))))
noncomputable def ni:List D->az->Res D:=bf 8 pW
theorem Zz:Can Pr w K mg base "_law_read" ["_law_row","_law_number","_law_names_here","_law_numbered"] 4 (vSp K mg [.s,.s,.s,.s] (rV K) ni):=by
 have B:=G.B;have c:=JT G;refine cL (k:=3) (b:=pW) G.D_law_read JK (λ_ _ _ _ _ _=>aR λ_=>aR λ_=>aR λ_=>aR λ_=>bA rfl) [.s,.s,.s,.s] [.v,.v,.v,.v] bz cG (body:=λf a A outer s H E zr P=>?_);have zn:=JK.nd
 symm
 refine lR (aJ uL) ["_law_row","_law_number","_law_names_here","_law_numbered","_law_wide","_law_name","_law_head","_law_seen"] ["_law_name"] [] rfl ?_ (λ_ _ _ _ P=>?_) (λ_ _ _ _ P=>?_) (λ_ _ _ _ P=>?_)
 symm
noncomputable def rY:MS :=
  (au (aF 3 (qX (aj (c7 (bG (aa 0)) 1 [] (mgN 0) cO (aW (aj (aa 0) (aj (mMl (bj aq)) aq)))) aq)))
  (au (bM (eV (aj (aM aU (aj (aa 1) aq)) aq)) (mgN 4) (au (aF 5 (aG ni (aj (ak gIx (aa 1) (aa 4)) (aj (ak aC (aa 4) (mC (.int 1))) (aj (aa 0) (aj (aa 2) aq))))))
  (au (aK (aA (d9 (aa 5))) (aB (aW (aj (mC (.str [114,111,108,108])) (aj (aa 4) aq)))) aD)
  (kY (mj (aa 3) (ak gIx (aa 5) (mC (.int 0)))) (mSl (aa 5) (moS (mC (.int 1))) moN)))))
  (aB (aW (aj (mC (.str [116,111,108,100])) (aj (aa 3) aq))))))
noncomputable def gJ:List D->az->Res D:=bf 6 rY
theorem ZC:Can Pr w K mg base "_law_due" ["_law_names_here","_law_rows","_law_numbered"] 5 (vSp K mg [.s,.s,.s] (rV K) gJ):=by
 have B:=G.B;have c:=Zz G;refine cL (k:=4) (b:=rY) G.D_law_due JL (λ_ _ _ _ _ _=>aR λ_=>aR λ_=>aR λ_=>bA rfl) [.s,.s,.s] [.v,.v,.v] bz cG (body:=λf a A outer s H E zr P=>?_);have zn:=JL.nd
 symm
 refine lR (aJ uM) ["_law_names_here","_law_rows","_law_numbered","_law_due_here","_law_k","_law_told"] ["_law_name"] [] rfl ?_ (λ_ _ _ _ P=>?_) (λ_ _ _ _ P=>?_) (λ_ _ _ _ P=>?_)
 symm
noncomputable def pX:MS :=
  (au (aF 3 (mC .non))
  (au (mK 3 (fW rP (aj (aa 0) (aj (aa 1) (aj (aa 2) aq)))) ((["NoRoll"],[],4,(au (aK (cz (fX [("NoRoll",false)] (aa 4))) (aB (aW (aj (mC (.str [111,116,104,101,114])) (aj (mC (.int 0)) aq)))) aD)
  (au (aK (cZ (fD (cz (fX [("NoRoll",true)] (aa 4)))) (cZ (fD (cz (fX [("NoRoll",true)] (aa 4)))) (cz (eU "bool" (mH "at" ["NoRoll"] (aa 4)))))) (aB (aW (aj (mC (.str [111,116,104,101,114])) (aj (mC (.int 0)) aq)))) aD)
  (aB (aW (aj (mC (.str [114,111,108,108])) (aj (mH "at" ["NoRoll"] (aa 4)) aq))))))) :: []))
  (aB (aW (aj (mC (.str [116,111,108,100])) (aj (aa 3) aq))))))
noncomputable def gK:List D->az->Res D:=bf 5 pX
theorem ZD:Can Pr w K mg base "_law_asked" ["_law_names_here","_law_rows","_law_numbered"] 10 (vSp K mg [.s,.s,.s] (rV K) gK):=by
 have B:=G.B;have EX_OutError_NoRoll:=G.EX_OutError_NoRoll;have IT_ClosedNoCellNoHandNoNameNoRoomNoRowNoSignNoSizeTwice_NoRoll:=G.IT_ClosedNoCellNoHandNoNameNoRoomNoRowNoSignNoSizeTwice_NoRoll;have XA_at_NoRoll:=G.XA_at_NoRoll;have IS_NoRoll_NoRoll:=G.IS_NoRoll_NoRoll;have VN:=G.VN;have IV_NoRoll:=G.IV_NoRoll;have a:=Zn G;refine cL (k:=9) (b:=pX) G.D_law_asked Ad (λ_ _ _ _ _ _=>aR λ_=>aR λ_=>aR λ_=>bA rfl) [.s,.s,.s] [.v,.v] bz cG (body:=λf c A outer s H E zr P=>?_);have zn:=Ad.nd
 symm
 refine Xl (i:=3) (Ho bz a (zr.mono (by decide)) (λE=>(dF (cJ 0) (dF (cJ 1) (dF (cJ 2) di))))) (WR (ys:=["NoRoll"]) (ns:=[]) (i:=4) (um EX_OutError_NoRoll qU) qU (λd=>(gU (jH (qF (aY (W3 (ns:=["Closed","NoCell","NoHand","NoName","NoRoom","NoRow","NoSign","NoSize","Twice"]) (tb:=[("NoRoll",false)]) B.isinstance_ IT_ClosedNoCellNoHandNoNameNoRoomNoRowNoSignNoSizeTwice_NoRoll.nm (jP (jP (jP (jP (jP (jP (jP (jP (jP V3))))))))) (cQ 4) (xP IT_ClosedNoCellNoHandNoNameNoRoomNoRowNoSignNoSizeTwice_NoRoll xO)))) (gh (gW (qC 2 (cN (dU [111,116,104,101,114]) (cN cM di))))) jG) (gU (jH (wQ (qG (wR (qF (aY (W0 (tb:=[("NoRoll",true)]) B.isinstance_ IS_NoRoll_NoRoll.nm (cQ 4) (xP IS_NoRoll_NoRoll xO))))) (qG (wR (qF (aY (W2 (tb:=[("NoRoll",true)]) B.isinstance_ VN (cQ 4) (xP (ISV.tb IV_NoRoll) xO))))) (wO (qF (cT (Gj "bool" (hb:=Ui) B.isinstance_ B.bool_ (aY (Hu (L:=["NoRoll"]) (cQ 4) (um XA_at_NoRoll qU)))))))))) (gh (gW (qC 2 (cN (dU [111,116,104,101,114]) (cN cM di))))) jG) (gh (gW (qC 2 (cN (dU [114,111,108,108]) (cN (Hu (L:=["NoRoll"]) (cQ 4) (um XA_at_NoRoll qU)) di)))))))) WQ) Ad.nd
 symm
noncomputable def vf:MS :=
  (au (aF 1 (aG uY (aj (aa 0) (aj (mC (.int 0)) aq))))
  (au (aF 2 (aG Aq (aj (aa 1) (aj (ak aC (mC (.int 1)) (ak aZ (aG b8 (aj (aa 1) (aj (mC (.int 33)) aq))) (mC (.int 4)))) aq))))
  (au (aF 3 (ak gEq (ak aZ (aG b8 (aj (aa 1) (aj (mC (.int 35)) aq))) (mC (.int 2))) (mC (.int 0))))
  (au (aF 4 (aM lg (aj (c7 (bG (aa 2)) 1 [] (mgN 0) cO (aM aU (aj (aa 0) aq))) aq)))
  (au (aF 5 (bj aq))
  (au (bM (uq (aj (mC (.int 1)) (aj (aM tW (aj (aM aU (aj (aa 0) aq)) (aj (mC (.int 49)) aq))) (aj (mC (.int 4)) aq)))) (mgN 6) (au (aF 7 (mSl (aa 0) (moS (aa 6)) (moS (ak aC (aa 6) (mC (.int 4))))))
  (au (aF 8 (ak gIx (aa 2) (ak aZ (aG b8 (aj (ak gIx (aa 7) (mC (.int 0))) (aj (mC (.int 0)) aq))) (aM aU (aj (aa 2) aq)))))
  (au (aF 9 (ak aC (ak aC (ak aC (aa 8) (ak cV (mC (.str [32])) (ak gk (aa 4) (aM aU (aj (aa 8) aq))))) (ak gIx (mC (.str [124,62,124])) (ak aZ (aG b8 (aj (ak gIx (aa 7) (mC (.int 0))) (aj (mC (.int 1)) aq))) (mC (.int 3))))) (aG u9 (aj (aa 7) aq))))
  (dW 5 (ak gIx (bj (aj (aa 9) (aj (ak aC (ak aC (aM iz (aj (ak aC (aM aU (aj (aa 5) aq)) (mC (.int 1))) aq)) (mC (.str [32]))) (aa 9)) aq))) (aM gm (aj (aa 3) aq))))))))
  (au (aK (aA (gG true 6 (aG gK (aj (aa 2) (aj (aM gZ (aj (aa 5) aq)) (aj (aa 3) aq)))) (aG gJ (aj (aa 2) (aj (aa 5) (aj (aa 3) aq)))))) (aB (mC (.bl false))) aD)
  (au (bM (bG (bj (aj (mSl (aa 5) (moS (mC (.int 1))) moN) (aj (ak aC (aa 5) (mSl (aa 5) moN (moS (mC (.int 1))))) (aj (GQ (aa 5) (mUn tU (mC (.int 1)))) aq))))) (mgN 10) (aK (aA (gG true 6 (aG gK (aj (aa 2) (aj (aM gZ (aj (aa 10) aq)) (aj (aa 3) aq)))) (aG gJ (aj (aa 2) (aj (aa 10) (aj (aa 3) aq)))))) (aB (mC (.bl false))) aD))
  (au (aF 11 (aM gZ (aj (aa 5) aq)))
  (au (bM (eV (aj (ak cV (aM gm (aj (ak gNe (aa 5) (bj aq)) aq)) (ak aC (mC (.int 1)) (ak aZ (aG b8 (aj (aa 1) (aj (mC (.int 0)) aq))) (mC (.int 2))))) aq)) (mgN 12) (au (aF 6 (ak aZ (aG b8 (aj (aa 1) (aj (ak aC (mC (.int 1)) (aa 12)) aq))) (aM aU (aj (aa 5) aq))))
  (iy 11 (aa 6) (aG rT (aj (ak gIx (aa 5) (aa 6)) (aj (aa 1) (aj (ak aC (mC (.int 3)) (ak cV (mC (.int 3)) (aa 12))) aq)))))))
  (au (aF 13 (aM gZ (aj (aa 11) aq)))
  (au (aK (cZ (aA (gG true 6 (aG gK (aj (aa 2) (aj (aa 13) (aj (aa 3) aq)))) (aG gJ (aj (aa 2) (aj (aa 11) (aj (aa 3) aq)))))) (aA (ak gNe (aa 13) (aa 11)))) (aB (mC (.bl false))) aD)
  (aB (gG false 6 (aG gK (aj (aa 2) (aj (aM gZ (aj (aa 5) aq)) (aj (jF (aa 3)) aq)))) (aG gJ (aj (aa 2) (aj (aa 5) (aj (jF (aa 3)) aq))))))))))))))))))
noncomputable def JV:List D->az->Res D:=bf 14 vf
theorem ZG:Can Pr w K mg base "law" ["_law_script"] 11 (vSp K mg [.s] (rV K) JV):=by
 have B:=G.B;have g:=Zo G;have i:=Zv G;have l:=rQ G;have d:=Zw G;have h:=ZD G;have c:=ZC G;have j:=Zy G;refine cL (k:=10) (b:=vf) G.D_law JM (λ_ _ _ _ _ _=>aR λ_=>bA rfl) [.s] [.v,.v,.v,.v,.o,.v,.v,.v,.v,.v,.o,.v,.v] bz cG (body:=λf a A outer s H E zr P=>?_);have zn:=JM.nd
 symm
 refine lR (aJ iH) ["_law_script","_law_cell_here","_law_names_here","_law_numbered","_law_wide","_law_rows","_law_at","_law_cells","_law_name","_law_row","_law_some","_law_bad","_law_k","_law_handed"] ["_law_name"] [] rfl ?_ (λ_ _ _ _ P=>?_) (λ_ _ _ _ P=>?_) (λ_ _ _ _ P=>?_)
 symm
end
structure Okt(t:List Nat):Prop where
 len:t.length<=5000
 ok:∀c∈t,(32<=c/\c<=125)\/c=10\/c=9
theorem Okt.lt  (h:Okt t):∀c∈t,c<128:=λc a=>by
 have:=h.ok c a
 omega
theorem Okt.asc  (h:Okt t):ascii t=true:=by
 unfold ascii;rw[jh];intro c a;exact zF (h.lt c a)
@[simp] theorem QBJ :gIx (.str [a]) (.int 0)=some (.str [a]):=rfl
@[simp] theorem QBO :gIx (.str [a,b]) (.int 0)=some (.str [a]):=rfl
@[simp] theorem QBI :gIx (.str [a,b]) (.int 1)=some (.str [b]):=rfl
@[simp] theorem QBT :gIx (.str [a,b,c]) (.int 0)=some (.str [a]):=rfl
@[simp] theorem QBk :gIx (.str [a,b,c]) (.int 1)=some (.str [b]):=rfl
@[simp] theorem QBF :gIx (.str [a,b,c]) (.int 2)=some (.str [c]):=rfl
@[simp] theorem QBw :gIx (.str [a,b,c,d]) (.int 0)=some (.str [a]):=rfl
@[simp] theorem QBu :gIx (.str [a,b,c,d]) (.int 1)=some (.str [b]):=rfl
@[simp] theorem QBm :gIx (.str [a,b,c,d]) (.int 2)=some (.str [c]):=rfl
@[simp] theorem QBn :gIx (.str [a,b,c,d]) (.int 3)=some (.str [d]):=rfl
@[simp] theorem ZJ :gIx (.tup [a,b]) (.int 0)=some a:=rfl
@[simp] theorem ZK :gIx (.tup [a,b]) (.int 1)=some b:=rfl
@[simp] theorem QBQ :gIx (.tup [a,b,c]) (.int 0)=some a:=rfl
@[simp] theorem QBp :gIx (.tup [a,b,c]) (.int 1)=some b:=rfl
@[simp] theorem JW :gIx (.tup [a,b,c]) (.int 2)=some c:=rfl
theorem vg(c:Nat)(O:az):mW [.str [c]] O=.ok (.bl (col c)) O:=by
 simp[mW,Af,col]
theorem vh(c:Nat)(O:az):pD [.str [c]] O=.ok (.bl (decide (32<=c/\c<=125))) O:=by
 simp[pD,Ae]
 by_cases h:32<=c<;>simp[h]
theorem ZL   {i:Nat}(h:(bV 0 (bR t))[i]?=some d):∃c,c∈t/\d=.tup [.int i,.str [c]]:=by
 rw[tZ] at h;unfold bR at h;rw[zP] at h
 cases q:t[i]? with
 |none=>rw[q] at h;cases h
 |some c =>
  rw[q] at h;simp at h;exact⟨c,zT q,h.symm⟩
noncomputable def mkD:Option (List Nat×List Nat)->D
 |some (k,v)=>.tup [.str k,.str v]
 |none=>.non
theorem ZM(s:List Nat)(h0:1<=s.length)(h4:s.length<=4)(O:az):mY [.str s] O=.ok (mkD (markB s)) O:=by
 match s,h0,h4 with
 | [a],_,_=>simp[mY,pG,markB,mkD]
 | [a,b],_,_ =>
  simp[mY,pG,markB]
  by_cases h1:a=91/\b=93
  ·simp[h1,mkD,jY]
  ·by_cases h2:a=91/\b=91
   ·simp[h2,mkD,bw]
   ·simp[h1,h2,mkD]
 | [a,b,c],_,_ =>
  simp[mY,pG,markB,vg]
  by_cases h1:a=91
  ·by_cases h2:col b=true
   ·by_cases h3:c=93
    ·simp[h1,h2,h3,mkD,eX]
    ·simp[h1,h2,h3,mkD]
   ·simp[h1,h2,mkD]
  ·simp[h1,mkD]
 | [a,b,c,d],_,_ =>
  simp[mY,pG,markB,vg]
  by_cases h1:a=91
  ·by_cases f:b=47
   ·by_cases h2:col c=true
    ·by_cases h3:d=93
     ·simp[h1,h2,h3,f,mkD,fY]
     ·simp[h1,h2,h3,f,mkD]
    ·simp[h1,h2,f,mkD]
   ·simp[h1,f,mkD]
  ·simp[h1,mkD]
theorem ZP(s:List Nat)(h0:1<=s.length)(h4:s.length<=4)(O:az):mZ [.str s] O=.ok (.bl (cX s)) O:=by
 match s,h0,h4 with
 | [a],_,_ =>
  simp[mZ,pH,cX]
  by_cases h1:a=91<;>simp[h1]
 | [a,b],_,_ =>
  simp[mZ,pH,cX,vg]
  by_cases h1:a=91
  ·by_cases h2:b=47<;>simp[h1,h2]
  ·simp[h1]
 | [a,b,c],_,_ =>
  simp[mZ,pH,cX,vg]
  by_cases h1:a=91
  ·by_cases h2:b=47<;>simp[h1,h2]
  ·simp[h1]
 | [a,b,c,d],_,_ =>
  simp[mZ,pH,cX]
theorem ZQ(p:Int)(c:Nat)(O:az):rM [.int p,.str [c]] O=.ok (own p c) O:=by
 simp[rM,Ag,own,item]
 by_cases h1:c=10
 ·simp[h1,dq]
 ·by_cases h2:c=9
  ·simp[h1,h2,du]
  ·simp[h1,h2,bw]
theorem JX(p:Int):∀(l:List Nat) (k:Nat),(bV k (bR l)).map (λd=>match d with | .tup [.int i,.str [c]]=>own (p+i) c | _=>.non)=dw (p+k) l
 | [],k=>rfl
 |c::l,k=>by
  show own (p+(k:Int)) c::(bV (k+1) (bR l)).map _=own (p+k) c::dw (p+k+1) l;rw[JX p l (k+1)];congr 2;omega
theorem Av(p:Int)(l:List Nat)(g:ascii l=true)(j:l.length<=100000)(O:az):pI [.int p,.str l] O=.ok (.lst (dw p l)) O:=by
 have hl':(bV 0 (bR l)).length<=1000000:=by rw[tY];unfold bR;rw[zx];omega
 have h:dH (fG 2 (bQ (mgN 0) (bQ (mgN 1) fQ))) cO (aG rM (aj (ak aC (aa 2) (aa 0)) (aj (aa 1) aq))) (bV 0 (bR l)) [none,none,some (.int p)] O []=.ok (dw p l) O:=by
  rw[Ik (λρ=>∃a b,ρ=[a,b,some (.int p)]) (λd=>match d with | .tup [.int i,.str [c]]=>own (p+i) c | _=>.non) _ _ _ _ ⟨none,none,rfl⟩ (by
   rintro d hd ρ ⟨a,b,rfl⟩;obtain⟨i,f⟩:=List.mem_iff_getElem?.mp hd;obtain⟨c,m,rfl⟩:=ZL f;refine⟨_,rfl,⟨_,_,rfl⟩,rfl,?_⟩
   simp[ZQ])]
  rw[JX p l 0];simp
 simp[pI,Ah,Iw g,hl',h]
noncomputable def RO(h:List Nat)(p:Int):Ob:=.ins "Reader" [("held",.str h),("place",.int p)]
theorem fh     (e:O[n]?=some (RO h p)):rG ["Reader"] "held" (.ob n) O=.ok (.str h) O:=by
 unfold rG;dsimp only;rw[e];rfl
theorem fp     (e:O[n]?=some (RO h p)):rG ["Reader"] "place" (.ob n) O=.ok (.int p) O:=by
 unfold rG;dsimp only;rw[e];rfl
theorem ph      (e:O[n]?=some (RO h p)):puF ["Reader"] "held" (.str h') ρ (.ok (.ob n) O)=.nx ρ (O.set n (RO h' p)):=by
 unfold puF;dsimp only;rw[e];rfl
theorem pp      (e:O[n]?=some (RO h p)):puF ["Reader"] "place" (.int p') ρ (.ok (.ob n) O)=.nx ρ (O.set n (RO h p')):=by
 unfold puF;dsimp only;rw[e];rfl
theorem gs{O:az}   (e:O[n]?=some x):(O.set n y)[n]?=some y:=by
 obtain⟨h,_⟩:=zk.mp e;simp[h]
theorem Aw  (H:Held h):ascii h=true:=by
 cases H with
 |h0=>rfl
 |h1=>rfl
 |h2=>rfl
 |h3 x hx =>
  have:x∈[97,98,99,100,101,102,103,104,46]:=jc hx
  have q:∀c∈[97,98,99,100,101,102,103,104,46],c<128:=by decide
  simp[ascii,q x this]
 |h4 x hx =>
  have:x∈[97,98,99,100,101,102,103,104,46]:=jc hx
  have q:∀c∈[97,98,99,100,101,102,103,104,46],c<128:=by decide
  simp[ascii,q x this]
theorem ZR   (h:ascii a=true)(b:c<128):ascii (a++[c])=true:=by
 unfold ascii at *;rw[List.all_append,h];simp[b]
theorem ZV     (e:O[n]?=some (RO h p))(H:Held h)(c:Nat)(l:c<128):lC [.ob n,.str [c]] O=.ok (.lst (tk h c (p - h.length)).1) (O.set n (RO (tk h c (p - h.length)).2 (p+1))):=by
 have u:=H.len;have a:(O.set n (RO h (p+1)))[n]?=some (RO h (p+1)):=gs e
 have j:h.length+1<=1000000:=by omega
 have i:h.length<=1000000:=by omega
 have d:1<=(h++[c]).length:=by simp
 have b:(h++[c]).length<=4:=by simp;omega
 have t:=ZP (h++[c]) d b;have r:=ZM (h++[c]) d b
 have q:=λO=>Av (p - h.length) h (Aw H) (by omega) O
 have m:=λO=>Av (p - h.length) (h++[c]) (ZR (Aw H) l) (by omega) O
 unfold tk;simp[lC,Aj,fh e,fp e,pp e,j,i,t]
 by_cases g:cX (h++[c])=true
 ·simp[g,ph a]
 ·simp[g,r]
  cases q2:markB (h++[c]) with
  |some kv =>
   obtain⟨k,v⟩:=kv;simp[mkD,ph a,item]
  |none =>
   simp[mkD]
   by_cases f:c=91
   ·subst f;simp[fh a,q,ph a]
   ·simp[f,ph a,m]
noncomputable def bC:MS:=(au (ie (fD (cZ (cz (aG pD (aj (aa 2) aq))) (cZ (aA (ak gEq (aa 2) (mC (.str [10])))) (aA (ak gEq (aa 2) (mC (.str [9]))))))) (au (jR "NoSign" "at" (aa 1))
  aD) aD)
  aD)
noncomputable def gC:MG:=fG 2 (bQ (mgN 1) (bQ (mgN 2) fQ))
noncomputable def okc(c:Nat):Prop:=(32<=c/\c<=125)\/c=10\/c=9
theorem JZ(c:Nat)(d a:Option D)(O:az):∃b,(b=true↔okc c)/\(cZ (cz (aG pD (aj (aa 2) aq))) (cZ (aA (ak gEq (aa 2) (mC (.str [10])))) (aA (ak gEq (aa 2) (mC (.str [9])))))) [d,a,some (.str [c])] O=.ok b O:=by
 unfold okc
 by_cases h:32<=c/\c<=125
 ·exact⟨true,by simp[h],by simp[vh,h]⟩
 ·by_cases h1:c=10
  ·exact⟨true,by simp[h1],by simp[vh,h1]⟩
  ·by_cases h2:c=9
   ·exact⟨true,by simp[h2],by simp[vh,h2]⟩
   ·have h':32<=c->125<c:=by omega
    exact⟨false,by simp[h,h1,h2],by simp[vh,h,h1,h2];try exact h'⟩
theorem J0  (h:okc c)(d a:Option D)(O:az):bC [d,a,some (.str [c])] O=.nx [d,a,some (.str [c])] O:=by
 obtain⟨b,f,e⟩:=JZ c d a O;have hb':b=true:=f.mpr h;subst hb';unfold bC;exact aN (Ja (by rw[uA,e,aQ];rfl))
theorem ZW  (h:¬okc c)  (a:Option D)(O:az):bC [a,some d,some (.str [c])] O=.ex ⟨"NoSign",[("at",d)]⟩ O:=by
 obtain⟨b,f,e⟩:=JZ c a (some d) O
 have hb':b=false:=by
  cases b with
  |true=>exact absurd (f.mp rfl) h
  |false=>rfl
 subst hb';unfold bC;exact jZ ((IW (by rw[uA,e,aQ];rfl)).trans (jZ (Jb rfl)))
theorem Ay(a c b:Option D)(d e:D):gC (.tup [d,e]) [a,c,b]=some [a,some d,some e]:=rfl
theorem J2:∀(t:List Nat) (k:Nat) (d g f:Option D) (O:az),(∀c∈t,okc c)->∃b a,aO gC bC (bV k (bR t)) [d,g,f] O=.nx [d,b,a] O
 | [],k,d,g,f,O,_=>⟨g,f,rfl⟩
 |c::t,k,d,g,f,O,h=>by
  obtain⟨b,a,e⟩:=J2 t (k+1) d (some (.int k)) (some (.str [c])) O λx i=>h x (zp _ i)
  refine⟨b,a,?_⟩;show aO gC bC (.tup [.int k,.str [c]]::bV (k+1) (bR t)) [d,g,f] O=_;unfold aO;rw[Ay];dsimp only;rw[J0 (h c zj)];exact e
theorem J3  (i:¬okc x)(b:List Nat):∀(a:List Nat) (k:Nat) (d g f:Option D) (O:az),(∀c∈a,okc c)->aO gC bC (bV k (bR (a++x::b))) [d,g,f] O=.ex ⟨"NoSign",[("at",.int ((k+a.length:Nat):Int))]⟩ O
 | [],k,d,g,f,O,_=>by
  show aO gC bC (.tup [.int k,.str [x]]::bV (k+1) (bR b)) [d,g,f] O=_;unfold aO;rw[Ay];dsimp only;rw[ZW i];rfl
 |c::a,k,d,g,f,O,h=>by
  have e:=J3 i b a (k+1) d (some (.int k)) (some (.str [c])) O λy j=>h y (zp _ j)
  show aO gC bC (.tup [.int k,.str [c]]::bV (k+1) (bR (a++x::b))) [d,g,f] O=_;unfold aO;rw[Ay];dsimp only;rw[J0 (h c zj)];dsimp only;rw[e,show k+1+a.length=k+(c::a).length by rw[zt];omega]
theorem J4(t:List Nat)(b a:Option D)(O:az):fD (cz (eU "str" (aa 0))) [some (.str t),b,a] O=.ok false O:=rfl
theorem J5  (c:ascii t=true)(b a:Option D)(O:az):iZ (aa 0) [some (.str t),b,a] O=.ok (bV 0 (bR t)) O:=by
 rw[Yw,il];exact Iw c
theorem ZX(t:List Nat)(h:Okt t)(O:az):mX [.str t] O=.ok .non O:=by
 obtain⟨b,a,e⟩:=J2 t 0 (some (.str t)) none none O h.ok;show bh (pF [some (.str t),none,none] O)=_;unfold pF;rw[aN (yw (J4 t none none O))];show bh (au (fV (iZ (aa 0)) gC bC) aD [some (.str t),none,none] O)=_;rw[aN ((rK (J5 h.asc none none O)).trans e)];rfl
theorem ZZ   (d:¬okc x)(f:∀c∈a,okc c)(hs:ascii (a++x::b)=true)(O:az):mX [.str (a++x::b)] O=.ex ⟨"NoSign",[("at",.int (a.length:Int))]⟩ O:=by
 have e:=J3 d b a 0 (some (.str (a++x::b))) none none O f;rw[jd] at e;show bh (pF [some (.str (a++x::b)),none,none] O)=_;unfold pF;rw[aN (yw (J4 _ none none O))];show bh (au (fV (iZ (aa 0)) gC bC) aD [some (.str (a++x::b)),none,none] O)=_;rw[jZ ((rK (J5 hs none none O)).trans e)];rfl
theorem Az:∀(l:List Nat) (p:Int),(dw p l).length=l.length
 | [],_=>rfl
 |c::l,p=>by show(dw (p+1) l).length+1=l.length+1;rw[Az l]
theorem J6  (H:Held h)(c:Nat)(p:Int):(tk h c p).1.length<=4:=by
 have:=H.len
 unfold tk
 split
 ·simp
 ·split
  ·simp
  ·split<;>simp[Az]<;>omega
theorem J7:∀(t:List Nat) {h:List Nat} (_:Held h) (p:Int),(bN h p t).1.length<=4 * t.length
 | [],h,H,p=>by simp[bN]
 |c::t,h,H,p=>by
  have a:=J6 H c (p - h.length);have b:=J7 t (yu H c (p - h.length) []).1 (p+1);simp only[bN,zf,zt];omega
theorem Z0{O:az}  :(O.set n x).set n y=O.set n y:=by simp
noncomputable def bT:MS:=(au (msN (ou 2 (jO "Reader" "take" lC (aa 0) (aj (aa 3) aq))))
  aD)
theorem J8  :∀(t:List Nat) (h:List Nat) (_:Held h) (p:Int) (acc:List D) (O:az) (b:Option D),O[n]?=some (RO h p)->(∀c∈t,c<128)->acc.length+4 * t.length<=1000000 ->
  ∃a,aO (mgN 3) bT (bR t) [some (.ob n),some (.str t0),some (.lst acc),b] O=.nx [some (.ob n),some (.str t0),some (.lst (acc++(bN h p t).1)),a] (O.set n (RO (bN h p t).2 (p+t.length)))
 | [],h,H,p,acc,O,b,e,_,_=>by
  refine⟨b,?_⟩;obtain⟨l,j⟩:=zk.mp e;show Fl.nx _ O=_;simp only[bN,zI,zJ]
  have:O.set n (RO h p)=O:=by rw[<-j];exact List.set_getElem_self _
  simp[this]
 |c::t,h,H,p,acc,O,b,e,hc,hl=>by
  have g:=ZV e H c (hc c zj)
  have f:meF "Reader" "take" lC (aj (aa 3) aq [some (.ob n),some (.str t0),some (.lst acc),some (.str [c])]) (.ob n) O=lC [.ob n,.str [c]] O:=by
   unfold meF;dsimp only;rw[e];rfl
  have tl:=J6 H c (p - h.length);simp only[zt] at hl;obtain⟨a,q⟩:=J8 t (tk h c (p - h.length)).2 (yu H c (p - h.length) []).1 (p+1) (acc++(tk h c (p - h.length)).1) (O.set n (RO (tk h c (p - h.length)).2 (p+1))) (some (.str [c])) (gs e) (λd hd=>hc d (zp _ hd)) (by rw[zf];omega);refine⟨a,?_⟩
  have i:bT [some (.ob n),some (.str t0),some (.lst acc),some (.str [c])] O=.nx [some (.ob n),some (.str t0),some (.lst (acc++(tk h c (p - h.length)).1)),some (.str [c])] (O.set n (RO (tk h c (p - h.length)).2 (p+1))):=by
   unfold bT;refine aN (dX ?_);rw[Yu,Iv,il];show exF 2 (meF "Reader" "take" lC _ (.ob n) O) _=_;rw[f,g,Yv (ds:=acc) rfl (by omega)];rfl
  show aO _ _ (D.str [c]::bR t) _ O=_;unfold aO;rw[mg_n];dsimp only
  show(match bT [some (.ob n),some (.str t0),some (.lst acc),some (.str [c])] O with
   | .nx ρ' O'=>aO _ _ (bR t) ρ' O' | .ct ρ' O'=>aO _ _ (bR t) ρ' O' | .bk ρ' O'=>Fl.nx ρ' O' | r=>r)=_
  rw[i];dsimp only;rw[q,Z0];simp only[bN,zD,zt];congr 3
  push_cast
  omega
theorem Z1     (e:O[n]?=some (RO h p))(H:Held h)(t:List Nat)(a:Okt t):uP [.ob n,.str t] O=.ok (.lst (bN h p t).1) (O.set n (RO (bN h p t).2 (p+t.length))):=by
 have c:=a.len;obtain⟨b,q⟩:=J8 (t0:=t) t h H p [] O none e a.lt (by simp;omega);rw[zN] at q;show bh (pK [some (.ob n),some (.str t),none,none] O)=_;unfold pK
 rw[aN (YF ((mV (show aj (aa 1) aq [some (.ob n),some (.str t),none,none] O=.ok [.str t] O from rfl)).trans (ZX t a O))),
  aN (dX (show aF 2 (bj aq) [some (.ob n),some (.str t),none,none] O=.nx [some (.ob n),some (.str t),some (.lst []),none] O from rfl))]
 show bh (au (fV (bG (aa 1)) (mgN 3) bT) (au (msN (aB (aa 2))) aD) [some (.ob n),some (.str t),some (.lst []),none] O)=_
 rw[aN ((rK (show bG (aa 1) [some (.ob n),some (.str t),some (.lst []),none] O=.ok (bR t) O by rw[rE,il];show itF (kJ (.str t)) O=_;rw[Ym a.asc];rfl)).trans q),
  dg (uH (show aB (aa 2) [some (.ob n),some (.str t),some (.lst (bN h p t).1),b] (O.set n (RO (bN h p t).2 (p+t.length)))=.rt (.lst (bN h p t).1) (O.set n (RO (bN h p t).2 (p+t.length))) from rfl))]
 rfl
theorem Z2     (e:mX [d] O=.ex x O):uP [.ob n,d] O=.ex x O:=by
 show bh (pK [some (.ob n),some d,none,none] O)=_;unfold pK;rw[jZ (YG ((mV (show aj (aa 1) aq [some (.ob n),some d,none,none] O=.ok [d] O from rfl)).trans e))];rfl
theorem Z3     (e:O[n]?=some (RO h p))(H:Held h):uQ [.ob n] O=.ok (.lst (dw (p - h.length) h)) (O.set n (RO [] p)):=by
 have c:=H.len
 have a:h.length<=1000000:=by omega
 have b:=λO=>Av (p - h.length) h (Aw H) (by omega) O
 simp[uQ,Ak,fh e,fp e,a,b,ph e]
theorem Z4(O:az):pJ [.ob O.length] (O++[.ins "Reader" []])=.ok .non (O++[RO [] 0]):=by
 have a:(O++[Ob.ins "Reader" []])[O.length]?=some (.ins "Reader" []):=by simp
 have d:∀ρ,puF ["Reader"] "held" (.str []) ρ (.ok (.ob O.length) (O++[.ins "Reader" []]))=.nx ρ (O++[.ins "Reader" [("held",.str [])]]):=λρ=>by
  unfold puF;dsimp only;rw[a];dsimp only;rw[if_pos (by decide)];simp[putD]
 have b:(O++[Ob.ins "Reader" [("held",.str [])]])[O.length]?=some (.ins "Reader" [("held",.str [])]):=by simp
 have c:∀ρ,puF ["Reader"] "place" (.int 0) ρ (.ok (.ob O.length) (O++[.ins "Reader" [("held",.str [])]]))=.nx ρ (O++[RO [] 0]):=λρ=>by
  unfold puF;dsimp only;rw[b];dsimp only;rw[if_pos (by constructor<;>decide)]
  have:putD "place" (.int 0) [("held",.str [])]=[(("held":Str),D.str []),("place",.int 0)]:=by rfl
  rw[this];simp[RO]
 simp[pJ,Ai,d,c]
theorem Z5(ρ:aV)(O:az):lX "Reader" pJ aq ρ O=.ok (.ob O.length) (O++[RO [] 0]):=by
 simp[Z4]
theorem vm(O:az):(O++[RO [] 0])[O.length]?=some (RO [] 0):=by simp
theorem Z6  {m:Str}      (d:m≠"held")(c:m≠"place")(e:O[n]?=some (RO h p)):meF "Reader" m cf ma (.ob n) O=(ma O).bind λds O2=>cf (.ob n::ds) O2:=by
 unfold meF;dsimp only;rw[e];dsimp only[RO];rw[if_pos];refine⟨rfl,?_⟩
 have a:(m == ("held":Str))=false:=by simpa using d
 have b:(m == ("place":Str))=false:=by simpa using c
 simp[List.lookup,a,b]
theorem J9{m:Str}(d:m≠"held")(c:m≠"place")(h:List Nat)(p:Int):(List.lookup m [(("held":Str),D.str h),("place",.int p)]).isNone=true:=by
 have a:(m == ("held":Str))=false:=by simpa using d
 have b:(m == ("place":Str))=false:=by simpa using c
 simp[List.lookup,a,b]
theorem Ka(d:D)(O:az):aF 1 (lX "Reader" pJ aq) [some d,none,none] O=.nx [some d,some (.ob O.length),none] (O++[RO [] 0]):=by
 rw[lz,Z5,lA];rfl
theorem Z7(t:List Nat)(b:Okt t)(O:az):pM [.str t] O=.ok (.lst (items 0 t)) (O++[RO [] t.length]):=by
 obtain⟨H,q⟩:=YD t;have d:=Z1 (vm O) Held.h0 t b;have a:((O++[RO [] 0]).set O.length (RO (bN [] 0 t).2 (0+t.length)))[O.length]?=some (RO (bN [] 0 t).2 (0+t.length)):=gs (vm O);have c:=Z3 a H;have h:=b.len;have l1:=J7 t Held.h0 0;have g:=H.len
 have z:(bN [] 0 t).1.length+(dw (0+(t.length:Int) - ((bN [] 0 t).2.length:Int)) (bN [] 0 t).2).length<=1000000:=by
  rw[Az];omega
 rw[q];have z':=Int.zero_add (t.length:Int);rw[z'] at d c a z
 have f:O++[RO [] t.length]=((O++[RO [] 0]).set O.length (RO (bN [] 0 t).2 t.length)).set O.length (RO [] t.length):=by simp
 rw[f];show bh (pL [some (.str t),none,none] O)=_;unfold pL;rw[aN (dX (Ka _ O)),aN (YH ((Jc (ds:=[.str t]) (n:=O.length) (O1:=O++[RO [] 0]) (O2:=O++[RO [] 0]) rfl (vm O) (J9 (by decide) (by decide) _ _) rfl).trans d))];refine congrArg bh (dg (uH ?_));simp only[oX,qZ,il,Iv,jk,jl,jf,zY,aQ,Z6 (show("finish":Str)≠"held" by decide) (by decide) a,oU,c,jV,Yo,if_pos z,mQ,Yi]
theorem Z8    (e:mX [d] (O++[RO [] 0])=.ex x (O++[RO [] 0])):pM [d] O=.ex x (O++[RO [] 0]):=by
 show bh (pL [some d,none,none] O)=_;unfold pL;rw[aN (dX (Ka _ O)),jZ (YJ ((Jc (ds:=[d]) (n:=O.length) (O1:=O++[RO [] 0]) (O2:=O++[RO [] 0]) rfl (vm O) (J9 (by decide) (by decide) _ _) rfl).trans (Z2 e)))];rfl
theorem vo  (l:List α)(a b:Nat):cB l (some (a:Int)) (some (b:Int))=(l.drop a).take (b - a):=by
 unfold cB;rw[HT.sIx_nat,HT.sIx_nat]
 by_cases h:a<=l.length
 ·rw[Nat.min_eq_left h]
  by_cases c:b<=l.length
  ·rw[Nat.min_eq_left c]
  ·rw[Nat.min_eq_right (by omega),List.take_of_length_le (by rw[List.length_drop];omega),List.take_of_length_le (by rw[List.length_drop];omega)]
 ·rw[Nat.min_eq_right (show l.length<=a by omega),List.drop_eq_nil_of_le (show l.length<=l.length by omega),List.drop_eq_nil_of_le (show l.length<=a by omega)];simp
theorem Ba  (l:List α)(b:Nat):cB l none (some (b:Int))=l.take b:=by
 unfold cB;rw[HT.sIx_nat,HT.sIx_none,List.drop_zero,Nat.sub_zero]
 by_cases a:b<=l.length
 ·rw[Nat.min_eq_left a]
 ·rw[Nat.min_eq_right (by omega),List.take_of_length_le (by omega),List.take_of_length_le (by omega)]
theorem rZ  (l:List α)(a:Nat):cB l (some (a:Int)) none=l.drop a:=by
 unfold cB;rw[HT.sIx_nat,HT.sIx_none]
 by_cases h:a<=l.length
 ·rw[Nat.min_eq_left h,List.take_of_length_le (by rw[List.length_drop];omega)]
 ·rw[Nat.min_eq_right (by omega),List.drop_eq_nil_of_le (by omega),List.drop_eq_nil_of_le (by omega)];simp
@[simp] theorem QBW{a:Nat}:cB [a] none (some 2)=[a]:=rfl
@[simp] theorem QB2{a:Nat}:cB [a,b] none (some 2)=[a,b]:=rfl
@[simp] theorem QB3{a:Nat}:cB [a,b,c] none (some 2)=[a,b]:=rfl
@[simp] theorem QB0{a:Nat}:cB [a,b,c,d] none (some 2)=[a,b]:=rfl
theorem nj :gIn false (.str [c]) (.str [97,98,99,100,101,102,103,104,46])=some (.bl (col c)):=by
 rw[jX];simp[col]
theorem Z9(t:List Nat)(G:t.length<=1000000)(at':Nat)(c:Nat)(r:List Nat)(C:t.drop at'=c::r)(O:az):rR [.str t,.int at'] O=.ok (.tup [item at' (one c r).1 (one c r).2.1,.int ((one c r).2.2+1:Nat)]) O:=by
 have q:cB t (some (at':Int)) (some ((at':Int)+4))=(c::r).take 4:=by
  rw[show(at':Int)+4=((at'+4:Nat):Int) by push_cast;rfl,vo,C,show at'+4 - at'=4 by omega]
 have y:t.length<=16777216:=by omega
 simp[rR,An,q,y]
 by_cases j:c=10
 ·subst j
  match r with
  | []=>simp[one,item,dq]
  | [d]=>simp[one,item,dq]
  | [d,e]=>simp[one,item,dq]
  |d::e::f::g=>simp[one,item,dq]
 by_cases m:c=9
 ·subst m
  match r with
  | []=>simp[one,item,du]
  | [d]=>simp[one,item,du]
  | [d,e]=>simp[one,item,du]
  |d::e::f::g=>simp[one,item,du]
 by_cases i:c=91
 ·subst i
  match r with
  | []=>simp[one,bW,item,bw]
  | [d] =>
   by_cases a:d=93
   ·simp[one,bW,item,a,jY]
   by_cases b:d=91
   ·simp[one,bW,item,a,b,bw]
   by_cases h:col d=true<;>by_cases l:d=47<;>simp[one,bW,gH,eY,item,a,b,h,l,bw]
  | [d,e] =>
   by_cases a:d=93
   ·simp[one,bW,item,a,jY]
   by_cases b:d=91
   ·simp[one,bW,item,a,b,bw]
   by_cases h:col d=true
   ·by_cases x:e=93<;>simp[-jX,nj,one,bW,gH,item,a,b,h,x,bw,eX]
   by_cases l:d=47
   ·by_cases u:col e=true<;>simp[-jX,nj,one,bW,eY,iC,item,a,b,h,l,u,bw,iG]
   ·simp[-jX,nj,one,bW,gH,eY,item,a,b,h,l,bw]
  |d::e::f::g =>
   by_cases a:d=93
   ·simp[one,bW,item,a,jY]
   by_cases b:d=91
   ·simp[one,bW,item,a,b,bw]
   by_cases h:col d=true
   ·have F:=(rJ h).2.2.1
    by_cases x:e=93<;>simp[-jX,nj,one,bW,gH,item,a,b,h,F,x,bw,eX]
   by_cases l:d=47
   ·by_cases u:col e=true
    ·by_cases E:f=93<;>simp[-jX,nj,one,bW,eY,iC,item,a,b,h,l,u,E,bw,fY,iG]
    ·simp[-jX,nj,one,bW,eY,iC,item,a,b,h,l,u,bw,iG]
   ·simp[-jX,nj,one,bW,gH,eY,item,a,b,h,l,bw]
 ·match r with
  | []=>simp[one,item,bw,j,m,i]
  | [d]=>simp[one,item,bw,j,m,i]
  | [d,e]=>simp[one,item,bw,j,m,i]
  |d::e::f::g=>simp[one,item,bw,j,m,i]
theorem one_le(c:Nat)(r:List Nat):(one c r).2.2<=r.length:=by
 unfold one
 split
 ·simp
 split
 ·simp
 split
 ·unfold bW
  cases r with
  |nil=>simp
  |cons d r =>
   dsimp only
   split
   ·simp
   split
   ·simp
   split
   ·unfold gH
    cases r with
    |nil=>simp
    |cons e r=>dsimp only;split<;>simp
   split
   ·unfold eY
    cases r with
    |nil=>simp
    |cons e r =>
     dsimp only
     split
     ·unfold iC
      cases r with
      |nil=>simp
      |cons f r=>dsimp only;split<;>simp
     ·simp
   ·simp
 ·simp
theorem Qmz(t:List Nat)(q:t.length<=5000)(O:az):pU [.str t] O=.ok (.lst (items 0 t)) O:=by
 obtain⟨m,d,e,rfl,pre,a,h,g,rfl,h1,h2,h3,h4⟩:=Iz (t:=aA (ak gLt (aa 2) (aM aU (aj (aa 0) aq))))
  (b:=au (qI (aG rR (aj (aa 0) (aj (aa 2) aq))) (fG 2 (bQ (mgN 3) (bQ (mgN 4) fQ)))) (au (dW 1 (aa 3)) (aF 2 (ak aC (aa 2) (aa 4)))))
  (λk ρ d=>d=O/\∃(pre:List D) (a:Nat) (h g:Option D),ρ=[some (.str t),some (.lst pre),some (.int a),h,g]/\a<=t.length/\k=t.length - a/\pre++items a (t.drop a)=items 0 t/\pre.length<=a)
  wF t.length [some (.str t),some (.lst []),some (.int 0),none,none] O (by unfold wF;omega) ⟨rfl,[],0,none,none,rfl,Nat.zero_le _,by omega,by simp,by simp⟩ (by
   rintro k ρ d ⟨rfl,pre,a,h,g,rfl,h1,h2,h3,h4⟩
   have i:t.length<=1000000:=by omega
   have f:a<t.length:=by omega
   have hlt':(a:Int)<t.length:=by omega
   refine⟨by simp[i,f],?_⟩
   cases hd:t.drop a with
   |nil =>
    have:=congrArg List.length hd
    simp at this
    omega
   |cons c r =>
    have j:=congrArg List.length hd;simp at j;have u:=one_le c r;have l:=Z9 t i a c r hd d;refine⟨t.length - (a+((one c r).2.2+1)),[some (.str t),some (.lst (pre++[item a (one c r).1 (one c r).2.1])),some (.int ((a+((one c r).2.2+1):Nat):Int)),some (item a (one c r).1 (one c r).2.1),some (.int ((one c r).2.2+1:Nat))],d,by omega,?_,rfl,_,_,_,_,rfl,by omega,rfl,?_,?_⟩
    ·rw[oW,Yx];simp only[uC,oV,oU,il,jf,zY,aQ,l];rw[Yy Yz];simp only[xZ,oW,yo,il,jk,jl,jf,zY];rw[yp (ds:=pre) rfl (by omega)];simp
    ·rw[hd,pq] at h3;rw[<-h3,zD];congr 1
     have:t.drop (a+((one c r).2.2+1))=r.drop (one c r).2.2:=by
      rw[<-List.drop_drop,hd,Nat.add_comm,<-List.drop_drop];rfl
     rw[this];simp
    ·simp
     omega) (by
   rintro ρ d ⟨rfl,pre,a,h,g,rfl,h1,h2,h3,h4⟩
   have i:t.length<=1000000:=by omega
   have f:t.length<=a:=by omega
   simp[i,f])
 have hd:t.drop a=[]:=List.drop_eq_nil_of_le (by omega);rw[hd,jr,zI] at h3;subst h3;simp only[pU,Ao,Yk,zd,zV,zt,zJ,List.replicate,List.cons_append,zN,oW,lz,HY,oU,aQ,Nat.zero_le,if_true,lA,xZ,jk,jl,m_c];show bh (jq (qJ wF _ _ [some (.str t),some (.lst []),some (.int 0),none,none] d) _)=_;unfold qJ;rw[e];rfl
theorem Bb(n k:Int)(h0:0<=k)(h1:k<=1000000)(O:az):b8 [.int n,.int k] O=.ok (.int (mix n k)) O:=Yt n k h0 h1 O
noncomputable def sgl:List Nat:=[32,33,34,35,36,38,39,40,41,42,43,44,45,46,47,48,49,50,51,52,53,54,55,56,57,58,59,60,61,62,63,64,65,66,67,68,69,70,71,72,73,74,75,76,77,78,79,80,81,82,83,84,85,86,87,88,89,90,91,92,93,94,95,96,97,98,99,100,101,102,103,104,105,106,107,108,109,110,111,112,113,114,115,116,117,118,119,120,121,122,123,124,125]
theorem QtA(O:az):uZ [] O=.ok (.str sgl) O:=rfl
theorem Qv3:∀c∈sgl,32<=c/\c<=125:=by decide
theorem ixS   (b:l.length<=1000000)(h:(l.length:Int)=n)(a:0<n):∃c,c∈l/\gIx (.str l) (.int (v % n))=some (.str [c]):=by
 obtain⟨c,h1,h2⟩:=Ij (xs:=l) (i:=v % n) (ja _ (by omega)) (by rw[h];exact je _ a);exact⟨c,h2,by rw[ye,if_pos b,h1];rfl⟩
theorem ixL   (h:(l.length:Int)=n)(a:0<n):∃c,c∈l/\gIx (.lst l) (.int (v % n))=some c:=by
 obtain⟨c,h1,h2⟩:=Ij (xs:=l) (i:=v % n) (ja _ (by omega)) (by rw[h];exact je _ a);exact⟨c,h2,h1⟩
structure Tok(l:List Nat):Prop where
 len:l.length<=9
 ok:∀c∈l,(32<=c/\c<=125)\/c=10\/c=9
noncomputable def Qzz:List Nat:=[97,98,99,100,101,102,103,104,46]
theorem Qt3:∀c∈Qzz,32<=c/\c<=125:=by decide
noncomputable def iI:MS:=(au (aK (aA (ak gLt (aa 2) (mC (.int 3)))) (aB (ak gIx (aG uZ aq) (ak aZ (aa 3) (mC (.int 93))))) aD)
  (au (aK (aA (ak gEq (aa 2) (mC (.int 3)))) (aB (ak gIx (mC (.str [32,65,66,90])) (ak aZ (aa 3) (mC (.int 4))))) aD)
  (au (aK (aA (ak gEq (aa 2) (mC (.int 4)))) (aB (ak aC (ak aC (mC (.str [91])) (aa 1)) (mC (.str [93])))) aD)
  (au (aK (aA (ak gEq (aa 2) (mC (.int 5)))) (aB (ak aC (ak aC (mC (.str [91,47])) (aa 1)) (mC (.str [93])))) aD)
  (au (aK (aA (ak gEq (aa 2) (mC (.int 6)))) (aB (ak gIx (bj (aj (mC (.str [91,93])) (aj (mC (.str [91,91])) (aj (mC (.str [91,93,93])) (aj (mC (.str [91,91,93])) aq))))) (ak aZ (aa 3) (mC (.int 4))))) aD)
  (au (aK (aA (ak gEq (aa 2) (mC (.int 9)))) (aB (ak gIx (bj (aj (mC (.str [10])) (aj (mC (.str [9])) (aj (mC (.str [10])) aq)))) (ak aZ (aa 3) (mC (.int 3))))) aD)
  (au (aK (aA (ak gEq (aa 2) (mC (.int 10)))) (aB (aa 1)) aD)
  (au (aK (aA (ak gEq (aa 2) (mC (.int 11)))) (aB (mSl (mC (.str [111,117,116,119,101,97,118,101,115])) moN (moS (ak aC (mC (.int 2)) (ak aZ (aa 3) (mC (.int 8))))))) aD)
  (aB (ak gIx (aa 4) (ak aZ (aa 3) (mC (.int 18)))))))))))))
theorem Bc(n:Int):∃l,Tok l/\∀O,ju [.int n] O=.ok (.str l) O:=by
 obtain⟨c,y,C⟩:=ixS (l:=[97,98,99,100,101,102,103,104,46]) (v:=mix n 2) (n:=9) (by decide) (by decide) (by decide);have f:=Qt3 c y
 have pre:∀O,ju [.int n] O=bh (iI [some (.int n),some (.str [c]),some (.int (mix n 0 % 12)),some (.int (mix n 1)),some (.lst [.str [91],.str [91,47],.str [91,c],.str [91,47,c],.str [91,105,93],.str [91,47,93],.str [91,c,c,93],.str [91,65,93],.str [91,47,105,93],.str [91,91,91],.str [91,47,91],.str [91,c,91],.str [91,47,c,47,93],.str [91,47,47,c,93],.str [91,c,10],.str [93],.str [47],.str [91,47,c,9,93]])] O):=λO=>by
  show bh (au _ (au _ (au _ (au _ (au _ (au _ iI))))) [some (.int n),none,none,none,none] O)=_;simp[Bb,C,apF]
 by_cases u:mix n 0 % 12<3
 ·obtain⟨x,a,ex⟩:=ixS (l:=sgl) (v:=mix n 1) (n:=93) (by decide) (by decide) (by decide);have g:=Qv3 x a;exact⟨[x],⟨by simp,by simp[g]⟩,λO=>by simp[pre,iI,QtA,u,ex]⟩
 by_cases t:mix n 0 % 12=3
 ·obtain⟨x,a,ex⟩:=ixS (l:=[32,65,66,90]) (v:=mix n 1) (n:=4) (by decide) (by decide) (by decide)
  have g:32<=x/\x<=125:=by
   have:∀x∈[32,65,66,90],32<=x/\x<=125:=by decide
   exact this x a
  exact⟨[x],⟨by simp,by simp[g]⟩,λO=>by simp[pre,iI,t,ex]⟩
 by_cases m:mix n 0 % 12=4
 ·exact⟨[91,c,93],⟨by simp,by simp[f]⟩,λO=>by simp[pre,iI,m]⟩
 by_cases j:mix n 0 % 12=5
 ·exact⟨[91,47,c,93],⟨by simp,by simp[f]⟩,λO=>by simp[pre,iI,j]⟩
 by_cases i:mix n 0 % 12=6
 ·obtain⟨x,a,ex⟩:=ixL (l:=[.str [91,93],.str [91,91],.str [91,93,93],.str [91,91,93]]) (v:=mix n 1) (n:=4) rfl (by decide)
  have r:∀O,ju [.int n] O=.ok x O:=λO=>by simp[pre,iI,i,ex]
  simp at a
  rcases a with rfl | rfl | rfl | rfl
  all_goals exact⟨_,⟨by simp,by simp⟩,r⟩
 by_cases h:mix n 0 % 12=9
 ·obtain⟨x,a,ex⟩:=ixL (l:=[.str [10],.str [9],.str [10]]) (v:=mix n 1) (n:=3) rfl (by decide)
  have r:∀O,ju [.int n] O=.ok x O:=λO=>by simp[pre,iI,h,ex]
  simp at a
  rcases a with rfl | rfl | rfl
  all_goals exact⟨_,⟨by simp,by simp⟩,r⟩
 by_cases d:mix n 0 % 12=10
 ·exact⟨[c],⟨by simp,by simp[f]⟩,λO=>by simp[pre,iI,d]⟩
 by_cases b:mix n 0 % 12=11
 ·refine⟨cB [111,117,116,119,101,97,118,101,115] none (some (2+mix n 1 % 8)),⟨?_,?_⟩,λO=>by simp[pre,iI,b]⟩
  ·unfold cB;simp;omega
  ·intro x a
   have:x∈[111,117,116,119,101,97,118,101,115]:=jb (List.mem_of_mem_take a)
   have q:∀x∈[111,117,116,119,101,97,118,101,115],32<=x/\x<=125:=by decide
   exact .inl (q x this)
 obtain⟨x,a,ex⟩:=ixL (l:=[.str [91],.str [91,47],.str [91,c],.str [91,47,c],.str [91,105,93],.str [91,47,93],.str [91,c,c,93],.str [91,65,93],.str [91,47,105,93],.str [91,91,91],.str [91,47,91],.str [91,c,91],.str [91,47,c,47,93],.str [91,47,47,c,93],.str [91,c,10],.str [93],.str [47],.str [91,47,c,9,93]]) (v:=mix n 1) (n:=18) rfl (by decide)
 have r:∀O,ju [.int n] O=.ok x O:=λO=>by simp[pre,iI,u,t,m,j,i,h,d,b,ex]
 simp at a
 rcases a with rfl | rfl | rfl | rfl | rfl | rfl | rfl | rfl | rfl | rfl | rfl | rfl | rfl | rfl | rfl | rfl | rfl | rfl
 all_goals exact⟨_,⟨by simp,by simp[f]⟩,r⟩
noncomputable def tok(n:Int):List Nat:=(Bc n).choose
theorem Kc(n:Int):Tok (tok n):=(Bc n).choose_spec.1
theorem Qvy(n:Int)(O:az):ju [.int n] O=.ok (.str (tok n)) O:=(Bc n).choose_spec.2 O
noncomputable def toks(ns:List Int):List Nat:=(ns.map tok).flatten
theorem Bd:∀ns:List Int,(toks ns).length<=9 * ns.length/\((ns.map tok).map List.length).sum<=9 * ns.length
 | []=>⟨zc _,zc _⟩
 |n::ns=>by
  obtain⟨a,b⟩:=Bd ns
  have:=(Kc n).len
  unfold toks at *;simp only[zd,List.flatten_cons,zf,List.sum_cons,zt] at *;omega
theorem QuD(ns:List Int):∀c∈toks ns,(32<=c/\c<=125)\/c=10\/c=9:=by
 intro c b;unfold toks at b;obtain⟨l,d,a⟩:=List.mem_flatten.mp b;obtain⟨n,_,rfl⟩:=zQ.mp d;exact(Kc n).ok c a
theorem Kd   (h:-1000000<n/\n<1000000/\l.length * n.toNat<=16777216):cV (.str l) (.int n)=some (.str (List.replicate n.toNat l).flatten):=by
 show(if -1000000<n/\n<1000000/\l.length * n.toNat<=16777216 then _ else _)=_;rw[if_pos h]
noncomputable def asc(l:List Nat):Prop:=∀c∈l,c<128
theorem Ke  (b:asc i)(d:asc g):okE (.tup [.str i,.str g])=true:=by
 unfold okE;show(true&&okD (.tuple [.str (S i),.str (S g)]))=true;unfold okD
 rw[show(PyData.tuple [.str (S i),.str (S g)]).canLay0=true by
  show((PyData.str (S i)).canLay0&&((PyData.str (S g)).canLay0&&true))=true;rw[iB λc a=>Nat.lt_trans (b c a) (by decide),iB λc a=>Nat.lt_trans (d c a) (by decide)]
  rfl]
 rfl
theorem Be(a b:List Nat):(S a == S b)=decide (a=b):=by
 by_cases h:a=b
 ·subst h;rw[zF rfl];exact beq_self_eq_true _
 ·rw[zo h]
  refine beq_eq_false_iff_ne.mpr λz=>h ?_
  have:=congrArg (λx:Str=>x.cps.toList) z
  simpa [dR] using this
theorem Kf(i g a b:List Nat):eQ (.tup [.str i,.str g]) (.tup [.str a,.str b])=(decide (i=a)&&decide (g=b)):=by
 rw[<-Be,<-Be];show((S i == S a)&&((S g == S b)&&true))=_;rw[Bool.and_true]
theorem Qy0 :gEq (.tup i) (.tup j)=if(okE (.tup i)&&okE (.tup j))=true then some (.bl (eQ (.tup i) (.tup j))) else none:=rfl
theorem Qyl  (b:asc i)(d:asc g):gEq (.tup [.str i,.str g]) (.tup [.str [46],.str [46]])=some (.bl (decide (i=[46])&&decide (g=[46]))):=by
 have a:asc [46]:=by intro c f;revert c;decide
 rw[Qy0,Ke b d,Ke a a,Kf];rfl
noncomputable def kvf:Nat->List Nat->List (List Nat×List Nat)
 | 0,_=>[]
 | _+1,[]=>[]
 |n+1,c::r=>((one c r).1,(one c r).2.1)::kvf n (r.drop (one c r).2.2)
theorem Bf:∀(n:Nat) (t:List Nat) (p:Int),t.length<=n->∃L:List (Int×List Nat×List Nat),items p t=L.map (λx=>item x.1 x.2.1 x.2.2)/\L.map (·.2)=kvf n t
 | 0,t,p,h=>by
  cases t with
  |nil=>exact⟨[],jr p,rfl⟩
  |cons c t=>simp at h
 |n+1,[],p,h=>⟨[],jr p,rfl⟩
 |n+1,c::t,p,h=>by
  simp only[zt] at h;obtain⟨L,b,a⟩:=Bf n (t.drop (one c t).2.2) (p+((one c t).2.2+1:Nat)) (by rw[List.length_drop];omega);refine⟨(p,(one c t).1,(one c t).2.1)::L,?_,?_⟩
  ·rw[pq,b];rfl
  ·show((one c t).1,(one c t).2.1)::L.map (·.2)=_;rw[a];rfl
noncomputable def shI(v i:List Nat):List Nat:=if v=[32] then[46] else i
noncomputable def shF:List (List Nat×List Nat)->List Nat->List Nat->List D->Option (List D)
 | [],i,g,acc=>if i=[46]/\g=[46] then some acc else none
 | (k,v)::r,i,g,acc=>if k=dq\/k=du then none else if k=bw then shF r i g (acc++[.tup [.str v,.str (shI v i),.str g]]) else if k=eX then shF r v g acc else if k=fY then shF r i v acc else shF r [46] [46] acc
noncomputable def jw:Option (List D)->D
 |some l=>.lst l
 |none=>.non
theorem QyS(v i:List Nat)(O:az):m5 [.str v,.str i] O=.ok (.str (shI v i)) O:=by
 unfold shI
 by_cases h:v=[32]
 ·simp[m5,uR,h]
 ·simp[m5,uR,h]
noncomputable def pbh(i g k v:List Nat):List Nat×List Nat:=if k=eX then(v,g) else if k=fY then(i,v) else if k=bw then(i,g) else([46],[46])
theorem Qwf(i g k v:List Nat)(O:az):lD [.tup [.str i,.str g],.str k,.str v] O=.ok (.tup [.str (pbh i g k v).1,.str (pbh i g k v).2]) O:=by
 unfold pbh
 by_cases h1:k=eX
 ·simp[lD,pN,h1,eX]
 ·have h1':¬k=[105,110,107]:=h1
  by_cases h2:k=fY
  ·subst h2;simp[lD,pN,eX,fY]
  ·have h2':¬k=[103,114,111,117,110,100]:=h2
   by_cases h3:k=bw
   ·subst h3;simp[lD,pN,eX,fY,bw]
   ·have h3':¬k=[115,105,103,110]:=h3;simp[lD,pN,h1,h2,h3,h1',h2',h3']
noncomputable def bU:MS:=(au (msN (aF 4 (ak gIx (aa 3) (mC (.int 1)))))
  (au (msN (aK (cZ (aA (ak gEq (aa 4) (mC (.str [101,110,100])))) (aA (ak gEq (aa 4) (mC (.str [97,110,101,119]))))) (aB (mC .non)) aD))
  (au (msN (aK (aA (ak gEq (aa 4) (mC (.str [115,105,103,110])))) (dW 2 (aW (aj (ak gIx (aa 3) (mC (.int 2))) (aj (aG m5 (aj (ak gIx (aa 3) (mC (.int 2))) (aj (ak gIx (aa 1) (mC (.int 0))) aq))) (aj (ak gIx (aa 1) (mC (.int 1))) aq))))) aD))
  (au (msN (aF 1 (aG lD (aj (aa 1) (aj (aa 4) (aj (ak gIx (aa 3) (mC (.int 2))) aq))))))
  aD))))
noncomputable def j4(k v i g:List Nat)(acc:List D):List D:=if k=bw then acc++[.tup [.str v,.str (shI v i),.str g]] else acc
theorem Qwh   (b:k=dq\/k=du)(d0 d1 d2:D)(a:Option D)(O:az):bU [some d0,some d1,some d2,some (item p k v),a] O=.rt .non O:=by
 unfold bU;rw[aN (dX (show aF 4 (ak gIx (aa 3) (mC (.int 1))) [some d0,some d1,some d2,some (item p k v),a] O=.nx [some d0,some d1,some d2,some (item p k v),some (.str k)] O from rfl))];refine dg (uH ?_)
 rcases b with rfl | rfl
 ·rfl
 ·rfl
theorem QyV   (b:¬(k=dq\/k=du))(i g:List Nat)(acc:List D)(f:acc.length<1000000)(d0:D)(a:Option D)(O:az):bU [some d0,some (.tup [.str i,.str g]),some (.lst acc),some (item p k v),a] O =
  .nx [some d0,some (.tup [.str (pbh i g k v).1,.str (pbh i g k v).2]),some (.lst (j4 k v i g acc)),some (item p k v),some (.str k)] O:=by
 have d:¬k=[101,110,100]:=λz=>b (.inl z)
 have c:¬k=[97,110,101,119]:=λz=>b (.inr z)
 unfold bU;rw[aN (dX (show aF 4 (ak gIx (aa 3) (mC (.int 1))) [some d0,some (.tup [.str i,.str g]),some (.lst acc),some (item p k v),a] O=.nx [some d0,some (.tup [.str i,.str g]),some (.lst acc),some (item p k v),some (.str k)] O from rfl))];rw[aN (dX (show aK (cZ (aA (ak gEq (aa 4) (mC (.str [101,110,100])))) (aA (ak gEq (aa 4) (mC (.str [97,110,101,119]))))) (aB (mC .non)) aD [some d0,some (.tup [.str i,.str g]),some (.lst acc),some (item p k v),some (.str k)] O=.nx [some d0,some (.tup [.str i,.str g]),some (.lst acc),some (item p k v),some (.str k)] O by simp[d,c]))]
 have j:aK (aA (ak gEq (aa 4) (mC (.str [115,105,103,110])))) (dW 2 (aW (aj (ak gIx (aa 3) (mC (.int 2))) (aj (aG m5 (aj (ak gIx (aa 3) (mC (.int 2))) (aj (ak gIx (aa 1) (mC (.int 0))) aq))) (aj (ak gIx (aa 1) (mC (.int 1))) aq))))) aD [some d0,some (.tup [.str i,.str g]),some (.lst acc),some (item p k v),some (.str k)] O=.nx [some d0,some (.tup [.str i,.str g]),some (.lst (j4 k v i g acc)),some (item p k v),some (.str k)] O:=by
  unfold j4
  by_cases h:k=bw
  ·subst h;simp only[uD,oR,qZ,il,m_c,jf,zY,aQ,mU,Yq,mQ,xV,bw,decide_true,yc,if_true,yo,H9,oV,oU,item,xU,mR,JW,ZJ,ZK,uC,QyS,zt,zJ,Nat.reduceAdd,Nat.reduceLeDiff];rw[yp (ds:=acc) rfl f];rfl
  ·have h':¬k=[115,105,103,110]:=h;simp[h,h']
 rw[aN (dX j)];refine aN (dX ?_);rw[lz];simp only[uC,oV,oU,il,qZ,m_c,jf,zY,aQ,item,xU,mR,JW,mQ,Qwf,lA,jk,jl]
theorem Bg  (a:¬(k=dq\/k=du))(r:List (List Nat×List Nat))(i g:List Nat)(acc:List D):shF ((k,v)::r) i g acc=shF r (pbh i g k v).1 (pbh i g k v).2 (j4 k v i g acc):=by
 show(if k=dq\/k=du then none else if k=bw then shF r i g (acc++[.tup [.str v,.str (shI v i),.str g]]) else if k=eX then shF r v g acc else if k=fY then shF r i v acc else shF r [46] [46] acc)=_;rw[if_neg a];unfold pbh j4
 by_cases h1:k=bw
 ·subst h1;rfl
 ·rw[if_neg h1,if_neg h1]
  by_cases h2:k=eX
  ·rw[if_pos h2,if_pos h2,if_neg h1]
  ·rw[if_neg h2,if_neg h2]
   by_cases h3:k=fY
   ·rw[if_pos h3,if_pos h3,if_neg h1]
   ·rw[if_neg h3,if_neg h3,if_neg h1]
theorem Bh  (b:asc i)(d:asc g)(hv:asc v):asc (pbh i g k v).1/\asc (pbh i g k v).2:=by
 have a:asc [46]:=by intro c f;revert c;decide
 unfold pbh
 split
 ·exact⟨hv,d⟩
 ·split
  ·exact⟨b,hv⟩
  ·split
   ·exact⟨b,d⟩
   ·exact⟨a,a⟩
theorem Bj(k v i g:List Nat)(acc:List D):(j4 k v i g acc).length<=acc.length+1:=by
 unfold j4
 split
 ·rw[zf];exact zc _
 ·exact Nat.le_succ _
theorem Kg(d0:D)(O:az):∀(L:List (Int×List Nat×List Nat)) (i g:List Nat) (acc:List D) (c a:Option D),(∀x∈L,asc x.2.2)->asc i->asc g->acc.length+L.length<=100000 ->
  (aO (mgN 3) bU (L.map λx=>item x.1 x.2.1 x.2.2) [some d0,some (.tup [.str i,.str g]),some (.lst acc),c,a] O=.rt .non O/\shF (L.map (·.2)) i g acc=none) \/
  ∃f g' b j h,aO (mgN 3) bU (L.map λx=>item x.1 x.2.1 x.2.2) [some d0,some (.tup [.str i,.str g]),some (.lst acc),c,a] O=.nx [some d0,some (.tup [.str f,.str g']),some (.lst b),j,h] O/\asc f/\asc g'/\shF (L.map (·.2)) i g acc=shF [] f g' b
 | [],i,g,acc,c,a,_,hi,hg,_=>.inr ⟨i,g,acc,c,a,rfl,hi,hg,rfl⟩
 | (p,k,v)::L,i,g,acc,c,a,hL,hi,hg,hl=>by
  rw[zt] at hl
  have l:∀r,bU [some d0,some (.tup [.str i,.str g]),some (.lst acc),some (item p k v),a] O=r->aO (mgN 3) bU (((p,k,v)::L).map λx=>item x.1 x.2.1 x.2.2) [some d0,some (.tup [.str i,.str g]),some (.lst acc),c,a] O=(match r with
    | .nx ρ2 O2=>aO (mgN 3) bU (L.map λx=>item x.1 x.2.1 x.2.2) ρ2 O2
    | .ct ρ2 O2=>aO (mgN 3) bU (L.map λx=>item x.1 x.2.1 x.2.2) ρ2 O2
    | .bk ρ2 O2=>.nx ρ2 O2
    |r=>r):=λr e=>by
   subst e;rfl
  by_cases d:k=dq\/k=du
  ·refine .inl ⟨l _ (Qwh d _ _ _ _ O),?_⟩;show(if k=dq\/k=du then none else _)=_;rw[if_pos d]
  ·have q:=hL (p,k,v) zj;obtain⟨a1,a2⟩:=Bh (k:=k) hi hg q;have u:=Bj k v i g acc;have e:=l _ (QyV d i g acc (by omega) d0 a O);have t:=Bg d (L.map (·.2)) (v:=v) i g acc;rw[e,zd,t];exact Kg d0 O L _ _ _ (some (item p k v)) (some (.str k)) (λx m=>hL x (zp _ m)) a1 a2 (by omega)
theorem Qt9   (h:∀x∈c::r,x<128):asc (one c r).2.1:=by
 have b:=h c zj
 have a:asc ([91]:List Nat):=by intro c b;revert c;decide
 have g:asc ([]:List Nat):=λ_ z=>nomatch z
 have a1:∀x,x<128->asc [x]:=λx i c b=>by rw[zg.mp b];exact i
 unfold one
 split
 ·exact g
 split
 ·exact g
 split
 ·unfold bW
  cases r with
  |nil=>exact a
  |cons d r =>
   have hd:=h d (by simp);dsimp only
   split
   ·exact g
   split
   ·exact a
   split
   ·unfold gH
    cases r with
    |nil=>exact a
    |cons e r =>
     dsimp only
     split
     ·exact a1 _ hd
     ·exact a
   split
   ·unfold eY
    cases r with
    |nil=>exact a
    |cons e r =>
     have j:=h e (by simp);dsimp only
     split
     ·unfold iC
      cases r with
      |nil=>exact a
      |cons f r =>
       dsimp only
       split
       ·exact a1 _ j
       ·exact a
     ·exact a
   ·exact a
 ·exact a1 _ b
theorem vp:∀(n:Nat) (t:List Nat),(∀x∈t,x<128)->∀x∈kvf n t,asc x.2
 | 0,t,_=>λx a=>nomatch a
 |n+1,[],_=>λx a=>nomatch a
 |n+1,c::r,h=>λx a=>by
  rcases zh.mp (show x∈((one c r).1,(one c r).2.1)::kvf n (r.drop (one c r).2.2) from a) with rfl | a
  ·exact Qt9 h
  ·exact vp n _ (λy b=>h y (zp _ (jb b))) x a
theorem QoK(t:List Nat)(l:Okt t)(O:az):uT [.str t] O=.ok (jw (shF (kvf t.length t) [46] [46] [])) (O++[RO [] t.length]):=by
 have C:=Z7 t l O
 generalize O++[RO [] t.length]=O' at C ⊢
 obtain⟨L,l1,y⟩:=Bf t.length t 0 (zc _);have hlen:=l.len
 have I:L.length<=t.length:=by
  have:=yq t.length t 0 (zc _)
  rw[l1,zx] at this;exact this
 have H:∀x∈L,asc x.2.2:=λx F=>vp t.length t l.lt x.2 (by rw[<-y];exact zQ.mpr ⟨x,F,rfl⟩)
 have h:asc [46]:=by intro c J;revert c;decide
 rw[<-y];show bh (pO [some (.str t),none,none,none,none] O)=_;unfold pO
 rw[aN (dX (show aF 1 (mC (.tup [.str [46],.str [46]])) [some (.str t),none,none,none,none] O=.nx [some (.str t),some (.tup [.str [46],.str [46]]),none,none,none] O from rfl)),
  aN (dX (show aF 2 (bj aq) [some (.str t),some (.tup [.str [46],.str [46]]),none,none,none] O=.nx [some (.str t),some (.tup [.str [46],.str [46]]),some (.lst []),none,none] O from rfl))]
 have E:∀r,aO (mgN 3) bU (L.map λx=>item x.1 x.2.1 x.2.2) [some (.str t),some (.tup [.str [46],.str [46]]),some (.lst []),none,none] O'=r->bM (gn (fW pM (aj (aa 0) aq))) (mgN 3) bU [some (.str t),some (.tup [.str [46],.str [46]]),some (.lst []),none,none] O=r:=λr e =>
  (jt (YL ((mV (show aj (aa 0) aq [some (.str t),some (.tup [.str [46],.str [46]]),some (.lst []),none,none] O=.ok [.str t] O from rfl)).trans C))).trans (by rw[l1];exact e)
 show bh (au (bM (gn (fW pM (aj (aa 0) aq))) (mgN 3) bU) (au (msN (oF (aB (mIf (aA (ak gEq (aa 1) (mC (.tup [.str [46],.str [46]])))) (aa 2) (mC .non))))) aD) [some (.str t),some (.tup [.str [46],.str [46]]),some (.lst []),none,none] O)=_
 rcases Kg (.str t) O' L [46] [46] [] none none H h h (by rw[zJ];omega) with⟨q,m⟩ | ⟨b,d,a,j,i,q,a1,a2,m⟩
 ·rw[dg (E _ q),m];rfl
 ·rw[aN (E _ q),m];refine congrArg bh (a₂:=.rt (jw (shF [] b d a)) O') (dg (uH ?_))
  have f:aA (ak gEq (aa 1) (mC (.tup [.str [46],.str [46]]))) [some (.str t),some (.tup [.str b,.str d]),some (.lst a),j,i] O'=.ok (decide (b=[46])&&decide (d=[46])) O':=by
   simp only[oR,qZ,il,m_c,jf,zY,aQ,xU,Qyl a1 a2,mQ,xV]
  show fzF (jW (mIf _ _ _ _ _))=_;have u:shF [] b d a=if b=[46]/\d=[46] then some a else none:=rfl;rw[u]
  by_cases g:b=[46]/\d=[46]
  ·rw[if_pos g];rw[g.1,g.2] at f ⊢
   rw[show(mIf (aA (ak gEq (aa 1) (mC (.tup [.str [46],.str [46]])))) (aa 2) (mC .non)) [some (.str t),some (.tup [.str [46],.str [46]]),some (.lst a),j,i] O'=.ok (.lst a) O' by
    rw[uB,f]
    rfl]
   rfl
  ·rw[if_neg g]
   have G:(decide (b=[46])&&decide (d=[46]))=false:=by
    rw[<-Bool.decide_and];exact zo g
   rw[show(mIf (aA (ak gEq (aa 1) (mC (.tup [.str [46],.str [46]])))) (aa 2) (mC .non)) [some (.str t),some (.tup [.str b,.str d]),some (.lst a),j,i] O'=.ok .non O' by
    rw[uB,f,G]
    rfl]
   rfl
theorem QkT    (e:mX [d] (O++[RO [] 0])=.ex x (O++[RO [] 0])):uT [d] O=.ex x (O++[RO [] 0]):=by
 show bh (pO [some d,none,none,none,none] O)=_;unfold pO
 rw[aN (dX (show aF 1 (mC (.tup [.str [46],.str [46]])) [some d,none,none,none,none] O=.nx [some d,some (.tup [.str [46],.str [46]]),none,none,none] O from rfl)),
  aN (dX (show aF 2 (bj aq) [some d,some (.tup [.str [46],.str [46]]),none,none,none] O=.nx [some d,some (.tup [.str [46],.str [46]]),some (.lst []),none,none] O from rfl)),
  jZ (YK (YM ((mV (show aj (aa 0) aq [some d,some (.tup [.str [46],.str [46]]),some (.lst []),none,none] O=.ok [d] O from rfl)).trans (Z8 e))))]
 rfl
theorem bx      (c:a ρ O=.ok x O)(hb:b ρ O=.ok y O)(h:g (aX O x) (aX O y)=some z):ak g a b ρ O=.ok z O:=by
 rw[qZ,c,aQ,hb,aQ,h,mQ]
theorem ma1     (h:a ρ O=.ok x O):aj a aq ρ O=.ok [x] O:=by
 rw[oV,h,aQ,oU,aQ]
theorem maS       (h:a ρ O=.ok x O)(h2:r ρ O=.ok xs O):aj a r ρ O=.ok (x::xs) O:=by
 rw[oV,h,aQ,h2,aQ]
theorem vq     (h:m ρ O=.ok xs O)(a:xs.length<=1000000):aW m ρ O=.ok (.tup xs) O:=by
 rw[H9,h,aQ,if_pos a]
theorem vz     (h:m ρ O=.ok xs O)(a:xs.length<=1000000):bj m ρ O=.ok (.lst xs) O:=by
 rw[HY,h,aQ,if_pos a]
theorem j5       (h:m ρ O=.ok xs O)(a:g (xs.map (aX O))=some z):aM g m ρ O=.ok z O:=by
 rw[Yc,h,aQ,a,mQ]
theorem Bk       (a:m ρ O=.ok d O)(h:ρ[i]?=some (some (.lst ds)))(b:ds.length<1000000):dW i m ρ O=.nx (ρ.set i (some (.lst (ds++[d])))) O:=by
 rw[yo,a,yp h b]
theorem cg      (h:m ρ O=.ok d O):aF i m ρ O=.nx (ρ.set i (some d)) O:=by
 rw[lz,h,lA]
theorem dM      (h:ma ρ O=.ok ds O):aG c ma ρ O=c ds O:=by
 rw[uC,h,aQ]
theorem jx     (h:m ρ O=.ok (.bl b) O):aA m ρ O=.ok b O:=by
 rw[oR,h,aQ,xV]
theorem gM     (h:t ρ O=.ok true O):aK t a b ρ O=a ρ O:=by
 rw[uD,h,yc,if_pos rfl]
theorem iJ     (h:t ρ O=.ok false O):aK t a b ρ O=b ρ O:=by
 rw[uD,h,yc,if_neg zq]
theorem sr     (h:m ρ O=.ok (.lst l) O):aM aU (aj m aq) ρ O=.ok (.int (l.length:Int)) O:=j5 (ma1 h) rfl
theorem vA     (h:m ρ O=.ok (.int (n:Int)) O)(a:n<=1000000):eV (aj m aq) ρ O=.ok (dJ 0 n) O:=by
 rw[Yl,ma1 h,aQ];show(if(n:Int)<=1000000000/\-1000000000<=(n:Int) then Res.ok (dJ 0 (n:Int).toNat) O else .no)=_;rw[if_pos ⟨by omega,by omega⟩,Int.toNat_natCast]
theorem dO     (d:a ρ O=.ok (.int i) O)(hb:b ρ O=.ok (.int j) O)(c:0<j):ak aZ a b ρ O=.ok (.int (i % j)) O:=bx d hb (by rw[mR,mR,Yp,if_pos c])
theorem lE     (c:a ρ O=.ok (.int i) O)(hb:b ρ O=.ok (.int j) O):ak aC a b ρ O=.ok (.int (i+j)) O:=bx c hb rfl
theorem vB     (c:a ρ O=.ok (.int i) O)(hb:b ρ O=.ok (.int j) O):ak gk a b ρ O=.ok (.int (i - j)) O:=bx c hb rfl
theorem Kh     (c:a ρ O=.ok (.int i) O)(hb:b ρ O=.ok (.int j) O):aA (ak gLt a b) ρ O=.ok (decide (i<j)) O:=jx (bx c hb rfl)
theorem su     (c:a ρ O=.ok (.int i) O)(hb:b ρ O=.ok (.int j) O):aA (ak gEq a b) ρ O=.ok (decide (i=j)) O:=jx (bx c hb rfl)
noncomputable def isK(k:List Nat):Prop:=k=dq\/k=du\/k=bw\/k=eX\/k=fY\/k=jY
theorem Qtw(c:Nat)(r:List Nat):isK (one c r).1:=by
 unfold isK one
 split
 ·exact .inl rfl
 split
 ·exact .inr (.inl rfl)
 split
 ·unfold bW
  cases r with
  |nil=>exact .inr (.inr (.inl rfl))
  |cons d r =>
   dsimp only
   split
   ·exact .inr (.inr (.inr (.inr (.inr rfl))))
   split
   ·exact .inr (.inr (.inl rfl))
   split
   ·unfold gH
    cases r with
    |nil=>exact .inr (.inr (.inl rfl))
    |cons e r =>
     dsimp only
     split
     ·exact .inr (.inr (.inr (.inl rfl)))
     ·exact .inr (.inr (.inl rfl))
   split
   ·unfold eY
    cases r with
    |nil=>exact .inr (.inr (.inl rfl))
    |cons e r =>
     dsimp only
     split
     ·unfold iC
      cases r with
      |nil=>exact .inr (.inr (.inl rfl))
      |cons f r =>
       dsimp only
       split
       ·exact .inr (.inr (.inr (.inr (.inl rfl))))
       ·exact .inr (.inr (.inl rfl))
     ·exact .inr (.inr (.inl rfl))
   ·exact .inr (.inr (.inl rfl))
 ·exact .inr (.inr (.inl rfl))
structure Rw(t:List Nat):Prop where
 len:t.length<=300
 ok:∀c∈t,okc c\/c=126
theorem Rw.lt  (h:Rw t):∀c∈t,c<128:=λc a=>by
 have:=h.ok c a
 unfold okc at this;omega
theorem Rw.asc  (h:Rw t):ascii t=true:=by
 unfold ascii;rw[jh];intro c a;exact zF (h.lt c a)
theorem Rw.okt  (h:Rw t)(b:126∉t):Okt t:=⟨zE h.len (by decide),λc a=>by
 rcases h.ok c a with q | q
 ·exact q
 ·subst q;exact absurd a b⟩
noncomputable def sh(t:List Nat):Option (List D):=if 126∈t then none else shF (kvf t.length t) [46] [46] []
theorem Kl :∀{t:List Nat},x∈t->∃a b,t=a++x::b/\x∉a
 | [],h=>nomatch h
 |c::t,h=>by
  by_cases e:c=x
  ·subst e;exact⟨[],t,rfl,by simp⟩
  ·obtain⟨a,b,rfl,q⟩:=Kl ((zh.mp h).resolve_left λz=>e z.symm);exact⟨c::a,b,rfl,λz=>(zh.mp z).elim (λy=>e y.symm) q⟩
theorem Qt0       (h:m ρ O=.ok d O1):mJ m ys hb ρ O=.rt d O1:=by unfold mJ;rw[h]
theorem QuP        (h:m ρ O=.ex x O1)(a:ys.contains x.cls=true)(b:hb ρ O1=.rt d O2):mJ m ys hb ρ O=.rt d O2:=by
 unfold mJ;rw[h];simp only[a,if_true,b]
theorem Qxd(t:List Nat)(h:Rw t)(O:az):∃x,rN [.str t] O=.ok (jw (sh t)) (O++[x]):=by
 unfold sh
 by_cases d:126∈t
 ·rw[if_pos d];obtain⟨a,b,rfl,g⟩:=Kl d;have e:=QkT (O:=O) (ZZ (x:=126) (by unfold okc;omega) (λc f=>(h.ok c (List.mem_append_left _ f)).resolve_right λz=>g (z ▸ f)) h.asc (O++[RO [] 0]));refine⟨RO [] 0,?_⟩;show bh (pQ [some (.str (a++126::b))] O)=_;unfold pQ;rw[QuP ((mV (show aj (aa 0) aq [some (.str (a++126::b))] O=.ok [.str (a++126::b)] O from rfl)).trans e) (show List.contains [("NoSign":Str)] "NoSign" = true by decide) (show aB (mC .non) _ _=.rt .non _ from rfl)];rfl
 ·rw[if_neg d];refine⟨RO [] t.length,?_⟩;show bh (pQ [some (.str t)] O)=_;unfold pQ;rw[Qt0 ((mV (show aj (aa 0) aq [some (.str t)] O=.ok [.str t] O from rfl)).trans (QoK t (h.okt d) O))];rfl
noncomputable def bL:MS:=(aK (aA (ak gEq (aa 4) (mC (.str [115,105,103,110])))) (dW 1 (aW (aj (aa 5) (aj (ak gIx (bj (aj (ak gIx (aa 2) (mC (.int 0))) (aj (mC (.str [46])) aq))) (aM gm (aj (ak gEq (aa 5) (mC (.str [32]))) aq))) (aj (ak gIx (aa 2) (mC (.int 1))) aq))))) (aK (aA (ak gEq (aa 4) (mC (.str [105,110,107])))) (iy 2 (mC (.int 0)) (aa 5)) (aK (aA (ak gEq (aa 4) (mC (.str [103,114,111,117,110,100])))) (iy 2 (mC (.int 1)) (aa 5)) (aK (aA (ak gEq (aa 4) (mC (.str [112,108,97,105,110])))) (aF 2 (bj (aj (mC (.str [46])) (aj (mC (.str [46])) aq)))) (aB (mG (mC .non)))))))
noncomputable def gL:MG:=fG 3 (bQ (mgN 3) (bQ (mgN 4) (bQ (mgN 5) fQ)))
theorem QAl   :aA (ak gEq (aa 4) (mC (.str q))) [o0,o1,o2,o3,some (.str k),o5] O=.ok (decide (k=q)) O:=jx (bx (x:=.str k) (y:=.str q) rfl rfl rfl)
theorem QvU  (g:k=dq\/k=du)(f d c b a:Option D)(O:az):bL [f,d,c,b,some (.str k),a] O=.rt .non O:=by
 unfold bL
 rcases g with rfl | rfl
 ·rfl
 ·rfl
theorem Qx0  (c:¬(k=dq\/k=du))(j:isK k)(v i g:List Nat)(acc:List D)(f:acc.length<1000000)(b a:Option D)(O:az):bL [b,some (.lst acc),some (.lst [.str i,.str g]),a,some (.str k),some (.str v)] O =
  .nx [b,some (.lst (j4 k v i g acc)),some (.lst [.str (pbh i g k v).1,.str (pbh i g k v).2]),a,some (.str k),some (.str v)] O:=by
 have app:dW 1 (aW (aj (aa 5) (aj (ak gIx (bj (aj (ak gIx (aa 2) (mC (.int 0))) (aj (mC (.str [46])) aq))) (aM gm (aj (ak gEq (aa 5) (mC (.str [32]))) aq))) (aj (ak gIx (aa 2) (mC (.int 1))) aq)))) [b,some (.lst acc),some (.lst [.str i,.str g]),a,some (.str k),some (.str v)] O =
   .nx [b,some (.lst (acc++[.tup [.str v,.str (shI v i),.str g]])),some (.lst [.str i,.str g]),a,some (.str k),some (.str v)] O:=by
  refine Bk (d:=.tup [.str v,.str (shI v i),.str g]) (vq (maS (x:=.str v) rfl (maS (x:=.str (shI v i)) ?_ (ma1 (x:=.str g) rfl))) (show(3:Nat)<=1000000 by decide)) rfl f;unfold shI
  by_cases h:v=[32]
  ·subst h;rw[if_pos rfl];rfl
  ·rw[if_neg h];refine bx (x:=.lst [.str i,.str [46]]) (y:=.int 0) rfl (j5 (xs:=[.bl false]) (ma1 (bx (x:=.str v) (y:=.str [32]) rfl rfl ?_)) rfl) rfl;show some (D.bl (decide (v=[32])))=_;rw[zo h]
 unfold bL
 rcases j with rfl | rfl | rfl | rfl | rfl | rfl
 ·exact absurd (.inl rfl) c
 ·exact absurd (.inr rfl) c
 ·exact(gM QAl).trans app
 ·rfl
 ·rfl
 ·rfl
theorem Km:∀(n:Nat) (t:List Nat),∀x∈kvf n t,isK x.1
 | 0,t,x,a=>by cases t<;>cases a
 |n+1,[],x,a=>by cases a
 |n+1,c::r,x,a=>by
  unfold kvf at a
  rcases zh.mp a with rfl | a
  ·exact Qtw c r
  ·exact Km n _ x a
theorem Ko(b:Option D)(O:az):∀(L:List (Int×List Nat×List Nat)) (i g:List Nat) (acc:List D) (f d c:Option D),(∀x∈L,asc x.2.2/\isK x.2.1)->asc i->asc g->acc.length+L.length<=100000 ->
  (aO gL bL (L.map λx=>item x.1 x.2.1 x.2.2) [b,some (.lst acc),some (.lst [.str i,.str g]),f,d,c] O=.rt .non O/\shF (L.map (·.2)) i g acc=none) \/
  ∃j g' a q m l,aO gL bL (L.map λx=>item x.1 x.2.1 x.2.2) [b,some (.lst acc),some (.lst [.str i,.str g]),f,d,c] O=.nx [b,some (.lst a),some (.lst [.str j,.str g']),q,m,l] O/\asc j/\asc g'/\shF (L.map (·.2)) i g acc=shF [] j g' a
 | [],i,g,acc,f,d,c,_,hi,hg,_=>.inr ⟨i,g,acc,f,d,c,rfl,hi,hg,rfl⟩
 | (p,k,v)::L,i,g,acc,f,d,c,hL,hi,hg,hl=>by
  rw[zt] at hl
  have t:∀r,bL [b,some (.lst acc),some (.lst [.str i,.str g]),some (.int p),some (.str k),some (.str v)] O=r->aO gL bL (((p,k,v)::L).map λx=>item x.1 x.2.1 x.2.2) [b,some (.lst acc),some (.lst [.str i,.str g]),f,d,c] O=(match r with
    | .nx ρ2 O2=>aO gL bL (L.map λx=>item x.1 x.2.1 x.2.2) ρ2 O2
    | .ct ρ2 O2=>aO gL bL (L.map λx=>item x.1 x.2.1 x.2.2) ρ2 O2
    | .bk ρ2 O2=>.nx ρ2 O2
    |r=>r):=λr e=>by
   subst e;rfl
  by_cases h:k=dq\/k=du
  ·refine .inl ⟨t _ (QvU h _ _ _ _ _ O),?_⟩;show(if k=dq\/k=du then none else _)=_;rw[if_pos h]
  ·have u:=hL (p,k,v) zj;obtain⟨a1,a2⟩:=Bh (k:=k) hi hg u.1;have E:=Bj k v i g acc;have e:=t _ (Qx0 h u.2 v i g acc (by omega) b (some (.int p)) O);have C:=Bg h (L.map (·.2)) (v:=v) i g acc;rw[e,zd,C];exact Ko b O L _ _ _ (some (.int p)) (some (.str k)) (some (.str v)) (λx y=>hL x (zp _ y)) a1 a2 (by omega)
theorem Qvt(t:List Nat):gIn false (.str [126]) (.str t)=some (.bl (decide (126∈t))):=by
 rw[jX];simp
theorem Qse  (d:asc i)(f:asc g):gNe (.lst [.str i,.str g]) (.lst [.str [46],.str [46]])=some (.bl (!(decide (i=[46])&&decide (g=[46])))):=by
 have a:asc [46]:=by intro c b;revert c;decide
 have ok:∀{i g:List Nat},asc i->asc g->okE (.lst [.str i,.str g])=true:=λ{i g} d f=>by
  unfold okE;show(true&&okD (.list [.str (S i),.str (S g)]))=true;unfold okD
  rw[show(PyData.list [.str (S i),.str (S g)]).canLay0=true by
   show((PyData.str (S i)).canLay0&&((PyData.str (S g)).canLay0&&true))=true;rw[iB λc b=>Nat.lt_trans (d c b) (by decide),iB λc b=>Nat.lt_trans (f c b) (by decide)]
   rfl]
  rfl
 have z:gNe (.lst [.str i,.str g]) (.lst [.str [46],.str [46]])=if(okE (.lst [.str i,.str g])&&okE (.lst [.str [46],.str [46]]))=true then some (.bl (!eQ (.lst [.str i,.str g]) (.lst [.str [46],.str [46]]))) else none:=rfl;have y:eQ (.lst [.str i,.str g]) (.lst [.str [46],.str [46]])=(decide (i=[46])&&decide (g=[46])):=Kf i g [46] [46];rw[z,ok d f,ok a a,y];rfl
theorem Bl(t:List Nat)(h:Rw t)(O:az):m9 [.str t] O=.ok (jw (sh t)) O:=by
 have hlen:=h.len;show bh (u5 [some (.str t),none,none,none,none,none] O)=_;unfold u5;rw[aN (show aF 1 _ _ _=.nx [some (.str t),some (.lst []),none,none,none,none] O from rfl),aN (show aF 2 _ _ _=.nx [some (.str t),some (.lst []),some (.lst [.str [46],.str [46]]),none,none,none] O from rfl)];have b:aA (ak (gIn false) (mC (.str [126])) (aa 0)) [some (.str t),some (.lst []),some (.lst [.str [46],.str [46]]),none,none,none] O=.ok (decide (126∈t)) O:=jx (bx (x:=.str [126]) (y:=.str t) rfl rfl (Qvt t));unfold sh
 by_cases l:126∈t
 ·rw[if_pos l,dg ((gM (b.trans (by rw[zF l]))).trans (show aB (mG (mC .non)) _ _=.rt .non O from rfl))];rfl
 ·rw[if_neg l,aN ((iJ (b.trans (by rw[zo l]))).trans (show aD _ _=.nx _ O from rfl))];obtain⟨L,l1,E⟩:=Bf t.length t 0 (zc _)
  have R:L.length<=t.length:=by
   have:=yq t.length t 0 (zc _)
   rw[l1,zx] at this;exact this
  have P:∀x∈L,asc x.2.2/\isK x.2.1:=λx J=>by
   have i:x.2∈kvf t.length t:=by rw[<-E];exact zQ.mpr ⟨x,J,rfl⟩
   exact⟨vp t.length t h.lt x.2 i,Km _ _ _ i⟩
  have j:asc [46]:=by intro c T;revert c;decide
  have Q:=Qmz t (by omega) O
  have F:∀r,aO gL bL (L.map λx=>item x.1 x.2.1 x.2.2) [some (.str t),some (.lst []),some (.lst [.str [46],.str [46]]),none,none,none] O=r->bM (bG (aG pU (aj (aa 0) aq))) gL bL [some (.str t),some (.lst []),some (.lst [.str [46],.str [46]]),none,none,none] O=r:=λr e =>
   (jt (by rw[rE,dM (ds:=[.str t]) rfl,Q];rfl)).trans (by rw[l1];exact e)
  rw[<-E];show bh (au (bM (bG (aG pU (aj (aa 0) aq))) gL bL) _ _ O)=_
  rcases Ko (some (.str t)) O L [46] [46] [] none none none P j j (by rw[zJ];omega) with⟨u,q⟩ | ⟨d,f,a,I,H,G,u,a1,a2,q⟩
  ·rw[dg (F _ u),q];rfl
  ·rw[aN (F _ u),q];have g:aA (ak gNe (aa 2) (bj (aj (mC (.str [46])) (aj (mC (.str [46])) aq)))) [some (.str t),some (.lst a),some (.lst [.str d,.str f]),I,H,G] O=.ok (!(decide (d=[46])&&decide (f=[46]))) O:=jx (bx (x:=.lst [.str d,.str f]) (y:=.lst [.str [46],.str [46]]) rfl rfl (Qse a1 a2));have C:shF [] d f a=if d=[46]/\f=[46] then some a else none:=rfl;rw[C]
   by_cases m:d=[46]/\f=[46]
   ·rw[if_pos m,aN ((iJ (g.trans (by rw[<-Bool.decide_and,zF m];rfl))).trans (show aD _ _=.nx _ O from rfl))];rfl
   ·rw[if_neg m,dg ((gM (g.trans (by rw[<-Bool.decide_and,zo m];rfl))).trans (show aB (mG (mC .non)) _ _=.rt .non O from rfl))];rfl
theorem ir     (h:m ρ O=.ok (.int i) O):moS m ρ O=.ok (some i) O:=by rw[Ye,h,aQ,Yd]
theorem pY     (h:m ρ O=.ok (.str t) O)(a:t.length<=1000000):aM aU (aj m aq) ρ O=.ok (.int (t.length:Int)) O:=j5 (xs:=[.str t]) (ma1 h) (by
 show aU [D.str t]=_
 rw[Yr,if_pos a])
theorem dz     (d:a ρ O=.ok (.str x) O)(hb:b ρ O=.ok (.str y) O)(c:x.length+y.length<=1000000):ak aC a b ρ O=.ok (.str (x++y)) O:=bx d hb (by rw[mU,mU,Yn,if_pos c])
theorem Bm     (c:a ρ O=.ok (.str i) O)(hb:b ρ O=.ok (.str j) O):aA (ak gEq a b) ρ O=.ok (decide (i=j)) O:=jx (bx c hb rfl)
theorem lF       (c:m ρ O=.ok (.str t) O)(d:a ρ O=.ok x O)(hb:b ρ O=.ok y O)(f:t.length<=1000000):mSl m a b ρ O=.ok (.str (cB t x y)) O:=by
 rw[rn,c,aQ,d,aQ,hb,aQ,mU,Yg,if_pos (by omega),mQ]
theorem iK       (a:g d ρ=some ρ1)(hb:b ρ1 O=.nx ρ2 O2):aO g b (d::ds) ρ O=aO g b ds ρ2 O2:=by
 rw[aO,a];dsimp only;rw[hb]
theorem Bo       (a:g d ρ=some ρ1)(hb:b ρ1 O=.rt e O2):aO g b (d::ds) ρ O=.rt e O2:=by
 rw[aO,a];dsimp only;rw[hb]
theorem Kp{α:Type}(f:α->Int):∀l:List α,kI (l.map λx=>.int (f x))=some (l.map f)
 | []=>rfl
 |x::l=>by
  show(kI (l.map λx=>D.int (f x))).map _=_;rw[Kp f l];rfl
structure NOk(n:List Nat):Prop where
 l1:1<=n.length
 l8:n.length<=8
 ok:∀c∈n,97<=c/\c<=122
structure Nms(N:List (List Nat)):Prop where
 ok:∀n∈N,NOk n
 ne:N≠[]
 l4:N.length<=4
 nd:N.Nodup
noncomputable def wd:List (List Nat)->Nat
 | []=>0
 |n::r=>max n.length (wd r)
theorem sy:∀{N:List (List Nat)}{n:List Nat},n∈N->n.length<=wd N
 |m::r,n,h=>by
  unfold wd
  rcases zh.mp h with rfl | h
  ·exact Nat.le_max_left _ _
  ·exact zE (sy h) (Nat.le_max_right _ _)
theorem Bp:∀{N:List (List Nat)},N≠[]->∃n∈N,n.length=wd N
 | [m],_=>⟨m,zj,by simp[wd]⟩
 |m::k::r,_=>by
  obtain⟨n,h1,h2⟩:=Bp (N:=k::r) (by simp);unfold wd
  rcases Nat.le_total m.length (wd (k::r)) with h | h
  ·exact⟨n,zp _ h1,by rw[Nat.max_eq_right h];exact h2⟩
  ·exact⟨m,zj,by rw[Nat.max_eq_left h]⟩
theorem wd8  (h:Nms N):wd N<=8:=by
 obtain⟨n,h1,h2⟩:=Bp h.ne;rw[<-h2];exact(h.ok n h1).l8
noncomputable def dN(N:List (List Nat)):D:=.lst (N.map D.str)
theorem Bq  (h:Nms N)    (c:ρ[i]?=some (some (dN N))):aM lg (aj (c7 (bG (aa i)) 1 [] (mgN 0) cO (aM aU (aj (aa 0) aq))) aq) ρ O=.ok (.int (wd N:Int)) O:=by
 have z:=rH (g:=mgN 0) (t:=cO) (m:=aM aU (aj (aa 0) aq)) (λρ=>∃a,ρ=[a]) D.str (λn=>.int (n.length:Int)) N [none] O [] ⟨none,rfl⟩ (by
  rintro y hy ρ ⟨a,rfl⟩
  exact⟨_,rfl,⟨_,rfl⟩,rfl,pY rfl (by have:=(h.ok y hy).l8;omega)⟩)
 rw[zN] at z;have l4:=h.l4
 have f:c7 (bG (aa i)) 1 [] (mgN 0) cO (aM aU (aj (aa 0) aq)) ρ O=.ok (.lst (N.map λn=>.int (n.length:Int))) O:=by
  rw[rF,rE,il,c];show(if(N.map D.str).length<=1000000 then _ else _)=_;rw[if_pos (by rw[zx];omega),show gY 1 [] ρ=[none] from rfl,z,aQ]
 refine j5 (xs:=[.lst (N.map λn=>.int (n.length:Int))]) (ma1 f) ?_;show lg [.lst (N.map λn=>.int (n.length:Int))]=_;unfold lg;dsimp only;rw[Kp];dsimp only;obtain⟨n,h1,h2⟩:=Bp h.ne
 rw[xD (M:=(wd N:Int)) (zQ.mpr ⟨n,h1,by rw[h2]⟩) λa d=>by
  obtain⟨m,b,rfl⟩:=zQ.mp d
  have:=sy b
  omega]
 rfl
noncomputable def pad(w:Nat)(n:List Nat):List Nat:=n++List.replicate (w - n.length) 32
theorem pZ   (h:n∈N):(pad (wd N) n).length=wd N:=by
 have:=sy h
 unfold pad;rw[zf,List.length_replicate];omega
noncomputable def kW:List Nat:=[119,104,111,108,101]
noncomputable def kM:List Nat:=[109,111,114,101]
theorem Qw0  (h:Nms N)  (c:n∈N)(W:List Nat)(O:az):uW [.str n,dN N,.str W] O=.ok (.str (pad (wd N) n++[if W=kW then 124 else 62])) O:=by
 have l:=wd8 h;have b:=pZ c;show bh (uV [some (.str n),some (dN N),some (.str W),none] O)=_;unfold uV;rw[aN (cg (Bq h (i:=1) rfl))];refine congrArg bh (a₂:=.rt _ O) ?_
 have g:uo (mG (aa 0)) (aa 3) [some (.str n),some (dN N),some (.str W),some (.int (wd N:Int))] O=.ok (.str (pad (wd N) n)) O:=by
  unfold uo;rw[show mG (aa 0) [some (.str n),some (dN N),some (.str W),some (.int (wd N:Int))] O=.ok (.str n) O from rfl,aQ,show aa 3 [some (.str n),some (dN N),some (.str W),some (.int (wd N:Int))] O=.ok (.int (wd N:Int)) O from rfl,aQ];dsimp only;rw[if_pos (by omega)];rfl
 have f:mIf (aA (ak gEq (aa 2) (mC (.str [119,104,111,108,101])))) (mC (.str [124])) (mC (.str [62])) [some (.str n),some (dN N),some (.str W),some (.int (wd N:Int))] O=.ok (.str [if W=kW then 124 else 62]) O:=by
  rw[uB,Bm (i:=W) (j:=kW) rfl rfl,aQ]
  by_cases a:W=kW
  ·rw[zF a,if_pos rfl,if_pos a];rfl
  ·rw[zo a,if_neg zq,if_neg a];rfl
 show aB _ _ O=_;rw[oX];have d:=dz g f (by rw[b,zB];omega);exact congrArg jW d
abbrev Hd:=List Nat×Nat×List Nat
noncomputable def hD(w:Nat)(x:Hd):D:=.tup [.str (pad w x.1++[x.2.1]),.str x.1,.str x.2.2]
noncomputable def hs(N:List (List Nat)):List Hd:=N.flatMap λn=>[(n,124,kW),(n,62,kM)]
noncomputable def bH:MS:=(dW 1 (aW (aj (aG uW (aj (aa 2) (aj (aa 0) (aj (aa 3) aq)))) (aj (aa 2) (aj (aa 3) aq)))))
noncomputable def bH2:MS:=(bM (bG (aW (aj (mC (.str [119,104,111,108,101])) (aj (mC (.str [109,111,114,101])) aq)))) (mgN 3) bH)
theorem Kq  (h:Nms N)  (a:n∈N)(W:List Nat)(acc:List D)(b:acc.length<1000000)(O:az):bH [some (dN N),some (.lst acc),some (.str n),some (.str W)] O=.nx [some (dN N),some (.lst (acc++[hD (wd N) (n,if W=kW then 124 else 62,W)])),some (.str n),some (.str W)] O:=by
 unfold bH;exact Bk (vq (maS ((dM (ds:=[.str n,dN N,.str W]) rfl).trans (Qw0 h a W O)) (maS (x:=.str n) rfl (ma1 (x:=.str W) rfl))) (show(3:Nat)<=1000000 by decide)) rfl b
theorem QwE  (h:Nms N)  (a:n∈N)(acc:List D)(f:acc.length<100000)(d:Option D)(O:az):bH2 [some (dN N),some (.lst acc),some (.str n),d] O=.nx [some (dN N),some (.lst (acc++[hD (wd N) (n,124,kW),hD (wd N) (n,62,kM)])),some (.str n),some (.str kM)] O:=by
 have c:=Kq h a kW acc (by omega) O;have b:=Kq h a kM (acc++[hD (wd N) (n,124,kW)]) (by rw[zf,zB];omega) O;rw[if_pos rfl] at c;rw[if_neg (by decide)] at b;unfold bH2;rw[jt (ds:=[.str kW,.str kM]) (O':=O) rfl,iK (ρ1:=[some (dN N),some (.lst acc),some (.str n),some (.str kW)]) rfl c,iK (ρ1:=[some (dN N),some (.lst (acc++[hD (wd N) (n,124,kW)])),some (.str n),some (.str kM)]) rfl b,zD];rfl
theorem Kr  (h:Nms N)(O:az):∀(M:List (List Nat)) (acc:List D) (b a:Option D),(∀n∈M,n∈N)->acc.length+2 * M.length<=1000->∃d c,aO (mgN 2) bH2 (M.map D.str) [some (dN N),some (.lst acc),b,a] O=.nx [some (dN N),some (.lst (acc++(hs M).map (hD (wd N)))),d,c] O
 | [],acc,b,a,_,_=>⟨b,a,by simp[hs];rfl⟩
 |n::M,acc,b,a,hM,hl=>by
  rw[zt] at hl;obtain⟨d,c,e⟩:=Kr h O M (acc++[hD (wd N) (n,124,kW),hD (wd N) (n,62,kM)]) (some (.str n)) (some (.str kM)) (λm f=>hM m (zp _ f)) (by rw[zf];simp;omega);refine⟨d,c,?_⟩;rw[zd,iK (ρ1:=[some (dN N),some (.lst acc),some (.str n),a]) rfl (QwE h (hM n zj) acc (by omega) a O),e,zD];rfl
theorem QtT  (h:Nms N)(O:az):Al [dN N] O=.ok (.lst ((hs N).map (hD (wd N)))) O:=by
 have l4:=h.l4;obtain⟨b,a,e⟩:=Kr h O N [] none none (λ_ z=>z) (by rw[zJ];omega);show bh (uX [some (dN N),none,none,none] O)=_;unfold uX;rw[aN (show aF 1 _ _ _=.nx [some (dN N),some (.lst []),none,none] O from rfl)];show bh (au (bM (bG (aa 0)) (mgN 2) bH2) _ _ O)=_;rw[aN ((jt (ds:=N.map D.str) (O':=O) rfl).trans e),zN];rfl
noncomputable def dig(k:Nat):List Nat:=(Nat.toDigits 10 k).map Char.toNat
noncomputable def ah(b:Bool)(k:Nat):List Nat:=if b=true then dig k++[32] else[]
theorem vC:∀k,k<40->(dig k).length<=2/\∀c∈dig k,48<=c/\c<=57:=by decide +kernel
theorem sE(b:Bool)  (d:k<40):(ah b k).length<=3/\∀c∈ah b k,okc c:=by
 have:=vC k d
 unfold ah
 cases b with
 |false=>exact⟨Nat.zero_le _,λc a=>nomatch a⟩
 |true =>
  rw[if_pos rfl];refine⟨by rw[zf,zB];omega,λc a=>?_⟩
  rcases zv.mp a with a | a
  ·have:=this.2 c a;unfold okc;omega
  ·rw[zg.mp a];unfold okc;omega
theorem Br     (a:m ρ O=.ok (.int (k:Int)) O)(b:k<40):aM iz (aj m aq) ρ O=.ok (.str (dig k)) O:=j5 (xs:=[.int (k:Int)]) (ma1 a) (by
 show iz [.int (k:Int)]=_;unfold iz;dsimp only;rw[if_pos (by omega),Int.toNat_natCast]
 rfl)
theorem Qum(b:Bool){k:Nat}(a:k<40)(O:az):pP [.int (k:Int),.bl b] O=.ok (.str (ah b k)) O:=by
 have:=vC k a
 show bh (uU [some (.int (k:Int)),some (.bl b)] O)=_;unfold uU ah;refine congrArg bh (a₂:=.rt _ O) ?_;rw[oX,uB]
 cases b with
 |false=>rfl
 |true =>
  rw[show cz (aa 1) [some (.int (k:Int)),some (.bl true)] O=.ok true O from rfl,aQ,if_pos rfl,if_pos rfl,dz (x:=dig k) (Br rfl a) (y:=[32]) rfl (by rw[zB];omega)];rfl
theorem slT{a:Nat}(c:m ρ O=.ok (.str t) O)(b:q ρ O=.ok (.int (a:Int)) O)(d:t.length<=1000):mSl m moN (moS q) ρ O=.ok (.str (t.take a)) O:=(lF c rfl (ir b) (by omega)).trans (by rw[Ba])
theorem slD{a:Nat}(c:m ρ O=.ok (.str t) O)(b:q ρ O=.ok (.int (a:Int)) O)(d:t.length<=1000):mSl m (moS q) moN ρ O=.ok (.str (t.drop a)) O:=(lF c (ir b) rfl (by omega)).trans (by rw[rZ])
theorem add_n(c:m ρ O=.ok (.int (a:Int)) O)(hb:q ρ O=.ok (.int (b:Int)) O):ak aC m q ρ O=.ok (.int ((a+b:Nat):Int)) O:=(lE c hb).trans (by push_cast;rfl)
theorem sG   (h:T ρ O=.ok true O)(h2:m ρ O=.ok d O):aK T (aB m) aD ρ O=.rt d O:=(gM h).trans (by rw[oX,h2];rfl)
theorem jy   (h:T ρ O=.ok false O):aK T x aD ρ O=.nx ρ O:=iJ h
theorem Ks  (a:m ρ O=.ok (.int i) O)(hb:q ρ O=.ok (.int j) O)(h:i<j):aA (ak gLt m q) ρ O=.ok true O:=(Kh a hb).trans (by rw[zF h])
theorem Bs  (a:m ρ O=.ok (.int i) O)(hb:q ρ O=.ok (.int j) O)(h:¬i<j):aA (ak gLt m q) ρ O=.ok false O:=(Kh a hb).trans (by rw[zo h])
theorem Bt  (a:m ρ O=.ok (.int i) O)(hb:q ρ O=.ok (.int j) O)(h:i=j):aA (ak gEq m q) ρ O=.ok true O:=(su a hb).trans (by rw[zF h])
theorem eq_n  (a:m ρ O=.ok (.int i) O)(hb:q ρ O=.ok (.int j) O)(h:¬i=j):aA (ak gEq m q) ρ O=.ok false O:=(su a hb).trans (by rw[zo h])
theorem dY  (a:m ρ O=.ok (.int c) O)(hb:q ρ O=.ok (.int k) O)(h0:0<=k)(h1:k<=1000000):aG b8 (aj m (aj q aq)) ρ O=.ok (.int (mix c k)) O:=(dM (maS a (ma1 hb))).trans (Bb c k h0 h1 O)
theorem qb(v:Int){n:Nat}(h:0<n):∃a:Nat,v % (n:Int)=(a:Int)/\a<n:=⟨(v % (n:Int)).toNat,by have:=ja v (b:=(n:Int)) (by omega);omega,by have:=ja v (b:=(n:Int)) (by omega);have:=je v (b:=(n:Int)) (by omega);omega⟩
noncomputable def eZ:Option (List Nat×List D×List Nat)->D
 |none=>.non
 |some x=>.tup [.str x.1,.lst x.2.1,.str x.2.2]
noncomputable def rdS(t a:List Nat)(w:Nat):List Hd->Option (List Nat×List D×List Nat)
 | []=>none
 |x::r=>if t.take (a++(pad w x.1++[x.2.1])).length=a++(pad w x.1++[x.2.1]) then(sh (t.drop (a++(pad w x.1++[x.2.1])).length)).map λl=>(x.1,l,x.2.2) else rdS t a w r
noncomputable def gRR:MG:=fG 3 (bQ (mgN 3) (bQ (mgN 4) (bQ (mgN 5) fQ)))
noncomputable def bRR:MS:=(aK (cz (lV (mG (aa 0)) (ak aC (aa 1) (aa 3)))) (au (aF 6 (aG rN (aj (mSl (aa 0) (moS (aM aU (aj (ak aC (aa 1) (aa 3)) aq))) moN) aq)))
  (aB (mIf (aA (d9 (aa 6))) (mC .non) (aW (aj (aa 4) (aj (aa 6) (aj (aa 5) aq))))))) aD)
theorem Rw.sub  (h:Rw t)(a:s.length<=t.length)(hs:∀c∈s,c∈t):Rw s:=⟨zE a h.len,λc b=>h.ok c (hs c b)⟩
theorem Rw.drop  (h:Rw t)(n:Nat):Rw (t.drop n):=h.sub (by rw[List.length_drop];omega) λc a=>jb a
theorem Ku  (i:Rw t)(H:a.length<=3)  (F:w<=8)(d2:D)(O:az):∀(L:List Hd) (f d b o6:Option D),(∀x∈L,(pad w x.1).length=w) ->
  (∃C u r p6,aO gRR bRR (L.map (hD w)) [some (.str t),some (.str a),some d2,f,d,b,o6] O=.nx [some (.str t),some (.str a),some d2,C,u,r,p6] O/\rdS t a w L=none) \/
  ∃x,aO gRR bRR (L.map (hD w)) [some (.str t),some (.str a),some d2,f,d,b,o6] O=.rt (eZ (rdS t a w L)) (O++[x])
 | [],f,d,b,o6,_=>.inl ⟨f,d,b,o6,rfl,rfl⟩
 | (n,c,W)::L,f,d,b,o6,hL=>by
  have U:=i.len
  have G:(pad w n++[c]).length=w+1:=by rw[zf,hL _ zj];rfl
  have T:(a++(pad w n++[c])).length=a.length+(w+1):=by rw[zf,G]
  have q:ak aC (aa 1) (aa 3) [some (.str t),some (.str a),some d2,some (.str (pad w n++[c])),some (.str n),some (.str W),o6] O=.ok (.str (a++(pad w n++[c]))) O:=dz (x:=a) (y:=pad w n++[c]) rfl rfl (by omega)
  have h:cz (lV (mG (aa 0)) (ak aC (aa 1) (aa 3))) [some (.str t),some (.str a),some d2,some (.str (pad w n++[c])),some (.str n),some (.str W),o6] O=.ok (decide (t.take (a++(pad w n++[c])).length=a++(pad w n++[c]))) O:=by
   rw[rm,YB,show mG (aa 0) [some (.str t),some (.str a),some d2,some (.str (pad w n++[c])),some (.str n),some (.str W),o6] O=.ok (.str t) O from rfl,aQ,q,aQ];rfl
  by_cases g:t.take (a++(pad w n++[c])).length=a++(pad w n++[c])
  ·rw[zF g] at h
   have j:rdS t a w ((n,c,W)::L)=(sh (t.drop (a++(pad w n++[c])).length)).map λl=>(n,l,W):=by
    rw[rdS,if_pos g]
   have R:mSl (aa 0) (moS (aM aU (aj (ak aC (aa 1) (aa 3)) aq))) moN [some (.str t),some (.str a),some d2,some (.str (pad w n++[c])),some (.str n),some (.str W),o6] O=.ok (.str (t.drop (a++(pad w n++[c])).length)) O:=by
    have:=lF (m:=aa 0) (ρ:=[some (.str t),some (.str a),some d2,some (.str (pad w n++[c])),some (.str n),some (.str W),o6]) (t:=t) rfl (ir (pY q (by omega))) (show moN _ O=.ok none O from rfl) (by omega)
    rw[rZ] at this;exact this
   obtain⟨x,I⟩:=Qxd _ (i.drop (a++(pad w n++[c])).length) O;refine .inr ⟨x,?_⟩;rw[zd];refine Bo (ρ1:=[some (.str t),some (.str a),some d2,some (.str (pad w n++[c])),some (.str n),some (.str W),o6]) rfl ?_;unfold bRR
   have Q:aF 6 (aG rN (aj (mSl (aa 0) (moS (aM aU (aj (ak aC (aa 1) (aa 3)) aq))) moN) aq)) [some (.str t),some (.str a),some d2,some (.str (pad w n++[c])),some (.str n),some (.str W),o6] O=.nx [some (.str t),some (.str a),some d2,some (.str (pad w n++[c])),some (.str n),some (.str W),some (jw (sh (t.drop (a++(pad w n++[c])).length)))] (O++[x]):=by
    rw[lz,dM (ma1 R),I,lA];rfl
   rw[gM h,aN Q,j]
   cases sh (t.drop (a++(pad w n++[c])).length) with
   |none=>rfl
   |some l=>rfl
  ·rw[zo g] at h
   have j:rdS t a w ((n,c,W)::L)=rdS t a w L:=by
    rw[rdS,if_neg g]
   have P:bRR [some (.str t),some (.str a),some d2,some (.str (pad w n++[c])),some (.str n),some (.str W),o6] O=.nx [some (.str t),some (.str a),some d2,some (.str (pad w n++[c])),some (.str n),some (.str W),o6] O:=iJ h;have J:aO gRR bRR (hD w (n,c,W)::L.map (hD w)) [some (.str t),some (.str a),some d2,f,d,b,o6] O=_:=iK (ρ1:=[some (.str t),some (.str a),some d2,some (.str (pad w n++[c])),some (.str n),some (.str W),o6]) rfl P;rw[zd,j,J]
   exact Ku i H F d2 O L _ _ _ _ λx E=>hL x (zp _ E)
noncomputable def Ext(O O':az):Prop:=∃a,O'=O++a
theorem Ext.refl(O:az):Ext O O:=⟨[],(zI _).symm⟩
theorem Ext.at  (h:Ext O O'){n:Nat}  (e:O[n]?=some o):O'[n]?=some o:=by
 obtain⟨a,rfl⟩:=h;rw[zA (zk.mp e).1];exact e
theorem QvM{M:List (List Nat)}(c:∀n∈M,n∈N):∀x∈hs M,(pad (wd N) x.1).length=wd N:=λx a=>by
 obtain⟨n,b,a⟩:=List.mem_flatMap.mp a;simp only[zh,List.not_mem_nil,or_false] at a
 rcases a with rfl | rfl
 ·exact pZ (c n b)
 ·exact pZ (c n b)
theorem QyJ  (h:Nms N)  (f:Rw t)(i:a.length<=3)(O:az):∃O',Ext O O'/\m8 [.str t,.str a,.lst ((hs N).map (hD (wd N)))] O=.ok (eZ (rdS t a (wd N) (hs N))) O':=by
 have c:m7 [some (.str t),some (.str a),some (.lst ((hs N).map (hD (wd N)))),none,none,none,none] O=au (bM (bG (aa 2)) gRR bRR) (aB (mC .non)) [some (.str t),some (.str a),some (.lst ((hs N).map (hD (wd N)))),none,none,none,none] O:=rfl;have d:=jt (ma:=bG (aa 2)) (g:=gRR) (b:=bRR) (ds:=(hs N).map (hD (wd N))) (ρ:=[some (.str t),some (.str a),some (.lst ((hs N).map (hD (wd N)))),none,none,none,none]) (O:=O) (O':=O) rfl
 rcases Ku f i (wd8 h) (.lst ((hs N).map (hD (wd N)))) O (hs N) none none none none (QvM λ_ z=>z) with⟨r,q,m,l,e,j⟩ | ⟨x,e⟩
 ·refine⟨O,Ext.refl O,?_⟩;show bh (m7 [some (.str t),some (.str a),some (.lst ((hs N).map (hD (wd N)))),none,none,none,none] O)=_;rw[c,aN (d.trans e),j];rfl
 ·refine⟨O++[x],⟨[x],rfl⟩,?_⟩;show bh (m7 [some (.str t),some (.str a),some (.lst ((hs N).map (hD (wd N)))),none,none,none,none] O)=_;rw[c,dg (d.trans e)];rfl
noncomputable def NoT(d:D):Prop:=∀(ρ:aV) (O:az) (i:Nat),ρ[i]?=some (some d)->fD (cz (eU "str" (aa i))) ρ O=.ok true O
theorem QrZ  (hd:NoT d)(O:az):m8 [d,a,b] O=.ok .non O:=by
 show bh (m7 [some d,some a,some b,none,none,none,none] O)=_;unfold m7;rw[dg ((gM (hd _ O 0 rfl)).trans (show aB (mC .non) _ _=.rt .non O from rfl))];rfl
abbrev eH(t:List Nat)(k:Nat)(d:D)(b:Bool)(w:Nat)(r:aV):aV:=some (.str t)::some (.int (k:Int))::some d::some (.bl b)::some (.int (w:Int))::r
noncomputable def rdL(t a:List Nat)(w:Nat):List (List Nat)->Option (List Nat×List D×List Nat)
 | []=>none
 |n::r=>if t.take (a++pad w n).length=a++pad w n then(match t.drop (a++pad w n).length with
   |c::b=>if c=124 then(sh b).map λl=>(n,l,kW) else if c=62 then(sh b).map λl=>(n,l,kM) else rdL t a w r
   | []=>rdL t a w r) else rdL t a w r
theorem Qyf(k:List Nat)(ds:List D):gIn false (.str k) (.tup ds)=if(iw (.str k)&&ds.all iw)=true then some (.bl (false ^^ ds.any λy=>eqF y (.str k))) else none:=by
 cases k with
 |nil=>rfl
 |cons c r=>cases r<;>rfl
theorem Qtx(k:List Nat):gIn false (.str k) (.tup [.str [124],.str [62]])=some (.bl (decide ([124]=k) || decide ([62]=k))):=by
 rw[Qyf]
 have e:∀q:List Nat,eqF (.str q) (.str k)=decide (q=k):=λq=>by
  show(S q == S k)=_;rw[Be]
 show some (D.bl (false ^^ (eqF (.str [124]) (.str k) || (eqF (.str [62]) (.str k) || false))))=_;rw[e,e];simp
noncomputable def Bu:L2.M D:=(ak aC (ak aC (ak gIx (bj (aj (ak aC (aM iz (aj (aa 1) aq)) (mC (.str [32]))) (aj (mC (.str [])) aq))) (aM gm (aj (jF (mG (aa 3))) aq))) (aa 5)) (ak cV (mC (.str [32])) (ak gk (aa 4) (aM aU (aj (aa 5) aq)))))
noncomputable def T1:L2.M Bool:=(aA (ak gEq (mSl (aa 0) moN (moS (aM aU (aj (aa 6) aq)))) (aa 6)))
noncomputable def T2:L2.M Bool:=(aA (ak (gIn false) (mSl (aa 0) (moS (aM aU (aj (aa 6) aq))) (moS (ak aC (aM aU (aj (aa 6) aq)) (mC (.int 1))))) (aW (aj (mC (.str [124])) (aj (mC (.str [62])) aq)))))
noncomputable def Bv:MS:=(au (aF 7 (aG m9 (aj (mSl (aa 0) (moS (ak aC (aM aU (aj (aa 6) aq)) (mC (.int 1)))) moN) aq)))
  (au (aK (aA (d9 (aa 7))) (aB (mC .non)) aD)
  (aB (aW (aj (aa 5) (aj (aa 7) (aj (ak t8 (qL (kO (mC (.str [124])) (mC (.str [119,104,111,108,101])) (kO (mC (.str [62])) (mC (.str [109,111,114,101])) qK))) (ak gIx (aa 0) (aM aU (aj (aa 6) aq)))) aq)))))))
noncomputable def bLR:MS:=(au (aF 6 Bu) (aK (dG T1 T2) Bv aD))
theorem QuI(c:k<40)(r:n.length<=w)(q:w<=8):Bu (eH t k dn b w [some (.str n),o6,o7]) O=.ok (.str (ah b k++pad w n)) O:=by
 have hd:=vC k c;have u:=sE b c
 have l:ak gIx (bj (aj (ak aC (aM iz (aj (aa 1) aq)) (mC (.str [32]))) (aj (mC (.str [])) aq))) (aM gm (aj (jF (mG (aa 3))) aq)) (eH t k dn b w [some (.str n),o6,o7]) O=.ok (.str (ah b k)) O:=by
  have f:=vz (maS (dz (x:=dig k) (Br (m:=aa 1) (ρ:=(eH t k dn b w [some (.str n),o6,o7])) (O:=O) rfl c) (y:=[32]) (b:=mC (.str [32])) rfl (by rw[zB];omega)) (ma1 (a:=mC (.str [])) (x:=.str []) rfl)) (show(2:Nat)<=1000000 by decide)
  cases b with
  |true=>exact bx (y:=.int 0) f rfl rfl
  |false=>exact bx (y:=.int 1) f rfl rfl
 have j:ak cV (mC (.str [32])) (ak gk (aa 4) (aM aU (aj (aa 5) aq))) (eH t k dn b w [some (.str n),o6,o7]) O=.ok (.str (List.replicate (w - n.length) 32)) O:=by
  have h:=vB (a:=aa 4) (ρ:=(eH t k dn b w [some (.str n),o6,o7])) (i:=(w:Int)) rfl (pY (m:=aa 5) (t:=n) (O:=O) rfl (by omega));refine bx (x:=.str [32]) rfl h ?_;rw[mU,mR,Kd ⟨by omega,by omega,by rw[zB];omega⟩,show((w:Int) - (n.length:Int)).toNat=w - n.length by omega]
  have:∀m:Nat,(List.replicate m [32]).flatten=List.replicate m 32:=λm=>by
   induction m with
   |zero=>rfl
   |succ m g=>rw[List.replicate_succ,List.flatten_cons,g];rfl
  rw[this]
 have d:=dz (dz l (b:=aa 5) (y:=n) rfl (by omega)) j (by rw[zf,List.length_replicate];omega);rw[zD] at d;exact d
theorem vD(a:h.length<=20):aM aU (aj (aa 6) aq) (eH t k dn b w [some (.str n),some (.str h),o7]) O=.ok (.int (h.length:Int)) O:=pY rfl (by omega)
theorem Kv(a:h.length<=20):ak aC (aM aU (aj (aa 6) aq)) (mC (.int 1)) (eH t k dn b w [some (.str n),some (.str h),o7]) O=.ok (.int ((h.length+1:Nat):Int)) O:=by
 have:=lE (b:=mC (.int 1)) (j:=1) (vD (t:=t) (k:=k) (w:=w) (b:=b) (dn:=dn) (n:=n) (o7:=o7) (O:=O) a) rfl
 rw[this]
 push_cast
 rfl
theorem QyK(d:t.length<=300)(c:h.length<=20):T1 (eH t k dn b w [some (.str n),some (.str h),o7]) O=.ok (decide (t.take h.length=h)) O:=by
 have:=lF (m:=aa 0) (t:=t) (a:=moN) rfl rfl (ir (vD (t:=t) (k:=k) (w:=w) (b:=b) (dn:=dn) (n:=n) (o7:=o7) (O:=O) c)) (by omega)
 rw[Ba] at this;exact Bm this rfl
theorem Qyy(c:t.length<=300)(a:h.length<=20):T2 (eH t k dn b w [some (.str n),some (.str h),o7]) O=.ok (decide ([124]=(t.drop h.length).take 1) || decide ([62]=(t.drop h.length).take 1)) O:=by
 have:=lF (m:=aa 0) (t:=t) rfl (ir (vD (t:=t) (k:=k) (w:=w) (b:=b) (dn:=dn) (n:=n) (o7:=o7) (O:=O) a)) (ir (Kv (t:=t) (k:=k) (w:=w) (b:=b) (dn:=dn) (n:=n) (o7:=o7) (O:=O) a)) (by omega)
 rw[vo,show h.length+1 - h.length=1 by omega] at this;exact jx (bx this (y:=.tup [.str [124],.str [62]]) rfl (Qtx _))
theorem Qtq(d:Rw t)(g:h.length<=20)   (hd:t.drop h.length=c::r)(q:c=124\/c=62):Bv (eH t k dn b w [some (.str n),some (.str h),o7]) O=.rt (eZ ((sh r).map λl=>(n,l,if c=124 then kW else kM))) O:=by
 have H:=d.len
 have f:t.drop (h.length+1)=r:=by rw[<-List.drop_drop,hd];rfl
 have i:=lF (m:=aa 0) (t:=t) (b:=moN) rfl (ir (Kv (t:=t) (k:=k) (w:=w) (b:=b) (dn:=dn) (n:=n) (o7:=o7) (O:=O) g)) rfl (by omega);rw[rZ,f] at i;have u:=Bl r (f ▸ d.drop (h.length+1)) O;unfold Bv;rw[aN (cg ((dM (ma1 i)).trans u))];show au _ _ (eH t k dn b w [some (.str n),some (.str h),some (jw (sh r))]) O=_
 cases hs:sh r with
 |none =>
  rw[dg (show aK (aA (d9 (aa 7))) (aB (mC .non)) aD _ O=.rt .non O from rfl)];rfl
 |some l =>
  rw[aN (show aK (aA (d9 (aa 7))) (aB (mC .non)) aD (eH t k dn b w [some (.str n),some (.str h),some (jw (some l))]) O=.nx _ O from rfl)]
  have G:h.length<t.length:=by
   have:=congrArg List.length hd
   rw[List.length_drop,zt] at this;omega
  have j:t[h.length]?=some c:=by
   have:=congrArg (λl=>l[0]?) hd
   simpa [List.getElem?_drop] using this
  have F:ak gIx (aa 0) (aM aU (aj (aa 6) aq)) (eH t k dn b w [some (.str n),some (.str h),some (jw (some l))]) O=.ok (.str [c]) O:=bx (x:=.str t) (y:=.int (h.length:Int)) rfl (vD g) (by
   rw[mU,mR,ye,if_pos (by omega),lB,j]
   rfl)
  have E:ak t8 (qL (kO (mC (.str [124])) (mC (.str [119,104,111,108,101])) (kO (mC (.str [62])) (mC (.str [109,111,114,101])) qK))) (ak gIx (aa 0) (aM aU (aj (aa 6) aq))) (eH t k dn b w [some (.str n),some (.str h),some (jw (some l))]) O=.ok (.str (if c=124 then kW else kM)) O:=by
   refine bx (x:=.dic [.str [124],.str [62]] [.str kW,.str kM]) ?_ F ?_
   ·rfl
   ·rcases q with rfl | rfl
    ·rfl
    ·rfl
  have C:=vq (maS (a:=aa 5) (x:=.str n) rfl (maS (a:=aa 7) (x:=.lst l) rfl (ma1 E))) (show(3:Nat)<=1000000 by decide);rw[oX,C];rfl
theorem Kw  (h:Nms N)  (i:Rw t)  (q:k<40)(b:Bool)(O:az):∀(M:List (List Nat)) (a o6 o7:Option D),(∀n∈M,n∈N) ->
  (∃j p6 p7,aO (mgN 5) bLR (M.map D.str) (eH t k (dN N) b (wd N) [a,o6,o7]) O=.nx (eH t k (dN N) b (wd N) [j,p6,p7]) O/\rdL t (ah b k) (wd N) M=none) \/
  aO (mgN 5) bLR (M.map D.str) (eH t k (dN N) b (wd N) [a,o6,o7]) O=.rt (eZ (rdL t (ah b k) (wd N) M)) O
 | [],a,o6,o7,_=>.inl ⟨a,o6,o7,rfl,rfl⟩
 |n::M,a,o6,o7,hM=>by
  have G:=wd8 h;have E:=hM n zj;have J:=(sE b q).1
  have u:(ah b k++pad (wd N) n).length<=20:=by rw[zf,pZ E];omega
  have F:aF 6 Bu (eH t k (dN N) b (wd N) [some (.str n),o6,o7]) O=.nx (eH t k (dN N) b (wd N) [some (.str n),some (.str (ah b k++pad (wd N) n)),o7]) O:=cg (QuI q (sy E) G);have go:∀{x:Bool},dG T1 T2 (eH t k (dN N) b (wd N) [some (.str n),some (.str (ah b k++pad (wd N) n)),o7]) O=.ok false O->rdL t (ah b k) (wd N) (n::M)=rdL t (ah b k) (wd N) M->(∃j p6 p7,aO (mgN 5) bLR ((n::M).map D.str) (eH t k (dN N) b (wd N) [a,o6,o7]) O=.nx (eH t k (dN N) b (wd N) [j,p6,p7]) O/\rdL t (ah b k) (wd N) (n::M)=none) \/
    aO (mgN 5) bLR ((n::M).map D.str) (eH t k (dN N) b (wd N) [a,o6,o7]) O=.rt (eZ (rdL t (ah b k) (wd N) (n::M))) O:=λ{_} ef y=>by
   have C:bLR (eH t k (dN N) b (wd N) [some (.str n),o6,o7]) O=.nx (eH t k (dN N) b (wd N) [some (.str n),some (.str (ah b k++pad (wd N) n)),o7]) O:=(aN F).trans (iJ ef);have I:aO (mgN 5) bLR (D.str n::M.map D.str) (eH t k (dN N) b (wd N) [a,o6,o7]) O=_:=iK (ρ1:=(eH t k (dN N) b (wd N) [some (.str n),o6,o7])) rfl C;rw[zd,I,y]
   exact Kw h i q b O M _ _ _ λm H=>hM m (zp _ H)
  have t1:=QyK (t:=t) (k:=k) (w:=wd N) (b:=b) (dn:=dN N) (n:=n) (o7:=o7) (O:=O) i.len u;have t2:=Qyy (t:=t) (k:=k) (w:=wd N) (b:=b) (dn:=dN N) (n:=n) (o7:=o7) (O:=O) i.len u
  by_cases d:t.take (ah b k++pad (wd N) n).length=ah b k++pad (wd N) n
  ·rw[zF d] at t1
   cases hd:t.drop (ah b k++pad (wd N) n).length with
   |nil =>
    refine go (x:=true) (by rw[xW,t1,aQ,if_pos rfl,t2,hd];rfl) (by rw[rdL,if_pos d,hd])
   |cons c r =>
    have g:dG T1 T2 (eH t k (dN N) b (wd N) [some (.str n),some (.str (ah b k++pad (wd N) n)),o7]) O=.ok (decide (c=124) || decide (c=62)) O:=by
     rw[xW,t1,aQ,if_pos rfl,t2,hd];simp[eq_comm]
    by_cases f:c=124\/c=62
    ·refine .inr ?_
     have y:rdL t (ah b k) (wd N) (n::M)=(sh r).map λl=>(n,l,if c=124 then kW else kM):=by
      rw[rdL,if_pos d,hd]
      rcases f with rfl | rfl
      ·rfl
      ·rfl
     have C:bLR (eH t k (dN N) b (wd N) [some (.str n),o6,o7]) O=.rt (eZ ((sh r).map λl=>(n,l,if c=124 then kW else kM))) O:=(aN F).trans ((gM (g.trans (by rcases f with rfl | rfl<;>rfl))).trans (Qtq i u hd f));rw[zd,y];exact Bo (ρ1:=(eH t k (dN N) b (wd N) [some (.str n),o6,o7])) rfl C
    ·have h1:c≠124:=λz=>f (.inl z)
     have h2:c≠62:=λz=>f (.inr z)
     refine go (x:=true) (g.trans (by rw[zo h1,zo h2];rfl)) ?_;rw[rdL,if_pos d,hd];dsimp only;rw[if_neg h1,if_neg h2]
  ·rw[zo d] at t1;exact go (x:=true) (by rw[xW,t1,aQ];rfl) (by rw[rdL,if_neg d])
theorem Qs8  (h:Nms N)  (c:Rw t){k:Nat}(d:k<40)(b:Bool)(O:az):ni [.str t,.int (k:Int),dN N,.bl b] O=.ok (eZ (rdL t (ah b k) (wd N) N)) O:=by
 show bh (pW [some (.str t),some (.int (k:Int)),some (dN N),some (.bl b),none,none,none,none] O)=_;unfold pW;rw[aN (show aK (fD (cz (eU "str" (aa 0)))) (aB (mC .non)) aD [some (.str t),some (.int (k:Int)),some (dN N),some (.bl b),none,none,none,none] O=.nx [some (.str t),some (.int (k:Int)),some (dN N),some (.bl b),none,none,none,none] O from rfl),aN (cg (Bq h (i:=2) rfl))];show bh (au (bM (bG (aa 2)) (mgN 5) bLR) _ (eH t k (dN N) b (wd N) [none,none,none]) O)=_;have a:=jt (ma:=bG (aa 2)) (g:=mgN 5) (b:=bLR) (ds:=N.map D.str) (ρ:=(eH t k (dN N) b (wd N) [none,none,none])) (O:=O) (O':=O) rfl
 rcases Kw h c d b O N none none none (λ_ z=>z) with⟨m,l,j,e,f⟩ | e
 ·rw[aN (a.trans e),f];rfl
 ·rw[dg (a.trans e)];rfl
theorem QnJ  (hd:NoT d)(O:az):ni [d,a,c,e] O=.ok .non O:=by
 show bh (pW [some d,some a,some c,some e,none,none,none,none] O)=_;unfold pW;rw[dg ((gM (hd _ O 0 rfl)).trans (show aB (mC .non) _ _=.rt .non O from rfl))];rfl
theorem take_snoc{t:List Nat} :t.take (h++[c]).length=h++[c]↔t.take h.length=h/\∃r,t.drop h.length=c::r:=by
 constructor
 ·intro e
  obtain⟨r,a⟩:∃r,t=h++c::r:=⟨t.drop (h++[c]).length,by
   conv=>lhs;rw[<-List.take_append_drop (h++[c]).length t,e]
   rw[zD];rfl⟩
  subst a;exact⟨by simp,r,by simp⟩
 ·rintro⟨d,r,b⟩
  have a:t=h++[c]++r:=by rw[<-List.take_append_drop h.length t,d,b,zD];rfl
  rw[a,List.take_left' rfl]
theorem Ky(t a:List Nat)(w:Nat):∀N:List (List Nat),rdS t a w (hs N)=rdL t a w N
 | []=>rfl
 |n::N=>by
  have f:=Ky t a w N;show rdS t a w ((n,124,kW)::(n,62,kM)::hs N)=_;rw[rdS,rdS,f,rdL];dsimp only;rw[<-zD,<-zD]
  by_cases b:t.take (a++pad w n).length=a++pad w n
  ·rw[if_pos b]
   have d:∀{c:Nat}{r:List Nat},t.drop (a++pad w n).length=c::r->∀x:Nat,t.drop (a++pad w n++[x]).length=r:=λ{c r} hd x=>by
    rw[zf (as:=a++pad w n),zB,<-List.drop_drop,hd];rfl
   cases hd:t.drop (a++pad w n).length with
   |nil =>
    rw[if_neg (λz=>by obtain⟨_,r,q⟩:=take_snoc.mp z;rw[hd] at q;cases q),if_neg (λz=>by obtain⟨_,r,q⟩:=take_snoc.mp z;rw[hd] at q;cases q)]
   |cons c r =>
    dsimp only
    by_cases h1:c=124
    ·subst h1;rw[if_pos (take_snoc.mpr ⟨b,r,hd⟩),if_pos rfl,d hd]
    ·rw[if_neg (λz=>by obtain⟨_,r,q⟩:=take_snoc.mp z;rw[hd] at q;cases q;exact h1 rfl),if_neg h1]
     by_cases h2:c=62
     ·subst h2;rw[if_pos (take_snoc.mpr ⟨b,r,hd⟩),if_pos rfl,d hd]
     ·rw[if_neg (λz=>by obtain⟨_,r,q⟩:=take_snoc.mp z;rw[hd] at q;cases q;exact h2 rfl),if_neg h2]
  ·rw[if_neg b,if_neg (λz=>b (take_snoc.mp z).1),if_neg (λz=>b (take_snoc.mp z).1)]
abbrev eI(N:List (List Nat))(d1:D)(b:Bool)(d:Nat)(r:aV):aV:=some (dN N)::some d1::some (.bl b)::some (.lst ((hs N).map (hD (wd N))))::some (.ob d)::r
noncomputable def kyN(n:List Nat):Key:=.inr (S n)
theorem Kz  (h:kyN a=kyN b):a=b:=wI (Sum.inr.inj h)
structure Tab(N:List (List Nat))(O:az)(d:Nat)(f:List Nat->Nat)(X:List Nat->List D):Prop where
 dk:O[d]?=some (.dk (N.map λn=>(kyN n,.ob (f n))))
 ml:∀n∈N,O[f n]?=some (.ml (X n))
 inj:∀n∈N,∀m∈N,f n=f m->n=m
noncomputable def lG(X:List Nat->List D)(n:List Nat)(v:List D):List Nat->List D:=λm=>if m=n then v else X m
theorem Tab.ext      (T:Tab N O d f X)(h:Ext O O'):Tab N O' d f X:=⟨h.at T.dk,λn a=>h.at (T.ml n a),T.inj⟩
theorem Tab.ne      (T:Tab N O d f X)  (a:n∈N):f n≠d:=λe=>by
 have h1:=T.ml n a;rw[e,T.dk] at h1;cases h1
theorem Tab.app      (T:Tab N O d f X)  (b:n∈N)(v:List D):Tab N (O.set (f n) (.ml v)) d f (lG X n v):=by
 refine⟨?_,λm a=>?_,T.inj⟩
 ·rw[zy (T.ne b)];exact T.dk
 ·unfold lG
  by_cases e:m=n
  ·subst e;rw[if_pos rfl];exact gs (T.ml m a)
  ·rw[if_neg e,zy (λz=>e (T.inj m a n b z.symm))];exact T.ml m a
theorem Bw(f:List Nat->Nat) :∀{N:List (List Nat)},n∈N->jm (N.map λn=>(kyN n,D.ob (f n))) (kyN n)=some (.ob (f n))
 |m::N,h=>by
  unfold jm;rw[zd,List.find?_cons]
  by_cases e:m=n
  ·subst e;simp
  ·rw[show decide ((kyN m,D.ob (f m)).1=kyN n)=false from zo λz=>e (Kz z)];exact Bw f ((zh.mp h).resolve_left λz=>e z.symm)
noncomputable def entry(x:List Nat×List D×List Nat):D:=.tup [.lst x.2.1,.str x.2.2]
theorem KH      (T:Tab N O d f X)  (a:n∈N)   (h1:mo ρ O=.ok (.ob d) O)(h2:my ρ O=.ok (.str n) O):mj mo my ρ O=.ok (.ob (f n)) O:=by
 unfold mj;rw[h1,aQ];dsimp only;rw[h2,aQ,show keyOf (.str n)=some (kyN n) from rfl,T.dk];dsimp only;rw[Bw f a]
theorem KJ       (h1:mo ρ O=.ok (.ob k) O)(a:O[k]?=some (.ml ds))(h2:m ρ O=.ok x O)(b:ds.length<1000000):kY mo m ρ O=.nx ρ (O.set k (.ml (ds++[x]))):=by
 unfold kY;rw[h1];dsimp only;rw[a];dsimp only;rw[h2];dsimp only;rw[a];dsimp only;rw[if_pos b]
noncomputable def fZ(d:D):Prop:=(∃t,d=.str t/\Rw t)\/NoT d
noncomputable def rdD(N:List (List Nat))(b:Bool)(k:Nat):D->Option (List Nat×List D×List Nat)
 | .str t=>rdL t (ah b k) (wd N) N
 | _=>none
theorem KN  :∀{N:List (List Nat)}{x:List Nat×List D×List Nat},rdL t a w N=some x->x.1∈N
 |n::N,x,h=>by
  have b:rdL t a w N=some x->x.1∈n::N:=λh=>zp _ (KN h)
  have c:∀{o:Option (List D)}{W:List Nat},(o.map λl=>(n,l,W))=some x->x.1∈n::N:=λ{o W} h=>by
   cases o with
   |none=>cases h
   |some l=>cases h;exact zj
  rw[rdL] at h;split at h
  ·split at h
   ·split at h
    ·exact c h
    ·split at h
     ·exact c h
     ·exact b h
   ·exact b h
  ·exact b h
theorem KQ      (h:rdD N b k d=some x):x.1∈N:=by
 cases d with
 |str t=>exact KN h
 | _=>cases h
theorem Bx     (h:NoT d):rdD N b k d=none:=by
 cases d with
 |str t =>
  have:=h [some (.str t)] [] 0 rfl
  cases this
 | _=>rfl
noncomputable def go(N:List (List Nat))(b:Bool):Nat->List D->(List Nat->List D)->Nat ⊕ (List Nat->List D)
 | _,[],X=>.inr X
 |k,d::r,X=>match rdD N b (k+1) d with
  |none=>.inl k
  |some x=>go N b (k+1) r (lG X x.1 (X x.1++[entry x]))
theorem Qw4  (h:Nms N)  (hd:fZ d)  (f:k<40)(b:Bool)(O:az):∃O',Ext O O'/\m8 [d,.str (ah b k),.lst ((hs N).map (hD (wd N)))] O=.ok (eZ (rdD N b k d)) O':=by
 rcases hd with⟨t,rfl,c⟩ | hd
 ·obtain⟨O',g,a⟩:=QyJ h c (sE b f).1 O;rw[Ky] at a;exact⟨O',g,a⟩
 ·exact⟨O,Ext.refl O,by rw[Bx hd];exact QrZ hd O⟩
theorem Qxm  (h:Nms N)  (hd:fZ d){k:Nat}(c:k<40)(b:Bool)(O:az):ni [d,.int (k:Int),dN N,.bl b] O=.ok (eZ (rdD N b k d)) O:=by
 rcases hd with⟨t,rfl,a⟩ | hd
 ·exact Qs8 h a c b O
 ·rw[Bx hd];exact QnJ hd O
noncomputable def gE:MG:=fG 2 (bQ (mgN 6) (bQ (mgN 7) fQ))
noncomputable def bE:MS:=(au (msN (aF 8 (aG m8 (aj (aa 7) (aj (aG pP (aj (ak aC (aa 6) (mC (.int 1))) (aj (aa 2) aq))) (aj (aa 3) aq))))))
  (au (ie (aA (d9 (aa 8))) (au (jR "NoRoll" "at" (aa 6))
  aD) aD)
  (au (msN (kY (mj (aa 4) (ak gIx (aa 8) (mC (.int 0)))) (aW (aj (ak gIx (aa 8) (mC (.int 1))) (aj (ak gIx (aa 8) (mC (.int 2))) aq)))))
  aD)))
theorem KR  (h:Nms N)(b:Bool)(d1:D){d:Nat}{f:List Nat->Nat}:∀(L:List D) (k:Nat) (O:az) (X:List Nat->List D) (a o6 o7 o8:Option D),Tab N O d f X->(∀x∈L,fZ x)->k+L.length<39->(∀n,(X n).length+L.length<=1000) ->
  (∃j O',go N b k L X=.inl j/\aO gE bE (bV k L) (eI N d1 b d [a,o6,o7,o8]) O=.ex ⟨"NoRoll",[("at",.int (j:Int))]⟩ O') \/
  ∃Y O' p6 p7 p8,go N b k L X=.inr Y/\Tab N O' d f Y/\aO gE bE (bV k L) (eI N d1 b d [a,o6,o7,o8]) O=.nx (eI N d1 b d [a,p6,p7,p8]) O'
 | [],k,O,X,a,o6,o7,o8,T,_,_,_=>.inr ⟨X,O,o6,o7,o8,rfl,T,rfl⟩
 |y::L,k,O,X,a,o6,o7,o8,T,hL,hk,hX=>by
  rw[zt] at hk;obtain⟨g,t,C⟩:=Qw4 h (hL y zj) (k:=k+1) (by omega) b O;have T1:=T.ext t
  have H:aG pP (aj (ak aC (aa 6) (mC (.int 1))) (aj (aa 2) aq)) (eI N d1 b d [a,some (.int (k:Int)),some y,o8]) O=.ok (.str (ah b (k+1))) O:=by
   rw[dM (maS (lE (i:=(k:Int)) (j:=1) rfl rfl) (ma1 (x:=.bl b) rfl)),show(k:Int)+1=((k+1:Nat):Int) by omega];exact Qum b (by omega) O
  have l:msN (aF 8 (aG m8 (aj (aa 7) (aj (aG pP (aj (ak aC (aa 6) (mC (.int 1))) (aj (aa 2) aq))) (aj (aa 3) aq))))) (eI N d1 b d [a,some (.int (k:Int)),some y,o8]) O=.nx (eI N d1 b d [a,some (.int (k:Int)),some y,some (eZ (rdD N b (k+1) y))]) g:=by
   refine dX ?_;rw[lz,dM (maS (x:=y) rfl (maS H (ma1 (x:=.lst ((hs N).map (hD (wd N)))) rfl))),C,lA];rfl
  have c:gE (.tup [.int (k:Int),y]) (eI N d1 b d [a,o6,o7,o8])=some (eI N d1 b d [a,some (.int (k:Int)),some y,o8]):=rfl
  cases hr:rdD N b (k+1) y with
  |none =>
   rw[hr] at l;refine .inl ⟨k,g,by rw[go,hr],?_⟩
   have r:bE (eI N d1 b d [a,some (.int (k:Int)),some y,o8]) O=.ex ⟨"NoRoll",[("at",.int (k:Int))]⟩ g:=by
    unfold bE;rw[aN l];exact jZ ((IW (O':=g) rfl).trans (jZ (Jb (d:=.int (k:Int)) (O':=g) rfl)))
   show aO gE bE (.tup [.int (k:Int),y]::bV (k+1) L) _ O=_;rw[aO,c];dsimp only;rw[r]
  |some x =>
   rw[hr] at l;have q:=KQ hr;have G:=KJ (ρ:=(eI N d1 b d [a,some (.int (k:Int)),some y,some (eZ (some x))])) (KH T1 q (mo:=aa 4) (my:=ak gIx (aa 8) (mC (.int 0))) rfl rfl) (T1.ml _ q) (m:=aW (aj (ak gIx (aa 8) (mC (.int 1))) (aj (ak gIx (aa 8) (mC (.int 2))) aq))) (x:=entry x) rfl (by have:=hX x.1;omega)
   have r:bE (eI N d1 b d [a,some (.int (k:Int)),some y,o8]) O=.nx (eI N d1 b d [a,some (.int (k:Int)),some y,some (eZ (some x))]) (g.set (f x.1) (.ml (X x.1++[entry x]))):=by
    unfold bE;rw[aN l,aN (yw (O':=g) rfl),aN (dX G)];rfl
   have E:go N b k (y::L) X=go N b (k+1) L (lG X x.1 (X x.1++[entry x])):=by rw[go,hr]
   rw[E];show _\/_
   have F:aO gE bE (bV k (y::L)) (eI N d1 b d [a,o6,o7,o8]) O=aO gE bE (bV (k+1) L) (eI N d1 b d [a,some (.int (k:Int)),some y,some (eZ (some x))]) (g.set (f x.1) (.ml (X x.1++[entry x]))):=by
    show aO gE bE (.tup [.int (k:Int),y]::bV (k+1) L) _ O=_;exact iK c r
   rw[F]
   exact KR h b d1 L (k+1) _ _ a _ _ _ (T1.app q _) (λz u=>hL z (zp _ u)) (by omega) λn=>by
    have:=hX n
    have:=hX x.1
    rw[zt] at *;unfold lG
    split
    ·rw[zf,zB];omega
    ·omega
noncomputable def bP:MS:=(au (msN (qN (aa 4) (aa 5) (mMl (bj aq))))
  aD)
noncomputable def fN(f:List Nat->Nat)(n:List Nat)(v:Nat):List Nat->Nat:=λm=>if m=n then v else f m
theorem KY    {P:List (List Nat)}(a:n∉P){β:Type}(g:List Nat->Nat->β):(P.map λm=>g m (fN f n v m))=P.map λm=>g m (f m):=ji λm b=>by
 have:m≠n:=λz=>a (z ▸ b)
 unfold fN;rw[if_neg this]
theorem lH   :fN f n v n=v:=if_pos rfl
theorem KZ{f:List Nat->Nat}{P:List (List Nat)}  (a:n∉P)(d:D):kZ (P.map λm=>(kyN m,D.ob (f m))) (kyN n) d=(P.map λm=>(kyN m,D.ob (f m)))++[(kyN n,d)]:=by
 unfold kZ;rw[if_neg];intro z;obtain⟨p,h1,h2⟩:=List.any_eq_true.mp z;obtain⟨m,b,rfl⟩:=zQ.mp h1;exact a (Kz (jc h2) ▸ b)
theorem Tab.lt      (T:Tab N O d f X):d<O.length:=(zk.mp T.dk).1
theorem Tab.lt'      (T:Tab N O d f X)  (a:n∈N):f n<O.length:=(zk.mp (T.ml n a)).1
theorem Tab.new     (T:Tab P O d f λ_=>[])  (i:n∉P):Tab (P++[n]) ((O++[Ob.ml []]).set d (.dk ((P.map λm=>(kyN m,D.ob (f m)))++[(kyN n,D.ob O.length)]))) d (fN f n O.length) λ_=>[]:=by
 have hd:=T.lt;refine⟨?_,λm h=>?_,λa g b c e=>?_⟩
 ·rw[zW,KY i λm v=>(kyN m,D.ob v)];rw[zL (by rw[zf];omega),zd,zV,lH]
 ·rcases zv.mp h with h | h
  ·have:m≠n:=λz=>i (z ▸ h)
   have l:=T.lt' h;unfold fN;rw[if_neg this,zy (λz=>T.ne h z.symm),zA l];exact T.ml m h
  ·rw[zg.mp h,lH,zy (by omega),zC (zc _),Nat.sub_self];rfl
 ·have q:∀x∈P,fN f n O.length x=f x/\f x<O.length:=λx j=>⟨if_neg λz:x=n=>i (z ▸ j),T.lt' j⟩
  rcases zv.mp g with g | g<;>rcases zv.mp c with c | c
  ·rw[(q a g).1,(q b c).1] at e;exact T.inj a g b c e
  ·rw[zg.mp c,lH,(q a g).1] at e
   have:=(q a g).2
   omega
  ·rw[zg.mp g,lH,(q b c).1] at e
   have:=(q b c).2
   omega
  ·rw[zg.mp g,zg.mp c]
theorem K3{d2 d3:D}{dn:D}{d:Nat}{o6 o7 o8:Option D}:∀(M P:List (List Nat)) (O:az) (f:List Nat->Nat) (a:Option D),Tab P O d f (λ_=>[])->(P++M).Nodup->P.length+M.length<=100 ->
  ∃O' c b,Tab (P++M) O' d c (λ_=>[])/\aO (mgN 5) bP (M.map D.str) [some dn,some d1,some d2,some d3,some (.ob d),a,o6,o7,o8] O=.nx [some dn,some d1,some d2,some d3,some (.ob d),b,o6,o7,o8] O'
 | [],P,O,f,a,T,_,_=>⟨O,f,a,by rw[zI];exact T,rfl⟩
 |n::M,P,O,f,a,T,nd,hl=>by
  have g:n∉P:=λz=>by
   have:=(zZ.mp nd).2.2 n z n zj
   exact this rfl
  rw[zt] at hl;obtain⟨O',c,b,h,e⟩:=K3 M (P++[n]) _ _ (some (.str n)) (T.new g) (by rw[zD];exact nd) (by rw[zf,zB];omega);rw[zD] at h;refine⟨O',c,b,h,?_⟩;have hd:=T.lt
  have i:bP [some dn,some d1,some d2,some d3,some (.ob d),some (.str n),o6,o7,o8] O=.nx [some dn,some d1,some d2,some d3,some (.ob d),some (.str n),o6,o7,o8] ((O++[Ob.ml []]).set d (.dk ((P.map λm=>(kyN m,D.ob (f m)))++[(kyN n,D.ob O.length)]))):=by
   refine aN (dX ?_);unfold qN;rw[show mMl (bj aq) [some dn,some d1,some d2,some d3,some (.ob d),some (.str n),o6,o7,o8] O=.ok (.ob O.length) (O++[Ob.ml []]) from rfl];dsimp only;rw[show aa 4 [some dn,some d1,some d2,some d3,some (.ob d),some (.str n),o6,o7,o8] (O++[Ob.ml []])=.ok (.ob d) (O++[Ob.ml []]) from rfl];dsimp only;rw[show aa 5 [some dn,some d1,some d2,some d3,some (.ob d),some (.str n),o6,o7,o8] (O++[Ob.ml []])=.ok (.str n) (O++[Ob.ml []]) from rfl];dsimp only;rw[show keyOf (.str n)=some (kyN n) from rfl,zA hd,T.dk];dsimp only;rw[if_pos (by rw[zx];omega),KZ g]
  rw[zd];exact(iK (ρ1:=[some dn,some d1,some d2,some d3,some (.ob d),some (.str n),o6,o7,o8]) rfl i).trans e
theorem Qq9  (h:Nms N)(b:Bool)(L:List D)(m:∀x∈L,fZ x)(E:L.length<=20)(O:az):
  (∃j O',go N b 0 L (λ_=>[])=.inl j/\rP [dN N,.lst L,.bl b] O=.ex ⟨"NoRoll",[("at",.int (j:Nat))]⟩ O') \/
  ∃Y O' d f,go N b 0 L (λ_=>[])=.inr Y/\Tab N O' d f Y/\rP [dN N,.lst L,.bl b] O=.ok (.ob d) O':=by
 have l4:=h.l4
 have r:Tab [] (O++[Ob.dk []]) O.length (λ_=>0) λ_=>[]:=⟨by simp,λn g=>(nomatch g),λn g=>(nomatch g)⟩
 obtain⟨c,f,a,T,q⟩:=K3 (d1:=.lst L) (d2:=.bl b) (d3:=.lst ((hs N).map (hD (wd N)))) (dn:=dN N) (o6:=none) (o7:=none) (o8:=none) N [] (O++[Ob.dk []]) (λ_=>0) none r (by rw[zN];exact h.nd) (by rw[zJ];omega);rw[zN] at T
 have pre:pR [some (dN N),some (.lst L),some (.bl b),none,none,none,none,none,none] O=au (fV (iZ (aa 1)) gE bE) (au (msN (aB (aa 4))) aD) (eI N (.lst L) b O.length [a,none,none,none]) c:=by
  unfold pR;rw[aN (dX (cg ((dM (ma1 (x:=dN N) rfl)).trans (QtT h O)))),aN (dX (show aF 4 xC _ O=.nx (eI N (.lst L) b O.length [none,none,none,none]) (O++[Ob.dk []]) from rfl))];exact aN ((rK (ds:=N.map D.str) (O':=O++[Ob.dk []]) rfl).trans q)
 have l:fV (iZ (aa 1)) gE bE (eI N (.lst L) b O.length [a,none,none,none]) c=aO gE bE (bV 0 L) (eI N (.lst L) b O.length [a,none,none,none]) c:=rK rfl
 rcases KR h b (.lst L) L 0 c (λ_=>[]) a none none none T m (by omega) (λn=>by rw[zJ];omega) with⟨j,O',i,e⟩ | ⟨Y,O',C,y,u,i,t,e⟩
 ·refine .inl ⟨j,O',i,?_⟩;show bh (pR [some (dN N),some (.lst L),some (.bl b),none,none,none,none,none,none] O)=_;rw[pre,jZ (l.trans e)];rfl
 ·refine .inr ⟨Y,O',O.length,f,i,t,?_⟩;show bh (pR [some (dN N),some (.lst L),some (.bl b),none,none,none,none,none,none] O)=_;rw[pre,aN (l.trans e)];rfl
noncomputable def f9:List Nat:=[114,111,108,108]
noncomputable def qd:List Nat:=[116,111,108,100]
theorem QtN   {hs:List HM}    (h:m ρ O=.ok d O'):mK i m hs ρ O=.nx (ρ.set i (some d)) O':=by unfold mK;rw[h]
theorem Qu1   {hs:List HM}    (h:m ρ O=.ex x O'):mK i m hs ρ O=mF hs x ρ O':=by unfold mK;rw[h]
theorem Quu  (h:Nms N)(b:Bool)(L:List D)(F:∀x∈L,fZ x)(E:L.length<=20)(O:az):
  (∃j O',go N b 0 L (λ_=>[])=.inl j/\gK [dN N,.lst L,.bl b] O=.ok (.tup [.str f9,.int (j:Nat)]) O') \/
  ∃Y O' d f,go N b 0 L (λ_=>[])=.inr Y/\Tab N O' d f Y/\gK [dN N,.lst L,.bl b] O=.ok (.tup [.str qd,.ob d]) O':=by
 have m:aF 3 (mC .non) [some (dN N),some (.lst L),some (.bl b),none,none] O=.nx [some (dN N),some (.lst L),some (.bl b),some .non,none] O:=rfl;have r:=mV (c:=rP) (show aj (aa 0) (aj (aa 1) (aj (aa 2) aq)) [some (dN N),some (.lst L),some (.bl b),some .non,none] O=.ok [dN N,.lst L,.bl b] O from rfl)
 rcases Qq9 h b L F E O with⟨j,O',l,e⟩ | ⟨Y,O',d,f,l,T,e⟩
 ·refine .inl ⟨j,O'++[.xc "NoRoll" [("at",.int (j:Nat))]],l,?_⟩;show bh (pX [some (dN N),some (.lst L),some (.bl b),none,none] O)=_;unfold pX;rw[aN m,dg ((Qu1 (r.trans e)).trans (YQ (show List.contains [("NoRoll":Str)] "NoRoll" = true by decide) ?_))]
  ·rfl
  ·have g:(O'++[Ob.xc "NoRoll" [("at",.int (j:Nat))]])[O'.length]?=some (.xc "NoRoll" [("at",.int (j:Nat))]):=by
    rw[zC (zc _),Nat.sub_self];rfl
   generalize O'.length=n at g ⊢
   generalize O'++[Ob.xc "NoRoll" [("at",.int (j:Nat))]]=a at g ⊢
   have i:aa 4 ([some (dN N),some (.lst L),some (.bl b),some .non,none].set 4 (some (.ob n))) a=.ok (.ob n) a:=rfl;have H:=Jd (tb:=[("NoRoll",false)]) (bb:=false) i g rfl;have G:=Jd (tb:=[("NoRoll",true)]) (bb:=true) i g rfl;have t:=YS (f:="at") (L:=["NoRoll"]) (d:=.int (j:Nat)) i g (by decide) rfl
   have C:cz (fX [("NoRoll",false)] (aa 4)) ([some (dN N),some (.lst L),some (.bl b),some .non,none].set 4 (some (.ob n))) a=.ok false a:=by rw[rm,H];rfl
   have q:fD (cz (fX [("NoRoll",true)] (aa 4))) ([some (dN N),some (.lst L),some (.bl b),some .non,none].set 4 (some (.ob n))) a=.ok false a:=by rw[uA,rm,G];rfl
   have y:cz (eU "bool" (mH "at" ["NoRoll"] (aa 4))) ([some (dN N),some (.lst L),some (.bl b),some .non,none].set 4 (some (.ob n))) a=.ok false a:=by
    rw[rm];unfold eU;rw[t];rfl
   have u:cZ (fD (cz (fX [("NoRoll",true)] (aa 4)))) (cZ (fD (cz (fX [("NoRoll",true)] (aa 4)))) (cz (eU "bool" (mH "at" ["NoRoll"] (aa 4))))) ([some (dN N),some (.lst L),some (.bl b),some .non,none].set 4 (some (.ob n))) a=.ok false a:=by
    rw[uz,q,aQ];show cZ _ _ _ _=_;rw[uz,q,aQ];exact y
   rw[aN ((iJ C).trans (show aD _ a=.nx _ a from rfl)),aN ((iJ u).trans (show aD _ a=.nx _ a from rfl)),oX,vq (maS (x:=.str f9) rfl (ma1 t)) (show(2:Nat)<=1000000 by decide)];rfl
 ·refine .inr ⟨Y,O',d,f,l,T,?_⟩;show bh (pX [some (dN N),some (.lst L),some (.bl b),none,none] O)=_;unfold pX;rw[aN m,aN (QtN (r.trans e))];rfl
abbrev eD(N:List (List Nat))(L:List D)(b:Bool)(d:Nat)(r:aV):aV:=some (dN N)::some (.lst L)::some (.bl b)::some (.ob d)::r
noncomputable def vG(O O':az):Prop:=∀(i:Nat) (o:Ob),O[i]?=some o->O'[i]?=some o
noncomputable def mPr:L2.M D:=(aW (aj (aa 0) (aj (mMl (bj aq)) aq)))
theorem K4:∀(M P:List (List Nat)) (h O:az) (f:List Nat->Nat) (o:Option D),(∀n∈P,O[f n]?=some (.ml [])/\h.length<=f n)->(∀n∈P,∀m∈P,f n=f m->n=m)->Ext h O->(P++M).Nodup ->
  ∃(O':az) (i:List Nat->Nat),dH (mgN 0) cO mPr (M.map D.str) [o] O (P.map λn=>.tup [.str n,.ob (f n)])=.ok ((P++M).map λn=>.tup [.str n,.ob (i n)]) O'/\(∀n∈P++M,O'[i n]?=some (.ml [])/\h.length<=i n)/\(∀n∈P++M,∀m∈P++M,i n=i m->n=m)/\Ext h O'
 | [],P,h,O,f,o,h1,h2,h3,_=>⟨O,f,by rw[zI];rfl,by rw[zI];exact h1,by rw[zI];exact h2,h3⟩
 |n::M,P,h,O,f,o,h1,h2,h3,nd=>by
  have r:n∉P:=λz=>by
   have:=(zZ.mp nd).2.2 n z n zj
   exact this rfl
  have l:∀m∈P,f m<O.length:=λm c=>(zk.mp (h1 m c).1).1
  have q:∀x∈P,fN f n O.length x=f x/\f x<O.length:=λx j=>⟨if_neg λz:x=n=>r (z ▸ j),l x j⟩
  obtain⟨y,j⟩:=h3
  have C:h.length<=O.length:=by rw[j,zf];omega
  obtain⟨O',i,e,u,t,E⟩:=K4 M (P++[n]) h (O++[Ob.ml []]) (fN f n O.length) (some (.str n)) (λm c=>by
   rcases zv.mp c with c | c
   ·rw[(q m c).1,zA (l m c)];exact h1 m c
   ·rw[zg.mp c,lH,zC (zc _),Nat.sub_self]
    exact⟨rfl,C⟩) (λa g b d e=>by
   rcases zv.mp g with g | g<;>rcases zv.mp d with d | d
   ·rw[(q a g).1,(q b d).1] at e;exact h2 a g b d e
   ·rw[zg.mp d,lH,(q a g).1] at e
    have:=(q a g).2
    omega
   ·rw[zg.mp g,lH,(q b d).1] at e
    have:=(q b d).2
    omega
   ·rw[zg.mp g,zg.mp d]) ⟨y++[Ob.ml []],by rw[j,zD]⟩ (by rw[zD];exact nd)
  rw[zD] at e u t;refine⟨O',i,?_,u,t,E⟩;rw[zW,KY r λm v=>D.tup [.str m,.ob v]] at e;have F:mPr [some (.str n)] O=.ok (.tup [.str n,.ob O.length]) (O++[Ob.ml []]):=rfl;rw[zd,dH];rw[show mgN 0 (D.str n) [o]=some [some (.str n)] from rfl];dsimp only;rw[show cO [some (D.str n)] O=.ok true O from rfl];dsimp only;rw[F];dsimp only;rw[zd,zV,lH] at e;exact e
theorem K5(f:List Nat->Nat):∀N:List (List Nat),mL (N.map λn=>.tup [.str n,.ob (f n)])=some (N.map λn=>(kyN n,.ob (f n)))
 | []=>rfl
 |n::N=>by
  rw[zd,mL.eq_def];dsimp only;rw[K5 f N];rfl
theorem K6(f:List Nat->Nat):∀(M P:List (List Nat)),(P++M).Nodup->(M.map λn=>(kyN n,D.ob (f n))).foldl (λacc p=>kZ acc p.1 p.2) (P.map λn=>(kyN n,D.ob (f n)))=(P++M).map λn=>(kyN n,D.ob (f n))
 | [],P,_=>by rw[zI];rfl
 |n::M,P,nd=>by
  have b:n∉P:=λz=>by
   have:=(zZ.mp nd).2.2 n z n zj
   exact this rfl
  have a:=K6 f M (P++[n]) (by rw[zD];exact nd);rw[zD,zW] at a;rw[zd,List.foldl_cons,KZ b];exact a
theorem Qv6  (h:Nms N)(j g m c b:Option D)(O:az):∃(O':az) (d:Nat) (f:List Nat->Nat),aF 3 (qX (aj (c7 (bG (aa 0)) 1 [] (mgN 0) cO mPr) aq)) [some (dN N),j,g,m,c,b] O=.nx [some (dN N),j,g,some (.ob d),c,b] O'/\Tab N O' d f (λ_=>[])/\vG O O'/\O.length<=d/\∀n∈N,O.length<=f n:=by
 have l4:=h.l4;obtain⟨a,f,e,q,u,C⟩:=K4 N [] O O (λ_=>0) none (λn l=>(nomatch l)) (λn l=>(nomatch l)) (Ext.refl O) (by rw[zN];exact h.nd);rw[zN] at e q u;rw[zV] at e;obtain⟨G,r⟩:=C
 have F:c7 (bG (aa 0)) 1 [] (mgN 0) cO mPr [some (dN N),j,g,m,c,b] O=.ok (.lst (N.map λn=>.tup [.str n,.ob (f n)])) a:=by
  rw[rF,show bG (aa 0) [some (dN N),j,g,m,c,b] O=.ok (N.map D.str) O from rfl,aQ,if_pos (by rw[zx];omega),show gY 1 [] [some (dN N),j,g,m,c,b]=[none] from rfl,e,aQ]
 have x:aj (c7 (bG (aa 0)) 1 [] (mgN 0) cO mPr) aq [some (dN N),j,g,m,c,b] O=.ok [.lst (N.map λn=>.tup [.str n,.ob (f n)])] a:=by
  rw[oV,F,aQ];rfl
 have E:qX (aj (c7 (bG (aa 0)) 1 [] (mgN 0) cO mPr) aq) [some (dN N),j,g,m,c,b] O=.ok (.ob a.length) (a++[.dk (N.map λn=>(kyN n,.ob (f n)))]):=by
  unfold qX;rw[x,aQ];show(match mL (N.map λn=>.tup [.str n,.ob (f n)]) with | some kvs=>if kvs.length<=1000000 then(Res.ok (D.ob a.length) (a++[Ob.dk (uw kvs)]):Res D) else .no | none=>.no)=_;rw[K5];dsimp only;rw[if_pos (by rw[zx];omega)]
  have:=K6 f N [] (by rw[zN];exact h.nd)
  rw[zV,zN] at this;unfold uw;rw[this]
 refine⟨a++[.dk (N.map λn=>(kyN n,.ob (f n)))],a.length,f,?_,⟨?_,λn l=>?_,u⟩,λi o t=>?_,?_,λn l=>(q n l).2⟩
 ·rw[lz,E,lA];rfl
 ·rw[zC (zc _),Nat.sub_self];rfl
 ·have:=(q n l).1
  rw[zA (zk.mp this).1];exact this
 ·have y:=(zk.mp t).1;rw[r,zD,zA y];exact t
 ·rw[r,zf];omega
noncomputable def bD:MS:=(au (aF 5 (aG ni (aj (ak gIx (aa 1) (aa 4)) (aj (ak aC (aa 4) (mC (.int 1))) (aj (aa 0) (aj (aa 2) aq))))))
  (au (aK (aA (d9 (aa 5))) (aB (aW (aj (mC (.str [114,111,108,108])) (aj (aa 4) aq)))) aD)
  (kY (mj (aa 3) (ak gIx (aa 5) (mC (.int 0)))) (mSl (aa 5) (moS (mC (.int 1))) moN))))
theorem K7(a:Int)(n:Nat):dJ a (n+1)=.int a::dJ (a+1) n:=by
 unfold dJ;rw[List.range_succ_eq_map,zd,List.map_map];congr 1
 ·simp
 ·congr 1
  funext i
  simp only[Function.comp];congr 1
  push_cast
  omega
theorem K8  (h:Nms N)(b:Bool){t:az}{d:Nat}{f:List Nat->Nat}(C:∀n∈N,t.length<=f n)(a:List D):∀(L:List D) (k:Nat) (O:az) (X:List Nat->List D) (g c:Option D),a.drop k=L->Tab N O d f X->vG t O->(∀x∈L,fZ x)->k+L.length<39->(∀n,(X n).length+L.length<=1000) ->
  (∃j O',go N b k L X=.inl j/\aO (mgN 4) bD (dJ (k:Int) L.length) (eD N a b d [g,c]) O=.rt (.tup [.str f9,.int (j:Nat)]) O') \/
  ∃Y O' F E,go N b k L X=.inr Y/\Tab N O' d f Y/\vG t O'/\aO (mgN 4) bD (dJ (k:Int) L.length) (eD N a b d [g,c]) O=.nx (eD N a b d [F,E]) O'
 | [],k,O,X,g,c,_,T,K0,_,_,_=>.inr ⟨X,O,g,c,rfl,T,K0,rfl⟩
 |y::L,k,O,X,g,c,hd,T,K0,hL,hk,hX=>by
  rw[zt] at hk
  have H:a[k]?=some y:=by
   have:=congrArg (λl=>l[0]?) hd
   simpa [List.getElem?_drop] using this
  have hd':a.drop (k+1)=L:=by rw[<-List.drop_drop,hd];rfl
  have I:=Qxm h (hL y zj) (k:=k+1) (by omega) b O
  have r:aF 5 (aG ni (aj (ak gIx (aa 1) (aa 4)) (aj (ak aC (aa 4) (mC (.int 1))) (aj (aa 0) (aj (aa 2) aq))))) (eD N a b d [some (.int (k:Int)),c]) O=.nx (eD N a b d [some (.int (k:Int)),some (eZ (rdD N b (k+1) y))]) O:=by
   have a1:ak gIx (aa 1) (aa 4) (eD N a b d [some (.int (k:Int)),c]) O=.ok y O:=bx (x:=.lst a) (y:=.int (k:Int)) rfl rfl (by
    show gIx (.lst a) (.int (k:Int))=_
    rw[oY,lB,H])
   have a2:ak aC (aa 4) (mC (.int 1)) (eD N a b d [some (.int (k:Int)),c]) O=.ok (.int ((k+1:Nat):Int)) O:=by
    rw[lE (i:=(k:Int)) (j:=1) rfl rfl]
    push_cast
    rfl
   rw[lz,dM (maS a1 (maS a2 (maS (x:=dN N) rfl (ma1 (x:=.bl b) rfl)))),I,lA];rfl
  rw[zt,K7]
  cases hr:rdD N b (k+1) y with
  |none =>
   rw[hr] at r;refine .inl ⟨k,O,by rw[go,hr],?_⟩;refine Bo (ρ1:=(eD N a b d [some (.int (k:Int)),c])) rfl ?_;unfold bD;rw[aN r];exact dg ((gM (O:=O) rfl).trans rfl)
  |some x =>
   rw[hr] at r;have q:=KQ hr;have P:=KJ (ρ:=(eD N a b d [some (.int (k:Int)),some (eZ (some x))])) (KH T q (mo:=aa 3) (my:=ak gIx (aa 5) (mC (.int 0))) rfl rfl) (T.ml _ q) (m:=mSl (aa 5) (moS (mC (.int 1))) moN) (x:=entry x) rfl (by have:=hX x.1;omega)
   have Q:bD (eD N a b d [some (.int (k:Int)),c]) O=.nx (eD N a b d [some (.int (k:Int)),some (eZ (some x))]) (O.set (f x.1) (.ml (X x.1++[entry x]))):=by
    unfold bD;rw[aN r,aN ((iJ (O:=O) rfl).trans (show aD _ O=.nx _ O from rfl))];exact P
   have J:go N b k (y::L) X=go N b (k+1) L (lG X x.1 (X x.1++[entry x])):=by rw[go,hr]
   rw[J,iK (ρ1:=(eD N a b d [some (.int (k:Int)),c])) (show mgN 4 (.int (k:Int)) (eD N a b d [g,c])=_ from rfl) Q,show(k:Int)+1=((k+1:Nat):Int) by omega]
   refine K8 h b C a L (k+1) _ _ _ _ hd' (T.app q _) (λi o u=>?_) (λz G=>hL z (zp _ G)) (by omega) λn=>?_
   ·have R:=(zk.mp u).1
    have:=C x.1 q
    rw[zy (by omega)];exact K0 i o u
   ·have:=hX n
    have:=hX x.1
    rw[zt] at *;unfold lG
    split
    ·rw[zf,zB];omega
    ·omega
theorem K9  (h:Nms N)(b:Bool)(L:List D)(l:∀x∈L,fZ x)(C:L.length<=20)(O:az):
  (∃j O',go N b 0 L (λ_=>[])=.inl j/\gJ [dN N,.lst L,.bl b] O=.ok (.tup [.str f9,.int (j:Nat)]) O') \/
  ∃Y O' d f,go N b 0 L (λ_=>[])=.inr Y/\Tab N O' d f Y/\vG O O'/\O.length<=d/\gJ [dN N,.lst L,.bl b] O=.ok (.tup [.str qd,.ob d]) O':=by
 obtain⟨a,d,f,m,T,r,hd,i⟩:=Qv6 h (some (.lst L)) (some (.bl b)) none none none O;have g:bM (eV (aj (aM aU (aj (aa 1) aq)) aq)) (mgN 4) bD (eD N L b d [none,none]) a=aO (mgN 4) bD (dJ ((0:Nat):Int) L.length) (eD N L b d [none,none]) a:=jt (vA (sr rfl) (by omega));have pre:rY [some (dN N),some (.lst L),some (.bl b),none,none,none] O=au (bM (eV (aj (aM aU (aj (aa 1) aq)) aq)) (mgN 4) bD) (aB (aW (aj (mC (.str [116,111,108,100])) (aj (aa 3) aq)))) (eD N L b d [none,none]) a:=aN m
 rcases K8 h b i L L 0 a (λ_=>[]) none none rfl T r l (by omega) (λn=>by rw[zJ];omega) with⟨j,O',c,e⟩ | ⟨Y,O',y,u,c,q,t,e⟩
 ·refine .inl ⟨j,O',c,?_⟩;show bh (rY [some (dN N),some (.lst L),some (.bl b),none,none,none] O)=_;rw[pre,dg (g.trans e)];rfl
 ·refine .inr ⟨Y,O',d,f,c,q,t,hd,?_⟩;show bh (rY [some (dN N),some (.lst L),some (.bl b),none,none,none] O)=_;rw[pre,aN (g.trans e)];rfl
noncomputable def qe(d:D):Prop:=∃a b c,d=.tup [.str a,.str b,.str c]/\asc a/\asc b/\asc c
theorem Qua  (a:asc i):asc (shI v i):=by
 unfold shI
 split
 ·intro c b;revert c;decide
 ·exact a
theorem La:∀(L:List (List Nat×List Nat)) (i g:List Nat) (acc l:List D),(∀x∈L,asc x.2)->asc i->asc g->(∀d∈acc,qe d)->shF L i g acc=some l->(∀d∈l,qe d)/\l.length<=acc.length+L.length
 | [],i,g,acc,l,_,_,_,ha,e=>by
  have e':(if i=[46]/\g=[46] then some acc else none)=some l:=e;split at e'
  ·cases e';exact⟨ha,Nat.le_add_right _ _⟩
  ·cases e'
 | (k,v)::L,i,g,acc,l,hL,hi,hg,ha,e=>by
  by_cases b:k=dq\/k=du
  ·have e':(if k=dq\/k=du then none else _)=some l:=e;rw[if_pos b] at e';cases e'
  ·rw[Bg b] at e;have a:=hL (k,v) zj;obtain⟨a1,a2⟩:=Bh (k:=k) hi hg a
   have q:=La L _ _ _ l (λx c=>hL x (zp _ c)) a1 a2 (λd hd=>by
    unfold j4 at hd;split at hd
    ·rcases zv.mp hd with hd | hd
     ·exact ha d hd
     ·rw[zg.mp hd];exact⟨v,shI v i,g,rfl,a,Qua hi,hg⟩
    ·exact ha d hd) e
   have f:=Bj k v i g acc;refine⟨q.1,?_⟩;rw[zt];omega
theorem Lb  (h:qe d):cW d=true/\(toP d).canLay0=true/\(toP d).depth<=5:=by
 obtain⟨a,b,c,rfl,j,i,g⟩:=h;refine⟨rfl,?_,?_⟩
 ·show((PyData.str (S a)).canLay0&&((PyData.str (S b)).canLay0&&((PyData.str (S c)).canLay0&&true)))=true;rw[iB λx f=>Nat.lt_trans (j x f) (by decide),iB λx f=>Nat.lt_trans (i x f) (by decide),iB λx f=>Nat.lt_trans (g x f) (by decide)];rfl
 ·show PyData.depthAll [.str (S a),.str (S b),.str (S c)]+1<=5;simp[PyData.depthAll,PyData.depth]
noncomputable def Ent(e:D):Prop:=∃l W,e=.tup [.lst l,.str W]/\(∀d∈l,qe d)/\asc W
theorem Qxi  (h:Ent e):cW e=true/\(toP e).canLay0=true/\(toP e).depth<=10:=by
 obtain⟨l,w,rfl,c,f⟩:=h
 have lay:∀d∈l.map toP,d.canLay0=true/\d.depth<=5:=λd hd=>by
  obtain⟨x,b,rfl⟩:=zQ.mp hd;exact(Lb (c x b)).2
 refine⟨?_,?_,?_⟩
 ·rw[cW]
  refine uF λd hd=>?_
  rcases zh.mp hd with rfl | hd
  ·rw[cW]
   exact uF λd hd=>(Lb (c d hd)).1
  ·rw[zg.mp hd];rfl
 ·show PyData.canLayAll0 (fU [.lst l,.str w])=true;rw[oZ]
  refine tH λd hd=>?_
  obtain⟨g,a,rfl⟩:=zQ.mp hd
  rcases zh.mp a with rfl | a
  ·show PyData.canLayAll0 (fU l)=true;rw[oZ]
   exact tH λd hd=>(lay d hd).1
  ·rw[zg.mp a]
   exact iB λx b=>Nat.lt_trans (f x b) (by decide)
 ·show PyData.depthAll (fU [.lst l,.str w])+1<=10;rw[oZ]
  have:=tK (n:=8) (ds:=[D.lst l,.str w].map toP) λd hd=>by
   obtain⟨g,a,rfl⟩:=zQ.mp hd
   rcases zh.mp a with rfl | a
   ·show PyData.depthAll (fU l)+1<=8;rw[oZ]
    have:=tK λd hd=>(lay d hd).2
    omega
   ·rw[zg.mp a];show PyData.depth (.str (S w))<=8;simp[PyData.depth]
  omega
theorem QuY  (h:W=kW\/W=kM):asc W:=by
 rcases h with rfl | rfl
 ·intro c a;revert c;decide
 ·intro c a;revert c;decide
theorem QxK  (b:Rw t)  (h:sh t=some l):∀d∈l,qe d:=by
 unfold sh at h;split at h
 ·cases h
 ·have a:asc [46]:=by intro c f;revert c;decide
  exact(La _ [46] [46] [] l (vp t.length t b.lt) a a (λd hd=>by cases hd) h).1
theorem vH  (b:Rw t) :∀{N:List (List Nat)}{x:List Nat×List D×List Nat},rdL t a w N=some x->Ent (entry x)
 |n::N,x,h=>by
  have d:∀{c:Nat}{r:List Nat}{W:List Nat},t.drop (a++pad w n).length=c::r->(W=kW\/W=kM)->((sh r).map λl=>(n,l,W))=some x->Ent (entry x):=λ{c r W} hd hW h=>by
   have f:Rw r:=by
    have:t.drop ((a++pad w n).length+1)=r:=by rw[<-List.drop_drop,hd];rfl
    exact this ▸ b.drop _
   cases hs:sh r with
   |none=>rw[hs] at h;cases h
   |some l =>
    rw[hs] at h;cases h;exact⟨l,W,rfl,QxK f hs,QuY hW⟩
  rw[rdL] at h;split at h
  ·split at h
   ·rename_i c r hd;split at h
    ·exact d hd (.inl rfl) h
    ·split at h
     ·exact d hd (.inr rfl) h
     ·exact vH b h
   ·exact vH b h
  ·exact vH b h
theorem Ld  :∀(L:List D) (k:Nat) (X Y:List Nat->List D),(∀x∈L,fZ x)->(∀n,∀e∈X n,Ent e)->go N b k L X=.inr Y->∀n,∀e∈Y n,Ent e
 | [],k,X,Y,_,hX,h=>by cases h;exact hX
 |d::L,k,X,Y,hL,hX,h=>by
  rw[go] at h
  cases hr:rdD N b (k+1) d with
  |none=>rw[hr] at h;cases h
  |some x =>
   rw[hr] at h
   have g:Ent (entry x):=by
    rcases hL d zj with⟨t,rfl,f⟩ | hd
    ·exact vH f hr
    ·rw[Bx hd] at hr;cases hr
   refine Ld L (k+1) _ Y (λz c=>hL z (zp _ c)) (λn e a=>?_) h;unfold lG at a;split at a
   ·rcases zv.mp a with a | a
    ·exact hX _ e a
    ·rw[zg.mp a];exact g
   ·exact hX n e a
theorem Qux(O:az)  (h:qe d):cA O 3 d=d:=by
 obtain⟨a,b,c,rfl,_⟩:=h;rfl
theorem Qt4(O:az)  (h:Ent e):cA O 5 e=e:=by
 obtain⟨l,w,rfl,a,_⟩:=h;show D.tup [.lst (l.map (cA O 3)),.str w]=_;rw[show l.map (cA O 3)=l.map id from ji λd hd=>Qux O (a d hd),List.map_id]
theorem Le    (h:O[i]?=some (.ml ds))(hd:∀e∈ds,Ent e):cA O 6 (.ob i)=.lst ds:=by
 show(match O[i]? with | some (.ml ds)=>D.lst (ds.map (cA O 5)) | _=>.ob i)=_;rw[h];dsimp only;rw[show ds.map (cA O 5)=ds.map id from ji λd a=>Qt4 O (hd d a),List.map_id]
theorem Lf      (T:Tab N O d f Y)(c:Tab N O d' f' Y)(a:∀n,∀e∈Y n,Ent e):∀M:List (List Nat),(∀n∈M,n∈N)->jU O 6 (N.map λn=>(kyN n,D.ob (f' n))) (M.map λn=>(kyN n,D.ob (f n)))=some true
 | [],_=>rfl
 |n::M,hM=>by
  have b:=hM n zj
  have ok:okE (.lst (Y n))=true:=Ip (n:=10) (by decide) λe h=>Qxi (a n e h)
  rw[zd,jU];dsimp only;rw[Bw f' b];dsimp only;rw[Le (T.ml n b) (a n),Le (c.ml n b) (a n),ok,if_pos (show(true&&true)=true from rfl),Lf T c a M λm g=>hM m (zp _ g),yj ok];rfl
theorem Qsn      (T:Tab N O d f Y)(b:Tab N O d' f' Y)(c:∀n,∀e∈Y n,Ent e)(a:d≠d'):eqK O 6 (.tup [.str qd,.ob d]) (.tup [.str qd,.ob d'])=some true:=by
 show(match O[d]?,O[d']? with | some (.dk ks),some (.dk ls)=>if qd=qd/\d≠d' then(jU O 6 ls ks).map (ks.length == ls.length && ·) else none | _,_=>none)=_;rw[T.dk,b.dk];dsimp only;rw[if_pos ⟨rfl,a⟩,Lf T b c N λ_ z=>z,zx,zx];simp
theorem Qq7(O:az)(j:Nat):eqK O 6 (.tup [.str f9,.int (j:Int)]) (.tup [.str f9,.int (j:Int)])=some true:=by
 have ok:okE (.tup [.str f9,.int (j:Int)])=true:=by
  unfold okE;show(true&&okD (.tuple [.str (S f9),.int (j:Int)]))=true;unfold okD
  rw[show(PyData.tuple [.str (S f9),.int (j:Int)]).canLay0=true by
   show((PyData.str (S f9)).canLay0&&((PyData.int (j:Int)).canLay0&&true))=true;rw[iB (by decide)]
   rfl]
  rfl
 show(if(okE (.tup [.str f9,.int (j:Int)])&&okE (.tup [.str f9,.int (j:Int)]))=true then some (eQ (.tup [.str f9,.int (j:Int)]) (.tup [.str f9,.int (j:Int)])) else none)=_;rw[ok,if_pos (show(true&&true)=true from rfl),yj ok]
theorem Lg  (h:Nms N)(b:Bool)(L:List D)(t:∀x∈L,fZ x)(u:L.length<=20)    (G:ma ρ O=.ok [dN N,.lst L,.bl b] O)(hb:∀O,mb ρ O=.ok [dN N,.lst L,.bl b] O)(g:Bool):∃O',gG g 6 (aG gK ma) (aG gJ mb) ρ O=.ok (.bl (!g)) O':=by
 have r:∀{x y:D}{i c:az},gK [dN N,.lst L,.bl b] O=.ok x i->gJ [dN N,.lst L,.bl b] i=.ok y c->eqK c 6 x y=some true->gG g 6 (aG gK ma) (aG gJ mb) ρ O=.ok (.bl (!g)) c:=λ{x y i c} q l e3=>by
  unfold gG;rw[dM G,q,aQ,dM (hb i),l,aQ,e3]
  cases g<;>rfl
 rcases Quu h b L t u O with⟨j,i,m,q⟩ | ⟨Y,i,d,f,m,T,q⟩
 ·rcases K9 h b L t u i with⟨C,c,a,l⟩ | ⟨Y,c,d,f,a,_,_,_,l⟩
  ·rw[m] at a;cases a;exact⟨c,r q l (Qq7 c j)⟩
  ·rw[m] at a;cases a
 ·rcases K9 h b L t u i with⟨C,c,a,l⟩ | ⟨Q,c,P,J,a,H,K,hd,l⟩
  ·rw[m] at a;cases a
  ·rw[m] at a;cases a;have T2:Tab N c d f Y:=⟨K _ _ T.dk,λn E=>K _ _ (T.ml n E),T.inj⟩;have I:=T.lt;exact⟨c,r q l (Qsn T2 H (Ld L 0 _ Y t (λn e F=>by cases F) m) (by omega))⟩
theorem Lh(a:Str) :∀(rest:List Str) (acc:Array Nat),c∈(rest.foldl (λacc p=>acc++a.cps++p.cps) acc).toList->c∈acc.toList\/c∈a.cps.toList\/∃p∈rest,c∈p.cps.toList
 | [],acc,h=>.inl h
 |p::r,acc,h=>by
  rw[List.foldl_cons] at h
  rcases Lh a r _ h with h | h | ⟨q,h1,h2⟩
  ·simp only[Array.toList_append,zv] at h
   rcases h with(h | h) | h
   ·exact .inl h
   ·exact .inr (.inl h)
   ·exact .inr (.inr ⟨p,zj,h⟩)
  ·exact .inr (.inl h)
  ·exact .inr (.inr ⟨q,zp _ h1,h2⟩)
theorem QpL(x:Str)(w:Nat){c:Nat}:∀(b:List Nat) (a:Nat),∀p∈StrLaws.partsFrom x w a b,c∈p.cps.toList->c∈x.cps.toList:=by
 have sub:∀i j:Nat,c∈(Builtin.Str.strSub x i j).cps.toList->c∈x.cps.toList:=λi j h=>by
  unfold Builtin.Str.strSub at h;rw[Array.toList_extract] at h;exact jb (List.mem_of_mem_take h)
 intro b
 induction b with
 |nil =>
  intro a p f h;rw[zg.mp f] at h;exact sub _ _ h
 |cons d r ih =>
  intro a p f h
  rcases zh.mp f with rfl | f
  ·exact sub _ _ h
  ·exact ih _ p f h
theorem Li(x z:Str)(w:Nat)(a:List Nat)  (h:c∈(Builtin.Str.glued z (Builtin.Str.partsBetween x a w)).cps.toList):c∈z.cps.toList\/c∈x.cps.toList:=by
 rw[StrLaws.partsBetween_eq] at h
 have b:=λp hp (d:c∈p.cps.toList)=>QpL x w (c:=c) a 0 p hp d
 obtain⟨p,r,e⟩:=StrLaws.partsFrom_ne x w 0 a;rw[e] at h b
 rcases Lh z r p.cps h with h | h | ⟨q,h1,h2⟩
 ·exact .inr (b p zj h)
 ·exact .inl h
 ·exact .inr (b q (zp _ h1) h2)
theorem QqP   (h:c∈(Txt.replace (S l) (S a) (S b)).cps.toList):c∈b\/c∈l:=by
 unfold Txt.replace at h;split at h
 ·rw[dR] at h;exact .inr h
 ·have:=Li _ _ _ _ h
  rwa [dR,dR] at this
theorem Qss   (h:c∈(ig (S l) (S a) (S b)).cps.toList):c∈b\/c∈l:=by
 unfold ig at h;split at h
 ·rw[dR] at h;exact .inr h
 ·have:=Li _ _ _ _ h
  rwa [dR,dR] at this
theorem Qrd  (h:b.length=a.length)(hb:b.length<=14):(Txt.replace (S l) (S a) (S b)).cps.toList.length=l.length:=by
 have:=XH (S l) (S a) (S b) (by rw[cu,cu];exact h) (by rw[cu];exact hb)
 rw[cu] at this;rw[<-this];rfl
theorem QrD  (h:b.length=a.length)(hb:b.length<=14):(ig (S l) (S a) (S b)).cps.toList.length=l.length:=by
 have:=XJ (S l) (S a) (S b) (by rw[cu,cu];exact h) (by rw[cu];exact hb)
 rw[cu] at this;rw[<-this];rfl
structure Gd(m:Nat)(t:List Nat):Prop where
 len:t.length<=m
 ok:∀c∈t,okc c
theorem Gd.rw   (h:Gd m t)(a:m<=300):Rw t:=⟨zE h.len a,λc b=>.inl (h.ok c b)⟩
theorem Gd.sub   (h:Gd m t)(a:s.length<=t.length)(hs:∀c∈s,c∈t):Gd m s:=⟨zE a h.len,λc b=>h.ok c (hs c b)⟩
theorem Gd.app   (h:Gd m t)(h':Gd k s):Gd (m+k) (t++s):=⟨by rw[zf];have:=h.len;have:=h'.len;omega,λc a=>(zv.mp a).elim (h.ok c) (h'.ok c)⟩
theorem Gd.mono   (h:Gd m t)(a:m<=k):Gd k t:=⟨zE h.len a,h.ok⟩
theorem Lj    (f:∃x,a ρ O=.ok x O)(hb:∃y,b ρ O=.ok y O):∃z,cZ a b ρ O=.ok z O:=by
 obtain⟨x,d⟩:=f;obtain⟨y,c⟩:=hb;rw[uz,d,aQ]
 cases x with
 |true=>exact⟨true,rfl⟩
 |false=>exact⟨y,by rw[if_neg zq];exact c⟩
theorem Ln     (h:m ρ O=.ok (jw o) O):∃x,aA (d9 m) ρ O=.ok x O:=by
 cases o with
 |none=>exact⟨true,by rw[oR,HW,h];rfl⟩
 |some l=>exact⟨false,by rw[oR,HW,h];rfl⟩
theorem QwY(b:Int)(ns:List Int)(f:ns.length<=10)(c:Option D)(O:az):oh (c7 (bG (mSl (aa 0) (moS (mC (.int 1))) moN)) 1 [] (mgN 0) cO (aG ju (aj (aa 0) aq))) [some (.lst ((b::ns).map D.int)),c] O=.ok (.str (ns.map tok).flatten) O:=by
 have z:=rH (g:=mgN 0) (t:=cO) (m:=aG ju (aj (aa 0) aq)) (λρ=>∃a,ρ=[a]) D.int (λn=>.str (tok n)) ns [none] O [] ⟨none,rfl⟩ (by
  rintro y hy ρ ⟨a,rfl⟩
  exact⟨_,rfl,⟨_,rfl⟩,rfl,(dM (ds:=[.int y]) rfl).trans (Qvy y O)⟩)
 rw[zN] at z
 have d:bG (mSl (aa 0) (moS (mC (.int 1))) moN) [some (.lst ((b::ns).map D.int)),c] O=.ok (ns.map D.int) O:=by
  rw[rE,rn,show aa 0 [some (.lst ((b::ns).map D.int)),c] O=.ok (.lst ((b::ns).map D.int)) O from rfl,aQ,show moS (mC (.int 1)) [some (.lst ((b::ns).map D.int)),c] O=.ok (some 1) O from rfl,aQ,xX,aQ];show(ofO (some (D.lst (cB ((b::ns).map D.int) (some ((1:Nat):Int)) none))) O).bind _=_;rw[rZ];rfl
 have h:=(Bd ns).2;rw[Io,rF,d,aQ,if_pos (by rw[zx];omega),show gY 1 [] [some (.lst ((b::ns).map D.int)),c]=[none] from rfl,z,aQ,aQ,jV,Im,yh,Il,if_pos (by omega)]
theorem Lp     (c:Nat)(h:m ρ O=.ok (.str l) O)(a:l.length<=1000000):jo [c] [] m ρ O=.ok (.str (l.filter (· != c))) O:=by
 unfold jo;rw[h,aQ];dsimp only;rw[if_pos a,W7,dR]
theorem exS    (h:A ρ O=.nx ρ1 O1)(k:∃t,Gd 40 t/\B ρ1 O1=.rt (.str t) O):∃t,Gd 40 t/\au A B ρ O=.rt (.str t) O:=by
 obtain⟨t,g,e⟩:=k;exact⟨t,g,(aN h).trans e⟩
theorem Qxo(d:Int)(ns:List Int)(J:ns.length<=3)(O:az):∃t,Gd 40 t/\u9 [.lst ((d::ns).map D.int)] O=.ok (.str t) O:=by
 have tl:(ns.map tok).flatten.length<=9 * ns.length:=(Bd ns).1;have h1:=List.length_filter_le (· != 9) ((ns.map tok).flatten.filter (· != 10));have h2:=List.length_filter_le (· != 10) (ns.map tok).flatten;have tk:Gd 27 (((ns.map tok).flatten.filter (· != 10)).filter (· != 9)):=⟨by omega,λc F=>QuD ns c (List.mem_filter.mp (List.mem_filter.mp F).1).1⟩;have r:=tk.len
 have f:gIx (.lst ((d::ns).map D.int)) (.int 0)=some (.int d):=by
  show gIx (.lst ((d::ns).map D.int)) (.int ((0:Nat):Int))=_;rw[oY,lB];rfl
 obtain⟨x,u,ex⟩:=ixL (l:=[D.str [91,46,93,91,47,46,93],.str [32,91,93],.str [91,93,91,97,93,91,93]]) (v:=mix d 3) (n:=3) rfl (by decide)
 obtain⟨s,rfl,hs⟩:∃s,x=.str s/\Gd 7 s:=by
  simp only[zh,List.not_mem_nil,or_false] at u
  rcases u with rfl | rfl | rfl
  ·exact⟨_,rfl,by decide,by unfold okc;decide⟩
  ·exact⟨_,rfl,by decide,by unfold okc;decide⟩
  ·exact⟨_,rfl,by decide,by unfold okc;decide⟩
 have I:=hs.len
 suffices h:∃t,Gd 40 t/\u6 [some (.lst ((d::ns).map D.int)),none] O=.rt (.str t) O by
  obtain⟨t,g,e⟩:=h;exact⟨t,g,congrArg bh e⟩
 have tail:∀l,Gd 34 l->∃t,Gd 40 t/\au (aK (aA (d9 (aG m9 (aj (aa 1) aq)))) (aB (mC (.str [120,91,93]))) aD) (aB (aa 1)) [some (.lst ((d::ns).map D.int)),some (.str l)] O=.rt (.str t) O:=λl C=>by
  obtain⟨H,i⟩:=Ln ((dM (ma1 (a:=aa 1) (ρ:=[some (.lst ((d::ns).map D.int)),some (.str l)]) (x:=.str l) rfl)).trans (Bl l (C.rw (by omega)) O))
  cases H with
  |true=>exact⟨[120,91,93],⟨by decide,by unfold okc;decide⟩,dg ((gM i).trans rfl)⟩
  |false=>exact⟨l,C.mono (by decide),(aN (iJ i)).trans rfl⟩
 unfold u6;refine exS (cg (QwY d ns (by omega) none O)) ?_
 generalize hl:(((ns.map tok).flatten.filter (· != 10)).filter (· != 9))=l at tk r
 have G:aF 1 (jo [9] [] (jo [10] [] (aa 1))) [some (.lst ((d::ns).map D.int)),some (.str (ns.map tok).flatten)] O=.nx [some (.lst ((d::ns).map D.int)),some (.str l)] O:=by
  rw[<-hl];exact cg (Lp 9 (Lp 10 (m:=aa 1) rfl (by omega)) (by omega))
 refine exS G ?_;obtain⟨B,E⟩:=Lj (Ln ((dM (ma1 (a:=aa 1) (ρ:=[some (.lst ((d::ns).map D.int)),some (.str l)]) (x:=.str l) rfl)).trans (Bl l (tk.rw (by omega)) O))) (Lj ⟨_,Bm (lF (m:=aa 1) (a:=moS (mUn tU (mC (.int 1)))) (b:=moN) (ρ:=[some (.lst ((d::ns).map D.int)),some (.str l)]) (O:=O) (t:=l) (x:=some (-1)) (y:=none) rfl rfl rfl (by omega)) (show mC (.str [91]) _ O=.ok (.str [91]) O from rfl)⟩ ⟨_,su (dO (dY (bx (a:=aa 0) (b:=mC (.int 0)) (x:=.lst ((d::ns).map D.int)) rfl rfl f) (q:=mC (.int 2)) rfl (by decide) (by decide)) (b:=mC (.int 3)) (j:=3) rfl (by decide)) (b:=mC (.int 1)) (j:=1) rfl⟩)
 cases B with
 |false=>exact exS (iJ E) (tail l (tk.mono (by decide)))
 |true=>exact exS ((gM E).trans (cg (dz (x:=l) rfl (bx (x:=.lst [D.str [91,46,93,91,47,46,93],.str [32,91,93],.str [91,93,91,97,93,91,93]]) rfl (dO (dY (bx rfl rfl f) rfl (by decide) (by decide)) rfl (by decide)) ex) (by omega)))) (tail (l++s) (tk.app hs))
theorem Quv     (h:m ρ O=.ok (.str l) O)(c:l.length<=1000000):jo a b m ρ O=.ok (.str (Txt.replace (S l) (S a) (S b)).cps.toList) O:=by
 unfold jo;rw[h,aQ];exact if_pos c
theorem Qsp     (h:m ρ O=.ok (.str l) O)(c:l.length<=1000000):ux a b m ρ O=.ok (.str (ig (S l) (S a) (S b)).cps.toList) O:=by
 unfold ux;rw[h,aQ];exact if_pos c
noncomputable def fJ(d:D):Prop:=fZ d/\cW d=true/\(toP d).canLay0=true/\(toP d).depth<=5
theorem jz  (h:Rw t):fJ (.str t):=⟨.inl ⟨t,rfl,h⟩,rfl,iB λc a=>Nat.lt_trans (h.lt c a) (by decide),by show PyData.depth (.str (S t))<=5;simp[PyData.depth]⟩
theorem sH   (h:∀O,tyD (aX O d)=some s)(hs:dI s "str" = false):NoT d:=λρ O i a=>by
 have e:eU "str" (aa i) ρ O=.ok (.bl false) O:=by
  unfold eU;rw[il,a];show(match tyD (aX O d) with | some t=>(Res.ok (.bl (dI t "str")) O:Res D) | none=>.no)=_;rw[h O];dsimp only;rw[hs]
 rw[uA,rm,e];rfl
theorem By  (h:Rw t):fJ (.lst [.str t]):=⟨.inr (sH (s:="list") (λO=>rfl) (by decide +kernel)),rfl,by
 show((PyData.str (S t)).canLay0&&true)=true;rw[iB λc a=>Nat.lt_trans (h.lt c a) (by decide)]
 rfl,by show PyData.depthAll [.str (S t)]+1<=5;simp[PyData.depthAll,PyData.depth]⟩
theorem Qwi  (h:Rw t):fJ (.tup [.str t]):=⟨.inr (sH (s:="tuple") (λO=>rfl) (by decide +kernel)),rfl,(By h).2.2.1,(By h).2.2.2⟩
theorem QvI:fJ .non:=⟨.inr (sH (s:="NoneType") (λO=>rfl) (by decide +kernel)),rfl,rfl,by show PyData.depth .none<=5;simp[PyData.depth]⟩
theorem Qv8:fJ (.int 5):=⟨.inr (sH (s:="int") (λO=>rfl) (by decide +kernel)),rfl,rfl,by show PyData.depth (.int 5)<=5;simp[PyData.depth]⟩
theorem QvQ:fJ (.bl true):=⟨.inr (sH (s:="bool") (λO=>rfl) (by decide +kernel)),rfl,rfl,by show PyData.depth (.bool true)<=5;simp[PyData.depth]⟩
theorem ixW{l:List D}  (h:w<l.length):∃d,d∈l/\gIx (.lst l) (.int (w:Int))=some d:=⟨l[w],List.getElem_mem h,by rw[oY,lB,zM h]⟩
theorem Qq8  (i:Gd 100 t)(c:Int){k:Nat}(hk:k<=100)(O:az):∃d,fJ d/\rT [.str t,.int c,.int (k:Int)] O=.ok d O:=by
 have hz:=i.len;obtain⟨a,Q,U⟩:=qb (mix c k) (n:=t.length+1) (by omega);obtain⟨w,P,T⟩:=qb (mix c ((k:Int)+1)) (n:=12) (by omega)
 have u:=i.sub (s:=t.take a) (by rw[List.length_take];omega) λc f=>List.mem_of_mem_take f
 have C:∀n,Gd 100 (t.drop n):=λn=>i.sub (by rw[List.length_drop];omega) λc f=>jb f
 have G:∀x,okc x->Gd 1 [x]:=λx F=>⟨zc _,λc f=>by rw[zg.mp f];exact F⟩
 have l1:=u.len
 have q:=λn=>(C n).len
 suffices h:∃d,fJ d/\vd [some (.str t),some (.int c),some (.int (k:Int)),none,none] O=.rt d O by
  obtain⟨d,h1,h2⟩:=h;exact⟨d,h1,congrArg bh h2⟩
 have pre:∀{r:Fl}{X:MS},X [some (.str t),some (.int c),some (.int (k:Int)),some (.int (a:Int)),some (.int (w:Int))] O=r->au (aF 3 (ak aZ (aG b8 (aj (aa 1) (aj (aa 2) aq))) (ak aC (aM aU (aj (aa 0) aq)) (mC (.int 1))))) (au (aF 4 (ak aZ (aG b8 (aj (aa 1) (aj (ak aC (aa 2) (mC (.int 1))) aq))) (mC (.int 12)))) X) [some (.str t),some (.int c),some (.int (k:Int)),none,none] O=r:=λ{r X} h=>by
  refine(aN (cg ((dO (dY rfl rfl (by omega) (by omega)) (add_n (b:=1) (pY rfl (by omega)) rfl) (by omega)).trans (by rw[Q])))).trans ?_;exact(aN (cg ((dO (dY rfl rfl (by omega) (by omega)) rfl (by decide)).trans (congrArg (λx=>Res.ok (D.int x) O) P)))).trans h
 unfold vd
 by_cases J:w<4
 ·obtain⟨d,hd,j⟩:=ixW (l:=[.str (t.take a),.str ([48]++t),.str ([32]++t),.str (t.drop 1)]) J;refine⟨d,?_,pre (dg (sG (Ks rfl rfl (by omega)) (bx (vz (maS (slT rfl rfl (by omega)) (maS (dz rfl rfl (by simp;omega)) (maS (dz rfl rfl (by simp;omega)) (ma1 (slD (a:=1) rfl rfl (by omega)))))) (show(4:Nat)<=1000000 by decide)) rfl j)))⟩;simp only[zh,List.not_mem_nil,or_false] at hd
  rcases hd with rfl | rfl | rfl | rfl
  ·exact jz (u.rw (by decide))
  ·exact jz (((G 48 (by unfold okc;omega)).app i).rw (by decide))
  ·exact jz (((G 32 (by unfold okc;omega)).app i).rw (by decide))
  ·exact jz ((C 1).rw (by decide))
 have I:¬(w:Int)<4:=by omega
 by_cases W:w<8
 ·obtain⟨d,hd,j⟩:=ixW (l:=[.str [126],.str [10],.str [9],.str [32]]) (w:=w - 4) (show w - 4<4 by omega)
  obtain⟨x,rfl,F⟩:∃x,d=.str [x]/\(okc x\/x=126):=by
   simp only[zh,List.not_mem_nil,or_false] at hd
   rcases hd with rfl | rfl | rfl | rfl
   ·exact⟨_,rfl,.inr rfl⟩
   ·exact⟨_,rfl,.inl (by unfold okc;omega)⟩
   ·exact⟨_,rfl,.inl (by unfold okc;omega)⟩
   ·exact⟨_,rfl,.inl (by unfold okc;omega)⟩
  refine⟨.str (t.take a++[x]++t.drop a),jz ⟨?_,λc f=>?_⟩,pre ((aN (jy (Bs rfl rfl I))).trans (dg (sG (Ks rfl rfl (by omega)) (dz (dz (slT rfl rfl (by omega)) (bx (x:=.lst [.str [126],.str [10],.str [9],.str [32]]) (y:=.int ((w - 4:Nat):Int)) rfl ((vB rfl rfl).trans (by rw[show(w:Int) - 4=((w - 4:Nat):Int) by omega])) j) (by simp;omega)) (slD rfl rfl (by omega)) (by rw[zf,zB];have:=q a;omega)))))⟩
  ·rw[zf,zf,zB];have:=q a;omega
  ·rcases zv.mp f with f | f
   ·rcases zv.mp f with f | f
    ·exact .inl (u.ok c f)
    ·rw[zg.mp f];exact F
   ·exact .inl ((C a).ok c f)
 have L:¬(w:Int)<8:=by omega
 have g:∀{r:Fl}{A B X:MS},X [some (.str t),some (.int c),some (.int (k:Int)),some (.int (a:Int)),some (.int (w:Int))] O=r->au (aK (aA (ak gLt (aa 4) (mC (.int 4)))) A aD) (au (aK (aA (ak gLt (aa 4) (mC (.int 8)))) B aD) X) [some (.str t),some (.int c),some (.int (k:Int)),some (.int (a:Int)),some (.int (w:Int))] O=r:=λh=>(aN (jy (Bs rfl rfl I))).trans ((aN (jy (Bs rfl rfl L))).trans h)
 by_cases Z:w=8
 ·exact⟨.str (t++[91,47,99,93]),jz ((i.app (k:=4) (s:=[91,47,99,93]) ⟨by decide,by unfold okc;decide⟩).rw (by decide)),pre (g (dg (sG (Bt rfl rfl (by omega)) (dz rfl rfl (by simp;omega)))))⟩
 have E:¬(w:Int)=8:=by omega
 by_cases Y:w=9
 ·obtain⟨d,hd,j⟩:=ixL (l:=[.non,.int 5,.lst [.str t],.tup [.str t],.bl true,.str []]) (v:=mix c ((k:Int)+2)) (n:=6) rfl (by decide);refine⟨d,?_,pre (g ((aN (jy (eq_n rfl rfl E))).trans (dg (sG (Bt rfl rfl (by omega)) (bx (x:=.lst [.non,.int 5,.lst [.str t],.tup [.str t],.bl true,.str []]) rfl (dO (dY rfl rfl (by omega) (by omega)) rfl (by decide)) j)))))⟩;simp only[zh,List.not_mem_nil,or_false] at hd
  rcases hd with rfl | rfl | rfl | rfl | rfl | rfl
  ·exact QvI
  ·exact Qv8
  ·exact By (i.rw (by decide))
  ·exact Qwi (i.rw (by decide))
  ·exact QvQ
  ·exact jz ⟨by decide,λc f=>by cases f⟩
 have m:¬(w:Int)=9:=by omega
 by_cases R:w=10
 ·have l1:=Qrd (l:=t) (a:=[124]) (b:=[62]) rfl (by decide);have q:=QrD (l:=(Txt.replace (S t) (S [124]) (S [62])).cps.toList) (a:=[62]) (b:=[58]) rfl (by decide);refine⟨.str (ig (S (Txt.replace (S t) (S [124]) (S [62])).cps.toList) (S [62]) (S [58])).cps.toList,jz ⟨by omega,λc f=>.inl ?_⟩,pre (g ((aN (jy (eq_n rfl rfl E))).trans ((aN (jy (eq_n rfl rfl m))).trans (dg (sG (Bt rfl rfl (by omega)) (Qsp (Quv (l:=t) rfl (by omega)) (by omega)))))))⟩
  rcases Qss f with f | f
  ·rw[zg.mp f];unfold okc;omega
  ·rcases QqP f with f | f
   ·rw[zg.mp f];unfold okc;omega
   ·exact i.ok c f
 have H:¬(w:Int)=10:=by omega
 refine⟨.str (t.take a++[107]++t.drop (a+1)),jz (((u.app (G 107 (by unfold okc;omega))).app (C (a+1))).rw (by decide)),pre (g ((aN (jy (eq_n rfl rfl E))).trans ((aN (jy (eq_n rfl rfl m))).trans ((aN (jy (eq_n rfl rfl H))).trans ?_))))⟩;exact congrArg jW (dz (dz (slT rfl rfl (by omega)) (y:=[107]) rfl (by simp;omega)) (slD (a:=a+1) rfl (add_n (b:=1) rfl rfl) (by omega)) (by rw[zf,zB];have:=q (a+1);omega))
noncomputable def abc:List Nat:=[97,98,99,100,101,102,103,104,105,106,107,108,109,110,111,112,113,114,115,116,117,118,119,120,121,122]
theorem QvW:∀i:Nat,i<26->abc[i]?=some (97+i):=by decide
theorem Lq{i:Nat}(h:i<26):gIx (.str abc) (.int (i:Int))=some (.str [97+i]):=by
 rw[ye,if_pos (by decide),lB,QvW i h];rfl
noncomputable def lb(c:Int)(k:Nat):Nat:=97+(mix c (20+(0+(k:Int))) % 26).toNat
theorem Lr{α:Type}(f:α->Nat):∀l:List α,(l.map λi=>[f i]).flatten=l.map f
 | []=>rfl
 |x::l=>by rw[zd,List.flatten_cons,Lr f l];rfl
theorem Lw{α:Type}(f:α->Nat):∀l:List α,((l.map λi=>[f i]).map List.length).sum=l.length
 | []=>rfl
 |x::l=>by rw[zd,zd,List.sum_cons,Lw f l,zt];simp;omega
theorem Lx   {ρc:aV}   (c:gY 1 cap ρ=none::ρc)(b:∀k:Nat,k<8->e (some (.int (0+(k:Int)))::ρc) O=.ok (.str [g k]) O):oh (c7 (eV (aj (mC (.int 8)) aq)) 1 cap (mgN 0) cO e) ρ O=.ok (.str ((List.range 8).map g)) O:=by
 have z:=rH (g:=mgN 0) (t:=cO) (m:=e) (λρ=>∃a,ρ=a::ρc) (λi:Nat=>D.int (0+(i:Int))) (λk=>.str [g k]) (List.range 8) (none::ρc) O [] ⟨none,rfl⟩ (by
  rintro k hk ρ ⟨a,rfl⟩
  exact⟨_,rfl,⟨_,rfl⟩,rfl,b k (List.mem_range.mp hk)⟩)
 rw[zN] at z;rw[Io,rF,vA (n:=8) rfl (by decide),aQ,if_pos (by decide),c];show((dH _ _ _ ((List.range 8).map λi:Nat=>D.int (0+(i:Int))) _ O []).bind _).bind _=_;rw[z,aQ,aQ,jV,Im,yh,Il,Lw,if_pos (by decide),Lr]
theorem Qu5(c:Int):((List.range 8).map (lb c)).length=8/\∀x∈(List.range 8).map (lb c),97<=x/\x<=122:=by
 refine⟨by simp,λx a=>?_⟩;obtain⟨k,_,rfl⟩:=zQ.mp a;unfold lb;omega
noncomputable def nA(base:List Nat)(k:Nat):List Nat:=base.take (8 - k)
noncomputable def nB(base:List Nat)(a s f k:Nat):List Nat:=base.take a++[97+(f+k)]++(base.drop (a+1)).take (s - (a+1))
theorem Ly  (h1:1<=m)(h4:m<=4)  (ok:∀k,k<m->NOk (g k))(ne:∀j k,j<k->k<m->g j≠g k):Nms ((List.range m).map g):=by
 refine⟨λn c=>?_,?_,by simpa using h4,?_⟩
 ·obtain⟨k,d,rfl⟩:=zQ.mp c;exact ok k (List.mem_range.mp d)
 ·intro z
  have:=congrArg List.length z
  simp at this
  omega
 ·show List.Pairwise _ _;rw[List.pairwise_map];exact List.Pairwise.imp_of_mem (λ{a b} ha hb hab=>ne a b hab (List.mem_range.mp hb)) List.pairwise_lt_range
theorem Nms.rev  (h:Nms N):Nms N.reverse:=⟨λn c=>h.ok n (List.mem_reverse.mp c),by simpa using h.ne,by simpa using h.l4,List.pairwise_reverse.mpr (List.Pairwise.imp (λ{a b} z=>Ne.symm z) h.nd)⟩
theorem Qyc  (c:base.length=8)(hb:∀x∈base,97<=x/\x<=122)  (h1:1<=m)(h4:m<=4):Nms ((List.range m).map (nA base)):=Ly h1 h4 (λk b=>⟨by unfold nA;rw[List.length_take];omega,by unfold nA;rw[List.length_take];omega,λx a=>hb x (List.mem_of_mem_take a)⟩) λj k d b e=>by
 have:=congrArg List.length e
 unfold nA at this;rw[List.length_take,List.length_take] at this;omega
theorem Qx7  (g:base.length=8)(hb:∀x∈base,97<=x/\x<=122)  (l:a<s)(hs:s<=8)(i:f<20)  (h1:1<=m)(h4:m<=4):Nms ((List.range m).map (nB base a s f)):=by
 have len:∀k,(nB base a s f k).length=s:=λk=>by
  unfold nB;rw[zf,zf,List.length_take,List.length_take,List.length_drop,zB];omega
 have c:∀k,(nB base a s f k)[a]?=some (97+(f+k)):=λk=>by
  unfold nB;rw[zD,zC (by rw[List.length_take];omega),List.length_take,show a - min a base.length=0 by omega];rfl
 refine Ly h1 h4 (λk d=>⟨by rw[len];omega,by rw[len];omega,λx b=>?_⟩) λj k h d e=>?_
 ·unfold nB at b
  rcases zv.mp b with b | b
  ·rcases zv.mp b with b | b
   ·exact hb x (List.mem_of_mem_take b)
   ·rw[zg.mp b];omega
  ·exact hb x (jb (List.mem_of_mem_take b))
 ·have h1:=c j;rw[e,c k] at h1
  have:=zH h1
  omega
theorem BJ  (d:m<=4)   {ρc:aV}   (h1:ρ[1]?=some (some (.int (m:Int))))(c:gY 1 cap ρ=none::ρc)(b:∀k,k<m->e (some (.int (0+(k:Int)))::ρc) O=.ok (.str (g k)) O):c7 (eV (aj (aa 1) aq)) 1 cap (mgN 0) cO e ρ O=.ok (dN ((List.range m).map g)) O:=by
 have z:=rH (g:=mgN 0) (t:=cO) (m:=e) (λρ=>∃a,ρ=a::ρc) (λi:Nat=>D.int (0+(i:Int))) (λk=>.str (g k)) (List.range m) (none::ρc) O [] ⟨none,rfl⟩ (by
  rintro k hk ρ ⟨a,rfl⟩
  exact⟨_,rfl,⟨_,rfl⟩,rfl,b k (List.mem_range.mp hk)⟩)
 rw[zN] at z;rw[rF,vA (n:=m) (by rw[il,h1]) (by omega),aQ,if_pos (by unfold dJ;rw[zx,List.length_range];omega),c];show((dH _ _ _ ((List.range m).map λi:Nat=>D.int (0+(i:Int))) _ O []).bind _)=_;rw[z,aQ];unfold dN;rw[List.map_map];rfl
theorem Lz{T:L2.M Bool}     (h:T [a,b,c,d,some (dN N),e,f,g] O=.ok bb O):aK T (ue 4) aD [a,b,c,d,some (dN N),e,f,g] O=.nx [a,b,c,d,some (dN (if bb then N.reverse else N)),e,f,g] O:=by
 cases bb with
 |true=>exact(gM h).trans (by unfold dN;rw[if_pos rfl,List.map_reverse];rfl)
 |false=>exact iJ h
theorem QuV(c:Int){m:Nat}(h1:1<=m)(h4:m<=4)(O:az):∃N,Nms N/\Aq [.int c,.int (m:Int)] O=.ok (dN N) O:=by
 obtain⟨l,u⟩:=Qu5 c
 have j:∀{N:List (List Nat)} (d:Bool),Nms N->Nms (if d then N.reverse else N):=λd h=>by
  cases d with
  |true=>exact h.rev
  |false=>exact h
 suffices h:∃N,Nms N/\u0 [some (.int c),some (.int (m:Int)),none,none,none,none,none,none] O=.rt (dN N) O by
  obtain⟨N,h1,h2⟩:=h;exact⟨N,h1,congrArg bh h2⟩
 unfold u0
 have C:∀k:Nat,k<8->ak gIx (aa 2) (ak aZ (aG b8 (aj (aa 1) (aj (ak aC (mC (.int 20)) (aa 0)) aq))) (mC (.int 26))) [some (.int (0+(k:Int))),some (.int c),some (.str abc)] O=.ok (.str [lb c k]) O:=λk q=>bx (x:=.str abc) rfl (dO (dY rfl (lE rfl rfl) (by omega) (by omega)) rfl (by decide)) (by
  rw[mU,mR,show mix c (20+(0+(k:Int))) % 26=((mix c (20+(0+(k:Int))) % 26).toNat:Int) by omega,Lq (by omega)]
  rfl)
 have E:∀k:Nat,k<m->mSl (aa 1) moN (moS (ak gk (mC (.int 8)) (aa 0))) [some (.int (0+(k:Int))),some (.str ((List.range 8).map (lb c)))] O=.ok (.str (nA ((List.range 8).map (lb c)) k)) O:=λk q=>slT (a:=8 - k) rfl ((vB rfl rfl).trans (by rw[show(8:Int) - (0+(k:Int))=((8 - k:Nat):Int) by omega])) (by omega)
 by_cases r:mix c 28 % 3>0
 ·obtain⟨s,hs,I⟩:=qb (mix c 29) (n:=8) (by omega);obtain⟨a,G,H⟩:=qb (mix c 30) (n:=1+s) (by omega);obtain⟨f,F,g⟩:=qb (mix c 31) (n:=20) (by omega);refine⟨_,j (decide (mix c 32 % 2=0)) (Qx7 l u (s:=1+s) H (by omega) g h1 h4),(aN (cg rfl)).trans ((aN (cg (Lx (ρc:=[some (.int c),some (.str abc)]) rfl C))).trans ((aN (cg (BJ h4 (ρc:=[some (.str ((List.range 8).map (lb c)))]) rfl rfl E))).trans ((aN ((gM (jx (bx (dO (dY rfl rfl (by decide) (by decide)) rfl (by decide)) (y:=.int 0) rfl (show gGt (.int (mix c 28 % 3)) (.int 0)=some (.bl true) from congrArg (λx=>some (D.bl x)) (zF r))))).trans ((aN (cg (add_n (a:=1) rfl ((dO (dY rfl rfl (by decide) (by decide)) rfl (by decide)).trans (congrArg (λx=>Res.ok (D.int x) O) hs))))).trans ((aN (cg ((dO (dY rfl rfl (by decide) (by decide)) rfl (by omega)).trans (congrArg (λx=>Res.ok (D.int x) O) G)))).trans ((aN (cg ((dO (dY rfl rfl (by decide) (by decide)) rfl (by decide)).trans (congrArg (λx=>Res.ok (D.int x) O) F)))).trans (cg (BJ h4 (ρc:=[some (.str abc),some (.str ((List.range 8).map (lb c))),some (.int ((1+s:Nat):Int)),some (.int (a:Int)),some (.int (f:Int))]) rfl rfl λk q=>?_))))))).trans ((aN (Lz (su (dO (dY rfl rfl (by decide) (by decide)) rfl (by decide)) rfl))).trans rfl))))⟩
  have i:=lF (m:=aa 2) (b:=moS (aa 3)) (ρ:=[some (.int (0+(k:Int))),some (.str abc),some (.str ((List.range 8).map (lb c))),some (.int ((1+s:Nat):Int)),some (.int (a:Int)),some (.int (f:Int))]) (O:=O) (t:=(List.range 8).map (lb c)) (x:=some ((a+1:Nat):Int)) (y:=some ((1+s:Nat):Int)) rfl (ir (m:=ak aC (aa 4) (mC (.int 1))) (add_n (b:=1) rfl rfl)) rfl (by omega);rw[vo] at i;exact dz (dz (slT rfl rfl (by omega)) (bx (x:=.str abc) (y:=.int ((f+k:Nat):Int)) rfl ((lE rfl rfl).trans (by rw[show(f:Int)+(0+(k:Int))=((f+k:Nat):Int) by omega])) (Lq (by omega))) (by rw[List.length_take,zB];omega)) i (by rw[zf,List.length_take,List.length_take,List.length_drop,zB];omega)
 ·exact⟨_,j (decide (mix c 32 % 2=0)) (Qyc l u h1 h4),(aN (cg rfl)).trans ((aN (cg (Lx (ρc:=[some (.int c),some (.str abc)]) rfl C))).trans ((aN (cg (BJ h4 (ρc:=[some (.str ((List.range 8).map (lb c)))]) rfl rfl E))).trans ((aN (jy (jx (bx (dO (dY rfl rfl (by decide) (by decide)) rfl (by decide)) (y:=.int 0) rfl (show gGt (.int (mix c 28 % 3)) (.int 0)=some (.bl false) from congrArg (λx=>some (D.bl x)) (zo r)))))).trans ((aN (Lz (su (dO (dY rfl rfl (by decide) (by decide)) rfl (by decide)) rfl))).trans rfl))))⟩
abbrev eL(ns:List Int)(d:D)(N:List (List Nat))(b:Bool)(L:List D)(r:aV):aV:=some (.lst (ns.map D.int))::some d::some (dN N)::some (.bl b)::some (.int (wd N:Int))::some (.lst L)::r
theorem Qrw      {j:Nat}  (h:m ρ O=.ok d O1)(b:mi ρ O1=.ok (.int (j:Int)) O1)(a:ρ[i]?=some (some (.lst ds)))(c:j<ds.length):iy i mi m ρ O=.nx (ρ.set i (some (.lst (ds.set j d)))) O1:=by
 unfold iy;rw[h];dsimp only;rw[b];dsimp only;rw[a];dsimp only;rw[show L2.ixN ds.length (j:Int)=some j by unfold L2.ixN;simp;omega]
theorem QwZ(ns:List Int)(k:Nat)(O:az):uY [.lst (ns.map D.int),.int k] O=.ok (.int (ns.getD k 0)) O:=by
 simp[uY,Am,oY]
 by_cases h:k<ns.length
 ·simp[h]
 ·simp[h]
noncomputable def bB:MS:=(au (aF 7 (mSl (aa 0) (moS (aa 6)) (moS (ak aC (aa 6) (mC (.int 4))))))
  (au (aF 8 (ak gIx (aa 2) (ak aZ (aG b8 (aj (ak gIx (aa 7) (mC (.int 0))) (aj (mC (.int 0)) aq))) (aM aU (aj (aa 2) aq)))))
  (au (aF 9 (ak aC (ak aC (ak aC (aa 8) (ak cV (mC (.str [32])) (ak gk (aa 4) (aM aU (aj (aa 8) aq))))) (ak gIx (mC (.str [124,62,124])) (ak aZ (aG b8 (aj (ak gIx (aa 7) (mC (.int 0))) (aj (mC (.int 1)) aq))) (mC (.int 3))))) (aG u9 (aj (aa 7) aq))))
  (dW 5 (ak gIx (bj (aj (aa 9) (aj (ak aC (ak aC (aM iz (aj (ak aC (aM aU (aj (aa 5) aq)) (mC (.int 1))) aq)) (mC (.str [32]))) (aa 9)) aq))) (aM gm (aj (aa 3) aq)))))))
theorem Qy2(m:Nat):(List.replicate m [32]).flatten=List.replicate m 32:=by
 induction m with
 |zero=>rfl
 |succ m a=>rw[List.replicate_succ,List.flatten_cons,a];rfl
theorem Qr3  (h:Nms N)(b:Bool){ns:List Int}   (Z:at'<ns.length)  (hR:R.length<=20)(o7 o8 J:Option D)(O:az):∃r p7 p8 p9,Gd 60 r/\bB (eL ns d1 N b (R.map D.str) [some (.int (at':Int)),o7,o8,J,none,none,none,none]) O=.nx (eL ns d1 N b ((R++[r]).map D.str) [some (.int (at':Int)),p7,p8,p9,none,none,none,none]) O:=by
 have U:=wd8 h
 obtain⟨a,rest,f,j⟩:∃a rest,(ns.drop at').take 4=a::rest/\rest.length<=3:=by
  cases hd:ns.drop at' with
  |nil =>
   have:=congrArg List.length hd
   rw[List.length_drop,zJ] at this;omega
  |cons a r=>exact⟨a,r.take 3,rfl,by rw[List.length_take];omega⟩
 have q:gIx (.lst ((a::rest).map D.int)) (.int 0)=some (.int a):=by
  show gIx (.lst ((a::rest).map D.int)) (.int ((0:Nat):Int))=_;rw[oY,lB];rfl
 have hp:=List.length_pos_iff.mpr h.ne;obtain⟨dn,G,I⟩:=ixL (l:=N.map D.str) (v:=mix a 0) (n:=((N.map D.str).length:Int)) rfl (by rw[zx];omega);obtain⟨n,E,rfl⟩:=zQ.mp G;have L:=h.ok n E;have n8:=L.l8;have nw:=sy E;have u:(n++List.replicate (wd N - n.length) 32).length=wd N:=pZ E;obtain⟨mk,F,H⟩:=ixS (l:=[124,62,124]) (v:=mix a 1) (n:=3) (by decide) rfl (by decide);obtain⟨g,Q,X⟩:=Qxo a rest j O;have hb:=Q.len
 have C:Gd 49 (pad (wd N) n++[mk]++g):=((Gd.app (m:=8) (k:=1) ⟨by rw[pZ E];exact U,λc f=>by
  unfold pad at f
  rcases zv.mp f with f | f
  ·have:=L.ok c f;unfold okc;omega
  ·rw[(List.mem_replicate.mp f).2];unfold okc;omega⟩ ⟨zc _,λc f=>by
   rw[zg.mp f];simp only[zh,List.not_mem_nil,or_false] at F;unfold okc
   omega⟩).app Q)
 have Y:=C.len;have dk:=vC (R.length+1) (by omega);have T:=sE b (k:=R.length+1) (by omega);have a1:=(sE true (k:=R.length+1) (by omega)).1;refine⟨ah b (R.length+1)++(pad (wd N) n++[mk]++g),some (.lst ((a::rest).map D.int)),some (.str n),some (.str (pad (wd N) n++[mk]++g)),(Gd.app (m:=3) ⟨T.1,T.2⟩ C).mono (by decide),?_⟩;refine(aN (cg (d:=.lst ((a::rest).map D.int)) ?_)).trans ?_
 ·rw[rn,show aa 0 (eL ns d1 N b (R.map D.str) [some (.int (at':Int)),o7,o8,J,none,none,none,none]) O=.ok (.lst (ns.map D.int)) O from rfl,aQ,ir (i:=(at':Int)) rfl,aQ,ir (i:=((at'+4:Nat):Int)) (add_n (b:=4) rfl rfl),aQ,jV,xY,vo,<-List.map_drop,<-List.map_take,show at'+4 - at'=4 by omega,f];rfl
 refine(aN (cg (bx (x:=dN N) rfl (dO (dY (bx rfl rfl q) rfl (by decide) (by decide)) (sr rfl) (by rw[zx];omega)) I))).trans ?_;refine(aN (cg (dz (dz (dz (x:=n) rfl (bx (x:=.str [32]) rfl (vB rfl (pY (t:=n) rfl (by omega))) ((Kd ⟨by omega,by omega,by rw[zB];omega⟩).trans (by rw[show((wd N:Int) - (n.length:Int)).toNat=wd N - n.length by omega,Qy2]))) (by rw[List.length_replicate];omega)) (bx (x:=.str [124,62,124]) rfl (dO (dY (bx rfl rfl q) rfl (by decide) (by decide)) rfl (by decide)) H) (by rw[u,zB];omega)) ((dM (ma1 rfl)).trans X) (by rw[zf,u,zB];omega)))).trans ?_
 rw[zW];refine Bk (d:=.str (ah b (R.length+1)++(pad (wd N) n++[mk]++g))) ?_ rfl (by rw[zx];omega)
 have W:∀{P:L2.M (List D)}{ρ:aV},P ρ O=.ok [.str (pad (wd N) n++[mk]++g),.str (ah true (R.length+1)++(pad (wd N) n++[mk]++g))] O->bj P ρ O=.ok (.lst [.str (pad (wd N) n++[mk]++g),.str (ah true (R.length+1)++(pad (wd N) n++[mk]++g))]) O:=λh=>vz h (show(2:Nat)<=1000000 by decide)
 refine bx (y:=.int (if b then 1 else 0)) (W (maS rfl (ma1 (dz (dz (x:=dig (R.length+1)) (y:=[32]) (Br ((add_n (b:=1) (sr rfl) rfl).trans (by rw[zx])) (by omega)) rfl (by rw[zB];omega)) rfl (by show(ah true (R.length+1)).length+_<=_;omega))))) (j5 (xs:=[.bl b]) (ma1 rfl) Ii) ?_
 cases b<;>rfl
theorem QtP(a:Int)(n:Nat):jT a (n+1)=.int a::jT (a+4) n:=by
 unfold jT;rw[List.range_succ_eq_map,zd,List.map_map];congr 1
 ·simp
 ·congr 1
  funext i
  simp only[Function.comp];congr 1
  push_cast
  omega
theorem LC  (h:Nms N)(b:Bool){ns:List Int}{d1:D}(O:az):∀(m a:Nat) (R:List (List Nat)) (o6 o7 o8 c:Option D),(∀j,j<m->a+4 * j<ns.length)->R.length+m<=12->(∀r∈R,Gd 60 r) ->
  ∃(f:List (List Nat)) (p6 p7 p8 p9:Option D),f.length=R.length+m/\(∀r∈f,Gd 60 r)/\aO (mgN 6) bB (jT (a:Int) m) (eL ns d1 N b (R.map D.str) [o6,o7,o8,c,none,none,none,none]) O=.nx [some (.lst (ns.map D.int)),some d1,some (dN N),some (.bl b),some (.int (wd N:Int)),some (.lst (f.map D.str)),p6,p7,p8,p9,none,none,none,none] O
 | 0,a,R,o6,o7,o8,c,_,_,hR=>⟨R,o6,o7,o8,c,rfl,hR,rfl⟩
 |m+1,a,R,o6,o7,o8,c,ha,hl,hR=>by
  obtain⟨r,p7,p8,p9,gr,e⟩:=Qr3 h b (d1:=d1) (ns:=ns) (at':=a) (by have:=ha 0 (by omega);omega) (R:=R) (by omega) o7 o8 c O
  obtain⟨f,q,l,i,g,h1,h2,t⟩:=LC h b (ns:=ns) (d1:=d1) O m (a+4) (R++[r]) (some (.int (a:Int))) p7 p8 p9 (λj u=>by have:=ha (j+1) (by omega);omega) (by rw[zf,zB];omega) (λx d=>by
   rcases zv.mp d with d | d
   ·exact hR x d
   ·rw[zg.mp d];exact gr)
  refine⟨f,q,l,i,g,by rw[h1,zf,zB];omega,h2,?_⟩;rw[QtP,iK (ρ1:=(eL ns d1 N b (R.map D.str) [some (.int (a:Int)),o7,o8,c,none,none,none,none])) rfl e,show(a:Int)+4=((a+4:Nat):Int) by omega];exact t
abbrev eS(d0:Option D)(c:Int)(N:List (List Nat))(d3 d4:Option D)(R:List (List Nat))(r:aV):aV:=d0::some (.int c)::some (dN N)::d3::d4::some (.lst (R.map D.str))::r
theorem Qxp  (h:Gd 60 r):fJ (.str r):=jz (h.rw (by decide))
theorem BK     (h:t ρ O=.ok false O'):aK t a b ρ O=b ρ O':=by
 rw[uD,h];rfl
theorem sqE     (h:A ρ O=.nx ρ1 O1)(k:∃O',B ρ1 O1=.rt d O'):∃O',au A B ρ O=.rt d O':=by
 rw[aN h];exact k
theorem BL  (h:Nms N)(b:Bool)(L:List D)(d:∀x∈L,fZ x)(a:L.length<=20)    (c:ma ρ O=.ok [dN N,.lst L,.bl b] O)(hb:∀O,mb ρ O=.ok [dN N,.lst L,.bl b] O):∃O',aA (gG true 6 (aG gK ma) (aG gJ mb)) ρ O=.ok false O':=by
 obtain⟨O',e⟩:=Lg h b L d a c hb true;exact⟨O',by rw[oR,e];rfl⟩
theorem sqC  (h:Nms N)(b:Bool)(L:List D)(g:∀x∈L,fZ x)(c:L.length<=20)      (f:ma ρ O=.ok [dN N,.lst L,.bl b] O)(hb:∀O,mb ρ O=.ok [dN N,.lst L,.bl b] O)(k:∀O',∃a,B ρ O'=.rt d a):∃a,au (aK (aA (gG true 6 (aG gK ma) (aG gJ mb))) A aD) B ρ O=.rt d a:=by
 obtain⟨O',e⟩:=BL h b L g c f hb;exact sqE (BK e) (k O')
theorem fl3  (h:Nms N)(b:Bool)     :∀(a:List (List D)) (o:Option D) (O:az),(∀A∈a,(∀x∈A,fZ x)/\A.length<=20)->∃O' q,aO (mgN 10) (aK (aA (gG true 6 (aG gK (aj (aa 2) (aj (aM gZ (aj (aa 10) aq)) (aj (aa 3) aq)))) (aG gJ (aj (aa 2) (aj (aa 10) (aj (aa 3) aq)))))) X aD) (a.map D.lst) (eL ns (.int c) N b L [p6,p7,p8,p9,o,none,none,none]) O=.nx (eL ns (.int c) N b L [p6,p7,p8,p9,q,none,none,none]) O'
 | [],o,O,_=>⟨O,o,rfl⟩
 |A::a,o,O,hA=>by
  obtain⟨g,e⟩:=BL h b A (hA A zj).1 (hA A zj).2 (ma:=aj (aa 2) (aj (aM gZ (aj (aa 10) aq)) (aj (aa 3) aq))) (mb:=aj (aa 2) (aj (aa 10) (aj (aa 3) aq))) (ρ:=eL ns (.int c) N b L [p6,p7,p8,p9,some (.lst A),none,none,none]) (O:=O) rfl λ_=>rfl
  obtain⟨O',q,f⟩:=fl3 h b a (some (.lst A)) g λB d=>hA B (zp _ d)
  exact⟨O',q,(iK rfl (BK e)).trans f⟩
theorem QAj     {a:Nat}(c:m ρ O=.ok (.lst l) O)(b:q ρ O=.ok (.int (a:Int)) O):mSl m (moS q) moN ρ O=.ok (.lst (l.drop a)) O:=by
 rw[rn,c,aQ,ir b,aQ,xX,aQ,jV,xY,rZ];rfl
theorem Qz3     {a:Nat}(c:m ρ O=.ok (.lst l) O)(b:q ρ O=.ok (.int (a:Int)) O):mSl m moN (moS q) ρ O=.ok (.lst (l.take a)) O:=by
 rw[rn,c,aQ,xX,aQ,ir b,aQ,jV,xY,Ba];rfl
theorem Qth     (h:m ρ O=.ok (.lst l) O):bG m ρ O=.ok l O:=by
 rw[rE,h];rfl
theorem QtF      (h:m ρ O=.ok [.int i,.int j,.int 4] O)(c:-1000<=i/\i<=1000)(b:-1000<=j/\j<=1000)(a:((j - i+3) / 4).toNat=q):uq m ρ O=.ok (jT i q) O:=by
 unfold uq;rw[h,aQ];dsimp only;rw[if_pos (by omega),a]
theorem QoC     (G:∀r∈R,Gd 60 r)(u:R≠[])(Q:R.length<=12)  (H:∀x∈B,fJ x)(C:B.length=R.length){k:Nat}(T:k<=2)(o6 g f:Option D)(O:az):∃(t:List D) (p6:Option D),(∀x∈t,fJ x)/\t.length=R.length /\
  (au (aF 6 (ak aZ (aG b8 (aj (aa 1) (aj (ak aC (mC (.int 1)) (aa 12)) aq))) (aM aU (aj (aa 5) aq))))
  (iy 11 (aa 6) (aG rT (aj (ak gIx (aa 5) (aa 6)) (aj (aa 1) (aj (ak aC (mC (.int 3)) (ak cV (mC (.int 3)) (aa 12))) aq)))))) (eS d0 c N d3 d4 R [o6,d7,d8,g,f,some (.lst B),some (.int (k:Int)),none]) O=.nx (eS d0 c N d3 d4 R [p6,d7,d8,g,f,some (.lst t),some (.int (k:Int)),none]) O:=by
 have P:=List.length_pos_iff.mpr u;obtain⟨a,F,h⟩:∃a:Nat,mix c (1+(k:Int)) % (R.length:Int)=(a:Int)/\a<R.length:=⟨(mix c (1+(k:Int)) % (R.length:Int)).toNat,by have:=ja (mix c (1+(k:Int))) (b:=(R.length:Int)) (by omega);omega,by have:=ja (mix c (1+(k:Int))) (b:=(R.length:Int)) (by omega);have:=je (mix c (1+(k:Int))) (b:=(R.length:Int)) (by omega);omega⟩
 have L:aF 6 (ak aZ (aG b8 (aj (aa 1) (aj (ak aC (mC (.int 1)) (aa 12)) aq))) (aM aU (aj (aa 5) aq))) (eS d0 c N d3 d4 R [o6,d7,d8,g,f,some (.lst B),some (.int (k:Int)),none]) O=.nx (eS d0 c N d3 d4 R [some (.int (a:Int)),d7,d8,g,f,some (.lst B),some (.int (k:Int)),none]) O:=by
  rw[<-F];refine cg (dO ((dM (ds:=[.int c,.int (1+(k:Int))]) rfl).trans (Bb c (1+(k:Int)) (by omega) (by omega) O)) ?_ (by omega));rw[sr (m:=aa 5) (l:=R.map D.str) rfl,zx]
 have E:=zM h;obtain⟨d,hd,I⟩:=Qq8 ((G R[a] (List.getElem_mem h)).mono (by decide:60<=100)) c (k:=3+3 * k) (by omega) O
 have J:aj (ak gIx (aa 5) (aa 6)) (aj (aa 1) (aj (ak aC (mC (.int 3)) (ak cV (mC (.int 3)) (aa 12))) aq)) (eS d0 c N d3 d4 R [some (.int (a:Int)),d7,d8,g,f,some (.lst B),some (.int (k:Int)),none]) O=.ok [.str R[a],.int c,.int ((3+3 * k:Nat):Int)] O:=by
  refine maS (bx (x:=.lst (R.map D.str)) (y:=.int (a:Int)) rfl rfl ?_) (maS rfl (ma1 ?_))
  ·show gIx (.lst (R.map D.str)) (.int (a:Int))=_;rw[oY,lB,zP,E];rfl
  ·have z:=bx (a:=mC (.int 3)) (b:=aa 12) (ρ:=(eS d0 c N d3 d4 R [some (.int (a:Int)),d7,d8,g,f,some (.lst B),some (.int (k:Int)),none])) (O:=O) (x:=.int 3) (y:=.int (k:Int)) rfl rfl (show cV (.int 3) (.int (k:Int))=_ from uE (.inl ⟨by decide,by decide⟩));rw[lE (a:=mC (.int 3)) (i:=3) rfl z]
   push_cast
   rfl
 refine⟨B.set a d,some (.int (a:Int)),λx q=>?_,by rw[zR];exact C,?_⟩
 ·rcases List.mem_or_eq_of_mem_set q with q | rfl
  ·exact H x q
  ·exact hd
 ·rw[aN L,Qrw (j:=a) ((dM J).trans I) rfl rfl (by omega)];rfl
noncomputable def bS:MS:=(au (aF 6 (ak aZ (aG b8 (aj (aa 1) (aj (ak aC (mC (.int 1)) (aa 12)) aq))) (aM aU (aj (aa 5) aq))))
  (iy 11 (aa 6) (aG rT (aj (ak gIx (aa 5) (aa 6)) (aj (aa 1) (aj (ak aC (mC (.int 3)) (ak cV (mC (.int 3)) (aa 12))) aq))))))
theorem LK  {d0 d3 d4 d7 d8:Option D}{c:Int}{R:List (List Nat)}(q:∀r∈R,Gd 60 r)(l:R.length<=12)(f a:Option D)(O:az):∀(m k:Nat) (B:List D) (o6 d:Option D),(m=0\/R≠[])->k+m<=3->(∀x∈B,fJ x)->B.length=R.length ->
  ∃(g:List D) (p6 j:Option D),(∀x∈g,fJ x)/\g.length=R.length/\aO (mgN 12) bS (dJ (k:Int) m) (eS d0 c N d3 d4 R [o6,d7,d8,f,a,some (.lst B),d,none]) O=.nx (eS d0 c N d3 d4 R [p6,d7,d8,f,a,some (.lst g),j,none]) O
 | 0,k,B,o6,d,_,_,hB,hBl=>⟨B,o6,d,hB,hBl,rfl⟩
 |m+1,k,B,o6,d,h0,hk,hB,hBl=>by
  have h:R≠[]:=h0.resolve_left (by omega);obtain⟨E,p6,h1,h2,e⟩:=QoC (N:=N) (d0:=d0) (d3:=d3) (d4:=d4) (d7:=d7) (d8:=d8) (c:=c) q h l hB hBl (k:=k) (by omega) o6 f a O;obtain⟨g,t,i,y,u,C⟩:=LK (N:=N) (d0:=d0) (d3:=d3) (d4:=d4) (d7:=d7) (d8:=d8) (c:=c) q l f a O m (k+1) E p6 (some (.int (k:Int))) (.inr h) (by omega) h1 h2;refine⟨g,t,i,y,u,?_⟩;rw[K7,iK (b:=bS) (ρ1:=(eS d0 c N d3 d4 R [o6,d7,d8,f,a,some (.lst B),some (.int (k:Int)),none])) rfl e,show(k:Int)+1=((k+1:Nat):Int) by omega];exact C
theorem ok2  (h:∀x∈B,fJ x):okE (.lst B)=true:=Ip (n:=5) (by decide) λd hd=>(h d hd).2
theorem LQ     (h:m ρ O=.ok (.lst l) O):aM gZ (aj m aq) ρ O=.ok (.lst l) O:=j5 (xs:=[.lst l]) (ma1 h) rfl
theorem QrT(ns:List Int)(hn:ns.length<=63):∃O',JV [.lst (ns.map D.int)] []=.ok (.bl true) O':=by
 have W:=QwZ ns 0 []
 generalize hc:ns.getD 0 0=c at W
 obtain⟨m,hm,m4⟩:=qb (mix c 33) (n:=4) (by omega);obtain⟨N,C,eN⟩:=QuV c (m:=1+m) (by omega) (by omega) []
 generalize hb:decide (mix c 35 % 2=0)=b
 obtain⟨q,hq,I⟩:∃q:Nat,(((if(49:Int)<((ns.map D.int).length:Int) then 49 else((ns.map D.int).length:Int)) - ((1:Nat):Int)+3) / 4).toNat=q/\(∀j,j<q->1+4 * j<ns.length)/\q<=12:=⟨_,rfl,by rw[zx];split<;>constructor<;>intros<;>omega⟩;obtain⟨R,p6,p7,p8,p9,J,T,eR⟩:=LC C b (ns:=ns) (d1:=.int c) [] q 1 [] none none none none I.1 (by rw[zJ];omega) (λr F=>by cases F);rw[zJ,jd] at J
 have P:R.length<=12:=by omega
 have g:∀x∈R.map D.str,fJ x:=λx t=>by
  obtain⟨r,F,rfl⟩:=zQ.mp t;exact Qxp (T r F)
 have f:∀x∈R.map D.str,fZ x:=λx t=>(g x t).1
 have RL:(R.map D.str).length=R.length:=zx ..
 generalize hL:R.map D.str=L at *
 suffices h:∃O',vf [some (.lst (ns.map D.int)),none,none,none,none,none,none,none,none,none,none,none,none,none] []=.rt (.bl true) O' by
  obtain⟨O',h⟩:=h;exact⟨O',congrArg bh h⟩
 unfold vf;refine sqE (cg ((dM (ds:=[.lst (ns.map D.int),.int 0]) rfl).trans W)) ?_;refine sqE (cg ((dM (maS rfl (ma1 (add_n (a:=1) rfl ((dO (dY rfl rfl (by decide) (by decide)) rfl (by decide)).trans (congrArg (λx=>Res.ok (D.int x) []) hm)))))).trans eN)) ?_;refine sqE (cg (bx (dO (dY rfl rfl (by decide) (by decide)) rfl (by decide)) (y:=.int 0) rfl (show gEq (.int (mix c 35 % 2)) (.int 0)=some (.bl b) from congrArg (λx=>some (D.bl x)) hb))) ?_;refine sqE (cg (Bq C (i:=2) rfl)) ?_;refine sqE (cg (d:=.lst []) rfl) ?_;refine sqE ((jt (QtF (i:=((1:Nat):Int)) (maS rfl (maS (j5 (maS (sr (l:=ns.map D.int) rfl) (ma1 rfl)) Ys) (ma1 rfl))) (by omega) (by rw[zx];split<;>omega) hq)).trans eR) ?_
 refine sqC C b L f (by omega) rfl (λ_=>rfl) λO1=>?_
 obtain⟨Z,u,eF⟩:=fl3 C b (ns:=ns) (c:=c) (L:=L) (p6:=p6) (p7:=p7) (p8:=p8) (p9:=p9) (X:=aB (mC (.bl false))) [L.drop 1,L++L.take 1,L.reverse] none O1 (λA U=>by
  simp only[zh,List.not_mem_nil,or_false] at U
  rcases U with rfl | rfl | rfl
  ·exact⟨λx t=>f x (jb t),by rw[List.length_drop];omega⟩
  ·exact⟨λx t=>f x ((zv.mp t).elim id λz=>List.mem_of_mem_take z),by rw[zf,List.length_take];omega⟩
  ·exact⟨λx t=>f x (List.mem_reverse.mp t),by rw[List.length_reverse];omega⟩)
 refine sqE ((jt (Qth (vz (maS (QAj (a:=1) rfl rfl) (maS (bx (x:=.lst L) rfl (Qz3 (a:=1) rfl rfl) (show aC (.lst L) (.lst (L.take 1))=some (.lst (L++L.take 1)) from if_pos (by rw[List.length_take];omega))) (ma1 (x:=.lst L.reverse) rfl))) (show(3:Nat)<=1000000 by decide)))).trans eF) ?_;refine sqE (cg (LQ rfl)) ?_
 obtain⟨k,hk,hk2,eK⟩:∃k:Nat,(k=0\/R≠[])/\k<=2/\cV (.int (if(!eQ (.lst L) (.lst []))=true then 1 else 0)) (.int (1+mix c 0 % 2))=some (.int (k:Int)):=by
  rw[uE (.inl (by split<;>decide))]
  cases hLs:L with
  |nil=>exact⟨0,.inl rfl,by omega,by show some (D.int (0 * _))=_;rw[Int.zero_mul];rfl⟩
  |cons y ys =>
   refine⟨(1+mix c 0 % 2).toNat,.inr λz=>?_,by omega,?_⟩
   ·rw[z,hLs] at hL;cases hL
   ·show some (D.int (1 * _))=_;rw[Int.one_mul,show((1+mix c 0 % 2).toNat:Int)=1+mix c 0 % 2 by omega]
 obtain⟨B,Q,E,G,hBl,H⟩:=LK (N:=N) (d0:=some (.lst (ns.map D.int))) (d3:=some (.bl b)) (d4:=some (.int (wd N:Int))) (d7:=p7) (d8:=p8) (c:=c) T P p9 u Z k 0 L p6 none hk (by omega) g RL;unfold eS at H;rw[hL] at H
 refine sqE ((jt (vA (bx (j5 (xs:=[.bl (!eQ (.lst L) (.lst []))]) (ma1 (bx (x:=.lst L) (y:=.lst []) rfl rfl (by
  rw[jV,jV,Ih,ok2 g,show okE (.lst [])=true from rfl]
  rfl))) Ii) (lE rfl (dO (dY rfl rfl (by decide) (by decide)) rfl (by decide))) eK) (by omega))).trans H) ?_
 refine sqE (cg (LQ rfl)) ?_
 obtain⟨Y,c2⟩:=BL C b B (λx t=>(G x t).1) (by omega) (ma:=aj (aa 2) (aj (aa 13) (aj (aa 3) aq))) (mb:=aj (aa 2) (aj (aa 11) (aj (aa 3) aq))) (ρ:=eL ns (.int c) N b L [Q,p7,p8,p9,u,some (.lst B),E,some (.lst B)]) (O:=Z) rfl λ_=>rfl
 refine sqE (BK (O':=Y) ?_) ?_
 ·rw[uz]
  exact(congrArg (λx=>Res.bind x _) c2).trans (jx (bx (x:=.lst B) (y:=.lst B) rfl rfl (by
   rw[jV,Ih,ok2 G,yj (ok2 G)]
   rfl)))
 obtain⟨O6,c4⟩:=Lg C (!b) L f (by omega) (ma:=aj (aa 2) (aj (aM gZ (aj (aa 5) aq)) (aj (jF (aa 3)) aq))) (mb:=aj (aa 2) (aj (aa 5) (aj (jF (aa 3)) aq))) (ρ:=eL ns (.int c) N b L [Q,p7,p8,p9,u,some (.lst B),E,some (.lst B)]) (O:=Y) rfl (λ_=>rfl) false;exact⟨O6,congrArg jW c4⟩
theorem all_mk{l:PySem.W.OpenLaw}{w:World}{K:PySem.W.Frag}{h:Heap}{mg:Str->Option Value}{fa:Addr}(X:K.In h)(G:h.Ns mainGlobals mg)(hfa:mg "law" = some (.ref fa))
  {nq:Addr}
  {BP:Addr}{QwD LR:Option Addr}{QwU:Array (Option Value)}{QxO Ma Mf Mg BR Mh:Value}
  {ad_PLAIN:Addr}{Mi:Value}{QqT:Option Addr}{it_PLAIN:Array Value}{nn_PLAIN:Nat}{Qrk:Array (Option Value)}
  {eG:Addr}
  {dB:Addr}
  {Mj:Addr}
  {BV:Addr}
  {BW:Addr}
  {BX:Addr}
  {BZ:Addr}
  {Ca:Addr}
  {Cd:Addr}
  {Ce:Addr}
  {Cg:Addr}
  {QpA:ClassData}
  {QoQ:ClassData}
  {fI_NoSign:Addr}{odI_NoSign anI_NoSign:Option Addr}{slI_NoSign:Array (Option Value)}{ocI_NoSign kVI_NoSign dcI_NoSign pmI_NoSign cdI_NoSign ctI_NoSign:Value}
  {fI_NoRoll:Addr}{odI_NoRoll anI_NoRoll:Option Addr}{slI_NoRoll:Array (Option Value)}{ocI_NoRoll kVI_NoRoll dcI_NoRoll pmI_NoRoll cdI_NoRoll ctI_NoRoll:Value}
  (Z_Reader:ClsAt K "Reader" nq)
  (QkU:PySem.W.findIn K (.ref nq) "held" = some none)
  (Qj6:PySem.W.findIn K (.ref nq) "place" = some none)
  (D_is_sign:Def K mg "is_sign" yx)
  (D_is_colour:Def K mg "is_colour" yz)
  (D_checked:Def K mg "checked" yC)
  (D_mark_of:Def K mg "mark_of" yD)
  (D_may_become_mark:Def K mg "may_become_mark" yE)
  (D_own_item:Def K mg "own_item" yF)
  (D_own_items:Def K mg "own_items" uI)
  (M_Reader___init__:MethAt K nq "__init__" "Reader.__init__" yG)
  (M_Reader_take:MethAt K nq "take" "Reader.take" yH)
  (M_Reader_feed:MethAt K nq "feed" "Reader.feed" yI)
  (M_Reader_finish:MethAt K nq "finish" "Reader.finish" yJ)
  (D_items_of:Def K mg "items_of" yK)
  (D_pair_behind:Def K mg "pair_behind" yL)
  (D_shown_ink:Def K mg "shown_ink" yM)
  (D_unshaded:Def K mg "unshaded" yN)
  (D_number_ahead:Def K mg "number_ahead" yO)
  (D_head_of:Def K mg "head_of" uJ)
  (D_heads_of:Def K mg "heads_of" yP)
  (D_look_or_none:Def K mg "look_or_none" yQ)
  (D_read_row:Def K mg "read_row" yR)
  (D_unroll:uy K mg "unroll" yS #[(.bool false)])
  (D_law_cell:Def K mg "_law_cell" yU)
  (D_law_mix:Def K mg "_law_mix" yV)
  (D_law_signs:Def K mg "_law_signs" yW)
  (D_law_token:Def K mg "_law_token" yX)
  (D_law_item:Def K mg "_law_item" yZ)
  (D_law_items:Def K mg "_law_items" z7)
  (D_law_names:Def K mg "_law_names" pC)
  (D_law_shown:Def K mg "_law_shown" z8)
  (D_law_body:Def K mg "_law_body" uK)
  (D_law_spoilt:Def K mg "_law_spoilt" z9)
  (D_law_read:Def K mg "_law_read" uL)
  (D_law_due:Def K mg "_law_due" uM)
  (D_law_asked:Def K mg "_law_asked" Aa)
  (Ci:PySem.W.nsIn K mainGlobals "law" = some (some (.ref BP))) (Ml:K.lookup BP=some ⟨QxO,QwD,.func (PySem.W.fnOf "law" "law" (dh iH) (bJ iH) (aJ iH) .none Ma Mf Mg LR BR Mh),QwU⟩) (QxM:PySem.W.codeIn K BR "law" = true) (Qyi:PySem.W.keepIn K (.ref BP)=true)
  (B:Blt mg)
  (c_ANEW_SIGN:∃u,mg "ANEW_SIGN" = some u/\RelV (.str (S [9])) u)
  (c_COLOURS:∃u,mg "COLOURS" = some u/\RelV (.str (S [97,98,99,100,101,102,103,104,46])) u)
  (c_FIRST_SIGN:∃u,mg "FIRST_SIGN" = some u/\RelV (.str (S [32])) u)
  (c_LAST_SIGN:∃u,mg "LAST_SIGN" = some u/\RelV (.str (S [125])) u)
  (QpM:PySem.W.nsIn K mainGlobals "PLAIN" = some (some (.ref ad_PLAIN))) (QoS:K.lookup ad_PLAIN=some ⟨Mi,QqT,.seq it_PLAIN nn_PLAIN,Qrk⟩) (t_c_PLAIN:Mi=.type "tuple") (QpN:it_PLAIN.size<=sizeLine) (v_c_PLAIN:aL (List.map (λl=>V.str (S l)) [[46],[46]]) it_PLAIN.toList)
  (c_ROW_END:∃u,mg "ROW_END" = some u/\RelV (.str (S [10])) u)
  (vI:PySem.W.nsIn K mainGlobals "NoSign" = some (some (.ref eG)))
  (nu:PySem.W.nsIn K mainGlobals "NoRoll" = some (some (.ref dB)))
  (Qms:PySem.W.nsIn K mainGlobals "OutError" = some (some (.ref Mj)))
  (QoZ:PySem.W.nsIn K mainGlobals "Closed" = some (some (.ref BV)))
  (Qqc:PySem.W.nsIn K mainGlobals "NoCell" = some (some (.ref BW)))
  (QpW:PySem.W.nsIn K mainGlobals "NoHand" = some (some (.ref BX)))
  (QpF:PySem.W.nsIn K mainGlobals "NoName" = some (some (.ref BZ)))
  (Qqd:PySem.W.nsIn K mainGlobals "NoRoom" = some (some (.ref Ca)))
  (Qrv:PySem.W.nsIn K mainGlobals "NoRow" = some (some (.ref Cd)))
  (QpB:PySem.W.nsIn K mainGlobals "NoSize" = some (some (.ref Ce)))
  (Qri:PySem.W.nsIn K mainGlobals "Twice" = some (some (.ref Cg)))
  (xsp:PySem.W.specialIn K (.builtin "object.__class__") "__get__" = some (some (.builtin "getset_descriptor.__get__")))
  (xtk:PySem.W.takesIn K (.builtin "object.__class__")=some true)
  (xga_NoSign:PySem.W.findIn K (.ref eG) "__getattribute__" = some (some (.builtin "BaseException.__getattribute__")))
  (xna_NoSign:PySem.W.findIn K (.ref eG) "__getattr__" = some none)
  (xca_NoSign:PySem.W.findIn K (.ref eG) "__class__" = some (some (.builtin "object.__class__")))
  (xob_NoSign:PySem.W.mroIn K eG (.type "object")=some true)
  (xbe_NoSign:PySem.W.mroIn K eG (.type "BaseException")=some true)
  (xcl_NoSign:PySem.W.clsIn K eG=some QpA)
  (xga_NoRoll:PySem.W.findIn K (.ref dB) "__getattribute__" = some (some (.builtin "BaseException.__getattribute__")))
  (xna_NoRoll:PySem.W.findIn K (.ref dB) "__getattr__" = some none)
  (xca_NoRoll:PySem.W.findIn K (.ref dB) "__class__" = some (some (.builtin "object.__class__")))
  (xob_NoRoll:PySem.W.mroIn K dB (.type "object")=some true)
  (xbe_NoRoll:PySem.W.mroIn K dB (.type "BaseException")=some true)
  (xcl_NoRoll:PySem.W.clsIn K dB=some QoQ)
  (xif_NoSign:PySem.W.findIn K (.ref eG) "__init__" = some (some (.ref fI_NoSign)))
  (xii_NoSign:PySem.W.isFn K (.ref fI_NoSign)=true)
  (xil_NoSign:K.lookup fI_NoSign=some ⟨ocI_NoSign,odI_NoSign,.func (PySem.W.fnOf "__init__" "NoSign.__init__" (dh pA) (bJ pA) (aJ pA) .none kVI_NoSign dcI_NoSign pmI_NoSign anI_NoSign cdI_NoSign ctI_NoSign),slI_NoSign⟩)
  (xic_NoSign:PySem.W.codeIn K cdI_NoSign "NoSign.__init__" = true)
  (xik_NoSign:PySem.W.keepIn K (.ref fI_NoSign)=true)
  (xis_NoSign:PySem.W.findIn K (.ref eG) "__setattr__" = some (some (.builtin "object.__setattr__")))
  (xin_NoSign:PySem.W.findIn K (.ref eG) "at" = some none)
  (xio_NoSign:PySem.W.mroIn K eG (.type "object")=some true)
  (xix_NoSign:qP K eG bmV "ValueError.__new__" fI_NoSign=true)
  (xif_NoRoll:PySem.W.findIn K (.ref dB) "__init__" = some (some (.ref fI_NoRoll)))
  (xii_NoRoll:PySem.W.isFn K (.ref fI_NoRoll)=true)
  (xil_NoRoll:K.lookup fI_NoRoll=some ⟨ocI_NoRoll,odI_NoRoll,.func (PySem.W.fnOf "__init__" "NoRoll.__init__" (dh pB) (bJ pB) (aJ pB) .none kVI_NoRoll dcI_NoRoll pmI_NoRoll anI_NoRoll cdI_NoRoll ctI_NoRoll),slI_NoRoll⟩)
  (xic_NoRoll:PySem.W.codeIn K cdI_NoRoll "NoRoll.__init__" = true)
  (xik_NoRoll:PySem.W.keepIn K (.ref fI_NoRoll)=true)
  (xis_NoRoll:PySem.W.findIn K (.ref dB) "__setattr__" = some (some (.builtin "object.__setattr__")))
  (xin_NoRoll:PySem.W.findIn K (.ref dB) "at" = some none)
  (xio_NoRoll:PySem.W.mroIn K dB (.type "object")=some true)
  (xix_NoRoll:qP K dB bmV "ValueError.__new__" fI_NoRoll=true)
  (fEX_NoSign_NoSign:PySem.W.exmOne K (.ref eG) (.ref eG)=some true)
  (fEX_OutError_NoRoll:PySem.W.exmOne K (.ref dB) (.ref Mj)=some true)
  (fIT_ClosedNoCellNoHandNoNameNoRoomNoRowNoSignNoSizeTwice_NoRoll:PySem.W.kitAny K (.ref dB) [.ref BV,.ref BW,.ref BX,.ref BZ,.ref Ca,.ref Cd,.ref eG,.ref Ce,.ref Cg]=some false)
  (fXA_at_NoRoll:PySem.W.findIn K (.ref dB) "at" = some none) (hXA_at_NoRoll:PySem.W.hasDictIn K dB=true)
  (fIS_NoRoll_NoRoll:PySem.W.kitOne K (.ref dB) (.ref dB)=some true)
  (xve:PySem.W.nsIn K mainGlobals "ValueError" = some none)
  (fIV_NoRoll:PySem.W.kitOne K (.ref dB) (.type "ValueError")=some true):
  ∃fd:FuncData,(∀(s:Shared) (v:Value),BindsTo s fd ⟨[v],[]⟩ [("_law_script",v)])/\∀base:Heap,K.In base->base.Ns mainGlobals mg->cH l.prog w K mg base CX0 11 fa fd ["_law_script"] (sp_law K):=by
 have e:=hfa.symm.trans (PySem.W.mg_of X G Ci);cases e;have K_Reader_held:=Z_Reader.kf X G QkU;have K_Reader_place:=Z_Reader.kf X G Qj6;have D_Reader___init__:=Z_Reader.dc X G M_Reader___init__;have D_Reader_take:=Z_Reader.dm X G M_Reader_take;have D_Reader_feed:=Z_Reader.dm X G M_Reader_feed;have D_Reader_finish:=Z_Reader.dm X G M_Reader_finish;have D_law:Def K mg "law" iH:=⟨_,_,PySem.W.mg_of X G Ci,qw (st:=iH) Ml QxM Qyi⟩;have c_PLAIN:ud K mg "PLAIN" [[46],[46]]:=⟨ad_PLAIN,_,it_PLAIN,nn_PLAIN,PySem.W.mg_of X G QpM,QoS,t_c_PLAIN,rfl,QpN,v_c_PLAIN⟩;have XF_NoSign:gq K eG:=⟨xga_NoSign,xna_NoSign,xca_NoSign,xsp,xtk,xob_NoSign,xbe_NoSign,by rw[xcl_NoSign];rfl⟩
 have XF_NoRoll:gq K dB:=⟨xga_NoRoll,xna_NoRoll,xca_NoRoll,xsp,xtk,xob_NoRoll,xbe_NoRoll,by rw[xcl_NoRoll];rfl⟩;have DI_NoSign:oM K mg "NoSign" "at" "NoSign.__init__" pA:=⟨_,_,_,PySem.W.mg_of X G vI,⟨xix_NoSign,xis_NoSign,xin_NoSign,xio_NoSign⟩,xii_NoSign,qw (st:=pA) xil_NoSign xic_NoSign xik_NoSign⟩;have DI_NoRoll:oM K mg "NoRoll" "at" "NoRoll.__init__" pB:=⟨_,_,_,PySem.W.mg_of X G nu,⟨xix_NoRoll,xis_NoRoll,xin_NoRoll,xio_NoRoll⟩,xii_NoRoll,qw (st:=pB) xil_NoRoll xic_NoRoll xik_NoRoll⟩;have EX_NoSign_NoSign:EXM K mg "NoSign" "NoSign" true:=⟨_,_,PySem.W.mg_of X G vI,PySem.W.mg_of X G vI,fEX_NoSign_NoSign⟩
 have EX_OutError_NoRoll:EXM K mg "OutError" "NoRoll" true:=⟨_,_,PySem.W.mg_of X G nu,PySem.W.mg_of X G Qms,fEX_OutError_NoRoll⟩;have IT_ClosedNoCellNoHandNoNameNoRoomNoRowNoSignNoSizeTwice_NoRoll:qT K mg ["Closed","NoCell","NoHand","NoName","NoRoom","NoRow","NoSign","NoSize","Twice"] "NoRoll" false:=⟨dB,[BV,BW,BX,BZ,Ca,Cd,eG,Ce,Cg],PySem.W.mg_of X G nu,XF_NoRoll,⟨_,_,rfl,PySem.W.mg_of X G QoZ,⟨_,_,rfl,PySem.W.mg_of X G Qqc,⟨_,_,rfl,PySem.W.mg_of X G QpW,⟨_,_,rfl,PySem.W.mg_of X G QpF,⟨_,_,rfl,PySem.W.mg_of X G Qqd,⟨_,_,rfl,PySem.W.mg_of X G Qrv,⟨_,_,rfl,PySem.W.mg_of X G vI,⟨_,_,rfl,PySem.W.mg_of X G QpB,⟨_,_,rfl,PySem.W.mg_of X G Qri,rfl⟩⟩⟩⟩⟩⟩⟩⟩⟩,fIT_ClosedNoCellNoHandNoNameNoRoomNoRowNoSignNoSizeTwice_NoRoll⟩
 have XA_at_NoRoll:XFC K mg "at" "NoRoll":=⟨_,PySem.W.mg_of X G nu,XF_NoRoll,fXA_at_NoRoll,hXA_at_NoRoll⟩;have IS_NoRoll_NoRoll:ISN K mg "NoRoll" "NoRoll" true:=⟨_,_,PySem.W.mg_of X G nu,XF_NoRoll,PySem.W.mg_of X G nu,fIS_NoRoll_NoRoll⟩;have VN:=PySem.W.mg_none_of X G xve;have IV_NoRoll:ISV K mg "NoRoll":=⟨_,PySem.W.mg_of X G nu,XF_NoRoll,fIV_NoRoll⟩;refine⟨PySem.W.fnOf "law" "law" (dh iH) (bJ iH) (aJ iH) .none Ma Mf Mg LR BR Mh,λs v=>.of_eq rfl,λbase _ _=>?_⟩;have Qyt:=@ZG l.prog w K mg base ⟨D_is_sign,B,c_FIRST_SIGN,c_LAST_SIGN,D_is_colour,c_COLOURS,D_checked,c_ANEW_SIGN,c_ROW_END,D_mark_of,D_may_become_mark,D_own_item,D_own_items,D_Reader___init__,K_Reader_held,K_Reader_place,D_Reader_take,D_Reader_feed,D_Reader_finish,D_items_of,D_pair_behind,c_PLAIN,D_shown_ink,D_unshaded,D_number_ahead,D_head_of,D_heads_of,D_look_or_none,EX_NoSign_NoSign,D_read_row,D_unroll,D_law_cell,D_law_mix,D_law_signs,D_law_token,D_law_item,D_law_items,D_law_names,D_law_shown,D_law_body,D_law_spoilt,D_law_read,D_law_due,D_law_asked,EX_OutError_NoRoll,IT_ClosedNoCellNoHandNoNameNoRoomNoRowNoSignNoSizeTwice_NoRoll,XA_at_NoRoll,IS_NoRoll_NoRoll,VN,IV_NoRoll,D_law,DI_NoSign,DI_NoRoll⟩
 obtain⟨f',fd',hm',hk',hb',F',oc',od',osl',lk'⟩:=Qyt;have e2:=(PySem.W.mg_of X G Ci).symm.trans hm';cases e2;have e3:=Ml.symm.trans lk';cases e3;exact F'.imp (Vh QrT)
theorem walk{l:PySem.W.OpenLaw}      {K:Params->PySem.W.Frag}(hn:l.most=some 63)(hdf:d.params.defaults=[])
  (hY:∀(w:World) (h:Heap),YP w h->(K w.params).In h)
  (F:∀(w:World) (mg:Str->Option Value) (fa:Addr) (h:Heap),(K w.params).In h->h.Ns mainGlobals mg->mg d.name=some (.ref fa) ->
   ∃fd:FuncData,(∀(s:Shared) (u:Value),BindsTo s fd ⟨[u],[]⟩ [("_law_script",u)])/\∀base:Heap,(K w.params).In base->base.Ns mainGlobals mg->cH l.prog w (K w.params) mg base CX0 11 fa fd ["_law_script"] (sp_law (K w.params))):
  PySem.W.WalkO q loose XP YP l.row.toRowW d [] (λf vs=>PySem.call f vs):=
 L2.walk_ofR (n:=63) (k:=11) (x:="_law_script") (CX:=λ_=>CX0) (sp:=λw=>sp_law (K w.params)) hn (by decide) hdf ⟨rfl,by decide,by decide⟩ hY F (λ_ _ a ns hl ho hS=>⟨a,ns,rfl,hS,hl,ho,λ_=>rfl⟩) λ_ _ _ _ _ z=>z
end K55
open PySem PySem.W PyProof.Rows L2
set_option maxRecDepth 100000 in
set_option maxHeartbeats 0 in
theorem PySem.Challenge.cw_outweave_k55_unroll_refuses_holds : PySem.Challenge.rw_outweave_k55_unroll_refuses.Holds := by
 w_on;o_law;k_head;(case hw=>w_witness2)
 k_fill
 refine K55.walk (l:=PySem.Challenge.rw_outweave_k55_unroll_refuses) rfl rfl (λw h Y=>PySem.W.kIn_of Y) ?F
 case F =>
  intro w mg fa h KX G hmg
  refine' K55.all_mk KX G hmg ⟨?x1,?x2,?x3,?x4,?x5,?x6,?x7⟩ ?x8 ?x9 (mkD KX G ?x10 ?x11 ?x12 ?x13) (mkD KX G ?x14 ?x15 ?x16 ?x17) (mkD KX G ?x18 ?x19 ?x20 ?x21) (mkD KX G ?x22 ?x23 ?x24 ?x25) (mkD KX G ?x26 ?x27 ?x28 ?x29) (mkD KX G ?x30 ?x31 ?x32 ?x33) (mkD KX G ?x34 ?x35 ?x36 ?x37) (mkM ?x38 ?x39 ?x40 ?x41 ?x42) (mkM ?x43 ?x44 ?x45 ?x46 ?x47) (mkM ?x48 ?x49 ?x50 ?x51 ?x52) (mkM ?x53 ?x54 ?x55 ?x56 ?x57) (mkD KX G ?x58 ?x59 ?x60 ?x61) (mkD KX G ?x62 ?x63 ?x64 ?x65) (mkD KX G ?x66 ?x67 ?x68 ?x69) (mkD KX G ?x70 ?x71 ?x72 ?x73) (mkD KX G ?x74 ?x75 ?x76 ?x77) (mkD KX G ?x78 ?x79 ?x80 ?x81) (mkD KX G ?x82 ?x83 ?x84 ?x85) (mkD KX G ?x86 ?x87 ?x88 ?x89) (mkD KX G ?x90 ?x91 ?x92 ?x93) (X5 KX G ?x94 ?x95 ?x96 ?x97 ?x98) (mkD KX G ?x99 ?x100 ?x101 ?x102) (mkD KX G ?x103 ?x104 ?x105 ?x106) (mkD KX G ?x107 ?x108 ?x109 ?x110) (mkD KX G ?x111 ?x112 ?x113 ?x114) (mkD KX G ?x115 ?x116 ?x117 ?x118) (mkD KX G ?x119 ?x120 ?x121 ?x122) (mkD KX G ?x123 ?x124 ?x125 ?x126) (mkD KX G ?x127 ?x128 ?x129 ?x130) (mkD KX G ?x131 ?x132 ?x133 ?x134) (mkD KX G ?x135 ?x136 ?x137 ?x138) (mkD KX G ?x139 ?x140 ?x141 ?x142) (mkD KX G ?x143 ?x144 ?x145 ?x146) (mkD KX G ?x147 ?x148 ?x149 ?x150) ?x151 ?x152 ?x153 ?x154 ⟨PySem.W.mg_none_of KX G ?x155,PySem.W.mg_none_of KX G ?x156,PySem.W.mg_none_of KX G ?x157,PySem.W.mg_none_of KX G ?x158,PySem.W.mg_none_of KX G ?x159,PySem.W.mg_none_of KX G ?x160,PySem.W.mg_none_of KX G ?x161,PySem.W.mg_none_of KX G ?x162,PySem.W.mg_none_of KX G ?x163,PySem.W.mg_none_of KX G ?x164,PySem.W.mg_none_of KX G ?x165,PySem.W.mg_none_of KX G ?x166,PySem.W.mg_none_of KX G ?x167,PySem.W.mg_none_of KX G ?x168,PySem.W.mg_none_of KX G ?x169⟩ ⟨_,PySem.W.mg_of KX G ?x170,?x171⟩ ⟨_,PySem.W.mg_of KX G ?x172,?x173⟩ ⟨_,PySem.W.mg_of KX G ?x174,?x175⟩ ⟨_,PySem.W.mg_of KX G ?x176,?x177⟩ ?x178 ?x179 ?x180 ?x181 ?x182 ⟨_,PySem.W.mg_of KX G ?x183,?x184⟩ ?x185 ?x186 ?x187 ?x188 ?x189 ?x190 ?x191 ?x192 ?x193 ?x194 ?x195 ?x196 ?x197 ?x198 ?x199 ?x200 ?x201 ?x202 ?x203 ?x204 ?x205 ?x206 ?x207 ?x208 ?x209 ?x210 ?x211 ?x212 ?x213 ?x214 ?x215 ?x216 ?x217 ?x218 ?x219 ?x220 ?x221 ?x222 ?x223 ?x224 ?x225 ?x226 ?x227 ?x228 ?x229 ?x230 ?x231 ?x232 ?x233 ?x234 ?x235
  (case x1 | x2 | x3 | x4 | x5 | x6 | x7 | x8 | x9 | x10 | x11 | x12 | x13 | x14 | x15 | x16 | x17 | x18 | x19 | x20 | x21 | x22 | x23 | x24 | x25 | x26 | x27 | x28 | x29 | x30 | x31 | x32 | x33 | x34 | x35 | x36 | x37 | x38 | x39 | x40 | x41 | x42 | x43 | x44 | x45 | x46 | x47 | x48 | x49 | x50 | x51 | x52 | x53 | x54 | x55 | x56 | x57 | x58 | x59 | x60 | x61 | x62 | x63 | x64 | x65 | x66 | x67 | x68 | x69 | x70 | x71 | x72 | x73 | x74 | x75 | x76 | x77 | x78 | x79 | x80 | x81 | x82 | x83 | x84 | x85 | x86 | x87 | x88 | x89 | x90 | x91 | x92 | x93 | x94 | x95 | x96 | x97 | x98 | x99 | x100 | x101 | x102 | x103 | x104 | x105 | x106 | x107 | x108 | x109 | x110 | x111 | x112 | x113 | x114 | x115 | x116 | x117 | x118 | x119 | x120 | x121 | x122 | x123 | x124 | x125 | x126 | x127 | x128 | x129 | x130 | x131 | x132 | x133 | x134 | x135 | x136 | x137 | x138 | x139 | x140 | x141 | x142 | x143 | x144 | x145 | x146 | x147 | x148 | x149 | x150 | x151 | x152 | x153 | x154 | x155 | x156 | x157 | x158 | x159 | x160 | x161 | x162 | x163 | x164 | x165 | x166 | x167 | x168 | x169 | x170 | x172 | x174 | x176 | x178 | x179 | x183 | x185 | x186 | x187 | x188 | x189 | x190 | x191 | x192 | x193 | x194 | x195 | x196 | x197 | x198 | x199 | x200 | x201 | x202 | x203 | x204 | x205 | x206 | x207 | x208 | x209 | x210 | x211 | x212 | x213 | x214 | x215 | x216 | x217 | x219 | x220 | x221 | x222 | x223 | x224 | x225 | x226 | x231 | x232 | x234=>k_is)
  (case x171 | x173 | x175 | x177 | x184=>exact⟨_,rfl⟩)
  (case x180=>rfl)
  (case x181=>decide +kernel)
  (case x182=>repeat (first | exact .nil | refine .cons ⟨_,rfl⟩ ?_))
  (case x218 | x227=>first | kernel_rfl | decide +kernel)
  (case x228 | x229=>kts_exm)
  (case x230 | x233 | x235=>kit_is)
